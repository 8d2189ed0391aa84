/-
 Contracts of package table and of the reference package of layer 9, by walks through their texts, one after the other; what was there stays as it was.
-/
import Derived.Test.YtiacbphnclgikaaGreatDoorSqz
import Derived.Test.YtiacbphnclgikaaGreatDoorGfa
import Derived.Test.YtiacbphnclgikaaGreatDoorGbk
import Derived.Deep.RegionHeld3
import Derived.Test.YtiacbphnclgikaaGreatDoorGbt
import Derived.Test.YtiacbphnclgikaaGreatDoorEqs
import Derived.Test.YtiacbphnclgikaaGreatDoorGcr
import Derived.Test.YtiacbphnclgikaaGreatDoorArg
import Derived.Test.YtiacbphnclgikaaGreatDoorFre
namespace Go.Proofs.YtiacbphnclgikaaGreatDoor
section
open Go.RowKit
set_option linter.unusedVariables false
set_option maxRecDepth 100000
theorem zerF_spec (x:Nat): ∀f i,(i≤zerF x f i∧zerF x f i≤i+f)∧(∀j,i≤j→j<zerF x f i→x/2^j%2=0)∧(zerF x f i<i+f→x/2^zerF x f i%2=1)
 |0,i=>by unfold zerF;exact⟨⟨Nat.le_refl _,Nat.le_refl _⟩,fun j a b=>absurd b (by omega),fun h=>absurd h (by omega)⟩
 |f+1,i=>by
  unfold zerF
  by_cases h:x/2^i%2=1
  ·rw [if_pos h]
   exact⟨⟨Nat.le_refl _,by omega⟩,fun j a b=>absurd b (by omega),fun _=>h⟩
  ·rw [if_neg h]
   obtain⟨⟨a,b⟩,c,d⟩:=zerF_spec x f (i+1)
   refine⟨⟨by omega,by omega⟩,fun j h1 h2=> ?_,fun h1=>d (by omega)⟩
   by_cases e:j=i
   ·subst e;omega
   ·exact c j (by omega) h2
theorem zer_le (x:Nat):zer x≤64:=by have:=(zerF_spec x 64 0).1.2;unfold zer;omega
theorem zer_low (x j:Nat) (h:j<zer x):x/2^j%2=0:=(zerF_spec x 64 0).2.1 j (Nat.zero_le _) h
theorem zer_bit (x:Nat) (h:zer x<64):x/2^zer x%2=1:=(zerF_spec x 64 0).2.2 (by unfold zer at h;omega)
theorem low_zero (x:Nat): ∀k,(∀j,j<k→x/2^j%2=0)→x%2^k=0
 |0,_=>by rw [Nat.pow_zero,Nat.mod_one]
 |k+1,h=>by rw [Nat.mod_pow_succ,low_zero x k (fun j hj=>h j (by omega)),h k (by omega)];simp
theorem zer_lt (x:Nat) (h0:x≠0) (h:x<18446744073709551616):zer x<64:=by
 rcases Nat.lt_or_ge (zer x) 64 with h1|h1
 ·exact h1
 ·have:=low_zero x 64 (fun j hj=>zer_low x j (by omega))
  rw [Nat.mod_eq_of_lt (by simpa using h)]at this
  exact absurd this h0
theorem zer_two (x:Nat) (h0:x≠0) (h:x<18446744073709551616):zer (2*x)=zer x+1:=by
 have hl:=zer_lt x h0 h
 have e: ∀j,2*x/2^(j+1)=x/2^j:=fun j=>by rw [Nat.pow_succ,Nat.mul_comm (2^j) 2,Nat.mul_div_mul_left _ _ (by decide)]
 refine zer_eq _ _ (by omega) (fun j hj=> ?_) (fun h1=> ?_)
 ·rcases j with _|j
  ·rw [Nat.pow_zero,Nat.div_one];omega
  ·rw [e];exact zer_low x j (by omega)
 ·rw [e];exact zer_bit x hl
theorem zer_odd (x:Nat) (h:x%2=1):zer x=0:=zer_eq _ _ (by omega) (fun j hj=>absurd hj (by omega)) (fun _=>by rw [Nat.pow_zero,Nat.div_one];exact h)
theorem zer_zero:zer 0=64:=zer_eq _ _ (by omega) (fun j _=>by rw [Nat.zero_div]) (fun h=>absurd h (by omega))
def dk (s:Nat→Nat):Nat→Nat→Nat
 |0=>s
 |k+1=>dbF (dk s k)
theorem dk_lt {s:Nat→Nat} (h:B16 s): ∀k,B16 (dk s k)
 |0=>h
 |k+1=>dbF_lt (dk_lt h k)
def tbF (c:Value) (s d T:Nat→Nat) (j:Nat):Value:=if j<1 then c else if j<17 then n8 (s (j-1))else if j<33 then n8 (d (j-17))else n8 (T (j-33))
theorem built_tab (p:Option Addr) (s:Nat→Nat):Tryz.prog.built 61 [(0,.pointer p),(1,.agg (arL 16 s).toArray)]=some (cxL 1057 (tbF (.pointer p) s (fun _=>0) (fun _=>0))).toArray:=by kernel_rfl
theorem run_tab (p:Option Addr) (s:Nat→Nat) (w:World):(Instr.build 61 #[(0,.pointer p),(1,.agg (arL 16 s).toArray)]).run Tryz.prog w= .ok (.agg (cxL 1057 (tbF (.pointer p) s (fun _=>0) (fun _=>0))).toArray) w:=
 run_build w _ _ _ (built_tab p s)
def tbT (s:Nat→Nat) (n m:Nat):Nat:=if m/16<n then dk s (m/16+2) (m%16)else 0
theorem tbT_zero (s:Nat→Nat) (m:Nat):tbT s 0 m=0:=by simp [tbT]
theorem tbT_step (s:Nat→Nat) (n m:Nat):(if m/16=n then dk s (n+2) (m%16)else tbT s n m)=tbT s (n+1) m:=by
 unfold tbT
 by_cases h:m/16=n
 ·rw [if_pos h,if_pos (by omega),h]
 ·rw [if_neg h]
  by_cases h2:m/16<n
  ·rw [if_pos h2,if_pos (by omega)]
  ·rw [if_neg h2,if_neg (by omega)]
def Ti (w:World) (g:Nat) (p:Option Addr) (s:Nat→Nat):Prop:=Cx w g 1057 (tbF (.pointer p) s (dk s 1) (tbT s 64))
theorem tbF_star (c:Value) (s d T:Nat→Nat) (j:Nat) (v:Value) (h:(arL 16 s)[j]?=some v):tbF c s d T (1+j)=v:=by
 obtain⟨h1,rfl⟩:=arL_get_some h
 unfold tbF;rw [if_neg (by omega),if_pos (by omega),Nat.add_sub_cancel_left]
theorem tbF_dollar (c:Value) (s d T:Nat→Nat) (j:Nat) (v:Value) (h:(arL 16 d)[j]?=some v):tbF c s d T (17+j)=v:=by
 obtain⟨h1,rfl⟩:=arL_get_some h
 unfold tbF;rw [if_neg (by omega),if_neg (by omega),if_pos (by omega),Nat.add_sub_cancel_left]
theorem tbF_block (c:Value) (s d T:Nat→Nat) (r:Nat) (W:Nat→Nat) (hW: ∀k,k<16→T (r*16+k)=W k) (j:Nat) (v:Value) (h:(arL 16 W)[j]?=some v):tbF c s d T (33+r*16+j)=v:=by
 obtain⟨h1,rfl⟩:=arL_get_some h
 unfold tbF;rw [if_neg (by omega),if_neg (by omega),if_neg (by omega),show 33+r*16+j-33=r*16+j by omega,hW j h1]
theorem tx_star {w:World} {g:Nat} {c:Value} {s d T:Nat→Nat} (h:Cx w g 1057 (tbF c s d T)):w.rangeAt g 1 (arL 16 s):=Cx.range h _ _ (by rw [arL_len];omega) (tbF_star _ _ _ _)
theorem tx_dollar {w:World} {g:Nat} {c:Value} {s d T:Nat→Nat} (h:Cx w g 1057 (tbF c s d T)):w.rangeAt g 17 (arL 16 d):=Cx.range h _ _ (by rw [arL_len];omega) (tbF_dollar _ _ _ _)
theorem tx_cip {w:World} {g:Nat} {c:Value} {s d T:Nat→Nat} (h:Cx w g 1057 (tbF c s d T)):w.cell? ⟨g,0,none⟩=some c:=(h 0 (by decide)).1
theorem Ti.block {w:World} {g:Nat} {p:Option Addr} {s:Nat→Nat} (h:Ti w g p s) (r:Nat) (hr:r<64):w.rangeAt g (33+r*16) (arL 16 (dk s (r+2))):=
 Cx.range h _ _ (by rw [arL_len];omega) (tbF_block _ _ _ _ r _ (fun k hk=>by unfold tbT;rw [show(r*16+k)/16=r by omega,show(r*16+k)%16=k by omega,if_pos hr]))
theorem Ti.to {w w':World} {g:Nat} {p:Option Addr} {s:Nat→Nat} (h:Ti w g p s) (hb:Below w.heap.size w w'):Ti w' g p s:=Cx.to h (by decide) hb
theorem Ti.keep {w w':World} {B g:Nat} {p:Option Addr} {s:Nat→Nat} (h:Ti w g p s) (hg:g<B) (hb:Below B w w'):Ti w' g p s:=Cx.keep h hg hb
theorem Ti.drew {w:World} {g:Nat} {p:Option Addr} {s:Nat→Nat} (h:Ti w g p s):Ti w.drew g p s:=h
theorem Ti.lt {w:World} {g:Nat} {p:Option Addr} {s:Nat→Nat} (h:Ti w g p s):g<w.heap.size:=Cx.lt h (by decide)
theorem tbF_putD (c:Value) (s d d' T:Nat→Nat) (j:Nat) (hj:j<1057):cxP (tbF c s d T) 17 (arL 16 d') j=tbF c s d' T j:=by
 unfold cxP
 rw [arL_len]
 by_cases hc:17≤j∧j<17+16
 ·rw [if_pos hc,arL_get 16 d' _ (by omega)]
  unfold tbF
  rw [if_neg (by omega),if_neg (by omega),if_pos (by omega)];rfl
 ·rw [if_neg hc]
  unfold tbF
  split
  ·rfl
  ·split
   ·rfl
   ·rw [if_neg (by omega),if_neg (by omega)]
theorem tbF_putT (c:Value) (s d T T':Nat→Nat) (r:Nat) (hr:r<64) (W:Nat→Nat) (hT: ∀m,m<1024→(if m/16=r then W (m%16)else T m)=T' m) (j:Nat) (hj:j<1057):cxP (tbF c s d T) (33+r*16) (arL 16 W) j=tbF c s d T' j:=by
 unfold cxP
 rw [arL_len]
 by_cases hc:33+r*16≤j∧j<33+r*16+16
 ·rw [if_pos hc,arL_get 16 W _ (by omega)]
  unfold tbF
  rw [if_neg (by omega),if_neg (by omega),if_neg (by omega),←hT _ (by omega),if_pos (by omega),show j-(33+r*16)=(j-33)%16 by omega];rfl
 ·rw [if_neg hc]
  unfold tbF
  split
  ·rfl
  ·split
   ·rfl
   ·split
    ·rfl
    ·rw [←hT _ (by omega),if_neg (by omega)]
end
section
open Go.RowKit
set_option linter.unusedVariables false
set_option maxRecDepth 100000
set_option maxHeartbeats 4000000 in
theorem tnew (p:Option Addr) (f:Nat→Nat) (w:World) (hf:B16 f) (hv:CipV w (.pointer p) f) (h:Boxes w):
  Calls Tryz.prog 7 #[.pointer p] w fun e w'=> ∃g,e= .returned (.pointer (some ⟨g,0,none⟩))∧w.heap.size≤g∧Ti w' g p (enF f zF)∧Below w.heap.size w w':=by
 have hz:=zero16b
 have z0:=Lib.hid run_zero16
 have hcall:=Lib.hid (fencrypt (.pointer p) f zF w hf zF_lt hv h)
 obtain⟨s,hs⟩: ∃s,enF f zF=s:=⟨_,rfl⟩
 have hsl:=Lib.hid (dk_lt (show B16 s by rw [←hs];exact enR_lt hf zF_lt 10))
 rw [hs]at hcall
 rw [hs]
 obtain⟨cA,hcA⟩:=Le ((cxL 1057 (tbF (.pointer p) s (fun _=>0) (fun _=>0))).toArray)
 have hbd:=Lib.hid (run_tab p s)
 have HCA:=Lib.hid hcA
 rw [hcA]at hbd
 clear hcA hs hf hv h
 go_enter Tryz.func7,Tryz.ntmps7
 go_wp2_with (refine wpList_build_by rfl _ _ rfl [] rfl _ (z0.out _) ?_)
 refine hcall.out.mono ?_
 rintro e w1 ⟨rfl,hq1⟩
 clear hcall
 obtain⟨w2,hw2⟩:=Lv (w1.alloc (.cells cA 61))
 obtain⟨gT,hgT⟩:=Le (w1.heap.size)
 have hlw:w.heap.size≤gT:=by rw [←hgT];exact hq1.size
 have hT2:Cx w2 gT 1057 (tbF (.pointer p) s (fun _=>0) (fun _=>0)):=by rw [hw2,←hgT,←HCA.out];exact Cx.new w1 1057 _ _
 have hB2:=Bm hw2 hq1
 clear hq1 HCA
 go_upto_region 2 with (refine wpList_build_by rfl _ _ rfl [(0,.pointer p),(1,.agg (arL 16 s).toArray)] rfl _ (hbd.out _) ?_)
 try rw [hgT]
 rw [←hw2]
 clear hw2 hbd hgT
 go_wp2_with (refine wpList_load_mid rfl _ _ rfl gT 1 rfl (arL 16 s) _ (tx_star hT2) Tryz.arr16b rfl (size16b _) ?_)
 refine(bdouble s _ (hsl.out 0)).mono ?_
 rintro e w3 ⟨rfl,hq⟩
 rw [show dbF s=dk s 1 from rfl]
 have hT3:=hT2.to (by decide) hq
 have hB3:=Tq hB2 hq
 clear hT2 hB2 hq
 go_upto_region 3 with (first|(refine wpList_store_cx rfl _ _ _ rfl gT 1057 17 _ (arL 16 (dk s 1)) rfl rfl hT3 (by rw [arL_len];omega) (size16b _) (arL_one 16 (dk s 1)) ?_;intro w4 hT4 bel4 siz4 kee4)|fail)
 have hT5:=hT4.ext (fun j hj=>tbF_putD _ s (fun _=>0) (dk s 1) (fun _=>0) j hj)
 have hB4:=hB3.trans (bel4.mono hlw)
 clear hT3 hT4 hB3 bel4 siz4 kee4
 try dsimp only [Act.put]
 obtain⟨gL,hgL⟩:=Le (w4.heap.size)
 have hlL:gT<gL:=by rw [←hgL];exact hT5.lt (by decide)
 obtain⟨w5,hw5⟩:=Lv (w4.alloc (.cells (arL 16 fun _=>0).toArray 22))
 have hL5:Ar w5 gL 16 (fun _=>0):=by rw [hw5,←hgL];exact Ar.new w4 16 _ _
 have hT6:Cx w5 gT 1057 (tbF (.pointer p) s (dk s 1) (fun _=>0)):=by rw [hw5];exact hT5.alloc (by decide) _
 have hB5:=Bm hw5 hB4
 clear hB4
 go_upto_region 4 with (first
  |(refine wpList_load_mid rfl _ _ rfl gT 17 rfl (arL 16 (dk s 1)) _ (tx_dollar hT5) Tryz.arr16b rfl (size16b _) ?_)
  |(refine wpList_store_ar rfl _ _ _ rfl _ _ _ (dk s 1) rfl rfl (by rw [←hw5];exact hL5) (size16b _) ?_;intro w6 hL6 bel6 siz6 kee6)
  |fail)
 rw [←hw5]at bel6 siz6 kee6
 have hT7:=(hT6.keep hlL bel6).ext (d:=tbF (.pointer p) s (dk s 1) (tbT s 0)) (fun j _=>by unfold tbF;simp only [tbT_zero])
 have hB6:=hB5.trans (bel6.mono (by omega))
 clear hT5 hT6 hL5 hB5 bel6 siz6 kee6 hw5 hgL
 try dsimp only [Act.put]
 go_wp2_with fail
 go_loopw [24] (fun i wr=> ∃k:Nat,k≤64∧i= .int .i64 k∧Cx wr gT 1057 (tbF (.pointer p) s (dk s 1) (tbT s k))∧Ar wr gL 16 (dk s (k+1))∧Below w.heap.size w wr) (fun i _=>64-(intOf i).toNat)
 case atStart=>exact⟨0,Nat.zero_le _,rfl,hT7,hL6,hB6⟩
 case round=>
  clear hT7 hL6 hB6
  obtain⟨k,hk,rfl,hT,hL,hB⟩:=hrel
  by_cases hlt:k<64
  ·have i1:(k:Int)<64:=by omega
   go_wp2_with (refine wpList_load_ar rfl _ _ rfl _ _ _ rfl hL Tryz.arr16b (size16b _) ?_)
   refine(bdouble (dk s (k+1)) _ (hsl.out (k+1))).mono ?_
   rintro e wa ⟨rfl,hq⟩
   rw [show dbF (dk s (k+1))=dk s (k+2)from rfl]
   have hTa:=hT.to (by decide) hq
   have hLa:=hL.t hq
   have hBa:=Tq hB hq
   clear hT hL hB hq
   go_upto_region 8 with (first|(refine wpList_store_ar rfl _ _ _ rfl _ _ _ (dk s (k+2)) rfl rfl hLa (size16b _) ?_;intro wb hLb bel siz kee)|fail)
   have hTwb:=hTa.keep hlL bel
   have hBb:=hBa.trans (bel.mono (by omega))
   clear hTa hLa hBa bel siz kee
   try dsimp only [Act.put]
   have hTad:=hTwb.drew
   refine wp_region_held_drew (S:=fun W=>Ar W gL 16 (dk s (k+2))∧Below w.heap.size w W) (by kernel_rfl) ⟨hLb.drew,hBb.drew⟩ (fun hH'=> ?_)
   clear hLb hBb hTwb
   generalize World.drew wb=ad at*
   refine tw 0 ?va1 rfl ?hya1 ?resta1
   case hya1=>
    intro W hSw
    go_simp
    try with_reducible rfl
   simp only [Act.put,nrm]
   refine tw 1 ?va2 rfl ?hya2 ?resta2
   case hya2=>
    intro W hSw
    go_simp
    try with_reducible rfl
   simp only [Act.put,nrm]
   refine tk 2 (.agg (arL 16 (dk s (k+2))).toArray) rfl (yieldsIf_load_mid (by rfl) _ _ rfl gL (0) rfl (arL 16 (dk s (k+2))) _ (fun W hSw=>hSw.1.range) Tryz.arr16b rfl (size16b _)) ?_
   simp only [Act.put,nrm]
   refine tw 3 ?va3 rfl ?hya3 ?resta3
   case hya3=>
    intro W hSw
    go_simp
    try with_reducible rfl
   simp only [Act.put,nrm]
   refine tw 4 ?va4 rfl ?hya4 ?resta4
   case hya4=>
    intro W hSw
    go_simp
    try with_reducible rfl
   simp only [Act.put,nrm]
   refine tw 5 ?va5 rfl ?hya5 ?resta5
   case hya5=>
    intro W hSw
    go_simp
    try with_reducible rfl
   simp only [Act.put,nrm]
   refine rd 6 rfl (fun K hK=> ?_)
   rw [if_pos (by rfl)]
   refine wp_store_mid _ _ _ rfl gT (33+k*16) (arL 16 (dk s (k+2))).toArray rfl rfl (hTad.there (33+k*16) 16 (by omega)) (size16b _) (all_oneCell_toArray (arL_one 16 (dk s (k+2)))) ?_
   have hTa6:=hTad.put (33+k*16) (arL 16 (dk s (k+2))) (by rw [arL_len];omega)
   dsimp only [List.toList_toArray]
   refine hK.out _ _ ⟨(hH'.1).apart (b:=gT) (by omega) (arL 16 (dk s (k+2))) (33+k*16),(hH'.2).trans (Below.setCells (Below.refl w.heap.size _) (b:=gT) (by omega) (arL 16 (dk s (k+2))) (33+k*16))⟩ ?_
   clear hK K hH' hTad
   intro hH'
   generalize World.setCells ad gT (33+k*16) (arL 16 (dk s (k+2)))=a6 at*
   try simp only [Act.put]
   refine wpAnyH_done (by kernel_rfl) ?_ _
   have hT9:=hTa6.ext (fun j hj=>tbF_putT (.pointer p) s (dk s 1) (tbT s k) (tbT s (k+1)) k hlt _ (fun m _=>tbT_step s k m) j hj)
   have hL9:=hH'.1
   have hB9:=hH'.2
   clear hH' hTa6
   go_wp2_with fail
   go_roundw
   case rel=>exact⟨k+1,by omega,by go_num,hT9,hL9,hB9⟩
   case measure=>simp [intOf];omega
  ·obtain rfl:k=64:=by omega
   go_wp2_with fail
   go_ret
   exact⟨gT,rfl,hlw,hT,hB⟩
end
section
open Go.RowKit
set_option linter.unusedVariables false
set_option maxRecDepth 100000
def TabV (w:World) (v:Value) (p:Option Addr) (s:Nat→Nat):Prop:= ∀V,Below w.heap.size w V→Calls Tryz.prog 113 #[v] V fun e V'=> ∃g,e= .returned (.pointer (some ⟨g,0,none⟩))∧Ti V' g p s∧Below V.heap.size V V'
theorem TabV.to {w w':World} {v:Value} {p:Option Addr} {s:Nat→Nat} (h:TabV w v p s) (hb:Below w.heap.size w w'):TabV w' v p s:=fun V hV=>h V (hb.trans (hV.mono hb.size))
theorem tab_made (g:Nat) (p:Option Addr) (s:Nat→Nat) (w:World) (h:Ti w g p s):TabV w (.pointer (some ⟨g,0,none⟩)) p s:=by
 intro V hV
 have hT:=h.to hV
 clear h hV
 go_enter Tryz.func113,Tryz.ntmps113
 go_wp2_with fail
 go_ret
 exact⟨g,rfl,hT,Below.refl _ _⟩
theorem tab_nil (w:World) (h:Boxes w):TabV w (.pointer none) none (enF zF zF):=by
 intro V hV
 have hX:=h.keep hV
 have hn:=Lib.hid (tnew none zF V zF_lt (exp_nil V hX) hX)
 clear h hV hX
 go_enter Tryz.func113,Tryz.ntmps113
 go_wp2_with fail
 refine hn.out.mono ?_
 rintro e w1 ⟨g,rfl,hg,hT,hb⟩
 go_wp2_with fail
 go_ret
 exact⟨g,rfl,hT,hb⟩
set_option maxHeartbeats 800000 in
theorem tstar (v:Value) (p:Option Addr) (s:Nat→Nat) (w:World) (hv:TabV w v p s):
  Calls Tryz.prog 83 #[v] w fun e w'=>e= .returned (.agg (arL 16 (s)).toArray)∧Below w.heap.size w w':=by
 have hz:=zero16b
 obtain⟨w1,hw1⟩:=Lv (w.alloc (.cells (arL 16 fun _=>0).toArray 22))
 have hb1:=Bl hw1
 have hR1:Ar w1 w.heap.size 16 (fun _=>0):=by rw [hw1];exact Ar.new w 16 _ _
 have hcall:=Lib.hid (hv w1 hb1)
 clear hv
 go_enter Tryz.func83,Tryz.ntmps83
 go_upto_region 1 with fail
 rw [←hw1]
 clear hw1
 go_wp2_with fail
 refine hcall.out.mono ?_
 rintro e w2 ⟨g,rfl,hT,hq⟩
 have hR2:=hR1.t hq
 have hB2:=Tq hb1 hq
 clear hR1 hb1 hq hcall
 go_wp2_with (first
  |(refine wpList_load_mid rfl _ _ rfl g (1) rfl (arL 16 (s)) _ (tx_star hT) Tryz.arr16b rfl (size16b _) ?_)
  |(refine wpList_store_ar rfl _ _ _ rfl _ _ _ (s) rfl rfl hR2 (size16b _) ?_;intro w8 hA8 hb8 _ _))
 refine bodyPost_ret_ar rfl rfl hA8 Tryz.arr16b (size16b _) rfl ⟨rfl,?_⟩
 exact hB2.trans hb8
set_option maxHeartbeats 800000 in
theorem tdollar (v:Value) (p:Option Addr) (s:Nat→Nat) (w:World) (hv:TabV w v p s):
  Calls Tryz.prog 84 #[v] w fun e w'=>e= .returned (.agg (arL 16 (dk s 1)).toArray)∧Below w.heap.size w w':=by
 have hz:=zero16b
 obtain⟨w1,hw1⟩:=Lv (w.alloc (.cells (arL 16 fun _=>0).toArray 22))
 have hb1:=Bl hw1
 have hR1:Ar w1 w.heap.size 16 (fun _=>0):=by rw [hw1];exact Ar.new w 16 _ _
 have hcall:=Lib.hid (hv w1 hb1)
 clear hv
 go_enter Tryz.func84,Tryz.ntmps84
 go_upto_region 1 with fail
 rw [←hw1]
 clear hw1
 go_wp2_with fail
 refine hcall.out.mono ?_
 rintro e w2 ⟨g,rfl,hT,hq⟩
 have hR2:=hR1.t hq
 have hB2:=Tq hb1 hq
 clear hR1 hb1 hq hcall
 go_wp2_with (first
  |(refine wpList_load_mid rfl _ _ rfl g (17) rfl (arL 16 (dk s 1)) _ (tx_dollar hT) Tryz.arr16b rfl (size16b _) ?_)
  |(refine wpList_store_ar rfl _ _ _ rfl _ _ _ (dk s 1) rfl rfl hR2 (size16b _) ?_;intro w8 hA8 hb8 _ _))
 refine bodyPost_ret_ar rfl rfl hA8 Tryz.arr16b (size16b _) rfl ⟨rfl,?_⟩
 exact hB2.trans hb8
theorem tcip (g:Nat) (p:Option Addr) (s:Nat→Nat) (w:World) (h:Ti w g p s):
  Calls Tryz.prog 81 #[.pointer (some ⟨g,0,none⟩)] w fun e w'=>e= .returned (.pointer p)∧Below w.heap.size w w':=by
 have c0:=tx_cip h
 clear h
 go_enter Tryz.func81,Tryz.ntmps81
 go_wp2_with fail
 go_ret
 exact⟨rfl,Below.refl _ _⟩
theorem tcip_nil (w:World):
  Calls Tryz.prog 81 #[.pointer none] w fun e w'=>e= .returned (.pointer none)∧Below w.heap.size w w':=by
 go_enter Tryz.func81,Tryz.ntmps81
 go_wp2_with fail
 go_ret
 exact⟨rfl,Below.refl _ _⟩
def atI (s:Nat→Nat) (i:Int):Nat→Nat:=if 0≤i∧i<64 then dk s (i.toNat+2)else fun _=>0
set_option maxHeartbeats 800000 in
theorem tat_out (v:Value) (s:Nat→Nat) (i:Int) (w:World) (hi:i<0∨64≤i):
  Calls Tryz.prog 139 #[v,.int .i64 i] w fun e w'=>e= .returned (.agg (arL 16 (fun _=>0)).toArray)∧Below w.heap.size w w':=by
 have hz:=zero16b
 have z0:=Lib.hid run_zero16
 obtain⟨w1,hw1⟩:=Lv (w.alloc (.cells (arL 16 fun _=>0).toArray 22))
 have hb1:=Bl hw1
 have hR1:Ar w1 w.heap.size 16 (fun _=>0):=by rw [hw1];exact Ar.new w 16 _ _
 go_enter Tryz.func139,Tryz.ntmps139
 go_upto_region 1 with fail
 rw [←hw1]
 clear hw1
 rcases hi with h0|h1
 ·go_wp2_with (first
   |(refine wpList_build_by rfl _ _ rfl [] rfl _ (z0.out _) ?_)
   |(refine wpList_store_ar rfl _ _ _ rfl _ _ _ (fun _=>0) rfl rfl hR1 (size16b _) ?_;intro w8 hA8 hb8 _ _))
  refine bodyPost_ret_ar rfl rfl hA8 Tryz.arr16b (size16b _) rfl ⟨rfl,?_⟩
  exact hb1.trans hb8
 ·have h0: ¬i<0:=by omega
  go_wp2_with (first
   |(refine wpList_build_by rfl _ _ rfl [] rfl _ (z0.out _) ?_)
   |(refine wpList_store_ar rfl _ _ _ rfl _ _ _ (fun _=>0) rfl rfl hR1 (size16b _) ?_;intro w8 hA8 hb8 _ _))
  refine bodyPost_ret_ar rfl rfl hA8 Tryz.arr16b (size16b _) rfl ⟨rfl,?_⟩
  exact hb1.trans hb8
set_option maxHeartbeats 800000 in
theorem tat_in (v:Value) (p:Option Addr) (s:Nat→Nat) (k:Nat) (w:World) (hk:k<64) (hv:TabV w v p s):
  Calls Tryz.prog 139 #[v,.int .i64 k] w fun e w'=>e= .returned (.agg (arL 16 (dk s (k+2))).toArray)∧Below w.heap.size w w':=by
 have hz:=zero16b
 obtain⟨w1,hw1⟩:=Lv (w.alloc (.cells (arL 16 fun _=>0).toArray 22))
 have hb1:=Bl hw1
 have hR1:Ar w1 w.heap.size 16 (fun _=>0):=by rw [hw1];exact Ar.new w 16 _ _
 have hcall:=Lib.hid (hv w1 hb1)
 clear hv
 have i0: ¬(k:Int)<0:=by omega
 have i1:(k:Int)<64:=by omega
 go_enter Tryz.func139,Tryz.ntmps139
 go_upto_region 1 with fail
 rw [←hw1]
 clear hw1
 go_wp2_with fail
 refine hcall.out.mono ?_
 rintro e w2 ⟨g,rfl,hT,hq⟩
 have hR2:=hR1.t hq
 have hB2:=Tq hb1 hq
 have hrg:=hT.block k hk
 clear hR1 hb1 hq hcall hT
 go_wp2_with (first
  |(refine wpList_load_mid rfl _ _ rfl g (33+k*16) rfl (arL 16 (dk s (k+2))) _ hrg Tryz.arr16b rfl (size16b _) ?_)
  |(refine wpList_store_ar rfl _ _ _ rfl _ _ _ (dk s (k+2)) rfl rfl hR2 (size16b _) ?_;intro w8 hA8 hb8 _ _))
 refine bodyPost_ret_ar rfl rfl hA8 Tryz.arr16b (size16b _) rfl ⟨rfl,?_⟩
 exact hB2.trans hb8
theorem tat (v:Value) (p:Option Addr) (s:Nat→Nat) (i:Int) (w:World) (hv:TabV w v p s):
  Calls Tryz.prog 139 #[v,.int .i64 i] w fun e w'=>e= .returned (.agg (arL 16 (atI s i)).toArray)∧Below w.heap.size w w':=by
 unfold atI
 by_cases h:0≤i∧i<64
 ·rw [if_pos h]
  obtain⟨k,rfl⟩:=Int.eq_ofNat_of_zero_le h.1
  exact tat_in v p s k w (by omega) hv
 ·rw [if_neg h]
  exact tat_out v s i w (by omega)
set_option maxHeartbeats 800000 in
theorem tfor (v:Value) (p:Option Addr) (s:Nat→Nat) (n:Nat) (w:World) (hn:n<18446744073709551616) (hv:TabV w v p s):
  Calls Tryz.prog 112 #[v,.int .u64 n] w fun e w'=>e= .returned (.agg (arL 16 (atI s (zer n:Nat))).toArray)∧Below w.heap.size w w':=by
 have hzr:=Lib.hid (fun V=>zeros n V hn)
 obtain⟨i,hi⟩:=Le (zer n)
 rw [hi]at hzr
 rw [hi]
 have hz:=zero16b
 obtain⟨w1,hw1⟩:=Lv (w.alloc (.cells (arL 16 fun _=>0).toArray 22))
 have hb1:=Bl hw1
 have hR1:Ar w1 w.heap.size 16 (fun _=>0):=by rw [hw1];exact Ar.new w 16 _ _
 have hcall:=Lib.hid (tat v p s (i:Nat) w1 (hv.to hb1))
 clear hv
 go_enter Tryz.func112,Tryz.ntmps112
 go_upto_region 1 with fail
 rw [←hw1]
 clear hw1
 go_wp2_with fail
 refine(hzr.out _).mono ?_
 rintro e w2 ⟨rfl,rfl⟩
 clear hzr
 go_wp2_with fail
 refine hcall.out.mono ?_
 rintro e w3 ⟨rfl,hq⟩
 have hR2:=hR1.t hq
 have hB2:=Tq hb1 hq
 clear hR1 hb1 hq hcall
 go_wp2_with (refine wpList_store_ar rfl _ _ _ rfl _ _ _ (atI s (i:Nat)) rfl rfl hR2 (size16b _) ?_;intro w8 hA8 hb8 _ _)
 refine bodyPost_ret_ar rfl rfl hA8 Tryz.arr16b (size16b _) rfl ⟨rfl,?_⟩
 exact hB2.trans hb8
end
section
open Go.RowKit
set_option linter.unusedVariables false
set_option maxRecDepth 100000
set_option maxHeartbeats 1600000 in
theorem refstar (f:Nat→Nat) (w:World) (hf:B16 f) (h0:B16 zF):
  Calls Tryz.prog 89 #[.agg (arL 432 (pkF (ek f) sb)).toArray] w fun e w'=>e= .returned (.agg (arL 16 (enF f zF)).toArray)∧Below w.heap.size w w':=by
 have hz:=zero16b
 have z0:=Lib.hid run_zero16
 obtain⟨dK,hfs,hrow⟩:=Tryz.structK
 have HS:=Lib.hid hfs
 have HW:=Lib.hid hrow
 clear hfs hrow
 obtain⟨kA,hkA⟩:=Le ((arL 432 (pkF (ek f) sb)).toArray)
 obtain⟨w1,hw1⟩:=Lv (w.alloc (.cells (arL 432 (pkF (ek f) sb)).toArray 48))
 have hs1:=Zs1 hw1
 have hb1:=Bl hw1
 have hK1:Ar w1 w.heap.size 432 (pkF (ek f) sb):=by rw [hw1];exact Ar.new w 432 _ _
 obtain⟨w2,hw2⟩:=Lv (w1.alloc (.cells (arL 16 fun _=>0).toArray 22))
 have hB2:=Bm hw2 hb1
 have hR2:Ar w2 (w.heap.size+1) 16 (fun _=>0):=by rw [hw2,←hs1];exact Ar.new w1 16 _ _
 have hK2:=ara hw2 hK1
 have HKA:=Lib.hid hkA
 rw [hkA]at hw1
 rw [hkA]
 have hcall:=Lib.hid (refencrypt f zF w2 hf h0)
 clear hb1 hK1 hkA hf h0
 go_enter Tryz.func89,Tryz.ntmps89
 go_upto_region 1 with fail
 rw [←hw1,←hw2]
 clear hw1 hw2 hs1
 obtain⟨gR,hgR⟩:=Le (w.heap.size+1)
 have hlR:w.heap.size<gR:=by omega
 rw [hgR]at hR2
 try rw [hgR]
 clear hgR
 go_wp2_with (first
  |(refine wpList_load_mid rfl _ _ rfl w.heap.size 0 rfl (arL 432 (pkF (ek f) sb)) _ hK2.range HS.out HW.out (sizeK _) ?_)
  |(refine wpList_build_by rfl _ _ rfl [] rfl _ (z0.out _) ?_))
 refine hcall.out.mono ?_
 rintro e w3 ⟨rfl,hq⟩
 have hR3:=hR2.t hq
 have hB3:=Tq hB2 hq
 clear hR2 hK2 hB2 hq hcall
 go_wp2_with (refine wpList_store_ar rfl _ _ _ rfl _ _ _ (enF f zF) rfl rfl hR3 (size16b _) ?_;intro w8 hA8 hb8 _ _)
 refine bodyPost_ret_ar rfl rfl hA8 Tryz.arr16b (size16b _) rfl ⟨rfl,?_⟩
 exact hB3.trans (hb8.mono (by omega))
set_option maxHeartbeats 1600000 in
theorem refat (s:Nat→Nat) (k:Nat) (i:Int) (w:World) (hs:B16 s) (hk1:1≤k) (hk:k≤66) (hi:i=(k:Int)-2):
  Calls Tryz.prog 125 #[.agg (arL 16 s).toArray,.int .i64 i] w fun e w'=>e= .returned (.agg (arL 16 (dk s k)).toArray)∧Below w.heap.size w w':=by
 have hz:=zero16b
 obtain⟨kA,hkA⟩:=Le ((arL 16 s).toArray)
 obtain⟨w1,hw1⟩:=Lv (w.alloc (.cells (arL 16 s).toArray 22))
 have hs1:=Zs1 hw1
 have hb1:=Bl hw1
 have hK1:Ar w1 w.heap.size 16 s:=by rw [hw1];exact Ar.new w 16 _ _
 obtain⟨w2,hw2⟩:=Lv (w1.alloc (.cells (arL 16 fun _=>0).toArray 22))
 have hB2:=Bm hw2 hb1
 have hR2:Ar w2 (w.heap.size+1) 16 (fun _=>0):=by rw [hw2,←hs1];exact Ar.new w1 16 _ _
 have hK2:=ara hw2 hK1
 have HKA:=Lib.hid hkA
 rw [hkA]at hw1
 rw [hkA]
 have hsl:=Lib.hid (dk_lt hs)
 clear hb1 hK1 hkA hs
 go_enter Tryz.func125,Tryz.ntmps125
 go_upto_region 1 with fail
 rw [←hw1,←hw2]
 clear hw1 hw2 hs1
 obtain⟨gR,hgR⟩:=Le (w.heap.size+1)
 have hlR:w.heap.size<gR:=by omega
 rw [hgR]at hR2
 try rw [hgR]
 clear hgR
 go_wp2_with (refine wpList_load_ar rfl _ _ rfl _ _ _ rfl hK2 Tryz.arr16b (size16b _) ?_)
 refine(refdouble s _ (hsl.out 0)).mono ?_
 rintro e w3 ⟨rfl,hq⟩
 rw [show dbF s=dk s 1 from rfl]
 have hR3:=hR2.t hq
 have hB3:=Tq hB2 hq
 clear hR2 hK2 hB2 hq
 obtain⟨gT,hgT⟩:=Le (w3.heap.size)
 have hlT:gR<gT:=by rw [←hgT];exact hR3.lt (by omega)
 obtain⟨w4,hw4⟩:=Lv (w3.alloc (.cells (arL 16 fun _=>0).toArray 22))
 have hT4:Ar w4 gT 16 (fun _=>0):=by rw [hw4,←hgT];exact Ar.new w3 16 _ _
 have hR4:=ara hw4 hR3
 have hB4:=Bm hw4 hB3
 clear hR3 hB3
 go_upto_region 2 with (refine wpList_store_ar rfl _ _ _ rfl _ _ _ (dk s 1) rfl rfl (by rw [←hw4];exact hT4) (size16b _) ?_;intro w5 hT5 bel siz kee)
 rw [←hw4]at bel siz kee
 have hR5:=kee _ _ _ (by omega) hR4
 have hB5:=hB4.trans (bel.mono (by omega))
 clear hT4 hR4 hB4 bel siz kee hw4 hgT
 try dsimp only [Act.put]
 go_wp2_with fail
 go_loopw [6] (fun n wr=> ∃r:Nat,r+1≤k∧n= .int .i64 r∧Ar wr gT 16 (dk s (r+1))∧Ar wr gR 16 (fun _=>0)∧Below w.heap.size w wr) (fun n _=>k-(intOf n).toNat)
 case atStart=>exact⟨0,by omega,rfl,hT5,hR5,hB5⟩
 case round=>
  clear hT5 hR5 hB5
  obtain⟨r,hr,rfl,hT,hR,hB⟩:=hrel
  by_cases hlt:r+1<k
  ·have i1:(r:Int)≤i:=by omega
   go_wp2_with (refine wpList_load_ar rfl _ _ rfl _ _ _ rfl hT Tryz.arr16b (size16b _) ?_)
   refine(refdouble (dk s (r+1)) _ (hsl.out (r+1))).mono ?_
   rintro e wa ⟨rfl,hq⟩
   rw [show dbF (dk s (r+1))=dk s (r+2)from rfl]
   have hTa:=hT.t hq
   have hRa:=hR.t hq
   have hBa:=Tq hB hq
   clear hT hR hB hq
   go_upto_region 4 with (first|(refine wpList_store_ar rfl _ _ _ rfl _ _ _ (dk s (r+2)) rfl rfl hTa (size16b _) ?_;intro wb hTb bel siz kee)|fail)
   have hRb:=kee _ _ _ (by omega) hRa
   have hBb:=hBa.trans (bel.mono (by omega))
   clear hTa hRa hBa bel siz kee
   try dsimp only [Act.put]
   go_wp2_with fail
   go_roundw
   case rel=>exact⟨r+1,by omega,by go_num,hTb,hRb,hBb⟩
   case measure=>simp [intOf];omega
  ·obtain rfl:k=r+1:=by omega
   have i1: ¬(r:Int)≤i:=by omega
   go_wp2_with (first
    |(refine wpList_load_ar rfl _ _ rfl _ _ _ rfl hT Tryz.arr16b (size16b _) ?_)
    |(refine wpList_store_ar rfl _ _ _ rfl _ _ _ (dk s (r+1)) rfl rfl hR (size16b _) ?_;intro w8 hA8 hb8 _ _))
   refine bodyPost_ret_ar rfl rfl hA8 Tryz.arr16b (size16b _) rfl ⟨rfl,?_⟩
   exact hB.trans (hb8.mono (by omega))
set_option maxHeartbeats 1600000 in
theorem reffor (s:Nat→Nat) (n:Nat) (w:World) (hs:B16 s) (hn:n<18446744073709551616):
  Calls Tryz.prog 93 #[.agg (arL 16 s).toArray,.int .u64 n] w fun e w'=>e= .returned (.agg (arL 16 (dk s (zer n+2))).toArray)∧Below w.heap.size w w':=by
 have hz:=zero16b
 obtain⟨z,hzz⟩: ∃z,zer n=z:=⟨_,rfl⟩
 have hzr: ∀V,Calls Tryz.prog 126 #[.int .u64 n] V fun e V'=>e= .returned (.int .i64 (z:Nat))∧V'=V:=fun V=>by rw [←hzz];exact refZeros n V hn
 have hz64:z≤64:=by rw [←hzz];exact zer_le n
 rw [hzz]
 obtain⟨kA,hkA⟩:=Le ((arL 16 s).toArray)
 obtain⟨w1,hw1⟩:=Lv (w.alloc (.cells (arL 16 s).toArray 22))
 have hs1:=Zs1 hw1
 have hb1:=Bl hw1
 have hK1:Ar w1 w.heap.size 16 s:=by rw [hw1];exact Ar.new w 16 _ _
 obtain⟨w2,hw2⟩:=Lv (w1.alloc (.cells (arL 16 fun _=>0).toArray 22))
 have hB2:=Bm hw2 hb1
 have hR2:Ar w2 (w.heap.size+1) 16 (fun _=>0):=by rw [hw2,←hs1];exact Ar.new w1 16 _ _
 have hK2:=ara hw2 hK1
 have HKA:=Lib.hid hkA
 rw [hkA]at hw1
 rw [hkA]
 have hsl:=Lib.hid hs
 clear hb1 hK1 hkA hs hzz
 go_enter Tryz.func93,Tryz.ntmps93
 go_upto_region 1 with fail
 rw [←hw1,←hw2]
 clear hw1 hw2 hs1
 obtain⟨gR,hgR⟩:=Le (w.heap.size+1)
 have hlR:w.heap.size<gR:=by omega
 rw [hgR]at hR2
 try rw [hgR]
 clear hgR
 have hRw2:=hR2
 clear hR2
 refine wp_region_noPanic ?_
 have hRad:=hRw2.drew
 refine wp_region_held_drew (S:=fun W=>Ar W w.heap.size 16 (s)∧Below w.heap.size w W) (by kernel_rfl) ⟨hK2.drew,hB2.drew⟩ (fun hH'=> ?_)
 clear hK2 hB2 hRw2
 generalize World.drew w2=ad at*
 refine tk 0 (.agg (arL 16 (s)).toArray) rfl (yieldsIf_load_mid (by rfl) _ _ rfl w.heap.size (0) rfl (arL 16 (s)) _ (fun W hSw=>hSw.1.range) Tryz.arr16b rfl (size16b _)) ?_
 simp only [Act.put,nrm]
 refine tw 1 ?va1 rfl ?hya1 ?resta1
 case hya1=>
  intro W hSw
  go_simp
  try with_reducible rfl
 simp only [Act.put,nrm]
 refine rd 2 rfl (fun K hK=> ?_)
 go_simp
 refine(hzr _).mono ?_
 rintro e a2 ⟨rfl,rfl⟩
 go_wp2_with fail
 have hRa2:=hRad
 refine hK.out _ _ hH' ?_
 clear hK K hH' hRad
 intro hH'
 try simp only [Act.put,nrm]
 refine rd 3 rfl (fun K hK=> ?_)
 go_simp
 refine(refat s (z+2) z _ hsl.out (by omega) (by omega) (by omega)).mono ?_
 rintro e a3 ⟨rfl,hq⟩
 go_wp2_with fail
 have hRa3:=hRa2.t hq
 refine hK.out _ _ ⟨hH'.1.t hq,Tq hH'.2 hq⟩ ?_
 clear hK K hH' hq hRa2
 intro hH'
 try simp only [Act.put,nrm]
 refine rd 4 rfl (fun K hK=> ?_)
 rw [if_pos (by rfl)]
 refine wp_store_mid _ _ _ rfl gR 0 (arL 16 (dk s (z+2))).toArray rfl rfl hRa3.there (size16b _) (all_oneCell_toArray (arL_one 16 (dk s (z+2)))) ?_
 have hRa4:=hRa3.whole (dk s (z+2))
 dsimp only [List.toList_toArray]
 refine hK.out _ _ ⟨(hH'.1).apart (b:=gR) (by omega) (arL 16 (dk s (z+2))) 0,(hH'.2).trans (Below.setCells (Below.refl w.heap.size _) (b:=gR) (by omega) (arL 16 (dk s (z+2))) 0)⟩ ?_
 clear hK K hH' hRa3
 intro hH'
 generalize World.setCells a3 gR 0 (arL 16 (dk s (z+2)))=a4 at*
 try simp only [Act.put]
 refine wpAnyH_done (by kernel_rfl) ?_ _
 have hR9:=hRa4
 have hB9:=hH'.2
 clear hH' hRa4
 refine NoPanic.normal ?_
 go_wp2_with fail
 refine bodyPost_ret_ar rfl rfl hR9 Tryz.arr16b (size16b _) rfl ⟨rfl,hB9⟩
end
section
open Go.RowKit
set_option linter.unusedVariables false
set_option maxRecDepth 100000
theorem tat0 (v:Value) (p:Option Addr) (s:Nat→Nat) (w:World) (hv:TabV w v p s):
  Calls Tryz.prog 139 #[v,.int .i64 0] w fun e w'=>e= .returned (.agg (arL 16 (dk s 2)).toArray)∧Below w.heap.size w w':=tat_in v p s 0 w (by omega) hv
theorem tat0q (v:Value) (p:Option Addr) (s:Nat→Nat) (q:Nat) (w:World) (hq:q=2) (hv:TabV w v p s):
  Calls Tryz.prog 139 #[v,.int .i64 0] w fun e w'=>e= .returned (.agg (arL 16 (dk s q)).toArray)∧Below w.heap.size w w':=by subst hq;exact tat0 v p s w hv
theorem wrap_in (k:Nat) (h:k<9223372036854775808):IntKind.i64.wrap (k:Int)=(k:Int):=by rw [wraps_i64' _ (by omega) (by omega)]
theorem dbl_facts (n m:Nat) (hm:2*n=m) (hn:m<18446744073709551616):IntKind.u64.wrap (m:Int)=(m:Int)∧2*(n:Int)=(m:Int):=by
 have h:2*(n:Int)=(m:Int):=by omega
 refine⟨?_,h⟩
 rw [IntKind.wrap_u64]
 omega
theorem tforp (v:Value) (p:Option Addr) (s:Nat→Nat) (n k:Nat) (w:World) (h0:n≠0) (hn:n<18446744073709551616) (hk:zer n+2=k) (hv:TabV w v p s):
  Calls Tryz.prog 112 #[v,.int .u64 n] w fun e w'=>e= .returned (.agg (arL 16 (dk s k)).toArray)∧Below w.heap.size w w':=by
 have h:=tfor v p s n w hn hv
 have h1:=zer_lt n h0 hn
 unfold atI at h
 rw [if_pos (by omega),Int.toNat_natCast,hk]at h
 exact h
theorem tfor0 (v:Value) (p:Option Addr) (s:Nat→Nat) (w:World) (hv:TabV w v p s):
  Calls Tryz.prog 112 #[v,.int .u64 0] w fun e w'=>e= .returned (.agg (arL 16 (fun _=>0)).toArray)∧Below w.heap.size w w':=by
 have h:=tfor v p s 0 w (by omega) hv
 unfold atI at h
 rw [zer_zero,if_neg (by omega)]at h
 exact h
theorem tfor1 (v:Value) (p:Option Addr) (s:Nat→Nat) (w:World) (hv:TabV w v p s):
  Calls Tryz.prog 112 #[v,.int .u64 1] w fun e w'=>e= .returned (.agg (arL 16 (dk s 2)).toArray)∧Below w.heap.size w w':=
 tforp v p s 1 2 w (by omega) (by omega) (by rw [zer_odd 1 rfl]) hv
theorem refdk (s:Nat→Nat) (k:Nat) (w:World) (hs:B16 s):
  Calls Tryz.prog 96 #[.agg (arL 16 (dk s k)).toArray] w fun e w'=>e= .returned (.agg (arL 16 (dk s (k+1))).toArray)∧Below w.heap.size w w':=refdouble (dk s k) w (dk_lt hs k)
theorem refdk0 (s:Nat→Nat) (w:World) (hs:B16 s):
  Calls Tryz.prog 96 #[.agg (arL 16 s).toArray] w fun e w'=>e= .returned (.agg (arL 16 (dk s 1)).toArray)∧Below w.heap.size w w':=refdouble s w hs
theorem refatk (s:Nat→Nat) (k:Nat) (w:World) (hs:B16 s) (hk:k<64):
  Calls Tryz.prog 125 #[.agg (arL 16 s).toArray,.int .i64 k] w fun e w'=>e= .returned (.agg (arL 16 (dk s (k+2))).toArray)∧Below w.heap.size w w':=refat s (k+2) k w hs (by omega) (by omega) (by omega)
theorem refatd (s:Nat→Nat) (w:World) (hs:B16 s):
  Calls Tryz.prog 125 #[.agg (arL 16 s).toArray,.int .i64 (-1)] w fun e w'=>e= .returned (.agg (arL 16 (dk s 1)).toArray)∧Below w.heap.size w w':=refat s 1 (-1) w hs (by omega) (by omega) (by omega)
end
end Go.Proofs.YtiacbphnclgikaaGreatDoor
