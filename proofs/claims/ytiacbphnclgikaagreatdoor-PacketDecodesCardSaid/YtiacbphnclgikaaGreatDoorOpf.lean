/-
 The checksum of an opened plaintext; what is kept where one block differs; a Table for open.made; the closure of open.Decrypt, by a walk through its text.
-/
import Derived.Test.YtiacbphnclgikaaGreatDoorSqz
import Derived.Test.YtiacbphnclgikaaGreatDoorOpa
import Derived.Test.YtiacbphnclgikaaGreatDoorSep
import Derived.Test.YtiacbphnclgikaaGreatDoorSew
import Derived.Test.YtiacbphnclgikaaGreatDoorGbk
namespace Go.Proofs.YtiacbphnclgikaaGreatDoor
open Go.RowKit
set_option linter.unusedVariables false
set_option maxRecDepth 100000
set_option linter.unusedSimpArgs false
open Go.Shelf
def odD (f s a:Nat→Nat) (l:List UInt8) (k:Nat):Nat→Nat:=opF f (pt l k) (atF a s (k+1))
section
variable {f s a:Nat→Nat} {l:List UInt8} {n N o r:Nat}
theorem odD_lt (hf:B16 f) (hs:B16 s) (ha:B16 a) (l:List UInt8) (k:Nat):B16 (odD f s a l k):=opF_lt hf (fun _ _=>pt_lt _ _ _) (atF_lt ha hs _)
theorem ckF_congr {P Q:Nat→Nat→Nat} : ∀n,(∀k,k<n→E16 (P k) (Q k))→E16 (ckF P n) (ckF Q n)
 |0,_=>fun _ _=>rfl
 |n+1,h=>adF_congr (ckF_congr n fun k hk=>h k (by omega)) (h n (by omega))
theorem ck_dt (hf:B16 f) (hs:B16 s) (ha:B16 a) (hN:l.length/16=N):E16 (ckF (pt (dtL f s a l)) N) (ckF (odD f s a l) N):=ckF_congr N fun k hk=>pt_dt hf hs ha l k (by omega)
theorem cs_dt_none (hf:B16 f) (hs:B16 s) (ha:B16 a) (hl:l.length=n) (hN:n/16=N) (hr:n%16=r) (h:r=0):arL 16 (csF (dtL f s a l))=arL 16 (ckF (odD f s a l) N):=by
 rw [cs_none ((dtL_len l).trans hl) hN hr h]
 exact arL_ext (fun j hj=>ck_dt hf hs ha (by rw [hl];exact hN) j hj)
theorem cs_dt_some {P:Nat→Nat} (hf:B16 f) (hs:B16 s) (ha:B16 a) (hl:l.length=n) (hN:n/16=N) (hr:n%16=r) (h:r≠0) (ho:16*N=o) (hP:lF (padL ((dtL f s a l).drop o) 16)=P):arL 16 (csF (dtL f s a l))=arL 16 (adF (ckF (odD f s a l) N) P):=by
 rw [cs_some ((dtL_len l).trans hl) hN hr h ho hP]
 exact arL_ext (fun j hj=>adF_congr (ck_dt hf hs ha (by rw [hl];exact hN)) (fun _ _=>rfl) j hj)
theorem dt_tail (hl:l.length=n) (hN:n/16=N) (ho:16*N=o) (hr:n-o=r):liB o (dtF f s a l N)++liB r (adF (lF (l.drop o)) (enF f (adF (atF a s N) s)))=dtL f s a l:=by
 have h1:r<16∧o+r=n:=by omega
 rw [←dt_eq (f:=f) (s:=s) (a:=a) hl hN,←h1.2,liB_snoc]
 congr 1
 refine liB_ext (fun j hj=> ?_)
 unfold dtF
 rw [if_neg (by omega),show o+j-16*N=j by omega]
 show lF (l.drop o) j^^^_=_
 rw [lF_drop]
theorem dt_drop (hl:l.length=n) (hN:n/16=N) (ho:16*N=o) (hr:n-o=r):(dtL f s a l).drop o=liB r (adF (lF (l.drop o)) (enF f (adF (atF a s N) s))):=by
 rw [←dt_tail (f:=f) (s:=s) (a:=a) hl hN ho hr]
 exact List.drop_left' (liB_len _ _)
theorem pt_drop (l:List UInt8) (k:Nat):lF (l.drop (16*k))=pt l k:=funext fun j=>lF_drop l (16*k) j
end
section
variable {w W W':World} {g r b0 m x:Nat} {v:Value} {l:List UInt8}
theorem AddK.then (h:AddK w W g r) (hb:Below w.heap.size W W'):AddK w W' g r:=
 ⟨hb.os.trans h.os,hb.tape.trans h.tape,hb.output.trans h.output,Nat.le_trans h.size hb.size,fun k hk h1 h2=>(hb.block k hk).trans (h.block k hk h1 h2),
  fun k o hk ho=>(hb.block k (Array.getElem?_eq_some_iff.1 hk).1).trans (h.same k o hk ho)⟩
theorem Ob.add (h:Ob W b0 g v m l) (ha:AddK W W' x x) (hx:x<b0):Ob W' b0 g v m l:=by
 refine⟨Nat.lt_of_lt_of_le h.1 ha.size,h.2.1,h.2.2.1,h.2.2.2.1,?_⟩
 rcases h.2.2.2.2 with h1|⟨g1,cap,cur,rfl,h2,h3,h4⟩
 ·exact .inl h1
 ·exact .inr ⟨g1,cap,cur,rfl,h2,(ha.block g1 (Array.getElem?_eq_some_iff.1 h3).1 (by omega) (by omega)).trans h3,h4⟩
end
theorem results_pcr {P:Program} {fn:Func} {T:Array Value} {w:World} {p q r:Tmp} {ty e:TypeId} {v:Value} {g g' n m:Nat} {f f':Nat→Nat} (hr:fn.results= #[.tmp p,.cell q ty,.cell r ty]) (hp1:T.getD p undef=v) (hp:T.getD q undef= .pointer (some ⟨g,0,none⟩)) (hq:T.getD r undef= .pointer (some ⟨g',0,none⟩))
  (hA:Ar w g n f) (hA':Ar w g' n f') (hu:P.underlying ty=some (.array m e)) (hi:(P.info? ty).map (·.size)=some (arL n f).length) (hi':(P.info? ty).map (·.size)=some (arL n f').length):
  (results fn T).run P w= .ok (.tuple #[v,.agg (arL n f).toArray,.agg (arL n f').toArray]) w:=by
 have hp1':T[p]?.getD undef=v:=by simpa using hp1
 have hp':T[q]?.getD undef= .pointer (some ⟨g,0,none⟩):=by simpa using hp
 have hq':T[r]?.getD undef= .pointer (some ⟨g',0,none⟩):=by simpa using hq
 simp only [results,hr]
 simp [hp1',hp',hq',asAddr,run_loadVar_mid (P:=P) w g 0 ty (arL n f) _ hA.range hu rfl hi,run_loadVar_mid (P:=P) w g' 0 ty (arL n f') _ hA'.range hu rfl hi']
def TabO (w:World) (p:Option Addr) (f:Nat→Nat):Prop:=TabS w p f∧ ∀V,Below w.heap.size w V→Calls Tryz.prog 56 #[.pointer p] V fun e V'=>e= .returned (.pointer p)∧Below V.heap.size V V'
theorem TabO.to {w w':World} {p:Option Addr} {f:Nat→Nat} (h:TabO w p f) (hb:Below w.heap.size w w'):TabO w' p f:=⟨h.1.to hb,fun V hV=>h.2 V (hb.trans (hV.mono hb.size))⟩
theorem wtabo (gT gC:Nat) (f s:Nat→Nat) (w:World) (hs:enF f zF=s) (hT:Ti w gT (some ⟨gC,0,none⟩) s) (hC:Ci w gC f):TabO w (some ⟨gT,0,none⟩) f:=by
 refine⟨wtabs gT gC f s w hs hT hC,fun V hV=> ?_⟩
 have hT2:=hT.to hV
 clear hT hC hV hs
 go_enter Tryz.func56,Tryz.ntmps56
 go_wp2_with fail
 refine(tcip gT _ s V hT2).mono ?_
 rintro e V1 ⟨rfl,hq⟩
 go_wp2_with fail
 go_ret
 exact⟨rfl,hq⟩
set_option maxHeartbeats 1600000 in
theorem otake (gX k m2 c2:Nat) (A A9:Option Addr) (m c:Nat) (l:List UInt8) (w:World) (hX:Bv w gX 25 (.slice A m c)) (hS:Sl w w.heap.size A m l) (hk:Nat.min m 16=k) (hsl: ∀W,(Instr.sliceAt 25 (.slice A m c) (some (.int .i64 (k:Int))) none none).run Tryz.prog W= .ok (.slice A9 m2 c2) W):
  Calls Tryz.prog 87 #[.pointer (some ⟨gX,0,none⟩)] w fun e w'=>e= .returned (.tuple #[.agg (arL 16 (lF l)).toArray,.int .i64 (k:Int)])∧Bv w' gX 25 (.slice A9 m2 c2)∧AddK w w' gX gX:=by
 have hz:=zero16b
 have hlen:=hS.len
 have hkm:k≤m:=by rw [←hk];exact Nat.min_le_left ..
 have hk16:k≤16:=by rw [←hk];exact Nat.min_le_right ..
 have hkl:k=m∨k=16:=by
  rcases Nat.le_total m 16 with h|h
  ·exact .inl (hk.symm.trans (Nat.min_eq_left h))
  ·exact .inr (hk.symm.trans (Nat.min_eq_right h))
 have hlt:(l.take k).length=k:=by rw [List.length_take];omega
 have hS2:=sl_take2 hS hkm
 obtain⟨w1,hw1⟩:=Lv (w.alloc (.cells (arL 16 fun _=>0).toArray 22))
 have hb1:=Bl hw1
 have hW1:Wb w1 w.heap.size 16 (fun _=>0) 22:=by rw [hw1];exact Wb.new w 16 _ _
 have hX1:=(hX.to hb1).drew
 have hS1:=(hS2.below hb1).drew
 have hlg0:=hX.lt
 have HSL:=Lib.hid hsl
 obtain⟨g,hg⟩:=Le (w.heap.size)
 rw [hg]at hlg0 hW1
 have hsrc:=Lib.hid (fun h0=>hS1.src h0)
 have hcs:=map_lF (l.take k) k hlt
 have HMi:=Lib.hid (show((l.take k).map b8).length=Nat.min m 16 by rw [List.length_map,hlt,hk])
 have HFi:=Lib.hid (show 0+((l.take k).map b8).length≤(arL 16 fun _=>0).length by rw [arL_len];simp [hlt];omega)
 have HLE:=Lib.hid (show∀h:0<((l.take k).map b8).length,0<k by intro h;rwa [List.length_map,hlt]at h)
 have h1c:=Lib.hid (one_b8 (l.take k))
 obtain⟨cs,hcse⟩: ∃cs:List Value,(l.take k).map b8=cs:=⟨_,rfl⟩
 rw [hcse]at hsrc HMi HFi HLE hcs h1c
 have hspl:=Lib.hid (show splice (arL 16 fun _=>0) 0 cs=arL 16 (lF l)by
  rw [hcs,splice_ar 16 k _ _ 0 (by omega)]
  refine arL_ext (fun j hj=> ?_)
  by_cases h:j<k
  ·rw [if_pos (by omega),Nat.sub_zero]
   unfold lF
   rw [List.getD,List.getD,List.getElem?_take,if_pos h]
  ·rw [if_neg (by omega)]
   unfold lF
   rw [List.getD,List.getElem?_eq_none (by omega)];rfl)
 have hcn:(cs.length:Int)=(k:Int):=by rw [HMi.out.trans hk]
 have HW:=Lib.hid (show w1.drew.heap[g]?=some (.cells (arL 16 fun _=>0).toArray 22 (0,0))from hW1)
 have c1:=hX1.cell
 have HB1:=Lib.hid hb1
 have HLW:=Lib.hid hg
 clear hcs hcse hS1 hS2 hS hX hW1 hb1 hsl hlt hkl hlen hkm hk
 go_enter Tryz.func87,Tryz.ntmps87
 go_upto_region 1 with fail
 rw [←hw1]
 try rw [hg]
 clear hw1 hg
 go_region_law (refine step_copy_splice rfl (.tmp 3) (.tmp 4) 25 25 rfl 5 Tryz.sl8 Tryz.sz8 _ _ _ _ _ _ rfl rfl g 0 (arL 16 fun _=>0) 22 HW.out cs HMi.out (fun h=>⟨rfl,hsrc.out (HLE.out h)⟩) HFi.out h1c.out g w1.drew (Below.refl _ _) (Nat.le_refl _) ?_;intro w2 hW2 hb2)
 have hT2:Ar w2 g 16 (lF l):=by
  have h:=hW2.out
  rw [hspl.out]at h
  exact Wb.ar (show Wb w2 g 16 _ _ from h)
 have hX2:=hX1.keep hlg0 hb2
 have hA2:AddK w w2 gX gX:=AddK.of (HB1.out.drew.trans (hb2.mono (by rw [HLW.out];exact Nat.le_refl _)))
 clear hX1 c1 hW2 hb2 HW hspl hsrc HMi HFi HLE h1c
 have cF:=hX2.cell
 have fF:=hX2.frozen
 have hsl:=HSL.out
 try dsimp only [Act.put]
 go_upto_region 3 with fail
 have hX3:=hX2.set (.slice A9 m2 c2)
 have hT3:=hT2.far (p:=⟨gX,0,none⟩) (by simp;omega) (.slice A9 m2 c2)
 have hA3:=hA2.set (.slice A9 m2 c2)
 generalize World.setCell w2 ⟨gX,0,none⟩ (.slice A9 m2 c2)=w3 at*
 clear cF fF hsl hX2 hT2 hA2
 go_wp2_with (first
  |(refine wpList_load_ar rfl _ _ rfl _ _ _ rfl hT3 Tryz.arr16b (size16b _) ?_)
  |(refine wpList_store_ar rfl _ _ _ rfl _ _ _ (lF l) rfl rfl hT3 (size16b _) ?_;intro w8 hA8 hb8 _ _))
 refine bodyPost_ret_ar2 rfl rfl rfl hA8 Tryz.arr16b (size16b _) rfl ⟨rfl,hX3.keep hlg0 hb8,hA3.then (hb8.mono (by rw [HLW.out];exact Nat.le_refl _))⟩
end Go.Proofs.YtiacbphnclgikaaGreatDoor
