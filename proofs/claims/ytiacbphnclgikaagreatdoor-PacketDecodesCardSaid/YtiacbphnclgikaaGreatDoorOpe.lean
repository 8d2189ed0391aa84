/-
 Contract of Open of the reference package of layer 13, by a walk through its text; what was there stays as it was.
-/
import Derived.Test.YtiacbphnclgikaaGreatDoorSqz
import Derived.Test.YtiacbphnclgikaaGreatDoorOpd
import Derived.Test.YtiacbphnclgikaaGreatDoorSew
import Derived.Deep.RegionHeld3
namespace Go.Proofs.YtiacbphnclgikaaGreatDoor
open Go.RowKit
set_option linter.unusedVariables false
set_option maxRecDepth 100000
set_option linter.unusedSimpArgs false
theorem own_fresh {w:World} {B B' n c:Nat} {A:Option Addr} {l:List UInt8} (h:Ow8 w B (.slice A n c) n l) (hB:B'≤B): ∀a2:Addr,A=some a2→B'≤a2.block:=fun a2 ha=>by
 rcases h.2 with ⟨h0,_⟩|⟨g,cap,cur,hv,hbg,_⟩
 ·injection h0 with e1;rw [e1]at ha;cases ha
 ·injection hv with e1;rw [e1]at ha;injection ha with e2;rw [←e2];exact Nat.le_trans hB hbg
theorem mfacts {n M:Nat} (h:n-16=M) (h2:16≤n) (hn:n≤1000000):wrap64 ((n:Int)-16)=(M:Int)∧IntKind.i64.wrap ((n:Int)-16)=(M:Int)∧(n:Int)-16=(M:Int)∧IntKind.i64.wrap (M:Int)=(M:Int)∧M≤n∧M+16=n:=by
 refine⟨?_,?_,by omega,wraps_i64' _ (by omega) (by omega),by omega,by omega⟩
 ·rw [IntWalk.wrap64_in _ (by omega)];omega
 ·rw [show(n:Int)-16=(M:Int)by omega,wraps_i64' _ (by omega) (by omega)]
set_option maxHeartbeats 4000000 in
theorem ropenF (f q s a:Nat→Nat) (D:Option Addr) (m cd:Nat) (d:List UInt8) (A:Option Addr) (n c:Nat) (l PL:List UInt8) (C:Nat) (w:World) (hf:B16 f) (hq0:B12 q) (hs:enF f zF=s) (ha:o0F (enF f (nbF q)) (q 11)=a) (hD:Sl w w.heap.size D m d) (hmc:m≤cd) (hm:m≤1000000) (hS:Sl w w.heap.size A n l) (hnc:n≤c) (hn:n≤1000000) (hC:opC f s a d l=C) (hPL:opL f s a d l=PL):
  Calls Tryz.prog 41 #[.agg (arL 432 (pkF (ek f) sb)).toArray,.agg (arL 12 q).toArray,.slice D m cd,.slice A n c] w fun e w'=> ∃(A2:Option Addr) (c2:Nat),e= .returned (.tuple #[.slice A2 PL.length c2,.int .i64 (C:Int)])∧Sl w' w'.heap.size A2 PL.length PL∧PL.length≤c2∧Below w.heap.size w w'∧ ∀a2:Addr,A2=some a2→w.heap.size≤a2.block:=by
 obtain⟨kE,hkE⟩:=Le ((arL 432 (pkF (ek f) sb)).toArray)
 obtain⟨kQ,hkQ⟩:=Le ((arL 12 (q)).toArray)
 obtain⟨w1,hw1⟩:=Lv (w.alloc (.cells (arL 432 (pkF (ek f) sb)).toArray 48))
 have hs1:=Zs1 hw1
 have hBw1:=Bl hw1
 have hEw1:Ar w1 w.heap.size 432 (pkF (ek f) sb):=by rw [hw1];exact Ar.new w 432 _ _
 obtain⟨w2,hw2⟩:=Lv (w1.alloc (.cells (arL 12 (q)).toArray 77))
 have hs2:=Zs2 hw2 hs1
 have hBw2:=Bm hw2 hBw1
 have hEw2:=ara hw2 hEw1
 have hQw2:Ar w2 (w.heap.size+1) 12 (q):=by rw [hw2,←hs1];exact Ar.new w1 12 _ _
 clear hEw1 hBw1
 rw [hkE]at hw1
 rw [hkQ]at hw2
 rw [hkE,hkQ]
 clear hkE hkQ
 obtain⟨dK,hfs,hrow⟩:=Tryz.structK
 have HS:=Lib.hid hfs
 have HW:=Lib.hid hrow
 clear hfs hrow
 have hlen:=hS.len
 have HLEN:=Lib.hid hlen
 have HFB:=Lib.hid hf
 have HQB:=Lib.hid hq0
 have HSS:=Lib.hid hS
 have HDD:=Lib.hid hD
 have HSL:=Lib.hid (show B16 s by rw [←hs];exact enR_lt hf zF_lt 10)
 have HAB:=Lib.hid (show B16 a by rw [←ha];exact o0F_lt (enR_lt hf (nbF_lt hq0) 10) _)
 have HS0:=Lib.hid hs
 have HA0:=Lib.hid ha
 have HNC:=Lib.hid hnc
 have HN:=Lib.hid hn
 have HMC:=Lib.hid hmc
 have HM:=Lib.hid hm
 have HC:=Lib.hid hC
 have HPL:=Lib.hid hPL
 have hn63:(n:Int)<9223372036854775808:=by omega
 clear hf hq0 hS hD hs ha hnc hmc hm hlen hC hPL hn
 go_enter Tryz.func41,Tryz.ntmps41
 go_upto_region 1 with fail
 rw [←hw1,←hw2]
 clear hw1 hw2
 try simp only [Nat.add_assoc,Nat.reduceAdd]
 obtain⟨gQ,hgQ⟩:=Le (w.heap.size+1)
 rw [hgQ]at hQw2
 try rw [hgQ]
 have hlQ:w.heap.size<gQ:=by omega
 clear hs1 hs2 hgQ
 by_cases h16:n<16
 ·have i1:(n:Int)<16:=by omega
  have HC1:=Lib.hid (HC.out.symm.trans (opC_short HLEN.out h16))
  have HP1:=Lib.hid (HPL.out.symm.trans (opL_no (by rw [opC_short HLEN.out h16];decide)))
  clear h16
  go_wp2_with fail
  go_ret2
  exact⟨none,0,by rw [HC1.out,HP1.out];rfl,by rw [HP1.out];exact sl_nil _ _,by rw [HP1.out];exact Nat.le_refl _,hBw2,fun _ h=>by cases h⟩
 ·have i1: ¬(n:Int)<16:=by omega
  obtain⟨M,hM⟩:=Le (n-16)
  have HM0:=Lib.hid hM
  have H16:=Lib.hid (show 16≤n by omega)
  have HMF:=Lib.hid (mfacts hM H16.out HN.out)
  have HSLI:=Lib.hid (slice_to2 A n c M HMF.out.2.2.2.2.1 HNC.out)
  clear hM h16
  go_upto_region 3 with fail
  refine wp_region_noPanic ?_
  refine wp_region_held_drew (S:=fun W=>Ar W w.heap.size 432 (pkF (ek f) sb)∧Ar W gQ 12 (q)∧Below w.heap.size w W) (by kernel_rfl) ⟨hEw2.drew,hQw2.drew,hBw2.drew⟩ (fun hH'=> ?_)
  clear hEw2 hQw2 hBw2
  generalize World.drew w2=ad at*
  refine tk 0 (.agg (arL 432 (pkF (ek f) sb)).toArray) rfl (yieldsIf_load_mid (by rfl) _ _ rfl w.heap.size (0) rfl (arL 432 (pkF (ek f) sb)) _ (fun W hSw=>hSw.1.range) HS.out HW.out (sizeK _)) ?_
  simp only [Act.put,nrm]
  refine tk 1 (.agg (arL 12 (q)).toArray) rfl (yieldsIf_load_mid (by rfl) _ _ rfl gQ (0) rfl (arL 12 (q)) _ (fun W hSw=>hSw.2.1.range) Tryz.arr12 rfl (size12 _)) ?_
  simp only [Act.put,nrm]
  refine tw 2 ?va1 rfl ?hya1 ?resta1
  case hya1=>
   intro W hSw
   go_simp
   try with_reducible rfl
  simp only [Act.put,nrm]
  refine tw 3 ?va2 rfl ?hya2 ?resta2
  case hya2=>
   intro W hSw
   go_simp
   try with_reducible rfl
  simp only [Act.put,nrm]
  refine tw 4 ?va3 rfl ?hya3 ?resta3
  case hya3=>
   intro W hSw
   go_simp
   try with_reducible rfl
  simp only [Act.put,nrm]
  refine tw 5 ?va4 rfl ?hya4 ?resta4
  case hya4=>
   intro W hSw
   obtain⟨m1,m2,m3,m4,m5,m6⟩:=HMF.out
   go_simp
   try with_reducible rfl
  simp only [Act.put,nrm]
  refine tw 6 ?va5 rfl ?hya5 ?resta5
  case hya5=>
   intro W hSw
   have hsl:=HSLI.out W
   go_simp
   try with_reducible rfl
  simp only [Act.put,nrm]
  refine rd 7 rfl (fun K hK=> ?_)
  go_simp
  refine(rdecrypt f q s a A M c (l.take M) _ HFB.out HQB.out HS0.out HA0.out (sl_take2 ((HSS.out.below (hH'.2.2)).more (hH'.2.2).size) HMF.out.2.2.2.2.1) (Nat.le_trans HMF.out.2.2.2.2.1 HNC.out) (Nat.le_trans HMF.out.2.2.2.2.1 HN.out)).mono ?_
  rintro e a6 ⟨A2,c2,rfl,hO8,hq⟩
  have HFR:=Lib.hid (own_fresh hO8 (hH'.2.2).size)
  have hp0:=Sl.of_own hO8
  have HPC:=Lib.hid (own_capS hO8)
  obtain⟨gp,hgp⟩: ∃g,a6.heap.size-1=g:=⟨_,rfl⟩
  have hpa6:Sy a6 gp A2 M (dtL f s a (l.take M)):=by rw [←hgp];exact Sy.new hp0 (Nat.lt_of_lt_of_le (Nat.zero_lt_of_lt (hH'.1.lt (by omega))) hq.size)
  clear hp0 hO8 hgp
  go_wp2_with fail
  refine hK.out _ _ ⟨hH'.1.t hq,hH'.2.1.t hq,Tq hH'.2.2 hq⟩ ?_
  clear hK K hH' hq
  intro hH'
  try simp only [Act.put,nrm]
  refine tw 8 ?va7 rfl ?hya7 ?resta7
  case hya7=>
   intro W hSw
   go_simp
   try with_reducible rfl
  simp only [Act.put,nrm]
  refine wpAnyH_done (by kernel_rfl) ?_ _
  have hEz1:=hH'.1
  have hQz1:=hH'.2.1
  have hBz1:=hH'.2.2
  have hpz1:=hpa6
  clear hH' hpa6
  refine NoPanic.normal ?_
  try dsimp only [Act.put]
  clear i1
  obtain⟨PL9,hP9⟩: ∃u,dtL f s a (l.take M)=u:=⟨_,rfl⟩
  rw [hP9]at hpz1
  have HP9:=Lib.hid hP9
  clear hP9
  go_wp2_with (first|(refine wpList_load_mid rfl _ _ rfl w.heap.size 0 rfl (arL 432 (pkF (ek f) sb)) _ hEz1.range HS.out HW.out (sizeK _) ?_)|(refine wpList_load_ar rfl _ _ rfl _ _ _ rfl hQz1 Tryz.arr12 (size12 _) ?_))
  refine(rseal f q s a D m cd d A2 M c2 PL9 _ HFB.out HQB.out HS0.out HA0.out ((HDD.out.below hBz1).more hBz1.size) HMC.out HM.out hpz1.sl HPC.out (Nat.le_trans HMF.out.2.2.2.2.1 HN.out)).mono ?_
  rintro e x1 ⟨A3,c3,rfl,hO9,hq⟩
  have hu0:=Sl.of_own hO9
  clear hO9
  have hEx1:=hEz1.t hq
  have hQx1:=hQz1.t hq
  have hpx1:=hpz1.to hq
  have hBx1:=Tq hBz1 hq
  clear hq hEz1 hQz1 hpz1 hBz1
  obtain⟨U,hU⟩: ∃U,seL f s a PL9 (tgF f s (csF PL9) (ofF s a M) d)=U:=⟨_,rfl⟩
  rw [hU]at hu0
  have HU:=Lib.hid hU
  clear hU
  go_wp2_with fail
  refine(same A3 A (M+16) n c3 c U l _ hu0 ((HSS.out.below hBx1).more hBx1.size) (by have:=HN.out;have:=HMF.out.2.2.2.2.2;omega) (by have:=HN.out;omega)).mono ?_
  rintro e x2 ⟨rfl,hdr⟩
  have hq:=hdr.below x1.heap.size
  clear hdr
  have hEx2:=hEx1.t hq
  have hQx2:=hQx1.t hq
  have hpx2:=hpx1.to hq
  have hBx2:=Tq hBx1 hq
  clear hq hEx1 hQx1 hpx1 hBx1
  clear hu0
  by_cases hUl:U=l
  ·have hd:decide (U=l)=true:=by simp [hUl]
   rw [hd]
   have HT:=Lib.hid (show liB 16 (otF f s a d l M)=l.drop M from Classical.byContradiction fun ht=>se_op_no HFB.out HSL.out HAB.out HLEN.out HM0.out H16.out ht (by show seL f s a (dtL f s a (l.take M)) (tgF f s (csF (dtL f s a (l.take M))) (ofF s a M) d)=l;rw [HP9.out,HU.out];exact hUl))
   have HC1:=Lib.hid (opC_ok HLEN.out HM0.out H16.out HT.out)
   have HP1:=Lib.hid (HPL.out.symm.trans ((opL_ok HLEN.out HM0.out HC1.out).trans HP9.out))
   have HC2:=Lib.hid (HC.out.symm.trans HC1.out)
   have HL9:=Lib.hid (show PL9.length=M by rw [←HP9.out,dtL_len,List.length_take,HLEN.out];have:=HMF.out.2.2.2.2.1;omega)
   clear hd hUl
   go_wp2_with fail
   go_ret2
   exact⟨A2,c2,by rw [HC2.out,HP1.out,HL9.out];rfl,by rw [HP1.out,HL9.out];exact hpx2.sl,by rw [HP1.out,HL9.out];exact HPC.out,hBx2,HFR.out⟩
  ·have hd:decide (U=l)=false:=by simp [hUl]
   rw [hd]
   have HT:=Lib.hid (show liB 16 (otF f s a d l M)≠l.drop M from fun ht=>hUl (by have h9:=se_op_ok (d:=d) HFB.out HSL.out HAB.out HLEN.out HM0.out H16.out ht;rw [←HU.out,←HP9.out];exact h9))
   have HC1:=Lib.hid (opC_no HLEN.out HM0.out H16.out HT.out)
   have HC2:=Lib.hid (HC.out.symm.trans HC1.out)
   have HP1:=Lib.hid (HPL.out.symm.trans (opL_no (by rw [HC1.out];decide)))
   clear hd hUl
   go_wp2_with fail
   go_ret2
   exact⟨none,0,by rw [HC2.out,HP1.out];rfl,by rw [HP1.out];exact sl_nil _ _,by rw [HP1.out];exact Nat.le_refl _,hBx2,fun _ h=>by cases h⟩
theorem ropen (f q s a:Nat→Nat) (D:Option Addr) (m cd:Nat) (d:List UInt8) (A:Option Addr) (n c:Nat) (l PL:List UInt8) (C:Nat) (w:World) (hf:B16 f) (hq0:B12 q) (hs:enF f zF=s) (ha:o0F (enF f (nbF q)) (q 11)=a) (hD:Sl w w.heap.size D m d) (hmc:m≤cd) (hm:m≤1000000) (hS:Sl w w.heap.size A n l) (hnc:n≤c) (hn:n≤1000000) (hC:opC f s a d l=C) (hPL:opL f s a d l=PL):
  Calls Tryz.prog 41 #[.agg (arL 432 (pkF (ek f) sb)).toArray,.agg (arL 12 q).toArray,.slice D m cd,.slice A n c] w fun e w'=> ∃(A2:Option Addr) (c2:Nat),e= .returned (.tuple #[.slice A2 PL.length c2,.int .i64 (C:Int)])∧Sl w' w'.heap.size A2 PL.length PL∧PL.length≤c2∧Below w.heap.size w w':=by
 refine(ropenF f q s a D m cd d A n c l PL C w hf hq0 hs ha hD hmc hm hS hnc hn hC hPL).mono ?_
 rintro e w' ⟨A2,c2,h1,h2,h3,h4,_⟩
 exact⟨A2,c2,h1,h2,h3,h4⟩
end Go.Proofs.YtiacbphnclgikaaGreatDoor
