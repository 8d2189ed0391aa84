/-
 Contract of Crypt of package seal, by a walk through its text: the ciphertext, in a slice of its own, the checksum and the offset; over a made Table of a key; what was there stays as it was.
-/
import Derived.Test.YtiacbphnclgikaaGreatDoorSqz
import Derived.Test.YtiacbphnclgikaaGreatDoorSep
import Derived.Test.YtiacbphnclgikaaGreatDoorGha
import Derived.Test.YtiacbphnclgikaaGreatDoorGtb
import Derived.Deep.RegionHeld3
import Derived.Laws.EntriesVeiled
namespace Go.Proofs.YtiacbphnclgikaaGreatDoor
open Go.RowKit
set_option linter.unusedVariables false
set_option maxRecDepth 100000
set_option linter.unusedSimpArgs false
open Go.Shelf
attribute [local go_sem] Oper.semAt_some
theorem pfacts {n N o r:Nat} (hn:n≤1000000) (hN:n/16=N) (ho:16*N=o) (hr:n-o=r):n%16=r∧r<16∧o+r=n∧o≤n∧N≤62500:=by omega
theorem ct_tail {f s a P:Nat→Nat} {l:List UInt8} {n N o r:Nat} (hl:l.length=n) (hN:n/16=N) (ho:16*N=o) (hr:n-o=r) (hP:lF (padL (l.drop o) 16)=P):liB o (ctF f s a l N)++liB r (adF P (enF f (adF (atF a s N) s)))=ctL f s a l:=by
 have h1:r<16∧o+r=n:=by omega
 have h2:(l.drop o).length=r:=by rw [List.length_drop,hl];exact hr
 rw [←ct_eq (f:=f) (s:=s) (a:=a) hl hN,←h1.2,liB_snoc]
 congr 1
 refine liB_ext (fun j hj=> ?_)
 unfold ctF
 rw [if_neg (by omega),show o+j-16*N=j by omega,←hP]
 unfold adF
 rw [lF_pad (l.drop o) r j h2 h1.1 (by omega),if_neg (by omega),if_pos hj,lF_drop]
theorem results_cr {P:Program} {fn:Func} {T:Array Value} {w:World} {p q r:Tmp} {ty1 ty e:TypeId} {v:Value} {g1 g g' n m:Nat} {f f':Nat→Nat} (hr:fn.results= #[.cell p ty1,.cell q ty,.cell r ty]) (hp1:T.getD p undef= .pointer (some ⟨g1,0,none⟩)) (hp:T.getD q undef= .pointer (some ⟨g,0,none⟩)) (hq:T.getD r undef= .pointer (some ⟨g',0,none⟩))
  (h1:(loadVar ty1 ⟨g1,0,none⟩).run P w= .ok v w) (hA:Ar w g n f) (hA':Ar w g' n f') (hu:P.underlying ty=some (.array m e)) (hi:(P.info? ty).map (·.size)=some (arL n f).length) (hi':(P.info? ty).map (·.size)=some (arL n f').length):
  (results fn T).run P w= .ok (.tuple #[v,.agg (arL n f).toArray,.agg (arL n f').toArray]) w:=by
 have hp1':T[p]?.getD undef= .pointer (some ⟨g1,0,none⟩):=by simpa using hp1
 have hp':T[q]?.getD undef= .pointer (some ⟨g,0,none⟩):=by simpa using hp
 have hq':T[r]?.getD undef= .pointer (some ⟨g',0,none⟩):=by simpa using hq
 simp only [results,hr]
 simp [hp1',hp',hq',asAddr,h1,run_loadVar_mid (P:=P) w g 0 ty (arL n f) _ hA.range hu rfl hi,run_loadVar_mid (P:=P) w g' 0 ty (arL n f') _ hA'.range hu rfl hi']
set_option maxHeartbeats 8000000 in
theorem scrypt0 (p:Addr) (f s q a:Nat→Nat) (A:Option Addr) (n c:Nat) (l:List UInt8) (w:World) (hf:B16 f) (hs:enF f zF=s) (hq0:B12 q) (ha:o0F (enF f (nbF q)) (q 11)=a) (hS:Sl w w.heap.size A n l) (hnc:n≤c) (hn:n≤1000000) (ht:TabC w (.pointer (some p)) f) (hx:Boxes w):
  Calls Tryz.prog 54 #[.pointer (some p),.agg (arL 12 q).toArray,.slice A n c] w fun e w'=> ∃gW:Nat,e= .returned (.tuple #[.slice (some ⟨gW,0,none⟩) n (n+16),.agg (arL 16 (csF l)).toArray,.agg (arL 16 (ofF s a n)).toArray])∧w.heap.size≤gW∧Ro w' gW (n+16) n (ctL f s a l)∧Below w.heap.size w w':=by
 have hz:=zero16b
 have hlen:=hS.len
 have HLEN:=Lib.hid hlen
 have HFB:=Lib.hid hf
 have HQB:=Lib.hid hq0
 have HSS:=Lib.hid hS
 have HT:=Lib.hid ht
 have HX:=Lib.hid hx
 have HS0:=Lib.hid hs
 have HNC:=Lib.hid hnc
 have HN:=Lib.hid hn
 have HSL:=Lib.hid (show B16 s by rw [←hs];exact enR_lt hf zF_lt 10)
 have HAB:=Lib.hid (show B16 a by rw [←ha];exact o0F_lt (enR_lt hf (nbF_lt hq0) 10) _)
 have hst:=Lib.hid (fun V h1 h2=>ostart (.pointer (some p)) f q V hf hq0 h1 h2)
 rw [ha]at hst
 obtain⟨N,hN⟩:=Le (n/16)
 obtain⟨o,ho⟩:=Le (16*N)
 obtain⟨M,hM⟩:=Le (n+16)
 rw [hM]
 obtain⟨r,hr⟩:=Le (n-o)
 have HFA:=Lib.hid (hfacts hn hN ho)
 have HPF:=Lib.hid (pfacts hn hN ho hr)
 have HNN:=Lib.hid hN
 have HO:=Lib.hid ho
 have HR0:=Lib.hid hr
 have HM:=Lib.hid hM
 obtain⟨A9,hsl,hsl3⟩:=slice_from A n c o (by omega) hnc
 rw [hr]at hsl hsl3
 have HSLI:=Lib.hid hsl
 have HSL2:=Lib.hid hsl3
 obtain⟨i0,hi0,hz0,hz1,hz2⟩:=info_parts info8x
 have HI0:=Lib.hid hi0
 have HZ0:=Lib.hid hz0
 have HZ1:=Lib.hid hz1
 have HZ2:=Lib.hid hz2
 have hmf: ∀(fn:Fn) (first cap:Array Value) (w:World),(Instr.makeFunc fn first cap).run Tryz.prog w= .ok (.func fn first cap) w:=fun _ _ _ _=>rfl
 have HMF:=Lib.hid hmf
 clear hf hq0 hS ht hx hs ha hnc hn hN ho hM hr hsl hsl3 hi0 hz0 hz1 hz2 hmf hlen
 obtain⟨kQ,hkQ⟩:=Le ((arL 12 q).toArray)
 obtain⟨w1,hw1⟩:=Lv (w.alloc (.cells #[.pointer (some p)] 30))
 have hs1:=Zs1 hw1
 have hBw1:=Bl hw1
 have hTw1:Bv w1 w.heap.size 30 (.pointer (some p)):=by rw [hw1];exact Bv.new w _ _
 obtain⟨w2,hw2⟩:=Lv (w1.alloc (.cells (arL 12 q).toArray 77))
 have hs2:=Zs2 hw2 hs1
 have hBw2:=Bm hw2 hBw1
 have hTw2:=hTw1.alloc (.cells (arL 12 q).toArray 77)
 rw [←hw2]at hTw2
 have hQw2:Ar w2 (w.heap.size+1) 12 q:=by rw [hw2,←hs1];exact Ar.new w1 12 _ _
 clear hTw1 hBw1
 obtain⟨w3,hw3⟩:=Lv (w2.alloc (.cells #[.slice none 0 0] 25))
 have hs3:=Zs3 hw3 hs2
 have hBw3:=Bm hw3 hBw2
 have hTw3:=hTw2.alloc (.cells #[.slice none 0 0] 25)
 rw [←hw3]at hTw3
 have hQw3:=hQw2.alloc (by omega) (.cells #[.slice none 0 0] 25)
 rw [←hw3]at hQw3
 have hOw3:Bv w3 (w.heap.size+2) 25 (.slice none 0 0):=by rw [hw3,←hs2];exact Bv.new w2 _ _
 clear hTw2 hQw2 hBw2
 obtain⟨w4,hw4⟩:=Lv (w3.alloc (.cells (arL 16 fun _=>0).toArray 22))
 have hs4:=Zs4 hw4 hs3
 have hBw4:=Bm hw4 hBw3
 have hTw4:=hTw3.alloc (.cells (arL 16 fun _=>0).toArray 22)
 rw [←hw4]at hTw4
 have hQw4:=hQw3.alloc (by omega) (.cells (arL 16 fun _=>0).toArray 22)
 rw [←hw4]at hQw4
 have hOw4:=hOw3.alloc (.cells (arL 16 fun _=>0).toArray 22)
 rw [←hw4]at hOw4
 have hKw4:Ar w4 (w.heap.size+3) 16 (fun _=>0):=by rw [hw4,←hs3];exact Ar.new w3 16 _ _
 clear hTw3 hQw3 hOw3 hBw3
 obtain⟨w5,hw5⟩:=Lv (w4.alloc (.cells (arL 16 fun _=>0).toArray 22))
 have hs5:=Zs5 hw5 hs4
 have hBw5:=Bm hw5 hBw4
 have hTw5:=hTw4.alloc (.cells (arL 16 fun _=>0).toArray 22)
 rw [←hw5]at hTw5
 have hQw5:=hQw4.alloc (by omega) (.cells (arL 16 fun _=>0).toArray 22)
 rw [←hw5]at hQw5
 have hOw5:=hOw4.alloc (.cells (arL 16 fun _=>0).toArray 22)
 rw [←hw5]at hOw5
 have hKw5:=hKw4.alloc (by omega) (.cells (arL 16 fun _=>0).toArray 22)
 rw [←hw5]at hKw5
 have hLw5:Ar w5 (w.heap.size+4) 16 (fun _=>0):=by rw [hw5,←hs4];exact Ar.new w4 16 _ _
 clear hTw4 hQw4 hOw4 hKw4 hBw4
 rw [hkQ]at hw2
 rw [hkQ]
 clear hkQ
 refine(callsIn_wide (n:=5)).1 ?_
 refine callsIn_of_wp_marks Tryz.func54 rfl trivial ?_ rfl
 simp only [Tryz.ntmps54,List.size_toArray,List.length_cons,List.length_nil,Nat.reduceAdd,Nat.reduceSub,Array.replicate_succ,Array.replicate_zero,List.push_toArray,List.append_toArray,List.nil_append,List.cons_append]
 refine wpIn_wide.2 ?_
 go_upto_region 1 with fail
 rw [←hw1,←hw2,←hw3,←hw4,←hw5]
 clear hw1 hw2 hw3 hw4 hw5
 try simp only [Nat.add_assoc,Nat.reduceAdd]
 obtain⟨gQ,hgQ⟩:=Le (w.heap.size+1)
 rw [hgQ]at hQw5
 obtain⟨gO,hgO⟩:=Le (w.heap.size+2)
 rw [hgO]at hOw5
 obtain⟨gK,hgK⟩:=Le (w.heap.size+3)
 rw [hgK]at hKw5
 obtain⟨gL,hgL⟩:=Le (w.heap.size+4)
 rw [hgL]at hLw5
 try rw [hgL]
 try rw [hgK]
 try rw [hgO]
 try rw [hgQ]
 have lQ:w.heap.size<gQ:=by omega
 have lO:gQ<gO:=by omega
 have lK:gO<gK:=by omega
 have lL:gK<gL:=by omega
 have l5:gL<w5.heap.size:=by omega
 clear hs1 hs2 hs3 hs4 hs5 hgQ hgO hgK hgL
 have c0:=hTw5.cell
 have f0:=hTw5.frozen
 go_wp2_with fail
 refine(smade p w5).mono ?_
 rintro e v9 ⟨rfl,hv9⟩
 rw [hv9]
 clear hv9
 go_upto_region 2 with fail
 clear c0 f0
 have hTz1:=hTw5.set (.pointer (some p))
 have hQz1:=hQw5.far (p:=⟨w.heap.size,0,none⟩) (show w.heap.size≠gQ by omega) (.pointer (some p))
 have hOz1:=hOw5.far (p:=⟨w.heap.size,0,none⟩) (show w.heap.size≠gO by omega) (.pointer (some p))
 have hKz1:=hKw5.far (p:=⟨w.heap.size,0,none⟩) (show w.heap.size≠gK by omega) (.pointer (some p))
 have hLz1:=hLw5.far (p:=⟨w.heap.size,0,none⟩) (show w.heap.size≠gL by omega) (.pointer (some p))
 have hBz1:=hBw5.setCell (p:=⟨w.heap.size,0,none⟩) (show w.heap.size≤w.heap.size by omega) (.pointer (some p))
 generalize World.setCell w5 ⟨w.heap.size,0,none⟩ (.pointer (some p))=z1 at*
 clear hBw5 hTw5 hQw5 hOw5 hKw5 hLw5
 try dsimp only [Act.put]
 obtain⟨v7,hmk,hown,hg7⟩:=run_make_own (P:=Tryz.prog) z1 z1.heap.size 25 5 i0 _ 1 Tryz.underlying25 HI0.out HZ0.out HZ1.out .i64 .i64 M (by rw [HZ2.out];have:=HM.out;have:=HN.out;omega) (by unfold maxLen;have:=HM.out;have:=HN.out;omega) (Nat.le_refl _)
 have hq:Below z1.heap.size z1 v7:=(Below.refl _ _).grown hg7 (Nat.le_refl _) (fun k e=>by cases e)
 obtain⟨gW,hgW⟩:=Le (z1.heap.size)
 have lW:gL<gW:=by rw [←hgW];exact hLz1.lt (by omega)
 rw [hgW]at hmk hown
 have hTv7:=hTz1.to hq
 have hQv7:=hQz1.t hq
 have hOv7:=hOz1.to hq
 have hKv7:=hKz1.t hq
 have hLv7:=hLz1.t hq
 have hBv7:=Tq hBz1 hq
 have hRv7:Ro v7 gW M 0 []:=hown
 clear hq hg7 hown hgW hBz1 hTz1 hQz1 hOz1 hKz1 hLz1
 have c0:=hOv7.cell
 have f0:=hOv7.frozen
 have h6:=HN.out
 have hM0:=HM.out
 go_wp2_with fail
 refine(ssizeM n M z1 h6 hM0).mono ?_
 rintro e v9 ⟨rfl,hv9⟩
 rw [hv9]
 clear hv9
 clear h6 hM0
 go_upto_region 3 with fail
 clear c0 f0 hmk
 have hOz2:=hOv7.set (.slice (some ⟨gW,0,none⟩) 0 M)
 have hTz2:=hTv7.far (p:=⟨gO,0,none⟩) (show gO≠w.heap.size by omega) (.slice (some ⟨gW,0,none⟩) 0 M)
 have hQz2:=hQv7.far (p:=⟨gO,0,none⟩) (show gO≠gQ by omega) (.slice (some ⟨gW,0,none⟩) 0 M)
 have hKz2:=hKv7.far (p:=⟨gO,0,none⟩) (show gO≠gK by omega) (.slice (some ⟨gW,0,none⟩) 0 M)
 have hLz2:=hLv7.far (p:=⟨gO,0,none⟩) (show gO≠gL by omega) (.slice (some ⟨gW,0,none⟩) 0 M)
 have hRz2:=hRv7.far (p:=⟨gO,0,none⟩) (show gO≠gW by omega) (.slice (some ⟨gW,0,none⟩) 0 M)
 have hBz2:=hBv7.setCell (p:=⟨gO,0,none⟩) (show w.heap.size≤gO by omega) (.slice (some ⟨gW,0,none⟩) 0 M)
 generalize World.setCell v7 ⟨gO,0,none⟩ (.slice (some ⟨gW,0,none⟩) 0 M)=z2 at*
 clear hBv7 hTv7 hQv7 hOv7 hKv7 hLv7 hRv7
 try dsimp only [Act.put]
 obtain⟨v8,hv8⟩:=Lv (z2.alloc (.cells #[.func (.func 76) #[] #[.pointer (some ⟨gO,0,none⟩)]] 125))
 have hq:=Bl hv8
 have hAv8:Bv v8 z2.heap.size 125 (.func (.func 76) #[] #[.pointer (some ⟨gO,0,none⟩)]):=by rw [hv8];exact Bv.new _ _ _
 have lA:gW<z2.heap.size:=hRz2.lt
 have hTv8:=hTz2.to hq
 have hQv8:=hQz2.t hq
 have hOv8:=hOz2.to hq
 have hKv8:=hKz2.t hq
 have hLv8:=hLz2.t hq
 have hRv8:=hRz2.to hq
 have hBv8:=Tq hBz2 hq
 clear hq hBz2 hTz2 hQz2 hOz2 hKz2 hLz2 hRz2
 have hmf:=HMF.out
 go_upto_region 4 with fail
 rw [←hv8]
 clear hmf hv8
 obtain⟨gA,hgA⟩:=Le (z2.heap.size)
 rw [hgA]at hAv8 lA
 try rw [hgA]
 clear hgA
 have c0:=hTv8.cell
 go_wp2_with (refine wpList_load_ar rfl _ _ rfl _ _ _ rfl hQv8 Tryz.arr12 (size12 _) ?_)
 refine(hst.out _ (HT.out.to hBv8) (HX.out.keep hBv8)).mono ?_
 rintro e x3 ⟨rfl,hq⟩
 have hTx3:=hTv8.to hq
 have hQx3:=hQv8.t hq
 have hOx3:=hOv8.to hq
 have hKx3:=hKv8.t hq
 have hLx3:=hLv8.t hq
 have hRx3:=hRv8.to hq
 have hAx3:=hAv8.to hq
 have hBx3:=Tq hBv8 hq
 clear hq hTv8 hQv8 hOv8 hKv8 hLv8 hRv8 hAv8 hBv8
 clear c0
 go_upto_region 5 with (first|(refine wpList_store_arE rfl _ _ _ rfl _ _ _ a rfl rfl hLx3 (size16b _) ?_;intro z4 he3 hLz4;have HE3:=Lib.hid he3;clear he3)|fail)
 have he3:=HE3.out
 have hTz4:Bv z4 w.heap.size 30 (.pointer (some p)):=by rw [he3];exact hTx3.apart (b:=gL) (by omega) _ 0
 have hQz4:Ar z4 gQ 12 (q):=by rw [he3];exact hQx3.apart (b:=gL) (by omega) _ 0
 have hOz4:Bv z4 gO 25 (.slice (some ⟨gW,0,none⟩) 0 M):=by rw [he3];exact hOx3.apart (b:=gL) (by omega) _ 0
 have hKz4:Ar z4 gK 16 (fun _=>0):=by rw [he3];exact hKx3.apart (b:=gL) (by omega) _ 0
 have hRz4:Ro z4 gW (M) (0) ([]):=by rw [he3];exact hRx3.apart (b:=gL) (by omega) _ 0
 have hAz4:Bv z4 gA 125 (.func (.func 76) #[] #[.pointer (some ⟨gO,0,none⟩)]):=by rw [he3];exact hAx3.apart (b:=gL) (by omega) _ 0
 have hBz4:Below w.heap.size w z4:=by rw [he3];exact hBx3.trans ((below_setCells _ gL _ 0).mono (by omega))
 clear he3 HE3 hBx3 hTx3 hQx3 hOx3 hKx3 hLx3 hRx3 hAx3
 go_wp2_with fail
 refine(ball A n c l _ ((HSS.out.below hBz4).more hBz4.size) HN.out).mono ?_
 rintro e x5 ⟨gC,Bs,rfl,la,lb,lc,hcB,hAl,hq⟩
 have hlC:gA<gC:=Nat.lt_of_lt_of_le hAz4.lt la
 have hcs:z4.heap.size≤gC:=la
 have hTx5:=hTz4.to hq
 have hQx5:=hQz4.t hq
 have hOx5:=hOz4.to hq
 have hKx5:=hKz4.t hq
 have hLx5:=hLz4.t hq
 have hRx5:=hRz4.to hq
 have hAx5:=hAz4.to hq
 have hBx5:=Tq hBz4 hq
 clear hq hTz4 hQz4 hOz4 hKz4 hLz4 hRz4 hAz4 hBz4
 clear la hcs
 clear hQx5
 go_wp2_with fail
 have l3':w.heap.size≤x5.heap.size:=hBx5.size
 have HLC:=Lib.hid lc
 have HLB:=Lib.hid lb
 clear lb lc
 refine(wpIn_wide (n:=5)).1 ?_
 refine wpIn_rangeFunc_ownH (F:=Fence.wide) (n:=5) rfl (by omega) (gf:=138) (lb:= #[.pointer (some ⟨Bs,0,none⟩)]) rfl trivial (enters_of Tryz.func138 (by kernel_rfl) rfl) (partsG_stops 4 (by omega) Bs x5.heap.size _ n n l HN.out (Nat.le_refl _) x5 (Nat.le_refl _) HLC.out hcB hAl) (fun h k=>h.trans k) (KpG.putObj HLC.out (fun b o k e=>by cases e;have:=HLC.out;have:=HLB.out;omega)) (Below.refl _ _) (fun _=>rfl)
  (fun pre W=>Bv W w.heap.size 30 (.pointer (some p))∧Bv W gO 25 (.slice (some ⟨gW,0,none⟩) (16*pre.length) M)∧Ro W gW M (16*pre.length) (crH f s a (pt l) pre).1∧Ar W gK 16 (crH f s a (pt l) pre).2.1∧Ar W gL 16 (crH f s a (pt l) pre).2.2∧Bv W gA 125 (.func (.func 76) #[] #[.pointer (some ⟨gO,0,none⟩)])∧Bs<W.heap.size∧Below w.heap.size w W)
  (fun _ _ _=>False)
  (fun pre X Y row h hgr hr=>⟨h.1.own hgr (fun r e=>(hr r e).2),h.2.1.own hgr (fun r e=>(hr r e).2),h.2.2.1.own hgr (fun r e=>(hr r e).2),ar_own (β:=Unit) gK 16 _ () X Y row h.2.2.2.1 hgr (fun r e=>(hr r e).2),ar_own (β:=Unit) gL 16 _ () X Y row h.2.2.2.2.1 hgr (fun r e=>(hr r e).2),h.2.2.2.2.2.1.own hgr (fun r e=>(hr r e).2),Nat.lt_of_lt_of_le h.2.2.2.2.2.2.1 hgr.size,ownFrom_below (β:=Unit) (Nat.le_refl _) l3' () X Y row h.2.2.2.2.2.2.2 hgr hr⟩)
  (fun _ _ _ _ _ hs _ _=>hs)
  ⟨hTx5,hOx5,hRx5,hKx5,hLx5,hAx5,HLC.out,hBx5⟩
  (fun x a' W=> ∃Bx,gA<Bx∧Ar W Bx 16 (pt l x)∧a'= { tmps:= #[.pointer (some p),.agg kQ,.slice A n c,.pointer (some ⟨w.heap.size,0,none⟩),.pointer (some ⟨gQ,0,none⟩),undef,.pointer (some ⟨gO,0,none⟩),.pointer (some ⟨gK,0,none⟩),.pointer (some ⟨gL,0,none⟩),.pointer (some ⟨gA,0,none⟩),.int .i64 ((x+1:Nat):Int),.pointer (some ⟨Bx,0,none⟩),undef,undef,undef,.pointer (some p),.pointer (some p),.slice A n c,.int .i64 n,.int .i64 M,.slice (some ⟨gW,0,none⟩) 0 M,.func (.func 76) #[] #[.pointer (some ⟨gO,0,none⟩)],.pointer (some p),.agg (arL 12 q).toArray,.agg (arL 16 a).toArray,.slice A n c,.func (.func 138) #[] #[.pointer (some ⟨Bs,0,none⟩)],.int .i64 ((x+1:Nat):Int),.agg (arL 16 (pt l x)).toArray,undef,undef,undef,undef,undef,undef,undef,undef,undef,undef,undef,undef,undef,undef,undef,undef,undef,undef,undef,undef,undef,undef,undef,undef,undef,undef,undef,undef,undef,undef,undef,undef,undef,undef,undef,undef,undef,undef,undef,undef,undef,undef,undef,undef,undef,undef,undef,undef,undef,undef],defers:= [] })
  (fun x a' _ X Y row h hg hr => by
   obtain⟨Bx,e1,e2,e3⟩:=h
   exact⟨Bx,e1,ar_own (β:=Unit) Bx 16 _ () X Y row e2 hg (fun r e=>(hr r e).2),e3⟩) ?assign ?body ?done ?stop
 case assign=>
  rintro l' pre x W K ⟨hT,hO,hR,hC,hL,hA,hD,hB⟩ hK
  dsimp only [ptE]
  have hlA:=hA.lt
  obtain⟨W1,hW1⟩:=Lv (W.alloc (.cells (arL 16 fun _=>0).toArray 22))
  have hT1:Ar W1 W.heap.size 16 (fun _=>0):=by rw [hW1];exact Ar.new W 16 _ _
  have hb1:=Bl hW1
  gi_wp2_with (refine wpListIn_store_ar rfl _ _ _ rfl W.heap.size 16 _ (pt l x) rfl rfl (by rw [←hW1];exact hT1) (size16b _) ?_;intro W2 hT2 hb2 hs2 he2;clear he2 hs2)
  rw [←hW1]at hb2
  have hb3:=hb1.trans hb2
  refine hK _ _ (keepsFrom_new _ hb3) ((KgB.refl hD HLB.out).to hb3).kp ⟨hT.to hb3,hO.to hb3,hR.to hb3,hC.to (by omega) hb3,hL.to (by omega) hb3,hA.to hb3,Nat.lt_of_lt_of_le hD hb3.size,hB.trans (hb3.mono hB.size)⟩ ⟨W.heap.size,hlA,hT2,rfl⟩
 case body=>
  rintro l' pre x a' W hl ⟨r9,hr9⟩ ⟨hT,hO,hR,hC,hL,hA,hD,hB⟩ ⟨Bx,hBx,hE,rfl⟩ hlt
  have HFO:=Lib.hid (crH_snoc f s a (pt l) pre x)
  obtain⟨_,hcb,hob⟩:=crH_all (f:=f) (P:=pt l) HAB.out HSL.out (fun k j _=>pt_lt l k j) pre
  have hcb:=Lib.hid hcb
  have hob:=Lib.hid hob
  obtain⟨u,hu⟩: ∃u,(crH f s a (pt l) pre).1=u:=⟨_,rfl⟩
  obtain⟨k,hk⟩: ∃u,(crH f s a (pt l) pre).2.1=u:=⟨_,rfl⟩
  obtain⟨o1,ho⟩: ∃o,(crH f s a (pt l) pre).2.2=o:=⟨_,rfl⟩
  obtain⟨m,hm⟩: ∃m,16*pre.length=m:=⟨_,rfl⟩
  rw [hu,hk,ho]at HFO
  rw [hu,hm]at hR
  rw [hm]at hO
  rw [hk]at hcb hC
  rw [ho]at hob hL
  have HML:=Lib.hid (show 16*(pre++ [x]).length=m+16 by rw [List.length_append,List.length_singleton];omega)
  have HMM:=Lib.hid (show m+16≤M by have:=HM.out;omega)
  have HM6:=Lib.hid (show m≤1000000 by have:=HM.out;have:=HN.out;omega)
  have hdb:=Lib.hid (nxH_lt HSL.out x)
  have hpb:=Lib.hid (show B16 (pt l x)from fun j _=>pt_lt l x j)
  have hnx:=Lib.hid (fun V hb=>onext (.pointer (some p)) f o1 ((x+1)%18446744073709551616) V HFB.out hob.out (Nat.mod_lt _ (by decide)) (HT.out.to hb))
  rw [HS0.out]at hnx
  have hnx2:Hid (∀V,Below w.heap.size w V→Calls Tryz.prog 80 #[.pointer (some p),.agg (arL 16 o1).toArray,.int .u64 ((x+1)%18446744073709551616:Nat)] V fun e V'=>e= .returned (.agg (arL 16 (adF o1 (nxH s x))).toArray)∧Below V.heap.size V V'):=hnx
  clear hnx
  have hm1:=wrap_u_any (x+1)
  obtain⟨y,hy⟩:=Le (x+1)
  rw [hy]at hnx2 hm1⊢
  obtain⟨m2,hmm⟩:=Le (y%18446744073709551616)
  rw [hmm]at hnx2 hm1
  obtain⟨d,hd⟩: ∃d,nxH s x=d:=⟨_,rfl⟩
  rw [hd]at hnx2 hdb HFO
  have ho2b:=Lib.hid (adF_lt hob.out hdb.out)
  obtain⟨o2,ho2⟩: ∃o2,adF o1 d=o2:=⟨_,rfl⟩
  rw [ho2]at hnx2 ho2b HFO
  obtain⟨P,hP⟩: ∃P,pt l x=P:=⟨_,rfl⟩
  rw [hP]at hpb hE HFO⊢
  have hxb:=Lib.hid (adF_lt hpb.out ho2b.out)
  have heb:=Lib.hid (show B16 (enF f (adF P o2))from enR_lt HFB.out hxb.out 10)
  obtain⟨p2,_,hCp,hcip⟩:=HT.out
  have HCP:=Lib.hid hCp
  have HCIP:=Lib.hid hcip
  have c0:=hT.cell
  clear hu hk ho hm hy hmm hd ho2 hP hCp hcip hlt
  repeat (first|apply wpIn_block|(apply wpIn_seq_k;intro _ _))
  refine wpIn_region_plain (by kernel_rfl) ?_
  go_wp2_with (refine wpList_load_ar rfl _ _ rfl _ _ _ rfl hL Tryz.arr16x (size16x _) ?_)
  clear c0 hm1
  refine(hnx2.out _ hB).mono ?_
  rintro e W2 ⟨rfl,hq⟩
  have hTa:=hT.to hq
  have hOa:=hO.to hq
  have hRa:=hR.to hq
  have hCa:=hC.t hq
  have hLa:=hL.t hq
  have hAa:=hA.to hq
  have hEa:=hE.t hq
  have hGa:=(KgB.refl hD HLB.out).to hq
  go_wp2_with (refine wpList_store_arE rfl _ _ _ rfl _ _ _ o2 rfl rfl hLa (size16x _) ?_;intro Wv he3 hLv;have HE3:=Lib.hid he3;clear he3)
  have he3:=HE3.out
  have hTv:Bv Wv w.heap.size 30 (.pointer (some p)):=by rw [he3];exact hTa.apart (b:=gL) (by omega) _ 0
  have hOv:Bv Wv gO 25 (.slice (some ⟨gW,0,none⟩) m M):=by rw [he3];exact hOa.apart (b:=gL) (by omega) _ 0
  have hRv:Ro Wv gW M m u:=by rw [he3];exact hRa.apart (b:=gL) (by omega) _ 0
  have hCv:Ar Wv gK 16 k:=by rw [he3];exact hCa.apart (b:=gL) (by omega) _ 0
  have hAv:Bv Wv gA 125 (.func (.func 76) #[] #[.pointer (some ⟨gO,0,none⟩)]):=by rw [he3];exact hAa.apart (b:=gL) (by omega) _ 0
  have hEv:Ar Wv Bx 16 P:=by rw [he3];exact hEa.apart (b:=gL) (by omega) _ 0
  have hGv:KgB gC Bs W Wv:=by rw [he3];exact hGa.put (b:=gL) (by omega) _ 0
  have hKv:KeepsFrom x5.heap.size W Wv:=by rw [he3];exact(keepsFrom_new _ hq).trans ((keepsOthers_setCells _ _ _ _).from _)
  have hBv:Below w.heap.size w Wv:=by rw [he3];exact(Tq hB hq).trans ((below_setCells _ gL _ 0).mono (by omega))
  clear hT hO hR hC hL hA hE hTa hOa hRa hCa hLa hAa hEa hGa he3 HE3 hq hnx2 hob hdb hB hD
  try dsimp only [Act.put]
  refine onlyN_normal ?_
  gi_wp2_with fail
  have hOd:=hOv.drew
  have hRd:=hRv.drew
  refine wpIn_region_calm (S:=fun W'=>Bv W' w.heap.size 30 (.pointer (some p))∧Bv W' gA 125 (.func (.func 76) #[] #[.pointer (some ⟨gO,0,none⟩)])∧Ar W' Bx 16 (P)∧Ar W' gL 16 (o2)∧Ar W' gK 16 (k)∧KeepsFrom x5.heap.size W W'∧KgB gC Bs W W'∧Below w.heap.size w W') (by kernel_rfl) (by kernel_rfl) ⟨hTv.drew,hAv.drew,hEv.drew,hLv.drew,hCv.drew,hKv.trans ((KeepsOthers.drew _).from _),hGv.drew,hBv.drew⟩ (fun hH'=> ?_)
  clear hTv hAv hEv hLv hCv hKv hGv hBv hOv hRv
  generalize World.drew Wv=bd at*
  have hObd:=hOd
  have hRbd:=hRd
  clear hOd hRd
  refine tw 0 ?vb1 rfl ?hyb1 ?restb1
  case hyb1=>
   intro W hSw
   have c0:=(hSw.2.1).cell
   go_simp
   try with_reducible rfl
  simp only [Act.put,nrm]
  refine tk 1 (.agg (arL 16 (o2)).toArray) rfl (yieldsIf_load_mid (by rfl) _ _ rfl gL (0) rfl (arL 16 (o2)) _ (fun W hSw=>hSw.2.2.2.1.range) Tryz.arr16x rfl (size16x _)) ?_
  simp only [Act.put,nrm]
  refine tw 2 ?vb2 rfl ?hyb2 ?restb2
  case hyb2=>
   intro W hSw
   have c0:=(hSw.1).cell
   go_simp
   try with_reducible rfl
  simp only [Act.put,nrm]
  refine tk 4 (.agg (arL 16 (P)).toArray) rfl (yieldsIf_load_mid (by rfl) _ _ rfl Bx (0) rfl (arL 16 (P)) _ (fun W hSw=>hSw.2.2.1.range) Tryz.arr16x rfl (size16x _)) ?_
  simp only [Act.put,nrm]
  refine tk 5 (.agg (arL 16 (o2)).toArray) rfl (yieldsIf_load_mid (by rfl) _ _ rfl gL (0) rfl (arL 16 (o2)) _ (fun W hSw=>hSw.2.2.2.1.range) Tryz.arr16x rfl (size16x _)) ?_
  simp only [Act.put,nrm]
  refine rd 3 rfl (fun K hK=> ?_)
  go_simp
  refine(HCIP.out _ (hH'.2.2.2.2.2.2.2)).mono ?_
  rintro e b3 ⟨rfl,hq⟩
  go_wp2_with fail
  have hOb3:=hObd.to hq
  have hRb3:=hRbd.to hq
  refine hK.out _ _ ⟨hH'.1.to hq,hH'.2.1.to hq,hH'.2.2.1.t hq,hH'.2.2.2.1.t hq,hH'.2.2.2.2.1.t hq,(hH'.2.2.2.2.2.1).trans (keepsFrom_new _ hq),hH'.2.2.2.2.2.2.1.to hq,Tq hH'.2.2.2.2.2.2.2 hq⟩ ?_
  clear hK K hH' hq hObd hRbd
  intro hH'
  try simp only [Act.put,nrm]
  refine rd 6 rfl (fun K hK=> ?_)
  go_simp
  refine(bxor P o2 _ hpb.out ho2b.out).mono ?_
  rintro e b4 ⟨rfl,hq⟩
  go_wp2_with fail
  have hOb4:=hOb3.to hq
  have hRb4:=hRb3.to hq
  refine hK.out _ _ ⟨hH'.1.to hq,hH'.2.1.to hq,hH'.2.2.1.t hq,hH'.2.2.2.1.t hq,hH'.2.2.2.2.1.t hq,(hH'.2.2.2.2.2.1).trans (keepsFrom_new _ hq),hH'.2.2.2.2.2.2.1.to hq,Tq hH'.2.2.2.2.2.2.2 hq⟩ ?_
  clear hK K hH' hq hOb3 hRb3
  intro hH'
  try simp only [Act.put,nrm]
  refine rd 7 rfl (fun K hK=> ?_)
  go_simp
  refine(fencrypt (.pointer p2) f (adF P o2) _ HFB.out hxb.out (HCP.out.to (hH'.2.2.2.2.2.2.2)) (HX.out.keep (hH'.2.2.2.2.2.2.2))).mono ?_
  rintro e b5 ⟨rfl,hq⟩
  go_wp2_with fail
  have hOb5:=hOb4.to hq
  have hRb5:=hRb4.to hq
  refine hK.out _ _ ⟨hH'.1.to hq,hH'.2.1.to hq,hH'.2.2.1.t hq,hH'.2.2.2.1.t hq,hH'.2.2.2.2.1.t hq,(hH'.2.2.2.2.2.1).trans (keepsFrom_new _ hq),hH'.2.2.2.2.2.2.1.to hq,Tq hH'.2.2.2.2.2.2.2 hq⟩ ?_
  clear hK K hH' hq hOb4 hRb4
  intro hH'
  try simp only [Act.put,nrm]
  refine rd 8 rfl (fun K hK=> ?_)
  go_simp
  refine(sadd gO gW M m 16 o2 (enF f (adF P o2)) u _ ho2b.out heb.out (Nat.le_refl _) HMM.out HM6.out (show gO≠gW by omega) hOb5 hRb5).mono ?_
  rintro e b6 ⟨⟨v9,rfl⟩,hOb6,hRb6,hAd⟩
  go_wp2_with fail
  refine hK.out _ _ ⟨(hH'.1).add hAd (by omega) (by omega),(hH'.2.1).add hAd (by omega) (by omega),ar_add (hH'.2.2.1) (by omega) hAd (by omega) (by omega),ar_add (hH'.2.2.2.1) (by omega) hAd (by omega) (by omega),ar_add (hH'.2.2.2.2.1) (by omega) hAd (by omega) (by omega),(hH'.2.2.2.2.2.1).trans (hAd.keepsFrom _),(hH'.2.2.2.2.2.2.1).add hAd (by omega) (by omega),(hH'.2.2.2.2.2.2.2).trans (hAd.below (hH'.2.2.2.2.2.2.2).size (by omega) (by omega))⟩ ?_
  clear hK K hH' hAd hOb5 hRb5
  intro hH'
  try simp only [Act.put]
  refine wpAnyH_done (by kernel_rfl) ?_ _
  have hO8:=hOb6
  have hR8:=hRb6
  obtain⟨hT8,hA8,hE8,hL8,hC8,hK8,hG8,hB8⟩:=hH'
  clear hOb6 hRb6
  refine onlyN_normal ?_
  gi_step
  gi_step
  repeat (first|apply wpIn_block|(apply wpIn_seq_k;intro _ _))
  refine wpIn_region_plain (by kernel_rfl) ?_
  go_wp2_with (first|(refine wpList_load_ar rfl _ _ rfl _ _ _ rfl hC8 Tryz.arr16x (size16x _) ?_)|(refine wpList_load_ar rfl _ _ rfl _ _ _ rfl hE8 Tryz.arr16x (size16x _) ?_))
  refine(bxor k P _ hcb.out hpb.out).mono ?_
  rintro e W5 ⟨rfl,hq⟩
  have hT9:=hT8.to hq
  have hA9:=hA8.to hq
  have hL9:=hL8.t hq
  have hC9:=hC8.t hq
  have hO9:=hO8.to hq
  have hR9:=hR8.to hq
  have hG9:=hG8.to hq
  go_wp2_with (refine wpList_store_arE rfl _ _ _ rfl _ _ _ (adF k P) rfl rfl hC9 (size16x _) ?_;intro W6 he3 hC6;have HE3:=Lib.hid he3;clear he3)
  have he3:=HE3.out
  have hT6:Bv W6 w.heap.size 30 (.pointer (some p)):=by rw [he3];exact hT9.apart (b:=gK) (by omega) _ 0
  have hO6:Bv W6 gO 25 (.slice (some ⟨gW,0,none⟩) (m+16) M):=by rw [he3];exact hO9.apart (b:=gK) (by omega) _ 0
  have hR6:Ro W6 gW M (m+16) (u++liB 16 (adF o2 (enF f (adF P o2)))):=by rw [he3];exact hR9.apart (b:=gK) (by omega) _ 0
  have hA6:Bv W6 gA 125 (.func (.func 76) #[] #[.pointer (some ⟨gO,0,none⟩)]):=by rw [he3];exact hA9.apart (b:=gK) (by omega) _ 0
  have hL6:Ar W6 gL 16 o2:=by rw [he3];exact hL9.apart (b:=gK) (by omega) _ 0
  have hG6:KgB gC Bs W W6:=by rw [he3];exact hG9.put (b:=gK) (by omega) _ 0
  have hK6:KeepsFrom x5.heap.size W W6:=by rw [he3];exact(hK8.trans (keepsFrom_new _ hq)).trans ((keepsOthers_setCells _ _ _ _).from _)
  have hB6:Below w.heap.size w W6:=by rw [he3];exact(Tq hB8 hq).trans ((below_setCells _ gK _ 0).mono (by omega))
  clear hT8 hA8 hE8 hL8 hC8 hK8 hG8 hB8 hO8 hR8 hT9 hA9 hL9 hC9 hO9 hR9 hG9 he3 HE3 hq
  try dsimp only [Act.put]
  refine onlyN_normal ?_
  gi_wp2_with fail
  exact⟨hK6,hG6.kp,hT6,by rw [HML.out];exact hO6,by rw [HML.out,HFO.out];exact hR6,by rw [HFO.out];exact hC6,by rw [HFO.out];exact hL6,hA6,hG6.lt,hB6⟩
 case done=>
  rintro D ys W hD rfl ⟨hT,hO,hR,hC,hL,hA,hBl,hB⟩ hK
  rw [HNN.out]at hO hR hC hL
  rw [crH_range f s a l N (by have:=HPF.out;omega) N (Nat.le_refl _)]at hR hC hL
  rw [List.length_range]at hO hR
  dsimp only at hR hC hL
  rw [HO.out]at hO hR
  have hDW:Df W D:=hK
  have lDB:Bs<D:=Nat.lt_of_lt_of_le HLC.out hD
  have lBC:=HLB.out
  clear hK hD
  have hTW:=hT
  have hOW:=hO
  have hRW:=hR
  have hCW:=hC
  have hLW:=hL
  have hAW:=hA
  have hBW:=hB
  clear hT hO hR hC hL hA hB hBl
  obtain⟨j1,j2,j3,j4,j5,j6,j7⟩:=HFA.out
  have hslc:=HSLI.out
  have hpf:=HPF.out
  by_cases hr0:r=0
  ·have jr: ¬(0:Int)<(r:Int):=by omega
   have e:o=n:=by omega
   rw [e]at hOW hRW
   have HM16:=Lib.hid hpf.1
   have hr0':=Lib.hid hr0
   clear hpf hr0 e
   go_upto_region 17 with fail
   clear j1 j2 j3 j4 j5 j6 j7 hslc jr
   refine wp_region_noPanic ?_
   refine wp_region_held_drew (S:=fun W=>Bv W gO 25 (.slice (some ⟨gW,0,none⟩) n M)∧Ar W gK 16 (ckF (pt l) N)∧Ar W gL 16 (atF a s N)∧Ro W gW (M) (n) (liB n (ctF f s a l N))∧Df W D∧Below w.heap.size w W) (by kernel_rfl) ⟨hOW.drew,hCW.drew,hLW.drew,hRW.drew,hDW.drew,hBW.drew⟩ (fun hH'=> ?_)
   clear hTW hOW hRW hCW hLW hAW hDW hBW
   generalize World.drew W=ed at*
   refine tw 0 ?ve1 rfl ?hye1 ?reste1
   case hye1=>
    intro W hSw
    have cF:=(hSw.1).cell
    go_simp
    try with_reducible rfl
   simp only [Act.put,nrm]
   refine tk 1 (.agg (arL 16 (ckF (pt l) N)).toArray) rfl (yieldsIf_load_mid (by rfl) _ _ rfl gK (0) rfl (arL 16 (ckF (pt l) N)) _ (fun W hSw=>hSw.2.1.range) Tryz.arr16b rfl (size16b _)) ?_
   simp only [Act.put,nrm]
   refine tk 2 (.agg (arL 16 (atF a s N)).toArray) rfl (yieldsIf_load_mid (by rfl) _ _ rfl gL (0) rfl (arL 16 (atF a s N)) _ (fun W hSw=>hSw.2.2.1.range) Tryz.arr16b rfl (size16b _)) ?_
   simp only [Act.put,nrm]
   refine rd 3 rfl (fun K hK=> ?_)
   have cF:=(hH'.1).cell
   have fF:=(hH'.1).frozen
   go_simp
   clear cF fF
   refine hK.out _ _ ⟨(hH'.1).set (.slice (some ⟨gW,0,none⟩) n M),(hH'.2.1).far (p:=⟨gO,0,none⟩) (show gO≠gK by omega) (.slice (some ⟨gW,0,none⟩) n M),(hH'.2.2.1).far (p:=⟨gO,0,none⟩) (show gO≠gL by omega) (.slice (some ⟨gW,0,none⟩) n M),(hH'.2.2.2.1).far (p:=⟨gO,0,none⟩) (show gO≠gW by omega) (.slice (some ⟨gW,0,none⟩) n M),(hH'.2.2.2.2.1).far (p:=⟨gO,0,none⟩) (show gO≠D by omega) (.slice (some ⟨gW,0,none⟩) n M),(hH'.2.2.2.2.2).setCell (p:=⟨gO,0,none⟩) (show w.heap.size≤gO by omega) (.slice (some ⟨gW,0,none⟩) n M)⟩ ?_
   clear hK K hH'
   intro hH'
   generalize World.setCell ed ⟨gO,0,none⟩ (.slice (some ⟨gW,0,none⟩) n M)=e2 at*
   try simp only [Act.put]
   refine rd 4 rfl (fun K hK=> ?_)
   rw [if_pos (by rfl)]
   refine wp_store_mid _ _ _ rfl gK 0 (arL 16 (ckF (pt l) N)).toArray rfl rfl (hH'.2.1).there (size16b _) (all_oneCell_toArray (arL_one 16 (ckF (pt l) N))) ?_
   dsimp only [List.toList_toArray]
   refine hK.out _ _ ⟨(hH'.1).apart (b:=gK) (by omega) (arL 16 (ckF (pt l) N)) 0,(hH'.2.1).whole (ckF (pt l) N),(hH'.2.2.1).apart (b:=gK) (by omega) (arL 16 (ckF (pt l) N)) 0,(hH'.2.2.2.1).apart (b:=gK) (by omega) (arL 16 (ckF (pt l) N)) 0,(hH'.2.2.2.2.1).apart (b:=gK) (by omega) (arL 16 (ckF (pt l) N)) 0,(hH'.2.2.2.2.2).trans (Below.setCells (Below.refl w.heap.size _) (b:=gK) (by omega) (arL 16 (ckF (pt l) N)) 0)⟩ ?_
   clear hK K hH'
   intro hH'
   generalize World.setCells e2 gK 0 (arL 16 (ckF (pt l) N))=e3 at*
   try simp only [Act.put]
   refine rd 5 rfl (fun K hK=> ?_)
   rw [if_pos (by rfl)]
   refine wp_store_mid _ _ _ rfl gL 0 (arL 16 (atF a s N)).toArray rfl rfl (hH'.2.2.1).there (size16b _) (all_oneCell_toArray (arL_one 16 (atF a s N))) ?_
   dsimp only [List.toList_toArray]
   refine hK.out _ _ ⟨(hH'.1).apart (b:=gL) (by omega) (arL 16 (atF a s N)) 0,(hH'.2.1).apart (b:=gL) (by omega) (arL 16 (atF a s N)) 0,(hH'.2.2.1).whole (atF a s N),(hH'.2.2.2.1).apart (b:=gL) (by omega) (arL 16 (atF a s N)) 0,(hH'.2.2.2.2.1).apart (b:=gL) (by omega) (arL 16 (atF a s N)) 0,(hH'.2.2.2.2.2).trans (Below.setCells (Below.refl w.heap.size _) (b:=gL) (by omega) (arL 16 (atF a s N)) 0)⟩ ?_
   clear hK K hH'
   intro hH'
   generalize World.setCells e3 gL 0 (arL 16 (atF a s N))=e4 at*
   try simp only [Act.put]
   refine wpAnyH_done (by kernel_rfl) ?_ _
   refine NoPanic.normal ?_
   obtain⟨hO9,hC9,hL9,hR9,hD9,hB9⟩:=hH'
   go_wp2_with fail
   refine⟨by simp,.inl ⟨_,_,rfl,run_takeDeferred hD9,?_⟩⟩
   have hg9:=grownBy_putObj' e4 D (.deferred none)
   have hr9: ∀r,some D=some r→ ∃o:Obj,e4.heap[r]?=some o∧o.isCells=false:=fun r e=>by cases e;exact⟨_,hD9,rfl⟩
   have hA5:=ar_own (β:=Unit) gK 16 _ () _ _ _ hC9 hg9 hr9
   have hA6:=ar_own (β:=Unit) gL 16 _ () _ _ _ hL9 hg9 hr9
   have hO5:=hO9.own hg9 hr9
   have hR5:=hR9.own hg9 hr9
   exact⟨_,results_cr rfl rfl rfl rfl (load_sl _ _ _ hO5) hA5 hA6 Tryz.arr16b (size16b _) (size16b _),gW,by rw [cs_none HLEN.out HNN.out HM16.out hr0'.out,of_none HNN.out HM16.out hr0'.out],by omega,by rw [←ct_eq (f:=f) (s:=s) (a:=a) HLEN.out HNN.out];exact hR5,hB9.trans (belowK_b (w:=w) (Nat.le_refl _) e4 D _ _ (show w.heap.size≤D by omega) hD9 rfl rfl)⟩
  ·have jr:(0:Int)<(r:Int):=by omega
   have HM16:=Lib.hid hpf
   have HPAD:=Lib.hid (fun V (hb:Below w.heap.size w V)=>bpad A9 r (c-o) (l.drop o) V (HSL2.out V V.heap.size l ((HSS.out.below hb).more hb.size)) HM16.out.2.1)
   obtain⟨P,hP⟩:=Le (lF (padL (l.drop o) 16))
   have HPB:=Lib.hid (show B16 P by rw [←hP];exact fun _ _=>lF_lt _ _)
   rw [hP]at HPAD
   have HPD:=Lib.hid hP
   have hcb:=Lib.hid (show B16 (ckF (pt l) N)from ckF_lt (fun k j _=>pt_lt l k j) N)
   have hob:=Lib.hid (atF_lt HAB.out HSL.out N)
   have HCS:=Lib.hid (cs_some HLEN.out HNN.out hpf.1 hr0 HO.out hP)
   have HOF:=Lib.hid (of_some (s:=s) (a:=a) HNN.out hpf.1 hr0)
   have HCT:=Lib.hid (ct_tail (f:=f) (s:=s) (a:=a) HLEN.out HNN.out HO.out HR0.out hP)
   obtain⟨u,hu⟩: ∃u,liB o (ctF f s a l N)=u:=⟨_,rfl⟩
   obtain⟨k,hk⟩: ∃u,ckF (pt l) N=u:=⟨_,rfl⟩
   obtain⟨o1,ho1⟩: ∃u,atF a s N=u:=⟨_,rfl⟩
   rw [hu,ho1]at HCT
   rw [hk]at HCS hcb hCW
   rw [ho1]at HOF hob hLW
   rw [hu]at hRW
   obtain⟨a2,ha2⟩: ∃u,adF o1 s=u:=⟨_,rfl⟩
   have h2b:=Lib.hid (show B16 a2 by rw [←ha2];exact adF_lt hob.out HSL.out)
   rw [ha2]at HOF HCT
   have HA2:=Lib.hid ha2
   have heb:=Lib.hid (show B16 (enF f a2)from enR_lt HFB.out h2b.out 10)
   obtain⟨p2,hV,hCp,hcip⟩:=HT.out
   rw [HS0.out]at hV
   have HV:=Lib.hid hV
   have HCP:=Lib.hid hCp
   have HCIP:=Lib.hid hcip
   clear hP hu hk ho1 ha2 hV hCp hcip hpf hr0
   go_wp2_with fail
   refine(HPAD.out _ hBW).mono ?_
   rintro e x41 ⟨rfl,hq⟩
   have hTx41:=hTW.to hq
   have hOx41:=hOW.to hq
   have hRx41:=hRW.to hq
   have hCx41:=hCW.t hq
   have hLx41:=hLW.t hq
   have hAx41:=hAW.to hq
   have hDx41:=hDW.to hq
   have hBx41:=Tq hBW hq
   clear hq hTW hOW hRW hCW hLW hAW hDW hBW
   obtain⟨gp,hgp⟩:=Le (x41.heap.size)
   have hlw_heap_sizegp:w.heap.size<gp:=by rw [←hgp];exact hTx41.lt
   have hlgOgp:gO<gp:=by rw [←hgp];exact hOx41.lt
   have hlgWgp:gW<gp:=by rw [←hgp];exact hRx41.lt
   have hlgKgp:gK<gp:=by rw [←hgp];exact hCx41.lt (by omega)
   have hlgLgp:gL<gp:=by rw [←hgp];exact hLx41.lt (by omega)
   have hlgAgp:gA<gp:=by rw [←hgp];exact hAx41.lt
   have hlDgp:D<gp:=by rw [←hgp];exact hDx41.lt
   have hlwgp:w.heap.size≤gp:=by rw [←hgp];exact hBx41.size
   have hq:=Ba x41 (.cells (arL 16 fun _=>0).toArray 22)
   have hTx42a:=hTx41.to hq
   have hOx42a:=hOx41.to hq
   have hRx42a:=hRx41.to hq
   have hCx42a:=hCx41.t hq
   have hLx42a:=hLx41.t hq
   have hAx42a:=hAx41.to hq
   have hDx42a:=hDx41.to hq
   have hpx42a:=Ar.new x41 16 (fun _=>0) 22
   have hBx42a:=hBx41.alloc hBx41.size (.cells (arL 16 fun _=>0).toArray 22)
   rw [hgp]at hpx42a
   clear hq hTx41 hOx41 hRx41 hCx41 hLx41 hAx41 hDx41 hBx41
   go_upto_region 14 with (first|(refine wpList_store_ar rfl _ _ _ rfl _ _ _ (P) rfl rfl hpx42a (size16b _) ?_;intro x42 hpx42 belx42 sizx42 keex42)|fail)
   have hTx42:=(hTx42a).keep hlw_heap_sizegp belx42
   have hOx42:=(hOx42a).keep hlgOgp belx42
   have hRx42:=(hRx42a).keep hlgWgp belx42
   have hCx42:=(hCx42a).keep hlgKgp belx42
   have hLx42:=(hLx42a).keep hlgLgp belx42
   have hAx42:=(hAx42a).keep hlgAgp belx42
   have hDx42:=(hDx42a).keep hlDgp belx42
   have hBx42:=hBx42a.trans (belx42.mono hlwgp)
   clear hTx42a hOx42a hRx42a hCx42a hLx42a hAx42a hDx42a hpx42a hBx42a belx42 sizx42 keex42 hgp
   try dsimp only [Act.put]
   clear j1 j2 j3 j4 j5 j6 j7 hslc jr HPAD
   apply wp_region_via (F:=fun W=>Bv W w.heap.size 30 (.pointer (some p))∧Bv W gA 125 (.func (.func 76) #[] #[.pointer (some ⟨gO,0,none⟩)])∧Ar W gp 16 (P)∧Ar W gK 16 (k)∧Bv W gO 25 (.slice (some ⟨gW,0,none⟩) o M)∧Ro W gW (M) (o) (u)∧Df W D∧Ar W gL 16 (a2)∧Below w.heap.size w W)
   case h1=>
    refine wp_region_noPanic ?_
    have hLgd:=hLx42.drew
    refine wp_region_held_drew (S:=fun W=>Bv W w.heap.size 30 (.pointer (some p))∧Bv W gA 125 (.func (.func 76) #[] #[.pointer (some ⟨gO,0,none⟩)])∧Ar W gp 16 (P)∧Ar W gK 16 (k)∧Bv W gO 25 (.slice (some ⟨gW,0,none⟩) o M)∧Ro W gW (M) (o) (u)∧Df W D∧Below w.heap.size w W) (by kernel_rfl) ⟨hTx42.drew,hAx42.drew,hpx42.drew,hCx42.drew,hOx42.drew,hRx42.drew,hDx42.drew,hBx42.drew⟩ (fun hH'=> ?_)
    generalize World.drew x42=gd at*
    refine tw 1 ?vg1 rfl ?hyg1 ?restg1
    case hyg1=>
     intro W hSw
     have cF:=(hSw.1).cell
     go_simp
     try with_reducible rfl
    simp only [Act.put,nrm]
    refine rd2 0 2 rfl rfl (fun K hK=> ?_) (fun K hK=> ?_)
    ·rw [if_pos (by rfl)]
     refine wp_load_mid _ _ rfl gL 0 rfl (arL 16 (o1)) _ hLgd.range Tryz.arr16b rfl (size16b _) ?_
     refine hK.out _ _ hH' ?_
     clear hK K hH'
     intro hH'
     try simp only [Act.put,nrm]
     refine rd 2 rfl (fun K hK=> ?_)
     go_simp
     refine(tstar (.pointer (some p)) p2 s _ (HV.out.to (hH'.2.2.2.2.2.2.2))).mono ?_
     rintro e g2 ⟨rfl,hq⟩
     go_wp2_with fail
     have hLg2:=hLgd.t hq
     refine hK.out _ _ ⟨hH'.1.to hq,hH'.2.1.to hq,hH'.2.2.1.t hq,hH'.2.2.2.1.t hq,hH'.2.2.2.2.1.to hq,hH'.2.2.2.2.2.1.to hq,hH'.2.2.2.2.2.2.1.to hq,Tq hH'.2.2.2.2.2.2.2 hq⟩ ?_
     clear hK K hH' hq hLgd
     intro hH'
     try simp only [Act.put,nrm]
     refine rd 3 rfl (fun K hK=> ?_)
     go_simp
     refine(bxor o1 s _ hob.out HSL.out).mono ?_
     rintro e g3 ⟨rfl,hq⟩
     rw [HA2.out]
     go_wp2_with fail
     have hLg3:=hLg2.t hq
     refine hK.out _ _ ⟨hH'.1.to hq,hH'.2.1.to hq,hH'.2.2.1.t hq,hH'.2.2.2.1.t hq,hH'.2.2.2.2.1.to hq,hH'.2.2.2.2.2.1.to hq,hH'.2.2.2.2.2.2.1.to hq,Tq hH'.2.2.2.2.2.2.2 hq⟩ ?_
     clear hK K hH' hq hLg2
     intro hH'
     try simp only [Act.put,nrm]
     refine rd 4 rfl (fun K hK=> ?_)
     rw [if_pos (by rfl)]
     refine wp_store_mid _ _ _ rfl gL 0 (arL 16 (a2)).toArray rfl rfl hLg3.there (size16b _) (all_oneCell_toArray (arL_one 16 (a2))) ?_
     have hLg4:=hLg3.whole (a2)
     dsimp only [List.toList_toArray]
     refine hK.out _ _ ⟨(hH'.1).apart (b:=gL) (by omega) (arL 16 (a2)) 0,(hH'.2.1).apart (b:=gL) (by omega) (arL 16 (a2)) 0,(hH'.2.2.1).apart (b:=gL) (by omega) (arL 16 (a2)) 0,(hH'.2.2.2.1).apart (b:=gL) (by omega) (arL 16 (a2)) 0,(hH'.2.2.2.2.1).apart (b:=gL) (by omega) (arL 16 (a2)) 0,(hH'.2.2.2.2.2.1).apart (b:=gL) (by omega) (arL 16 (a2)) 0,(hH'.2.2.2.2.2.2.1).apart (b:=gL) (by omega) (arL 16 (a2)) 0,(hH'.2.2.2.2.2.2.2).trans (Below.setCells (Below.refl w.heap.size _) (b:=gL) (by omega) (arL 16 (a2)) 0)⟩ ?_
     clear hK K hH' hLg3
     intro hH'
     generalize World.setCells g3 gL 0 (arL 16 (a2))=g4 at*
     try simp only [Act.put]
     refine wpAnyH_done (by kernel_rfl) ?_ _
     refine NoPanic.normal ?_
     exact⟨rfl,rfl,hH'.1,hH'.2.1,hH'.2.2.1,hH'.2.2.2.1,hH'.2.2.2.2.1,hH'.2.2.2.2.2.1,hH'.2.2.2.2.2.2.1,hLg4,hH'.2.2.2.2.2.2.2⟩
    ·go_simp
     refine(tstar (.pointer (some p)) p2 s _ (HV.out.to (hH'.2.2.2.2.2.2.2))).mono ?_
     rintro e g5 ⟨rfl,hq⟩
     go_wp2_with fail
     have hLg5:=hLgd.t hq
     refine hK.out _ _ ⟨hH'.1.to hq,hH'.2.1.to hq,hH'.2.2.1.t hq,hH'.2.2.2.1.t hq,hH'.2.2.2.2.1.to hq,hH'.2.2.2.2.2.1.to hq,hH'.2.2.2.2.2.2.1.to hq,Tq hH'.2.2.2.2.2.2.2 hq⟩ ?_
     clear hK K hH' hq hLgd
     intro hH'
     try simp only [Act.put,nrm]
     refine rd 0 rfl (fun K hK=> ?_)
     rw [if_pos (by rfl)]
     refine wp_load_mid _ _ rfl gL 0 rfl (arL 16 (o1)) _ hLg5.range Tryz.arr16b rfl (size16b _) ?_
     refine hK.out _ _ hH' ?_
     clear hK K hH'
     intro hH'
     try simp only [Act.put,nrm]
     refine rd 3 rfl (fun K hK=> ?_)
     go_simp
     refine(bxor o1 s _ hob.out HSL.out).mono ?_
     rintro e g6 ⟨rfl,hq⟩
     rw [HA2.out]
     go_wp2_with fail
     have hLg6:=hLg5.t hq
     refine hK.out _ _ ⟨hH'.1.to hq,hH'.2.1.to hq,hH'.2.2.1.t hq,hH'.2.2.2.1.t hq,hH'.2.2.2.2.1.to hq,hH'.2.2.2.2.2.1.to hq,hH'.2.2.2.2.2.2.1.to hq,Tq hH'.2.2.2.2.2.2.2 hq⟩ ?_
     clear hK K hH' hq hLg5
     intro hH'
     try simp only [Act.put,nrm]
     refine rd 4 rfl (fun K hK=> ?_)
     rw [if_pos (by rfl)]
     refine wp_store_mid _ _ _ rfl gL 0 (arL 16 (a2)).toArray rfl rfl hLg6.there (size16b _) (all_oneCell_toArray (arL_one 16 (a2))) ?_
     have hLg7:=hLg6.whole (a2)
     dsimp only [List.toList_toArray]
     refine hK.out _ _ ⟨(hH'.1).apart (b:=gL) (by omega) (arL 16 (a2)) 0,(hH'.2.1).apart (b:=gL) (by omega) (arL 16 (a2)) 0,(hH'.2.2.1).apart (b:=gL) (by omega) (arL 16 (a2)) 0,(hH'.2.2.2.1).apart (b:=gL) (by omega) (arL 16 (a2)) 0,(hH'.2.2.2.2.1).apart (b:=gL) (by omega) (arL 16 (a2)) 0,(hH'.2.2.2.2.2.1).apart (b:=gL) (by omega) (arL 16 (a2)) 0,(hH'.2.2.2.2.2.2.1).apart (b:=gL) (by omega) (arL 16 (a2)) 0,(hH'.2.2.2.2.2.2.2).trans (Below.setCells (Below.refl w.heap.size _) (b:=gL) (by omega) (arL 16 (a2)) 0)⟩ ?_
     clear hK K hH' hLg6
     intro hH'
     generalize World.setCells g6 gL 0 (arL 16 (a2))=g7 at*
     try simp only [Act.put]
     refine wpAnyH_done (by kernel_rfl) ?_ _
     refine NoPanic.normal ?_
     exact⟨rfl,rfl,hH'.1,hH'.2.1,hH'.2.2.1,hH'.2.2.2.1,hH'.2.2.2.2.1,hH'.2.2.2.2.2.1,hH'.2.2.2.2.2.2.1,hLg7,hH'.2.2.2.2.2.2.2⟩
   rintro x43 ⟨hTx43,hAx43,hpx43,hCx43,hOx43,hRx43,hDx43,hLx43,hBx43⟩
   clear hTx42 hAx42 hpx42 hCx42 hOx42 hRx42 hDx42 hLx42 hBx42
   go_upto_region 15 with fail
   refine wp_region_noPanic ?_
   have hOhd:=hOx43.drew
   have hRhd:=hRx43.drew
   refine wp_region_held_drew (S:=fun W=>Bv W w.heap.size 30 (.pointer (some p))∧Bv W gA 125 (.func (.func 76) #[] #[.pointer (some ⟨gO,0,none⟩)])∧Ar W gp 16 (P)∧Ar W gK 16 (k)∧Ar W gL 16 (a2)∧Df W D∧Below w.heap.size w W) (by kernel_rfl) ⟨hTx43.drew,hAx43.drew,hpx43.drew,hCx43.drew,hLx43.drew,hDx43.drew,hBx43.drew⟩ (fun hH'=> ?_)
   clear hTx43 hAx43 hpx43 hCx43 hLx43 hDx43 hBx43 hOx43 hRx43
   generalize World.drew x43=hd at*
   refine tw 0 ?vh1 rfl ?hyh1 ?resth1
   case hyh1=>
    intro W hSw
    have cF:=(hSw.2.1).cell
    go_simp
    try with_reducible rfl
   simp only [Act.put,nrm]
   refine tk 1 (.agg (arL 16 (P)).toArray) rfl (yieldsIf_load_mid (by rfl) _ _ rfl gp (0) rfl (arL 16 (P)) _ (fun W hSw=>hSw.2.2.1.range) Tryz.arr16b rfl (size16b _)) ?_
   simp only [Act.put,nrm]
   refine tw 2 ?vh2 rfl ?hyh2 ?resth2
   case hyh2=>
    intro W hSw
    have cF:=(hSw.1).cell
    go_simp
    try with_reducible rfl
   simp only [Act.put,nrm]
   refine tk 4 (.agg (arL 16 (a2)).toArray) rfl (yieldsIf_load_mid (by rfl) _ _ rfl gL (0) rfl (arL 16 (a2)) _ (fun W hSw=>hSw.2.2.2.2.1.range) Tryz.arr16b rfl (size16b _)) ?_
   simp only [Act.put,nrm]
   refine tw 6 ?vh3 rfl ?hyh3 ?resth3
   case hyh3=>
    intro W hSw
    go_simp
    try with_reducible rfl
   simp only [Act.put,nrm]
   refine tw 7 ?vh4 rfl ?hyh4 ?resth4
   case hyh4=>
    intro W hSw
    go_simp
    try with_reducible rfl
   simp only [Act.put,nrm]
   refine rd 3 rfl (fun K hK=> ?_)
   go_simp
   refine(HCIP.out _ (hH'.2.2.2.2.2.2)).mono ?_
   rintro e h5 ⟨rfl,hq⟩
   go_wp2_with fail
   have hOh5:=hOhd.to hq
   have hRh5:=hRhd.to hq
   refine hK.out _ _ ⟨hH'.1.to hq,hH'.2.1.to hq,hH'.2.2.1.t hq,hH'.2.2.2.1.t hq,hH'.2.2.2.2.1.t hq,hH'.2.2.2.2.2.1.to hq,Tq hH'.2.2.2.2.2.2 hq⟩ ?_
   clear hK K hH' hq hOhd hRhd
   intro hH'
   try simp only [Act.put,nrm]
   refine rd 5 rfl (fun K hK=> ?_)
   go_simp
   refine(fencrypt (.pointer p2) f a2 _ HFB.out h2b.out (HCP.out.to (hH'.2.2.2.2.2.2)) (HX.out.keep (hH'.2.2.2.2.2.2))).mono ?_
   rintro e h6 ⟨rfl,hq⟩
   go_wp2_with fail
   have hOh6:=hOh5.to hq
   have hRh6:=hRh5.to hq
   refine hK.out _ _ ⟨hH'.1.to hq,hH'.2.1.to hq,hH'.2.2.1.t hq,hH'.2.2.2.1.t hq,hH'.2.2.2.2.1.t hq,hH'.2.2.2.2.2.1.to hq,Tq hH'.2.2.2.2.2.2 hq⟩ ?_
   clear hK K hH' hq hOh5 hRh5
   intro hH'
   try simp only [Act.put,nrm]
   refine rd 8 rfl (fun K hK=> ?_)
   go_simp
   refine(sadd gO gW M o r P (enF f a2) u _ HPB.out heb.out (by have:=HM16.out;omega) (by have:=HM16.out;have:=HM.out;omega) (by have:=HM16.out;have:=HN.out;omega) (show gO≠gW by omega) hOh6 hRh6).mono ?_
   rintro e h7 ⟨⟨v9,rfl⟩,hOh7,hRh7,hAd⟩
   go_wp2_with fail
   refine hK.out _ _ ⟨(hH'.1).add hAd (by omega) (by omega),(hH'.2.1).add hAd (by omega) (by omega),ar_add (hH'.2.2.1) (by omega) hAd (by omega) (by omega),ar_add (hH'.2.2.2.1) (by omega) hAd (by omega) (by omega),ar_add (hH'.2.2.2.2.1) (by omega) hAd (by omega) (by omega),(hH'.2.2.2.2.2.1).add hAd (by omega) (by omega),(hH'.2.2.2.2.2.2).trans (hAd.below (hH'.2.2.2.2.2.2).size (by omega) (by omega))⟩ ?_
   clear hK K hH' hAd hOh6 hRh6
   intro hH'
   try simp only [Act.put]
   refine wpAnyH_done (by kernel_rfl) ?_ _
   have hTy15:=hH'.1
   have hAy15:=hH'.2.1
   have hpy15:=hH'.2.2.1
   have hCy15:=hH'.2.2.2.1
   have hLy15:=hH'.2.2.2.2.1
   have hDy15:=hH'.2.2.2.2.2.1
   have hBy15:=hH'.2.2.2.2.2.2
   have hOy15:=hOh7
   have hRy15:=hRh7
   clear hH' hOh7 hRh7
   refine NoPanic.normal ?_
   try dsimp only [Act.put]
   have e1:o+r=n:=HM16.out.2.2.1
   rw [e1]at hOy15 hRy15
   rw [HCT.out]at hRy15
   clear e1
   go_wp2_with (first|(refine wpList_load_ar rfl _ _ rfl _ _ _ rfl hCy15 Tryz.arr16b (size16b _) ?_)|(refine wpList_load_ar rfl _ _ rfl _ _ _ rfl hpy15 Tryz.arr16b (size16b _) ?_))
   refine(bxor k P _ hcb.out HPB.out).mono ?_
   rintro e x44 ⟨rfl,hq⟩
   have hTx44:=hTy15.to hq
   have hAx44:=hAy15.to hq
   have hpx44:=hpy15.t hq
   have hCx44:=hCy15.t hq
   have hOx44:=hOy15.to hq
   have hRx44:=hRy15.to hq
   have hDx44:=hDy15.to hq
   have hLx44:=hLy15.t hq
   have hBx44:=Tq hBy15 hq
   clear hq hTy15 hAy15 hpy15 hCy15 hOy15 hRy15 hDy15 hLy15 hBy15
   go_upto_region 17 with (first|(refine wpList_store_arE rfl _ _ _ rfl _ _ _ (adF k P) rfl rfl hCx44 (size16b _) ?_;intro z45 he3 hCz45;have HE3:=Lib.hid he3;clear he3)|fail)
   have he3:=HE3.out
   have hTz45:Bv z45 w.heap.size 30 (.pointer (some p)):=by rw [he3];exact hTx44.apart (b:=gK) (by omega) _ 0
   have hAz45:Bv z45 gA 125 (.func (.func 76) #[] #[.pointer (some ⟨gO,0,none⟩)]):=by rw [he3];exact hAx44.apart (b:=gK) (by omega) _ 0
   have hpz45:Ar z45 gp 16 (P):=by rw [he3];exact hpx44.apart (b:=gK) (by omega) _ 0
   have hOz45:Bv z45 gO 25 (.slice (some ⟨gW,0,none⟩) n M):=by rw [he3];exact hOx44.apart (b:=gK) (by omega) _ 0
   have hRz45:Ro z45 gW (M) (n) (ctL f s a l):=by rw [he3];exact hRx44.apart (b:=gK) (by omega) _ 0
   have hDz45:Df z45 D:=by rw [he3];exact hDx44.apart (b:=gK) (by omega) _ 0
   have hLz45:Ar z45 gL 16 (a2):=by rw [he3];exact hLx44.apart (b:=gK) (by omega) _ 0
   have hBz45:Below w.heap.size w z45:=by rw [he3];exact hBx44.trans ((below_setCells _ gK _ 0).mono (by omega))
   clear he3 HE3 hBx44 hTx44 hAx44 hpx44 hCx44 hOx44 hRx44 hDx44 hLx44
   refine wp_region_noPanic ?_
   refine wp_region_held_drew (S:=fun W=>Bv W gO 25 (.slice (some ⟨gW,0,none⟩) n M)∧Ar W gK 16 (adF k P)∧Ar W gL 16 (a2)∧Ro W gW (M) (n) (ctL f s a l)∧Df W D∧Below w.heap.size w W) (by kernel_rfl) ⟨hOz45.drew,hCz45.drew,hLz45.drew,hRz45.drew,hDz45.drew,hBz45.drew⟩ (fun hH'=> ?_)
   clear hTz45 hAz45 hpz45 hCz45 hOz45 hRz45 hDz45 hLz45 hBz45
   generalize World.drew z45=fd at*
   refine tw 0 ?vf1 rfl ?hyf1 ?restf1
   case hyf1=>
    intro W hSw
    have cF:=(hSw.1).cell
    go_simp
    try with_reducible rfl
   simp only [Act.put,nrm]
   refine tk 1 (.agg (arL 16 (adF k P)).toArray) rfl (yieldsIf_load_mid (by rfl) _ _ rfl gK (0) rfl (arL 16 (adF k P)) _ (fun W hSw=>hSw.2.1.range) Tryz.arr16b rfl (size16b _)) ?_
   simp only [Act.put,nrm]
   refine tk 2 (.agg (arL 16 (a2)).toArray) rfl (yieldsIf_load_mid (by rfl) _ _ rfl gL (0) rfl (arL 16 (a2)) _ (fun W hSw=>hSw.2.2.1.range) Tryz.arr16b rfl (size16b _)) ?_
   simp only [Act.put,nrm]
   refine rd 3 rfl (fun K hK=> ?_)
   have cF:=(hH'.1).cell
   have fF:=(hH'.1).frozen
   go_simp
   clear cF fF
   refine hK.out _ _ ⟨(hH'.1).set (.slice (some ⟨gW,0,none⟩) n M),(hH'.2.1).far (p:=⟨gO,0,none⟩) (show gO≠gK by omega) (.slice (some ⟨gW,0,none⟩) n M),(hH'.2.2.1).far (p:=⟨gO,0,none⟩) (show gO≠gL by omega) (.slice (some ⟨gW,0,none⟩) n M),(hH'.2.2.2.1).far (p:=⟨gO,0,none⟩) (show gO≠gW by omega) (.slice (some ⟨gW,0,none⟩) n M),(hH'.2.2.2.2.1).far (p:=⟨gO,0,none⟩) (show gO≠D by omega) (.slice (some ⟨gW,0,none⟩) n M),(hH'.2.2.2.2.2).setCell (p:=⟨gO,0,none⟩) (show w.heap.size≤gO by omega) (.slice (some ⟨gW,0,none⟩) n M)⟩ ?_
   clear hK K hH'
   intro hH'
   generalize World.setCell fd ⟨gO,0,none⟩ (.slice (some ⟨gW,0,none⟩) n M)=f2 at*
   try simp only [Act.put]
   refine rd 4 rfl (fun K hK=> ?_)
   rw [if_pos (by rfl)]
   refine wp_store_mid _ _ _ rfl gK 0 (arL 16 (adF k P)).toArray rfl rfl (hH'.2.1).there (size16b _) (all_oneCell_toArray (arL_one 16 (adF k P))) ?_
   dsimp only [List.toList_toArray]
   refine hK.out _ _ ⟨(hH'.1).apart (b:=gK) (by omega) (arL 16 (adF k P)) 0,(hH'.2.1).whole (adF k P),(hH'.2.2.1).apart (b:=gK) (by omega) (arL 16 (adF k P)) 0,(hH'.2.2.2.1).apart (b:=gK) (by omega) (arL 16 (adF k P)) 0,(hH'.2.2.2.2.1).apart (b:=gK) (by omega) (arL 16 (adF k P)) 0,(hH'.2.2.2.2.2).trans (Below.setCells (Below.refl w.heap.size _) (b:=gK) (by omega) (arL 16 (adF k P)) 0)⟩ ?_
   clear hK K hH'
   intro hH'
   generalize World.setCells f2 gK 0 (arL 16 (adF k P))=f3 at*
   try simp only [Act.put]
   refine rd 5 rfl (fun K hK=> ?_)
   rw [if_pos (by rfl)]
   refine wp_store_mid _ _ _ rfl gL 0 (arL 16 (a2)).toArray rfl rfl (hH'.2.2.1).there (size16b _) (all_oneCell_toArray (arL_one 16 (a2))) ?_
   dsimp only [List.toList_toArray]
   refine hK.out _ _ ⟨(hH'.1).apart (b:=gL) (by omega) (arL 16 (a2)) 0,(hH'.2.1).apart (b:=gL) (by omega) (arL 16 (a2)) 0,(hH'.2.2.1).whole (a2),(hH'.2.2.2.1).apart (b:=gL) (by omega) (arL 16 (a2)) 0,(hH'.2.2.2.2.1).apart (b:=gL) (by omega) (arL 16 (a2)) 0,(hH'.2.2.2.2.2).trans (Below.setCells (Below.refl w.heap.size _) (b:=gL) (by omega) (arL 16 (a2)) 0)⟩ ?_
   clear hK K hH'
   intro hH'
   generalize World.setCells f3 gL 0 (arL 16 (a2))=f4 at*
   try simp only [Act.put]
   refine wpAnyH_done (by kernel_rfl) ?_ _
   refine NoPanic.normal ?_
   obtain⟨hO9,hC9,hL9,hR9,hD9,hB9⟩:=hH'
   go_wp2_with fail
   refine⟨by simp,.inl ⟨_,_,rfl,run_takeDeferred hD9,?_⟩⟩
   have hg9:=grownBy_putObj' f4 D (.deferred none)
   have hr9: ∀r,some D=some r→ ∃o:Obj,f4.heap[r]?=some o∧o.isCells=false:=fun r e=>by cases e;exact⟨_,hD9,rfl⟩
   have hA5:=ar_own (β:=Unit) gK 16 _ () _ _ _ hC9 hg9 hr9
   have hA6:=ar_own (β:=Unit) gL 16 _ () _ _ _ hL9 hg9 hr9
   have hO5:=hO9.own hg9 hr9
   have hR5:=hR9.own hg9 hr9
   exact⟨_,results_cr rfl rfl rfl rfl (load_sl _ _ _ hO5) hA5 hA6 Tryz.arr16b (size16b _) (size16b _),gW,by rw [HCS.out,HOF.out],by omega,hR5,hB9.trans (belowK_b (w:=w) (Nat.le_refl _) f4 D _ _ (show w.heap.size≤D by omega) hD9 rfl rfl)⟩
 case stop=>
  rintro D c pre W _ _ h _
  exact h.elim
end Go.Proofs.YtiacbphnclgikaaGreatDoor
