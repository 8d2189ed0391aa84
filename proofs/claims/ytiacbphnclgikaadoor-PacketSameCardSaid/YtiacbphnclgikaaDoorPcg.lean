/-
 The walk of the law PacketSame of layer 17: for any two packets it returns true, and writes nothing that was there.
-/
import Derived.Test.YtiacbphnclgikaaDoorSqz
import Derived.Test.YtiacbphnclgikaaDoorPce
import Derived.Deep.RegionHeld3
namespace Go.Proofs.YtiacbphnclgikaaDoor
open Go.RowKit
set_option linter.unusedVariables false
set_option maxRecDepth 100000
set_option linter.unusedSimpArgs false
set_option maxHeartbeats 8000000 in
theorem psames (da:Int) (xa ta ea:Nat) (Aa:Option Addr) (na ca:Nat) (la:List UInt8) (db:Int) (xb tb eb:Nat) (Ab:Option Addr) (nb cb:Nat) (lb:List UInt8) (w:World) (hda: -9223372036854775808≤da∧da≤9223372036854775807) (hxa:xa<18446744073709551616) (hta:ta<65536) (hea:ea<65536) (hSa:Sl w w.heap.size Aa na la) (hnca:na≤ca) (hcma:ca≤maxLen) (hdb: -9223372036854775808≤db∧db≤9223372036854775807) (hxb:xb<18446744073709551616) (htb:tb<65536) (heb:eb<65536) (hSb:Sl w w.heap.size Ab nb lb) (hncb:nb≤cb) (hcmb:cb≤maxLen) (hs:Boxes w):
  Calls Tryd.prog 4 #[.agg #[.int .i64 da,.int .u64 (xa:Int),.int .u16 (ta:Int),.int .u16 (ea:Int),.slice Aa na ca],.agg #[.int .i64 db,.int .u64 (xb:Int),.int .u16 (tb:Int),.int .u16 (eb:Int),.slice Ab nb cb]] w fun e9 w'=>e9= .returned (.bool true)∧Below w.heap.size w w':=by
 obtain⟨w1,hw1⟩:=Lv (w.alloc (.cells #[.int .i64 da,.int .u64 (xa:Int),.int .u16 (ta:Int),.int .u16 (ea:Int),.slice Aa na ca] 33))
 have hs1:=Zs1 hw1
 have hBw1:=Bl hw1
 have hPw1:Cx w1 w.heap.size 5 (pcF (.int .i64 da) (.int .u64 (xa:Int)) (.int .u16 (ta:Int)) (.int .u16 (ea:Int)) (.slice Aa na ca)):=by rw [hw1];exact Cx.new w 5 (pcF (.int .i64 da) (.int .u64 (xa:Int)) (.int .u16 (ta:Int)) (.int .u16 (ea:Int)) (.slice Aa na ca)) _
 obtain⟨w2,hw2⟩:=Lv (w1.alloc (.cells #[.int .i64 db,.int .u64 (xb:Int),.int .u16 (tb:Int),.int .u16 (eb:Int),.slice Ab nb cb] 33))
 have hs2:=Zs2 hw2 hs1
 have hBw2:=Bm hw2 hBw1
 have hPw2:Cx w2 w.heap.size 5 (pcF (.int .i64 da) (.int .u64 (xa:Int)) (.int .u16 (ta:Int)) (.int .u16 (ea:Int)) (.slice Aa na ca)):=by rw [hw2];exact hPw1.alloc (by omega) _
 have hQw2:Cx w2 (w.heap.size+1) 5 (pcF (.int .i64 db) (.int .u64 (xb:Int)) (.int .u16 (tb:Int)) (.int .u16 (eb:Int)) (.slice Ab nb cb)):=by rw [hw2,←hs1];exact Cx.new w1 5 (pcF (.int .i64 db) (.int .u64 (xb:Int)) (.int .u16 (tb:Int)) (.int .u16 (eb:Int)) (.slice Ab nb cb)) _
 clear hPw1 hBw1
 have HX:=Lib.hid hs
 clear hs
 obtain⟨dP,hfs,hrow⟩:=Tryd.structP
 have HS2:=Lib.hid hfs
 have HW2:=Lib.hid hrow
 clear hfs hrow
 have HDa:=Lib.hid hda
 have HXXa:=Lib.hid hxa
 have HTa:=Lib.hid hta
 have HEa:=Lib.hid hea
 have HSSa:=Lib.hid hSa
 have HLENa:=Lib.hid hSa.len
 have HNCa:=Lib.hid hnca
 have hn63a:na≤9223372036854775807:=by have h:=hcma;simp [maxLen]at h;omega
 clear hda hxa hta hea hSa hnca hcma
 have HDb:=Lib.hid hdb
 have HXXb:=Lib.hid hxb
 have HTb:=Lib.hid htb
 have HEb:=Lib.hid heb
 have HSSb:=Lib.hid hSb
 have HLENb:=Lib.hid hSb.len
 have HNCb:=Lib.hid hncb
 have hn63b:nb≤9223372036854775807:=by have h:=hcmb;simp [maxLen]at h;omega
 clear hdb hxb htb heb hSb hncb hcmb
 go_enter Tryd.func4,Tryd.ntmps4
 go_upto_region 1 with fail
 rw [←hw1,←hw2]
 clear hw1 hw2
 try simp only [Nat.add_assoc,Nat.reduceAdd]
 obtain⟨gQ,hgQ⟩:=Le (w.heap.size+1)
 rw [hgQ]at hQw2
 try rw [hgQ]
 have hlQ:w.heap.size<gQ:=by omega
 clear hs1 hs2 hgQ
 go_wp2_with fail
 refine(pawake _ (HX.out.keep hBw2)).mono ?_
 rintro e x1 ⟨rfl,hq⟩
 have hPx1:=hPw2.t hq
 have hQx1:=hQw2.t hq
 have hBx1:=Tq hBw2 hq
 clear hq hPw2 hQw2 hBw2
 by_cases hga:2000<na
 ·have hha:(2000:Int)<(na:Int):=by omega
  have cP4:=(hPx1 4 (by omega)).1
  have cQ4:=(hQx1 4 (by omega)).1
  simp only [pcF]at cP4 cQ4
  go_wp2_with fail
  refine(pawake _ (HX.out.keep hBx1)).mono ?_
  rintro e x2 ⟨rfl,hq⟩
  have hPx2:=hPx1.t hq
  have hQx2:=hQx1.t hq
  have hBx2:=Tq hBx1 hq
  clear hq hPx1 hQx1 hBx1
  go_wp2_with fail
  go_ret
  exact⟨rfl,hBx2⟩
 ·have hha: ¬(2000:Int)<(na:Int):=by omega
  by_cases hgb:2000<nb
  ·have hhb:(2000:Int)<(nb:Int):=by omega
   have cP4:=(hPx1 4 (by omega)).1
   have cQ4:=(hQx1 4 (by omega)).1
   simp only [pcF]at cP4 cQ4
   go_wp2_with fail
   refine(pawake _ (HX.out.keep hBx1)).mono ?_
   rintro e x3 ⟨rfl,hq⟩
   have hPx3:=hPx1.t hq
   have hQx3:=hQx1.t hq
   have hBx3:=Tq hBx1 hq
   clear hq hPx1 hQx1 hBx1
   go_wp2_with fail
   go_ret
   exact⟨rfl,hBx3⟩
  ·have hhb: ¬(2000:Int)<(nb:Int):=by omega
   have cP4:=(hPx1 4 (by omega)).1
   have cQ4:=(hQx1 4 (by omega)).1
   simp only [pcF]at cP4 cQ4
   have HMa:=Lib.hid (show na≤140737488351232 by omega)
   have HMb:=Lib.hid (show nb≤140737488351232 by omega)
   obtain⟨b,hb⟩: ∃b:Bool,decide (da=db∧xa=xb∧ta=tb∧ea=eb∧la=lb)=b:=⟨_,rfl⟩
   have HB:=Lib.hid hb
   clear hb
   go_upto_region 3 with fail
   clear cP4 cQ4 hga hgb hha hhb
   refine wp_region_noPanic ?_
   refine wp_region_held_drew (S:=fun W=>Cx W w.heap.size 5 (pcF (.int .i64 da) (.int .u64 (xa:Int)) (.int .u16 (ta:Int)) (.int .u16 (ea:Int)) (.slice Aa na ca))∧Cx W gQ 5 (pcF (.int .i64 db) (.int .u64 (xb:Int)) (.int .u16 (tb:Int)) (.int .u16 (eb:Int)) (.slice Ab nb cb))∧Below w.heap.size w W) (by kernel_rfl) ⟨hPx1.drew,hQx1.drew,hBx1.drew⟩ (fun hH'=> ?_)
   clear hPx1 hQx1 hBx1
   generalize World.drew x1=yd at*
   refine tk 0 (.agg ([.int .i64 da,.int .u64 (xa:Int),.int .u16 (ta:Int),.int .u16 (ea:Int),.slice Aa na ca]).toArray) rfl (yieldsIf_load_mid (by rfl) _ _ rfl w.heap.size (0) rfl ([.int .i64 da,.int .u64 (xa:Int),.int .u16 (ta:Int),.int .u16 (ea:Int),.slice Aa na ca]) _ (fun W hSw=>pk_range (hSw.1)) HS2.out HW2.out size5P) ?_
   simp only [Act.put,nrm]
   refine tk 1 (.agg ([.int .i64 db,.int .u64 (xb:Int),.int .u16 (tb:Int),.int .u16 (eb:Int),.slice Ab nb cb]).toArray) rfl (yieldsIf_load_mid (by rfl) _ _ rfl gQ (0) rfl ([.int .i64 db,.int .u64 (xb:Int),.int .u16 (tb:Int),.int .u16 (eb:Int),.slice Ab nb cb]) _ (fun W hSw=>pk_range (hSw.2.1)) HS2.out HW2.out size5P) ?_
   simp only [Act.put,nrm]
   refine tk 3 (.agg ([.int .i64 da,.int .u64 (xa:Int),.int .u16 (ta:Int),.int .u16 (ea:Int),.slice Aa na ca]).toArray) rfl (yieldsIf_load_mid (by rfl) _ _ rfl w.heap.size (0) rfl ([.int .i64 da,.int .u64 (xa:Int),.int .u16 (ta:Int),.int .u16 (ea:Int),.slice Aa na ca]) _ (fun W hSw=>pk_range (hSw.1)) HS2.out HW2.out size5P) ?_
   simp only [Act.put,nrm]
   refine tk 4 (.agg ([.int .i64 db,.int .u64 (xb:Int),.int .u16 (tb:Int),.int .u16 (eb:Int),.slice Ab nb cb]).toArray) rfl (yieldsIf_load_mid (by rfl) _ _ rfl gQ (0) rfl ([.int .i64 db,.int .u64 (xb:Int),.int .u16 (tb:Int),.int .u16 (eb:Int),.slice Ab nb cb]) _ (fun W hSw=>pk_range (hSw.2.1)) HS2.out HW2.out size5P) ?_
   simp only [Act.put,nrm]
   refine rd 2 rfl (fun K hK=> ?_)
   go_simp
   refine(psame da xa ta ea Aa na ca la db xb tb eb Ab nb cb lb _ HDa.out HDb.out HTa.out HTb.out HEa.out HEb.out ((HSSa.out.below (hH'.2.2)).more (hH'.2.2).size) ((HSSb.out.below (hH'.2.2)).more (hH'.2.2).size) HMa.out HMb.out).mono ?_
   rintro e y1 ⟨rfl,hq⟩
   rw [HB.out]
   go_wp2_with fail
   refine hK.out _ _ ⟨hH'.1.t hq,hH'.2.1.t hq,Tq hH'.2.2 hq⟩ ?_
   clear hK K hH' hq
   intro hH'
   try simp only [Act.put,nrm]
   refine rd 5 rfl (fun K hK=> ?_)
   go_simp
   refine(rpsame da xa ta ea Aa na ca la db xb tb eb Ab nb cb lb _ ((HSSa.out.below (hH'.2.2)).more (hH'.2.2).size) ((HSSb.out.below (hH'.2.2)).more (hH'.2.2).size) HMa.out HMb.out).mono ?_
   rintro e y2 ⟨rfl,hq⟩
   rw [HB.out]
   go_wp2_with fail
   refine hK.out _ _ ⟨hH'.1.t hq,hH'.2.1.t hq,Tq hH'.2.2 hq⟩ ?_
   clear hK K hH' hq
   intro hH'
   try simp only [Act.put,nrm]
   refine tw 6 (.bool true) rfl ?hyy3 ?resty3
   case hyy3=>
    intro W hSw
    go_simp
    try with_reducible rfl
   simp only [Act.put,nrm]
   refine tw 7 ?vy4 rfl ?hyy4 ?resty4
   case hyy4=>
    intro W hSw
    go_simp
    try with_reducible rfl
   simp only [Act.put,nrm]
   refine tk 8 (.agg ([.int .i64 da,.int .u64 (xa:Int),.int .u16 (ta:Int),.int .u16 (ea:Int),.slice Aa na ca]).toArray) rfl (yieldsIf_load_mid (by rfl) _ _ rfl w.heap.size (0) rfl ([.int .i64 da,.int .u64 (xa:Int),.int .u16 (ta:Int),.int .u16 (ea:Int),.slice Aa na ca]) _ (fun W hSw=>pk_range (hSw.1)) HS2.out HW2.out size5P) ?_
   simp only [Act.put,nrm]
   refine tk 9 (.agg ([.int .i64 da,.int .u64 (xa:Int),.int .u16 (ta:Int),.int .u16 (ea:Int),.slice Aa na ca]).toArray) rfl (yieldsIf_load_mid (by rfl) _ _ rfl w.heap.size (0) rfl ([.int .i64 da,.int .u64 (xa:Int),.int .u16 (ta:Int),.int .u16 (ea:Int),.slice Aa na ca]) _ (fun W hSw=>pk_range (hSw.1)) HS2.out HW2.out size5P) ?_
   simp only [Act.put,nrm]
   refine rd 10 rfl (fun K hK=> ?_)
   go_simp
   refine(psame da xa ta ea Aa na ca la da xa ta ea Aa na ca la _ HDa.out HDa.out HTa.out HTa.out HEa.out HEa.out ((HSSa.out.below (hH'.2.2)).more (hH'.2.2).size) ((HSSa.out.below (hH'.2.2)).more (hH'.2.2).size) HMa.out HMa.out).mono ?_
   rintro e y5 ⟨rfl,hq⟩
   rw [decide_eq_true ⟨rfl,rfl,rfl,rfl,rfl⟩]
   go_wp2_with fail
   refine hK.out _ _ ⟨hH'.1.t hq,hH'.2.1.t hq,Tq hH'.2.2 hq⟩ ?_
   clear hK K hH' hq
   intro hH'
   try simp only [Act.put,nrm]
   refine tw 11 ?vy6 rfl ?hyy6 ?resty6
   case hyy6=>
    intro W hSw
    go_simp
    try with_reducible rfl
   simp only [Act.put,nrm]
   refine tw 12 ?vy7 rfl ?hyy7 ?resty7
   case hyy7=>
    intro W hSw
    go_simp
    try with_reducible rfl
   simp only [Act.put,nrm]
   refine wpAnyH_done (by kernel_rfl) ?_ _
   have hB9:=hH'.2.2
   clear hH'
   refine NoPanic.normal ?_
   try dsimp only [Act.put]
   go_wp2_with fail
   go_ret
   exact⟨rfl,hB9⟩
end Go.Proofs.YtiacbphnclgikaaDoor
