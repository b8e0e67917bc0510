/- ShowNets: Show answers as the document says: the same text or the same error; Right says of a network what the document says. For any network the law's call returns true. -/
import Derived.Test.YtfepanidippjlaaGreatDoorSRtS
import Derived.Test.YtfepanidippjlaaGreatDoorSRtT
import Derived.Test.YtfepanidippjlaaGreatDoorSRfT
import Derived.Test.YtfepanidippjlaaGreatDoorSFew
import Derived.Test.YtfepanidippjlaaGreatDoorLKind
import Derived.Test.YtfepanidippjlaaGreatDoorLStr
import Derived.Test.YtfepanidippjlaaGreatDoorLOpn
import Derived.Deep.DrawnRows
import Derived.Deep.RegionHeld
import Derived.Test.YtfepanidippjlaaGreatDoorCards
import Derived.Test.YtfepanidippjlaaGreatDoorTie
import Derived.Test.YtfepanidippjlaaGreatDoorSRtx
import Derived.LaidLaws
import Derived.LaidHandle
import Derived.LaidMore
import Derived.SevenTiedAt
namespace Go.Proofs.YtfepanidippjlaaGreatDoor
open Go.RowKit
attribute [local go_sem ↓] Go.wp_at_zero Go.wp_at_succ
set_option linter.unusedVariables false
set_option linter.unusedSimpArgs false
set_option maxRecDepth 10000
namespace S
theorem ziM {w:World} {ds:List D} {us:List Value} (hs:ShL zct ds) (hB:zcs ds=false) (hr:Rvs w ds us):Calls Tryz.prog 9 #[.agg us.toArray] w fun e w'=>e= .returned (.tuple #[.slice none 0 0,.int .i64 1])∧Keep w w':=by
 have hs':=hs;have hr':=hr;simp only[ShL,Sh1,zct]at hs;obtain⟨_,_,rfl,⟨v0,rfl,_,_⟩,⟨_,_,rfl,⟨v1,rfl,_,_⟩,⟨_,_,rfl,⟨v2,rfl,_,_⟩,⟨_,_,rfl,⟨v3,rfl,_,_⟩,⟨_,_,rfl,⟨v4,rfl,_,_⟩,⟨_,_,rfl,⟨L5,rfl,_,q5⟩,⟨_,_,rfl,⟨L6,rfl,_,q6⟩,⟨_,_,rfl,⟨v7,rfl,_,_⟩,⟨_,_,rfl,⟨v8,rfl,_,_⟩,rfl⟩⟩⟩⟩⟩⟩⟩⟩⟩:=hs;simp only[Rvs,Rv,dS,dI,dB]at hr;obtain⟨_,_,rfl,rfl,⟨_,_,rfl,rfl,⟨_,_,rfl,rfl,⟨_,_,rfl,rfl,⟨_,_,rfl,rfl,⟨_,_,rfl,⟨x5,z5,rfl,y5,m5⟩,⟨_,_,rfl,⟨x6,z6,rfl,y6,m6⟩,⟨_,_,rfl,rfl,⟨_,_,rfl,rfl,rfl⟩⟩⟩⟩⟩⟩⟩⟩⟩:=hr;refine zjS v0 v1 v2 v3 v4 x5 L5.length z5 x6 L6.length z6 v7 v8 w (hide fun w' hk=>?_);have:=zcV (w:=w') hs' (Rvs.keep hk _ _ hr');rw[hB]at this;exact this
theorem zdp {α:Type} {f:α→List UInt8} :∀ {l:List α} {x:α},x∈l→(f x).length≤(l.flatMap f).length
 |a :: l,x,h=>by
  rw[List.flatMap_cons,List.length_append];rcases List.mem_cons.1 h with rfl|h
  ·omega
  ·have:=zdp (f:=f) h;omega
set_option maxHeartbeats 4000000 in
theorem ziN {w:World} {ds:List D} {us:List Value} (hs:ShL zct ds) (hB:zcs ds=true) (hr:Rvs w ds us):Calls Tryz.prog 9 #[.agg us.toArray] w fun e w'=>∃ v,e= .returned (.tuple #[v,.int .i64 0])∧By w' v (znm ds)∧Keep w w':=by
 have hX:(znm ds).length≤1000000:=by rw[← zpb hB];exact zib hB
 have hB':=hB;unfold zcs at hB
 simp only[Bool.and_eq_true]at hB;have BV:zbs [fI (gt ds 0),fI (gt ds 1),fI (gt ds 2),fI (gt ds 3),fI (gt ds 4),fI (gt ds 7),fI (gt ds 8)]=true:=by simp only[hB]
 have B5:zbb 0 12 zbR (fL (gt ds 5))=true:=by simp only[hB]
 have B6:zbb 0 12 zbv (fL (gt ds 6))=true:=by simp only[hB]
 obtain⟨⟨_,l5⟩,h5⟩:=zag B5;obtain⟨⟨_,l6⟩,h6⟩:=zag B6;obtain⟨u0,BV⟩:=zaa BV;obtain⟨u1,BV⟩:=zaa BV;obtain⟨u2,BV⟩:=zaa BV;obtain⟨u3,BV⟩:=zaa BV;obtain⟨u4,BV⟩:=zaa BV;obtain⟨u7,BV⟩:=zaa BV;obtain⟨u8,BV⟩:=zaa BV;have hN:∀ d∈fL (gt ds 5),(zdZ d).length≤1000000:=fun d hd=>by
  have:=zdp (f:=zdZ) hd;unfold znm at hX
  simp only[List.length_append]at hX;omega
 clear B5 B6 BV hB hX;have hs':=hs;have hr':=hr;simp only[ShL,Sh1,zct]at hs;obtain⟨_,_,rfl,⟨v0,rfl,_,_⟩,⟨_,_,rfl,⟨v1,rfl,_,_⟩,⟨_,_,rfl,⟨v2,rfl,_,_⟩,⟨_,_,rfl,⟨v3,rfl,_,_⟩,⟨_,_,rfl,⟨v4,rfl,_,_⟩,⟨_,_,rfl,⟨L5,rfl,_,q5⟩,⟨_,_,rfl,⟨L6,rfl,_,q6⟩,⟨_,_,rfl,⟨v7,rfl,_,_⟩,⟨_,_,rfl,⟨v8,rfl,_,_⟩,rfl⟩⟩⟩⟩⟩⟩⟩⟩⟩:=hs;simp only[Rvs,Rv,dS,dI,dB]at hr;obtain⟨_,_,rfl,rfl,⟨_,_,rfl,rfl,⟨_,_,rfl,rfl,⟨_,_,rfl,rfl,⟨_,_,rfl,rfl,⟨_,_,rfl,⟨x5,z5,rfl,y5,m5⟩,⟨_,_,rfl,⟨x6,z6,rfl,y6,m6⟩,⟨_,_,rfl,rfl,⟨_,_,rfl,rfl,rfl⟩⟩⟩⟩⟩⟩⟩⟩⟩:=hr;simp only[gt,List.getD_cons_zero,List.getD_cons_succ,fL,fI,dI]at l5 h5 l6 h6 u0 u1 u2 u3 u4 u7 u8 hN;have hp:w.heap.size≤w.heap.size:=Nat.le_refl _;have hF:=Fb.refl w.heap.size w;have key:=zgQ v0 v1 v2 v3 v4 x5 L5.length z5 x6 L6.length z6 v7 v8 (fun k=>sv (tS (gt (L5.getD k []) 0))) (sA w x5 7 1) (sN w x5 7 1) (sC w x5 7 1) (sA w x5 7 2) (sN w x5 7 2) (sC w x5 7 2) (sA w x5 7 3) (sN w x5 7 3) (sC w x5 7 3) (sA w x5 7 4) (sN w x5 7 4) (sC w x5 7 4) (sA w x5 7 5) (sN w x5 7 5) (sC w x5 7 5) (fun k=>fI (gt (L5.getD k []) 6)) (fun k=>tS (gt (L6.getD k []) 0)) (fun k=>tS (gt (L6.getD k []) 1)) (fun k=>tS (gt (L6.getD k []) 2)) (fun k=>fI (gt (L6.getD k []) 3)) (fun k=>fI (gt (L6.getD k []) 4)) (fun k=>fI (gt (L6.getD k []) 5)) (fun k=>zdZ (L5.getD k [])) (decide (0<L6.length∨v7≠0∨v8≠0)) w ⟨l5,l6⟩ (hide fun w' hk=>?_) (hide td) (hide fun a b h1 h2 w'=>ziG a b w' h1 h2) (hide fun k hk w' hw=>ziJ (q5 _ (zaV hk)) (h5 _ (zaV hk)) (Rvs.keep hw _ _ (zeA q5 m5 k hk))) (hide fun k hk=>?_) (hide fun k hk=>?_) (hide ⟨za1 u0,za1 u1,za1 u2,za1 u3,za1 u4,za1 u7,za1 u8⟩) (hide fun k hk=>hN _ (zaV hk)) (hide fun k hk=>?_) (hide ?_)
 rotate_left
 ·have:=zcV (w:=w') hs' (Rvs.keep hk _ _ hr');rw[hB']at this;exact this
 ·obtain⟨ad,e,_,h⟩:=zfV hp hF q5 m5 k hk;exact⟨ad,e,h⟩
 ·obtain⟨ad,e,_,h⟩:=zfW hp hF q6 m6 k hk;exact⟨ad,e,h⟩
 ·have h:=h6 _ (zaV hk);have hv:=zac (zac (zac h));obtain⟨w3,hv⟩:=zaa hv;obtain⟨w4,hv⟩:=zaa hv;exact⟨zaA (zal h),zaA (zal (zac h)),zaA (zal (zac (zac h))),za1 w3,za1 w4⟩
 ·by_cases h:0<L6.length∨v7≠0∨v8≠0
  ·rw[decide_eq_true h];show _∨_;omega
  ·rw[decide_eq_false h];show _∧_;omega
 ·refine key.mono ?_;rintro e w' ⟨v,rfl,hb,hk⟩;refine⟨v,rfl,?_,hk⟩;unfold znm zo8
  simp only[zbW,gt,List.getD_cons_zero,List.getD_cons_succ,fL,fI,dI];rw[← zaE zdZ L5,← zaE ziH L6];simp only[ziH];simp only[decide_eq_true_eq]at hb;simpa only[List.append_assoc]using hb
end S
end Go.Proofs.YtfepanidippjlaaGreatDoor
namespace Go.Proofs.YtfepanidippjlaaGreatDoor.nts
open Go.ChangeShapes Go.WideShapes Go.ChangeAt Go.RowKit
attribute [local go_sem ↓] Go.wp_at_zero Go.wp_at_succ
set_option linter.unusedVariables false
set_option linter.unusedSimpArgs false
set_option maxRecDepth 10000
open S
def ShQ (E:Int) (o:List UInt8) (w:World) (e:Ending) (w':World):Prop:=∃ a n c,e= .returned (.tuple #[.slice a n c,.int .i64 E])∧n=o.length∧By w' (.slice a n c) o∧Keep w w'
set_option maxHeartbeats 8000000 in
theorem all (a0 a1 a2 a3 a4:Int) (aN:Option Addr) (nN cN:Nat) (aS:Option Addr) (nS cS:Nat) (a5 a6:Int) (E:Int) (o:List UInt8) (r:Bool) (w:World)
  (TF1:Hid (∀ w',Keep w w'→Calls Tryz.prog 7 #[.agg #[.int .i64 a0,.int .i64 a1,.int .i64 a2,.int .i64 a3,.int .i64 a4,.slice aN nN cN,.slice aS nS cS,.int .i64 a5,.int .i64 a6]] w' (Ak w')))
  (TS1:Hid (∀ w',Keep w w'→Calls Tryz.prog 8 #[.agg #[.int .i64 a0,.int .i64 a1,.int .i64 a2,.int .i64 a3,.int .i64 a4,.slice aN nN cN,.slice aS nS cS,.int .i64 a5,.int .i64 a6]] w' (ShQ E o w')))
  (TS2:Hid (∀ w',Keep w w'→Calls Tryz.prog 9 #[.agg #[.int .i64 a0,.int .i64 a1,.int .i64 a2,.int .i64 a3,.int .i64 a4,.slice aN nN cN,.slice aS nS cS,.int .i64 a5,.int .i64 a6]] w' (ShQ E o w')))
  (TR1:Hid (∀ w',Keep w w'→Calls Tryz.prog 10 #[.agg #[.int .i64 a0,.int .i64 a1,.int .i64 a2,.int .i64 a3,.int .i64 a4,.slice aN nN cN,.slice aS nS cS,.int .i64 a5,.int .i64 a6]] w' fun e w''=>e= .returned (.bool r)∧Keep w' w''))
  (TR2:Hid (∀ w',Keep w w'→Calls Tryz.prog 11 #[.agg #[.int .i64 a0,.int .i64 a1,.int .i64 a2,.int .i64 a3,.int .i64 a4,.slice aN nN cN,.slice aS nS cS,.int .i64 a5,.int .i64 a6]] w' fun e w''=>e= .returned (.bool r)∧Keep w' w''))
  (TA:Hid (∀ w',Keep w w'→Calls Tryz.prog 12 #[] w' fun e w''=>e= .returned (.bool true)∧Keep w' w'')):
  Calls Tryz.prog 3 #[.agg #[.int .i64 a0,.int .i64 a1,.int .i64 a2,.int .i64 a3,.int .i64 a4,.slice aN nN cN,.slice aS nS cS,.int .i64 a5,.int .i64 a6]] w fun e w'=>e= .returned (.bool true)∧Keep w w':=by
 go_enter Tryz.func3,Tryz.ntmps3
 go_upto_region 1 with fail
 have HK1:=hide ((Keep.refl w).alloc (.cells #[.int .i64 a0,.int .i64 a1,.int .i64 a2,.int .i64 a3,.int .i64 a4,.slice aN nN cN,.slice aS nS cS,.int .i64 a5,.int .i64 a6] 27));have hx:=heap_alloc_new w (.cells #[.int .i64 a0,.int .i64 a1,.int .i64 a2,.int .i64 a3,.int .i64 a4,.slice aN nN cN,.slice aS nS cS,.int .i64 a5,.int .i64 a6] 27);generalize w.alloc (.cells #[.int .i64 a0,.int .i64 a1,.int .i64 a2,.int .i64 a3,.int .i64 a4,.slice aN nN cN,.slice aS nS cS,.int .i64 a5,.int .i64 a6] 27)=w1 at HK1 hx ⊢;generalize w.heap.size=xb at hx ⊢;have HX:Hid (∀ w',Keep w1 w'→w'.cell? ⟨xb,0,none⟩=some (.int .i64 a0)∧w'.cell? ⟨xb,1,none⟩=some (.int .i64 a1)∧w'.cell? ⟨xb,2,none⟩=some (.int .i64 a2)∧w'.cell? ⟨xb,3,none⟩=some (.int .i64 a3)∧w'.cell? ⟨xb,4,none⟩=some (.int .i64 a4)∧w'.cell? ⟨xb,5,none⟩=some (.slice aN nN cN)∧w'.cell? ⟨xb,6,none⟩=some (.slice aS nS cS)∧w'.cell? ⟨xb,7,none⟩=some (.int .i64 a5)∧w'.cell? ⟨xb,8,none⟩=some (.int .i64 a6)):=hide (fun w' k9=>by have h:=k9.block xb (Array.getElem?_eq_some_iff.1 hx).1;rw[hx]at h;refine⟨?_,?_,?_,?_,?_,?_,?_,?_,?_⟩<;>simp[World.cell?,h]);clear hx;obtain⟨p0,p1,p2,p3,p4,p5,p6,p7,p8⟩:=(uq HX) w1 (Keep.refl _);go_wp2_with fail
 (refine((uq TF1) _ (uq HK1)).mono ?_;rintro e w2 ⟨b,rfl,hk⟩;have HL2:=hide hk;have HK2:=hide ((uq HK1).trans hk);clear hk);clear p0 p1 p2 p3 p4 p5 p6 p7 p8;cases b
 ·go_wp2_with fail
  go_ret;exact⟨rfl,uq HK2⟩
 obtain⟨p0,p1,p2,p3,p4,p5,p6,p7,p8⟩:=(uq HX) w2 (uq HL2);go_wp2_with fail
 (refine((uq TS1) _ (uq HK2)).mono ?_;rintro e w4 ⟨s1,l1,c1,rfl,hn,hb,hk⟩;have HB4:=hide hb;have HM4:=hide hk;have HL4:=hide ((uq HL2).trans hk);have HK4:=hide ((uq HK2).trans hk);clear hk hb hn);clear p0 p1 p2 p3 p4 p5 p6 p7 p8;obtain⟨p0,p1,p2,p3,p4,p5,p6,p7,p8⟩:=(uq HX) w4 (uq HL4);go_wp2_with fail
 (refine((uq TS2) _ (uq HK4)).mono ?_;rintro e w5 ⟨s2,l2,c2,rfl,hn,hb,hk⟩;have HB5:=hide hb;have HM5:=hide hk;have HL5:=hide ((uq HL4).trans hk);have HK5:=hide ((uq HK4).trans hk);clear hk hb hn);clear p0 p1 p2 p3 p4 p5 p6 p7 p8;obtain⟨SS,HSS⟩:∃ S,Hid (sv o=S):=⟨_,hide rfl⟩;have HSX:Hid (∀ w',Keep w5 w'→w'.cell? ⟨xb,0,none⟩=some (.int .i64 a0)∧w'.cell? ⟨xb,1,none⟩=some (.int .i64 a1)∧w'.cell? ⟨xb,2,none⟩=some (.int .i64 a2)∧w'.cell? ⟨xb,3,none⟩=some (.int .i64 a3)∧w'.cell? ⟨xb,4,none⟩=some (.int .i64 a4)∧w'.cell? ⟨xb,5,none⟩=some (.slice aN nN cN)∧w'.cell? ⟨xb,6,none⟩=some (.slice aS nS cS)∧w'.cell? ⟨xb,7,none⟩=some (.int .i64 a5)∧w'.cell? ⟨xb,8,none⟩=some (.int .i64 a6)∧(convert 29 9 (.slice s1 l1 c1)).run Tryz.prog w'= .ok (.string SS) w'∧(convert 29 9 (.slice s2 l2 c2)).run Tryz.prog w'= .ok (.string SS) w'):=hide (fun w' k9=>by
   obtain⟨p0,p1,p2,p3,p4,p5,p6,p7,p8⟩:=(uq HX) w' ((uq HL5).trans k9);refine⟨p0,p1,p2,p3,p4,p5,p6,p7,p8,?_,?_⟩
   ·have:=zid ((uq HB4).keep ((uq HM5).trans k9)) (t:=29) (u:=9) Tryz.underlying29 Tryz.underlying9;rwa[uq HSS]at this
   ·have:=zid ((uq HB5).keep k9) (t:=29) (u:=9) Tryz.underlying29 Tryz.underlying9;rwa[uq HSS]at this)
 go_upto_region 5 with fail
 refine wp_region_held_drew (S:=fun w'=>w'.cell? ⟨xb,0,none⟩=some (.int .i64 a0)∧w'.cell? ⟨xb,1,none⟩=some (.int .i64 a1)∧w'.cell? ⟨xb,2,none⟩=some (.int .i64 a2)∧w'.cell? ⟨xb,3,none⟩=some (.int .i64 a3)∧w'.cell? ⟨xb,4,none⟩=some (.int .i64 a4)∧w'.cell? ⟨xb,5,none⟩=some (.slice aN nN cN)∧w'.cell? ⟨xb,6,none⟩=some (.slice aS nS cS)∧w'.cell? ⟨xb,7,none⟩=some (.int .i64 a5)∧w'.cell? ⟨xb,8,none⟩=some (.int .i64 a6)∧(convert 29 9 (.slice s1 l1 c1)).run Tryz.prog w'= .ok (.string SS) w'∧(convert 29 9 (.slice s2 l2 c2)).run Tryz.prog w'= .ok (.string SS) w') (by kernel_rfl) (by exact(uq HSX) _ (Keep.refl w5).drew) (fun hHeld=>?_);refine tkk 0 20 hHeld ?_;try simp only[Act.put,Ya,Yb,Yc]
 refine tkk 1 21 hHeld ?_;try simp only[Act.put,Ya,Yb,Yc]
 refine tkk 2 22 hHeld ?_;try simp only[Act.put,Ya,Yb,Yc]
 refine tkk 3 23 hHeld ?_;try simp only[Act.put,Ya,Yb,Yc]
 refine tkk 4 24 hHeld ?_;try simp only[Act.put,Ya,Yb,Yc]
 refine tkk 5 25 hHeld ?_;try simp only[Act.put,Ya,Yb,Yc]
 refine tkk 6 26 hHeld ?_;try simp only[Act.put,Ya,Yb,Yc]
 refine tkk 7 27 hHeld ?_;try simp only[Act.put,Ya,Yb,Yc]
 refine tkk 8 28 hHeld ?_;try simp only[Act.put,Ya,Yb,Yc]
 refine tkk 9 29 hHeld ?_;try simp only[Act.put,Ya,Yb,Yc]
 refine tkk 10 30 hHeld ?_;try simp only[Act.put,Ya,Yb,Yc]
 refine tkk 11 31 hHeld ?_;try simp only[Act.put,Ya,Yb,Yc]
 refine tkk 13 33 hHeld ?_;try simp only[Act.put,Ya,Yb,Yc]
 refine zaC 12 (fun K hK=>?_);go_simp;clear hHeld;(refine((uq TR1) _ (uq HK5).drew).mono ?_;rintro e w6 ⟨rfl,hk⟩;have HX6:=hide (((Keep.refl w5).drew).trans hk);clear hk);try go_wp2_with fail
 refine hK.out _ _ ?_ (fun hHeld=>?_)
 ·exact(uq HSX) _ (uq HX6)
 clear hK K;try simp only[Act.put,Ya,Yb,Yc]
 refine zaC 14 (fun K hK=>?_);go_simp;clear hHeld;(refine((uq TR2) _ ((uq HK5).trans (uq HX6))).mono ?_;rintro e w7 ⟨rfl,hk⟩;have HX7:=hide ((uq HX6).trans hk);clear hk);try go_wp2_with fail
 refine hK.out _ _ ?_ (fun hHeld=>?_)
 ·exact(uq HSX) _ (uq HX7)
 clear hK K;try simp only[Act.put,Ya,Yb,Yc]
 refine tkk 15 35 hHeld ?_;try simp only[Act.put,Ya,Yb,Yc]
 refine tkk 16 36 hHeld ?_;try simp only[Act.put,Ya,Yb,Yc]
 refine tkk 17 37 hHeld ?_;try simp only[Act.put,Ya,Yb,Yc]
 refine zaC 18 (fun K hK=>?_);go_simp;clear hHeld;(refine((uq TA) _ ((uq HK5).trans (uq HX7))).mono ?_;rintro e w8 ⟨rfl,hk⟩;have HX8:=hide ((uq HX7).trans hk);clear hk);try go_wp2_with fail
 refine hK.out _ _ ?_ (fun hHeld=>?_)
 ·exact(uq HSX) _ (uq HX8)
 clear hK K;try simp only[Act.put,Ya,Yb,Yc]
 refine tkk 19 39 hHeld ?_;try simp only[Act.put,Ya,Yb,Yc]
 refine tkk 20 2 hHeld ?_;try simp only[Act.put,Ya,Yb,Yc]
 refine wpAnyH_done (by kernel_rfl) ?_ _;clear hHeld;go_wp2_with fail
 go_ret;exact⟨rfl,(uq HK5).trans (uq HX8)⟩
end Go.Proofs.YtfepanidippjlaaGreatDoor.nts
namespace Go.Proofs.YtfepanidippjlaaGreatDoor.nts
open Go.ChangeShapes Go.WideShapes Go.ChangeAt Go.RowKit
open Go.WideMaps Go.WideElems
attribute [local go_sem ↓] Go.wp_at_zero Go.wp_at_succ
set_option linter.unusedVariables false
set_option linter.unusedSimpArgs false
set_option maxRecDepth 10000
open S
theorem shq {w:World} {ds:List D} {us:List Value} (hs:ShL zct ds) (hr:Rvs w ds us) (ht:Tab w):Calls Tryz.prog 8 #[.agg us.toArray] w (ShQ (if zcs ds then 0 else 1) (if zcs ds then txt ds else []) w):=by
 cases hB:zcs ds with
 |false=>
  refine(zjF hs hB hr).mono ?_;rintro e w' ⟨rfl,hk⟩;exact⟨none,0,0,rfl,rfl,⟨none,0,rfl,Nat.le_refl _,fun k hk=>by simp at hk⟩,hk⟩
 |true=>
  refine(zf0 hs hB hr ht).mono ?_;rintro e w' ⟨v,rfl,hb,hk⟩;obtain⟨a,cap,rfl⟩:=hb.shape;exact⟨a,_,cap,rfl,rfl,hb,hk⟩
theorem zqM {w:World} {ds:List D} {us:List Value} (hs:ShL zct ds) (hr:Rvs w ds us):Calls Tryz.prog 9 #[.agg us.toArray] w (ShQ (if zcs ds then 0 else 1) (if zcs ds then txt ds else []) w):=by
 cases hB:zcs ds with
 |false=>
  refine(ziM hs hB hr).mono ?_;rintro e w' ⟨rfl,hk⟩;exact⟨none,0,0,rfl,rfl,⟨none,0,rfl,Nat.le_refl _,fun k hk=>by simp at hk⟩,hk⟩
 |true=>
  refine(ziN hs hB hr).mono ?_;rintro e w' ⟨v,rfl,hb,hk⟩;rw[← zpb hB]at hb;obtain⟨a,cap,rfl⟩:=hb.shape;exact⟨a,_,cap,rfl,rfl,hb,hk⟩
theorem nine {w:World} {ds:List D} {us:List Value} (hs:ShL zct ds) (hr:Rvs w ds us):∃ a0 a1 a2 a3 a4 aN nN cN aS nS cS a5 a6,us= [.int .i64 a0,.int .i64 a1,.int .i64 a2,.int .i64 a3,.int .i64 a4,.slice aN nN cN,.slice aS nS cS,.int .i64 a5,.int .i64 a6]:=by
 simp only[ShL,Sh1,zct]at hs;obtain⟨_,_,rfl,⟨v0,rfl,_⟩,⟨_,_,rfl,⟨v1,rfl,_⟩,⟨_,_,rfl,⟨v2,rfl,_⟩,⟨_,_,rfl,⟨v3,rfl,_⟩,⟨_,_,rfl,⟨v4,rfl,_⟩,⟨_,_,rfl,⟨L5,rfl,_⟩,⟨_,_,rfl,⟨L6,rfl,_⟩,⟨_,_,rfl,⟨v7,rfl,_⟩,⟨_,_,rfl,⟨v8,rfl,_⟩,rfl⟩⟩⟩⟩⟩⟩⟩⟩⟩:=hs;simp only[Rvs,Rv,dI]at hr;obtain⟨_,_,rfl,rfl,_,_,rfl,rfl,_,_,rfl,rfl,_,_,rfl,rfl,_,_,rfl,rfl,_,_,rfl,⟨x5,z5,rfl,_⟩,_,_,rfl,⟨x6,z6,rfl,_⟩,_,_,rfl,rfl,_,_,rfl,rfl,rfl⟩:=hr;exact⟨_,_,_,_,_,_,_,_,_,_,_,_,_,rfl⟩
theorem zqs {w:World} {ds:List D} {us:List Value} (hs:ShL zct ds) (hr:Rvs w ds us) (ht:Tab w):Calls Tryz.prog 3 #[.agg us.toArray] w fun e w'=>e= .returned (.bool true)∧Below w.heap.size w w':=by
 have TF1:∀ w',Keep w w'→Calls Tryz.prog 7 #[.agg us.toArray] w' (Ak w'):=fun w' k=>zm3 hs (Rvs.keep k _ _ hr)
 have TS1:∀ w',Keep w w'→Calls Tryz.prog 8 #[.agg us.toArray] w' _:=fun w' k=>shq hs (Rvs.keep k _ _ hr) (ht.keep k)
 have TS2:∀ w',Keep w w'→Calls Tryz.prog 9 #[.agg us.toArray] w' _:=fun w' k=>zqM hs (Rvs.keep k _ _ hr)
 have TR1:∀ w',Keep w w'→Calls Tryz.prog 10 #[.agg us.toArray] w' fun e w''=>e= .returned (.bool (zcs ds))∧Keep w' w'':=fun w' k=>zcw hs (Rvs.keep k _ _ hr)
 have TR2:∀ w',Keep w w'→Calls Tryz.prog 11 #[.agg us.toArray] w' fun e w''=>e= .returned (.bool (zcs ds))∧Keep w' w'':=fun w' k=>zcV hs (Rvs.keep k _ _ hr)
 have TA:∀ w',Keep w w'→Calls Tryz.prog 12 #[] w' fun e w''=>e= .returned (.bool true)∧Keep w' w'':=fun w' k=>ziu w' (ht.keep k)
 obtain⟨a0,a1,a2,a3,a4,aN,nN,cN,aS,nS,cS,a5,a6,rfl⟩:=nine hs hr;exact all a0 a1 a2 a3 a4 aN nN cN aS nS cS a5 a6 _ _ _ w (hide TF1) (hide TS1) (hide TS2) (hide TR1) (hide TR2) (hide TA)
theorem znf:laidOutB Tryz.prog=true:=by kernel_rfl
theorem own:ownKnob Tryz.prog.godebug=none:=by kernel_rfl
theorem zpy {W:World} (h:laidMetH Tryz.prog Rows.showNetsRow.laid W):Tab W:=by
 have h':laidMet Tryz.prog Rows.showNetsRow.laid W:=h;obtain⟨g,t,cs,fuel,p,hg,ht,hv,hd⟩:=Lib.laidMet.reads h' (n:= "internal/strconv.uint64pow10") (d:=Rows.laid_internal_strconv_uint64pow10) (.tail _ (.tail _ (.head _)));have hg2:Tryz.prog.globalNamed "internal/strconv.uint64pow10" =some 1:=by kernel_rfl
 obtain rfl:g=1:=(Option.some.inj (hg2.symm.trans hg)).symm;have ht2:(Tryz.prog.globals[1]?).map (·.type)=some 263:=by kernel_rfl
 obtain rfl:t=263:=(Option.some.inj (ht2.symm.trans ht)).symm;have e:(Rows.laid_internal_strconv_uint64pow10:DataW Unit)=Lib.tabData .u64 Lib.pow10Tab:=by rfl
 rw[e]at hd;have hc:=Lib.cells_of_tab Tryz.underlying263 Tryz.underlying156 (by kernel_rfl) (by kernel_rfl) hd;unfold Tab Lib.TabIs
 rw[hv,← hc]
theorem zjY (os:Os) (args:Array Value):laidMetH Tryz.prog Rows.showNetsRow.laid ((World.doorLaid Tryz.prog 24 os).forCall (fun _ _=>0) ⟨#[],args,[]⟩).memory:=
 laidMetH_of_parts3 (fuel:=8) (laidMet_of_run' 8 (by kernel_rfl) (by kernel_rfl)) (by kernel_rfl) (by kernel_rfl)
set_option maxHeartbeats 400000 in
set_option maxRecDepth 100000 in
theorem zpz (os:Os) (started:os.Started) (H:Type) (enc:TypeId×Value→H):
  ReturnsInHanded {} Tryz.checked os 3 .any (fun w args=>(Rows.showNetsSpec.pre enc Tryz.prog Tryz.f3 [] false w args∧laidMetH Tryz.prog Rows.showNetsRow.laid w)∧sizedMet enc Tryz.prog Tryz.f3 (OpenSpec.ofChange Rows.showNetsSpec) false w args)
   (Rows.showNetsSpec.post enc Tryz.prog Tryz.f3 false true false false):=by
 refine returnsInHanded_of_change_and (C:=Tryz.checked) (X:=fun w _=>laidMetH Tryz.prog Rows.showNetsRow.laid w) (fun _ _ _ hh h=>h.of_heap hh) own started (by kernel_rfl) Tryz.func3
  (ChangeSpec.witness_shaped (enc:=enc) (C:=Tryz.checked) (os:=os) (X:=fun w _=>laidMetH Tryz.prog Rows.showNetsRow.laid w) false (World.doorLaid Tryz.prog 24 os) #[.agg #[.int .i64 0,.int .i64 0,.int .i64 0,.int .i64 0,.int .i64 0,.slice none 0 0,.slice none 0 0,.int .i64 0,.int .i64 0]] 8 rfl (World.shaped_of_RefB (by kernel_rfl) (by kernel_rfl)) (by kernel_rfl) (by kernel_rfl) (by kernel_rfl) (zjY os _)) ?_
 intro W base args ds gs before hval0 hW _ _ hL _
 have hval:∀(j:Nat) t v,Tryz.f3.params[j]? =some t→args[j]? =some v→Value.okWide Tryz.prog W .any base t v:=hval0;have hW':=hW;obtain⟨p,q,hA0,hV,rfl,hfz,hnd⟩:=hW;have hA:DataW.TrodAll enc Tryz.prog W 0 (fun _=>true) true Tryz.f3.params.toList args.toList ds p:=hA0;rw[Tryz.params3]at hA hval;obtain⟨v0,vs0,d0,ds0,p0,q0,hargs,rfl,rfl,h0,r0⟩:=trodAll_cons hA;obtain⟨rfl,rfl,rfl⟩:=trodAll_nil r0;obtain rfl:args=#[v0]:=by cases args;simp_all
 obtain⟨rfl,rfl⟩:=trodVars_none hV;have k0:=h0;have lt0:∀ x∈p0,x.block<W.heap.size:=by obtain⟨m,hm⟩:=k0;exact DataW.trod_lt m _ _ _ hm
 obtain⟨es0,us0,rfl,s0,x0⟩:=zfd Tryz.underlying27 S.net_desc (hval 0 27 v0 rfl rfl) h0;clear h0;clear hA0 hval0;refine(zqs s0 x0 (zpy hL)).mono fun e W' ⟨he,bel⟩=>?_
 subst he;exact⟨_,rfl,_,_,_,[],_,[],hW',trodAll_mk1 (shut_bool Tryz.underlying4 _),(trodAll_cons_mk (Below.trod znf (by kernel_rfl) (of_decide_eq_true (by kernel_rfl)) k0 bel lt0) trodAll_mk0),rfl,bel.frame _,fun h=>by cases h⟩
theorem over:Rows.showNetsRow.holds Tryz.pinned (OpenSpec.ofChange Rows.showNetsSpec):=
 OpenClaim.holds_of_wide 3 Tryz.f3 rfl rfl rfl rfl rfl rfl rfl ⟨rfl,rfl,rfl,rfl,rfl⟩ rfl rfl rfl rfl rfl (by kernel_rfl) Tryz.func3 (by kernel_rfl)
  (of_decide_eq_true (by kernel_rfl)) (by unfold Func.isWrapper;first|(rw[if_pos (by decide+kernel)];kernel_rfl)|(rw[if_neg (by decide+kernel)];exact⟨rfl,rfl⟩))
  (fun os started H enc _=>zpz os started H enc)
theorem card:Claim7.holds Tryz.pinned (.plain (OpenSpec.ofChange Rows.showNetsSpec)) Rows.showNetsCard:=
 Claim7.holds_tied_plain_at .later [] [.data,.data,.data] true _ true
  over (fun _ h=>by cases h) (by kernel_rfl) (fun _ h=>by cases h) showNets_row_tie rfl ⟨rfl,rfl⟩ (by kernel_rfl) rfl
  (fun f fn hf hfn=>by
   obtain rfl:f=3:=Option.some.inj ((show Tryz.prog.funcNamed Rows.showNetsRow.func=some 3 by kernel_rfl).symm.trans hf) |>.symm;obtain rfl:fn=Tryz.f3:=(Option.some.inj (Tryz.func3.symm.trans hfn)).symm;exact⟨by kernel_rfl,fun j t ht=>by
    rw[Tryz.params3]at ht;have hm:t∈ [27]:=by simpa using Array.mem_of_getElem? ht
    have hall:([27].all fun u=> !Tryz.prog.wantsStandIn u)=true:=by kernel_rfl
    exact(show Tryz.prog.wantsStandIn t=false by simpa using List.all_eq_true.1 hall t hm)⟩)
  (by kernel_rfl)
end Go.Proofs.YtfepanidippjlaaGreatDoor.nts
namespace Go.Proofs.YtfepanidippjlaaGreatDoor
theorem ShowNets_holds:Rows.ShowNetsCardSaid:=nts.card
end Go.Proofs.YtfepanidippjlaaGreatDoor
