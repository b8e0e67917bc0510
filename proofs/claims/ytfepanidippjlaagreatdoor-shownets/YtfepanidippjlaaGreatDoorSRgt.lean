/- The document's answer for layer 6: Show, over trees. -/
import Derived.Test.YtfepanidippjlaaGreatDoorSRtS
import Derived.Test.YtfepanidippjlaaGreatDoorSRfA
import Derived.Test.YtfepanidippjlaaGreatDoorSRfT
import Derived.Test.YtfepanidippjlaaGreatDoorSRow
namespace Go.Proofs.YtfepanidippjlaaGreatDoor
open Go.RowKit
attribute [local go_sem ↓] Go.wp_at_zero Go.wp_at_succ
set_option linter.unusedVariables false
set_option linter.unusedSimpArgs false
set_option maxRecDepth 10000
namespace S
theorem ziA {w:World} {ds:List D} {us:List Value} (hs:ShL zct ds) (hB:zcs ds=false) (hr:Rvs w ds us):Calls Tryz.prog 9 #[.agg us.toArray] w fun e w'=>e= .returned (.tuple #[.slice none 0 0,.int .i64 1])∧Keep w w':=by
 have hs':=hs;have hr':=hr;simp only[ShL,Sh1,zct]at hs;obtain⟨_,_,rfl,⟨v0,rfl,_,_⟩,⟨_,_,rfl,⟨v1,rfl,_,_⟩,⟨_,_,rfl,⟨v2,rfl,_,_⟩,⟨_,_,rfl,⟨v3,rfl,_,_⟩,⟨_,_,rfl,⟨v4,rfl,_,_⟩,⟨_,_,rfl,⟨L5,rfl,_,q5⟩,⟨_,_,rfl,⟨L6,rfl,_,q6⟩,⟨_,_,rfl,⟨v7,rfl,_,_⟩,⟨_,_,rfl,⟨v8,rfl,_,_⟩,rfl⟩⟩⟩⟩⟩⟩⟩⟩⟩:=hs;simp only[Rvs,Rv,dS,dI,dB]at hr;obtain⟨_,_,rfl,rfl,⟨_,_,rfl,rfl,⟨_,_,rfl,rfl,⟨_,_,rfl,rfl,⟨_,_,rfl,rfl,⟨_,_,rfl,⟨x5,z5,rfl,y5,m5⟩,⟨_,_,rfl,⟨x6,z6,rfl,y6,m6⟩,⟨_,_,rfl,rfl,⟨_,_,rfl,rfl,rfl⟩⟩⟩⟩⟩⟩⟩⟩⟩:=hr;refine zjH v0 v1 v2 v3 v4 x5 L5.length z5 x6 L6.length z6 v7 v8 w (hide fun w' hk=>?_);have:=zcV (w:=w') hs' (Rvs.keep hk _ _ hr');rw[hB]at this;exact this
theorem zdp {α:Type} {f:α→List UInt8} :∀ {l:List α} {x:α},x∈l→(f x).length≤(l.flatMap f).length
 |a :: l,x,h=>by
  rw[List.flatMap_cons,List.length_append];rcases List.mem_cons.1 h with rfl|h
  ·omega
  ·have:=zdp (f:=f) h;omega
set_option maxHeartbeats 4000000 in
theorem ziB {w:World} {ds:List D} {us:List Value} (hs:ShL zct ds) (hB:zcs ds=true) (hr:Rvs w ds us):Calls Tryz.prog 9 #[.agg us.toArray] w fun e w'=>∃ v,e= .returned (.tuple #[v,.int .i64 0])∧By w' v (znl ds)∧Keep w w':=by
 have hX:(znl ds).length≤1000000:=by rw[← zoU hB];exact zik hB
 have hB':=hB;unfold zcs at hB
 simp only[Bool.and_eq_true]at hB;have BV:zbs [fI (gt ds 0),fI (gt ds 1),fI (gt ds 2),fI (gt ds 3),fI (gt ds 4),fI (gt ds 7),fI (gt ds 8)]=true:=by simp only[hB]
 have B5:zbb 0 12 zbR (fL (gt ds 5))=true:=by simp only[hB]
 have B6:zbb 0 12 zbv (fL (gt ds 6))=true:=by simp only[hB]
 obtain⟨⟨_,l5⟩,h5⟩:=zag B5;obtain⟨⟨_,l6⟩,h6⟩:=zag B6;obtain⟨u0,BV⟩:=zaa BV;obtain⟨u1,BV⟩:=zaa BV;obtain⟨u2,BV⟩:=zaa BV;obtain⟨u3,BV⟩:=zaa BV;obtain⟨u4,BV⟩:=zaa BV;obtain⟨u7,BV⟩:=zaa BV;obtain⟨u8,BV⟩:=zaa BV;have hN:∀ d∈fL (gt ds 5),(zdZ d).length≤1000000:=fun d hd=>by
  have:=zdp (f:=zdZ) hd;unfold znl at hX
  simp only[List.length_append]at hX;omega
 clear B5 B6 BV hB hX;have hs':=hs;have hr':=hr;simp only[ShL,Sh1,zct]at hs;obtain⟨_,_,rfl,⟨v0,rfl,_,_⟩,⟨_,_,rfl,⟨v1,rfl,_,_⟩,⟨_,_,rfl,⟨v2,rfl,_,_⟩,⟨_,_,rfl,⟨v3,rfl,_,_⟩,⟨_,_,rfl,⟨v4,rfl,_,_⟩,⟨_,_,rfl,⟨L5,rfl,_,q5⟩,⟨_,_,rfl,⟨L6,rfl,_,q6⟩,⟨_,_,rfl,⟨v7,rfl,_,_⟩,⟨_,_,rfl,⟨v8,rfl,_,_⟩,rfl⟩⟩⟩⟩⟩⟩⟩⟩⟩:=hs;simp only[Rvs,Rv,dS,dI,dB]at hr;obtain⟨_,_,rfl,rfl,⟨_,_,rfl,rfl,⟨_,_,rfl,rfl,⟨_,_,rfl,rfl,⟨_,_,rfl,rfl,⟨_,_,rfl,⟨x5,z5,rfl,y5,m5⟩,⟨_,_,rfl,⟨x6,z6,rfl,y6,m6⟩,⟨_,_,rfl,rfl,⟨_,_,rfl,rfl,rfl⟩⟩⟩⟩⟩⟩⟩⟩⟩:=hr;simp only[gt,List.getD_cons_zero,List.getD_cons_succ,fL,fI,dI]at l5 h5 l6 h6 u0 u1 u2 u3 u4 u7 u8 hN;have hp:w.heap.size≤w.heap.size:=Nat.le_refl _;have hF:=Fb.refl w.heap.size w;have key:=zgC v0 v1 v2 v3 v4 x5 L5.length z5 x6 L6.length z6 v7 v8 (fun k=>sv (tS (gt (L5.getD k []) 0))) (sA w x5 7 1) (sN w x5 7 1) (sC w x5 7 1) (sA w x5 7 2) (sN w x5 7 2) (sC w x5 7 2) (sA w x5 7 3) (sN w x5 7 3) (sC w x5 7 3) (sA w x5 7 4) (sN w x5 7 4) (sC w x5 7 4) (sA w x5 7 5) (sN w x5 7 5) (sC w x5 7 5) (fun k=>fI (gt (L5.getD k []) 6)) (fun k=>tS (gt (L6.getD k []) 0)) (fun k=>tS (gt (L6.getD k []) 1)) (fun k=>tS (gt (L6.getD k []) 2)) (fun k=>fI (gt (L6.getD k []) 3)) (fun k=>fI (gt (L6.getD k []) 4)) (fun k=>fI (gt (L6.getD k []) 5)) (fun k=>zdZ (L5.getD k [])) (decide (0<L6.length∨v7≠0∨v8≠0)) w ⟨l5,l6⟩ (hide fun w' hk=>?_) (hide td) (hide fun a b h1 h2 w'=>ziu a b w' h1 h2) (hide fun k hk w' hw=>zix (q5 _ (zaV hk)) (h5 _ (zaV hk)) (Rvs.keep hw _ _ (zeA q5 m5 k hk))) (hide fun k hk=>?_) (hide fun k hk=>?_) (hide ⟨za1 u0,za1 u1,za1 u2,za1 u3,za1 u4,za1 u7,za1 u8⟩) (hide fun k hk=>hN _ (zaV hk)) (hide fun k hk=>?_) (hide ?_)
 rotate_left
 ·have:=zcV (w:=w') hs' (Rvs.keep hk _ _ hr');rw[hB']at this;exact this
 ·obtain⟨ad,e,_,h⟩:=zfV hp hF q5 m5 k hk;exact⟨ad,e,h⟩
 ·obtain⟨ad,e,_,h⟩:=zfW hp hF q6 m6 k hk;exact⟨ad,e,h⟩
 ·have h:=h6 _ (zaV hk);have hv:=zac (zac (zac h));obtain⟨w3,hv⟩:=zaa hv;obtain⟨w4,hv⟩:=zaa hv;exact⟨zaA (zal h),zaA (zal (zac h)),zaA (zal (zac (zac h))),za1 w3,za1 w4⟩
 ·by_cases h:0<L6.length∨v7≠0∨v8≠0
  ·rw[decide_eq_true h];show _∨_;omega
  ·rw[decide_eq_false h];show _∧_;omega
 ·refine key.mono ?_;rintro e w' ⟨v,rfl,hb,hk⟩;refine⟨v,rfl,?_,hk⟩;unfold znl zoR
  simp only[zbW,gt,List.getD_cons_zero,List.getD_cons_succ,fL,fI,dI];rw[← zaE zdZ L5,← zaE ziv L6];simp only[ziv];simp only[decide_eq_true_eq]at hb;simpa only[List.append_assoc]using hb
end S
namespace S
theorem zdE {W:World} {us:List Value} {t:TypeId} {g:Nat} (hg:W.heap.size=g):∀ k u,us[k]? =some u→(W.alloc (.cells us.toArray t)).cell? ⟨g,k,none⟩=some u:=fun k u hu=>by subst hg;exact(Q.bxs_new W us t k u hu).1
theorem zeh {w:World} {ds:List D} {us:List Value} (hs:ShL zbK ds) (hr:Rvs w ds us):Calls Tryz.prog 47 #[us.getD 0 (.bool false)] w fun e w'=>e= .returned (.bool (zc1 ds))∧Keep w w':=by
 simp only[ShL,Sh1,zbK]at hs;obtain⟨_,_,rfl,⟨s,rfl,_⟩,rfl⟩:=hs;simp only[Rvs,Rv,dS]at hr;obtain⟨_,_,rfl,rfl,rfl⟩:=hr;exact zaz (sv s) w
set_option maxHeartbeats 4000000 in
theorem zgH (s0:ByteArray) (s1:ByteArray) (v2:Int) (b0 b1:Bool) (w:World)
  (T0:Hid (∀ w',Keep w w'→Calls Tryz.prog 47 #[.string s0] w' fun e w''=>e= .returned (.bool b0)∧Keep w' w''))
  (T1:Hid (∀ w',Keep w w'→Calls Tryz.prog 47 #[.string s1] w' fun e w''=>e= .returned (.bool b1)∧Keep w' w'')):
  Calls Tryz.prog 57 #[.agg #[.string s0,.string s1,.int .i64 v2]] w fun e w'=>e= .returned (.bool (b0&&b1))∧Keep w w':=by
 go_enter Tryz.func57,Tryz.ntmps57;go_wp2_with fail
 (refine((uq T0) _ (by repeat(first|apply zab|apply Keep.alloc|exact Keep.refl _))).mono ?_;rintro e w1 ⟨rfl,hk⟩;obtain⟨o0,k0,rfl⟩:=hk.ext;clear hk);cases b0 with
 |false=>
  go_wp2_with fail
  go_ret;exact⟨by simp,(by repeat(first|apply zab|apply Keep.alloc|exact Keep.refl _))⟩
 |true=>
  go_wp2_with fail
  (refine((uq T1) _ (by repeat(first|apply zab|apply Keep.alloc|exact Keep.refl _))).mono ?_;rintro e w1 ⟨rfl,hk⟩;obtain⟨o1,k1,rfl⟩:=hk.ext;clear hk);go_wp2_with fail
  go_ret;exact⟨by simp,(by repeat(first|apply zab|apply Keep.alloc|exact Keep.refl _))⟩
theorem ziC {w:World} {ds:List D} {us:List Value} (hs:ShL zfP ds) (hr:Rvs w ds us):Calls Tryz.prog 57 #[.agg us.toArray] w fun e w'=>e= .returned (.bool (zd7 ds))∧Keep w w':=by
 simp only[ShL,Sh1,zfP]at hs;obtain⟨_,_,rfl,⟨s0,rfl,_⟩,⟨_,_,rfl,⟨s1,rfl,_⟩,⟨_,_,rfl,⟨v2,rfl,_,_⟩,rfl⟩⟩⟩:=hs;simp only[Rvs,Rv,dS,dI,dB]at hr;obtain⟨_,_,rfl,rfl,⟨_,_,rfl,rfl,⟨_,_,rfl,rfl,rfl⟩⟩⟩:=hr;exact zgH (sv s0) (sv s1) v2 (nmB s0) (nmB s1) w (hide fun w' hk=>zaz (sv s0) w') (hide fun w' hk=>zaz (sv s1) w')
set_option maxHeartbeats 4000000 in
theorem zfu (s0:ByteArray) (s1:ByteArray) (v2:Int) (v3:Int) (v4:Int) (v5:Int) (b0 b1 b2:Bool) (w:World)
  (T0:Hid (∀ w',Keep w w'→Calls Tryz.prog 47 #[.string s0] w' fun e w''=>e= .returned (.bool b0)∧Keep w' w''))
  (T1:Hid (∀ w',Keep w w'→Calls Tryz.prog 47 #[.string s1] w' fun e w''=>e= .returned (.bool b1)∧Keep w' w''))
  (T2:Hid (∀ w' g,Keep w w'→(∀ k u,[.int .i64 v2,.int .i64 v3,.int .i64 v4][k]? =some u→w'.cell? ⟨g,k,none⟩=some u)→Calls Tryz.prog 22 #[.slice (some ⟨g,0,none⟩) 3 3] w' fun e w''=>e= .returned (.bool b2)∧Keep w' w'')):
  Calls Tryz.prog 51 #[.agg #[.string s0,.string s1,.int .i64 v2,.int .i64 v3,.int .i64 v4,.int .i64 v5]] w fun e w'=>e= .returned (.bool (b0&&(b1&&b2)))∧Keep w w':=by
 go_enter Tryz.func51,Tryz.ntmps51;go_wp2_with fail
 (refine((uq T0) _ (by repeat(first|apply zab|apply Keep.alloc|exact Keep.refl _))).mono ?_;rintro e w1 ⟨rfl,hk⟩;obtain⟨o0,k0,rfl⟩:=hk.ext;clear hk);cases b0 with
 |false=>
  go_wp2_with fail
  go_ret;exact⟨by simp,(by repeat(first|apply zab|apply Keep.alloc|exact Keep.refl _))⟩
 |true=>
  go_wp2_with fail
  (refine((uq T1) _ (by repeat(first|apply zab|apply Keep.alloc|exact Keep.refl _))).mono ?_;rintro e w1 ⟨rfl,hk⟩;obtain⟨o1,k1,rfl⟩:=hk.ext;clear hk);cases b1 with
  |false=>
   go_wp2_with fail
   go_ret;exact⟨by simp,(by repeat(first|apply zab|apply Keep.alloc|exact Keep.refl _))⟩
  |true=>
   go_wp2_with fail
   (refine((uq T2) _ _ (by repeat(first|apply zab|apply Keep.alloc|exact Keep.refl _)) (zdE (by simp))).mono ?_;rintro e w1 ⟨rfl,hk⟩;obtain⟨o2,k2,rfl⟩:=hk.ext;clear hk);go_wp2_with fail
   go_ret;exact⟨by simp,(by repeat(first|apply zab|apply Keep.alloc|exact Keep.refl _))⟩
theorem zgI {w:World} {ds:List D} {us:List Value} (hs:ShL zfO ds) (hr:Rvs w ds us):Calls Tryz.prog 51 #[.agg us.toArray] w fun e w'=>e= .returned (.bool (zbx ds))∧Keep w w':=by
 simp only[ShL,Sh1,zfO]at hs;obtain⟨_,_,rfl,⟨s0,rfl,_⟩,⟨_,_,rfl,⟨s1,rfl,_⟩,⟨_,_,rfl,⟨v2,rfl,_,_⟩,⟨_,_,rfl,⟨v3,rfl,_,_⟩,⟨_,_,rfl,⟨v4,rfl,_,_⟩,⟨_,_,rfl,⟨v5,rfl,_,_⟩,rfl⟩⟩⟩⟩⟩⟩:=hs;simp only[Rvs,Rv,dS,dI,dB]at hr;obtain⟨_,_,rfl,rfl,⟨_,_,rfl,rfl,⟨_,_,rfl,rfl,⟨_,_,rfl,rfl,⟨_,_,rfl,rfl,⟨_,_,rfl,rfl,rfl⟩⟩⟩⟩⟩⟩:=hr;exact zfu (sv s0) (sv s1) v2 v3 v4 v5 (nmB s0) (nmB s1) (zbs [v2,v3,v4]) w (hide fun w' hk=>zaz (sv s0) w') (hide fun w' hk=>zaz (sv s1) w') (hide fun w' g hk hc=>(zdC [v2,v3,v4] g 3 w' (by simp) hc).mono (fun e w2 hh=>⟨hh.1,hh.2▸Keep.refl _⟩))
set_option maxHeartbeats 4000000 in
theorem zfv (s0:ByteArray) (s1:ByteArray) (s2:ByteArray) (v3:Int) (v4:Int) (v5:Int) (b0 b1 b2 b3:Bool) (w:World)
  (T0:Hid (∀ w',Keep w w'→Calls Tryz.prog 47 #[.string s0] w' fun e w''=>e= .returned (.bool b0)∧Keep w' w''))
  (T1:Hid (∀ w',Keep w w'→Calls Tryz.prog 47 #[.string s1] w' fun e w''=>e= .returned (.bool b1)∧Keep w' w''))
  (T2:Hid (∀ w',Keep w w'→Calls Tryz.prog 47 #[.string s2] w' fun e w''=>e= .returned (.bool b2)∧Keep w' w''))
  (T3:Hid (∀ w' g,Keep w w'→(∀ k u,[.int .i64 v3,.int .i64 v4][k]? =some u→w'.cell? ⟨g,k,none⟩=some u)→Calls Tryz.prog 22 #[.slice (some ⟨g,0,none⟩) 2 2] w' fun e w''=>e= .returned (.bool b3)∧Keep w' w'')):
  Calls Tryz.prog 26 #[.agg #[.string s0,.string s1,.string s2,.int .i64 v3,.int .i64 v4,.int .i64 v5]] w fun e w'=>e= .returned (.bool (b0&&(b1&&(b2&&b3))))∧Keep w w':=by
 go_enter Tryz.func26,Tryz.ntmps26;go_wp2_with fail
 (refine((uq T0) _ (by repeat(first|apply zab|apply Keep.alloc|exact Keep.refl _))).mono ?_;rintro e w1 ⟨rfl,hk⟩;obtain⟨o0,k0,rfl⟩:=hk.ext;clear hk);cases b0 with
 |false=>
  go_wp2_with fail
  go_ret;exact⟨by simp,(by repeat(first|apply zab|apply Keep.alloc|exact Keep.refl _))⟩
 |true=>
  go_wp2_with fail
  (refine((uq T1) _ (by repeat(first|apply zab|apply Keep.alloc|exact Keep.refl _))).mono ?_;rintro e w1 ⟨rfl,hk⟩;obtain⟨o1,k1,rfl⟩:=hk.ext;clear hk);cases b1 with
  |false=>
   go_wp2_with fail
   go_ret;exact⟨by simp,(by repeat(first|apply zab|apply Keep.alloc|exact Keep.refl _))⟩
  |true=>
   go_wp2_with fail
   (refine((uq T2) _ (by repeat(first|apply zab|apply Keep.alloc|exact Keep.refl _))).mono ?_;rintro e w1 ⟨rfl,hk⟩;obtain⟨o2,k2,rfl⟩:=hk.ext;clear hk);cases b2 with
   |false=>
    go_wp2_with fail
    go_ret;exact⟨by simp,(by repeat(first|apply zab|apply Keep.alloc|exact Keep.refl _))⟩
   |true=>
    go_wp2_with fail
    (refine((uq T3) _ _ (by repeat(first|apply zab|apply Keep.alloc|exact Keep.refl _)) (zdE (by simp))).mono ?_;rintro e w1 ⟨rfl,hk⟩;obtain⟨o3,k3,rfl⟩:=hk.ext;clear hk);go_wp2_with fail
    go_ret;exact⟨by simp,(by repeat(first|apply zab|apply Keep.alloc|exact Keep.refl _))⟩
theorem zgJ {w:World} {ds:List D} {us:List Value} (hs:ShL zcR ds) (hr:Rvs w ds us):Calls Tryz.prog 26 #[.agg us.toArray] w fun e w'=>e= .returned (.bool (zbv ds))∧Keep w w':=by
 simp only[ShL,Sh1,zcR]at hs;obtain⟨_,_,rfl,⟨s0,rfl,_⟩,⟨_,_,rfl,⟨s1,rfl,_⟩,⟨_,_,rfl,⟨s2,rfl,_⟩,⟨_,_,rfl,⟨v3,rfl,_,_⟩,⟨_,_,rfl,⟨v4,rfl,_,_⟩,⟨_,_,rfl,⟨v5,rfl,_,_⟩,rfl⟩⟩⟩⟩⟩⟩:=hs;simp only[Rvs,Rv,dS,dI,dB]at hr;obtain⟨_,_,rfl,rfl,⟨_,_,rfl,rfl,⟨_,_,rfl,rfl,⟨_,_,rfl,rfl,⟨_,_,rfl,rfl,⟨_,_,rfl,rfl,rfl⟩⟩⟩⟩⟩⟩:=hr;exact zfv (sv s0) (sv s1) (sv s2) v3 v4 v5 (nmB s0) (nmB s1) (nmB s2) (zbs [v3,v4]) w (hide fun w' hk=>zaz (sv s0) w') (hide fun w' hk=>zaz (sv s1) w') (hide fun w' hk=>zaz (sv s2) w') (hide fun w' g hk hc=>(zdC [v3,v4] g 2 w' (by simp) hc).mono (fun e w2 hh=>⟨hh.1,hh.2▸Keep.refl _⟩))
set_option maxHeartbeats 4000000 in
theorem zfw (s0:ByteArray) (v1:Int) (v2:Int) (v3:Int) (v4:Int) (v5:Int) (v6:Int) (v7:Int) (v8:Int) (v9:Int) (v10:Int) (b0 b1 b2:Bool) (w:World)
  (T0:Hid (∀ w',Keep w w'→Calls Tryz.prog 47 #[.string s0] w' fun e w''=>e= .returned (.bool b0)∧Keep w' w''))
  (T1:Hid (∀ w',Keep w w'→Calls Tryz.prog 88 #[.int .i64 v6] w' fun e w''=>e= .returned (.bool b1)∧Keep w' w''))
  (T2:Hid (∀ w' g,Keep w w'→(∀ k u,[.int .i64 v1,.int .i64 v2,.int .i64 v3,.int .i64 v4,.int .i64 v5,.int .i64 v7,.int .i64 v8,.int .i64 v9][k]? =some u→w'.cell? ⟨g,k,none⟩=some u)→Calls Tryz.prog 22 #[.slice (some ⟨g,0,none⟩) 8 8] w' fun e w''=>e= .returned (.bool b2)∧Keep w' w'')):
  Calls Tryz.prog 49 #[.agg #[.string s0,.int .i64 v1,.int .i64 v2,.int .i64 v3,.int .i64 v4,.int .i64 v5,.int .i64 v6,.int .i64 v7,.int .i64 v8,.int .i64 v9,.int .i64 v10]] w fun e w'=>e= .returned (.bool (b0&&(b1&&b2)))∧Keep w w':=by
 go_enter Tryz.func49,Tryz.ntmps49;go_wp2_with fail
 (refine((uq T0) _ (by repeat(first|apply zab|apply Keep.alloc|exact Keep.refl _))).mono ?_;rintro e w1 ⟨rfl,hk⟩;obtain⟨o0,k0,rfl⟩:=hk.ext;clear hk);cases b0 with
 |false=>
  go_wp2_with fail
  go_ret;exact⟨by simp,(by repeat(first|apply zab|apply Keep.alloc|exact Keep.refl _))⟩
 |true=>
  go_wp2_with fail
  (refine((uq T1) _ (by repeat(first|apply zab|apply Keep.alloc|exact Keep.refl _))).mono ?_;rintro e w1 ⟨rfl,hk⟩;obtain⟨o1,k1,rfl⟩:=hk.ext;clear hk);cases b1 with
  |false=>
   go_wp2_with fail
   go_ret;exact⟨by simp,(by repeat(first|apply zab|apply Keep.alloc|exact Keep.refl _))⟩
  |true=>
   go_wp2_with fail
   (refine((uq T2) _ _ (by repeat(first|apply zab|apply Keep.alloc|exact Keep.refl _)) (zdE (by simp))).mono ?_;rintro e w1 ⟨rfl,hk⟩;obtain⟨o2,k2,rfl⟩:=hk.ext;clear hk);go_wp2_with fail
   go_ret;exact⟨by simp,(by repeat(first|apply zab|apply Keep.alloc|exact Keep.refl _))⟩
theorem zgK {w:World} {ds:List D} {us:List Value} (hs:ShL zc2 ds) (hr:Rvs w ds us):Calls Tryz.prog 49 #[.agg us.toArray] w fun e w'=>e= .returned (.bool (za7 ds))∧Keep w w':=by
 simp only[ShL,Sh1,zc2]at hs;obtain⟨_,_,rfl,⟨s0,rfl,_⟩,⟨_,_,rfl,⟨v1,rfl,_,_⟩,⟨_,_,rfl,⟨v2,rfl,_,_⟩,⟨_,_,rfl,⟨v3,rfl,_,_⟩,⟨_,_,rfl,⟨v4,rfl,_,_⟩,⟨_,_,rfl,⟨v5,rfl,_,_⟩,⟨_,_,rfl,⟨v6,rfl,_,_⟩,⟨_,_,rfl,⟨v7,rfl,_,_⟩,⟨_,_,rfl,⟨v8,rfl,_,_⟩,⟨_,_,rfl,⟨v9,rfl,_,_⟩,⟨_,_,rfl,⟨v10,rfl,_,_⟩,rfl⟩⟩⟩⟩⟩⟩⟩⟩⟩⟩⟩:=hs;simp only[Rvs,Rv,dS,dI,dB]at hr;obtain⟨_,_,rfl,rfl,⟨_,_,rfl,rfl,⟨_,_,rfl,rfl,⟨_,_,rfl,rfl,⟨_,_,rfl,rfl,⟨_,_,rfl,rfl,⟨_,_,rfl,rfl,⟨_,_,rfl,rfl,⟨_,_,rfl,rfl,⟨_,_,rfl,rfl,⟨_,_,rfl,rfl,rfl⟩⟩⟩⟩⟩⟩⟩⟩⟩⟩⟩:=hr;exact zfw (sv s0) v1 v2 v3 v4 v5 v6 v7 v8 v9 v10 (nmB s0) (grB v6) (zbs [v1,v2,v3,v4,v5,v7,v8,v9]) w (hide fun w' hk=>zaz (sv s0) w') (hide fun w' hk=>(zhQ v6 w').mono (fun e w2 hh=>⟨hh.1,hh.2▸Keep.refl _⟩)) (hide fun w' g hk hc=>(zdC [v1,v2,v3,v4,v5,v7,v8,v9] g 8 w' (by simp) hc).mono (fun e w2 hh=>⟨hh.1,hh.2▸Keep.refl _⟩))
set_option maxHeartbeats 4000000 in
theorem ze2 (s0:ByteArray) (x1:Option Addr) (y1 z1:Nat) (v2:Int) (b0 b1:Bool) (w:World)
  (T0:Hid (∀ w',Keep w w'→Calls Tryz.prog 47 #[.string s0] w' fun e w''=>e= .returned (.bool b0)∧Keep w' w''))
  (T1:Hid (∀ w',Keep w w'→Calls Tryz.prog 89 #[.slice x1 y1 z1,.int .i64 1,.int .i64 16,.func (.func 47) #[] #[]] w' fun e w''=>e= .returned (.bool b1)∧Keep w' w'')):
  Calls Tryz.prog 53 #[.agg #[.string s0,.slice x1 y1 z1,.int .i64 v2]] w fun e w'=>e= .returned (.bool (b0&&b1))∧Keep w w':=by
 go_enter Tryz.func53,Tryz.ntmps53;go_wp2_with fail
 (refine((uq T0) _ (by repeat(first|apply zab|apply Keep.alloc|exact Keep.refl _))).mono ?_;rintro e w1 ⟨rfl,hk⟩;obtain⟨o0,k0,rfl⟩:=hk.ext;clear hk);cases b0 with
 |false=>
  go_wp2_with fail
  go_ret;exact⟨by simp,(by repeat(first|apply zab|apply Keep.alloc|exact Keep.refl _))⟩
 |true=>
  go_wp2_with fail
  (refine((uq T1) _ (by repeat(first|apply zab|apply Keep.alloc|exact Keep.refl _))).mono ?_;rintro e w1 ⟨rfl,hk⟩;obtain⟨o1,k1,rfl⟩:=hk.ext;clear hk);go_wp2_with fail
  go_ret;exact⟨by simp,(by repeat(first|apply zab|apply Keep.alloc|exact Keep.refl _))⟩
theorem zfx {w:World} {ds:List D} {us:List Value} (hs:ShL zbD ds) (hr:Rvs w ds us):Calls Tryz.prog 53 #[.agg us.toArray] w fun e w'=>e= .returned (.bool (zbm ds))∧Keep w w':=by
 simp only[ShL,Sh1,zbD]at hs;obtain⟨_,_,rfl,⟨s0,rfl,_⟩,⟨_,_,rfl,⟨L1,rfl,_,h1⟩,⟨_,_,rfl,⟨v2,rfl,_,_⟩,rfl⟩⟩⟩:=hs;simp only[Rvs,Rv,dS,dI,dB]at hr;obtain⟨_,_,rfl,rfl,⟨_,_,rfl,⟨x1,z1,rfl,y1,m1⟩,⟨_,_,rfl,rfl,rfl⟩⟩⟩:=hr;exact ze2 (sv s0) x1 L1.length z1 v2 (nmB s0) (zbb 1 16 zc1 L1) w (hide fun w' hk=>zaz (sv s0) w') (hide fun w' hk=>zeV (lo:=1) (hi:=16) (by decide) (fun xs w=>by kernel_rfl) h1 (Rvss.keep hk _ _ _ _ m1) (fun w' ds us q1 q2=>zeh q1 q2))
set_option maxHeartbeats 4000000 in
theorem zfy (f0:Bool) (x1:Option Addr) (y1 z1:Nat) (b0:Bool) (w:World)
  (T0:Hid (∀ w',Keep w w'→Calls Tryz.prog 89 #[.slice x1 y1 z1,.int .i64 1,.int .i64 4,.func (.func 47) #[] #[]] w' fun e w''=>e= .returned (.bool b0)∧Keep w' w'')):
  Calls Tryz.prog 91 #[.agg #[.bool f0,.slice x1 y1 z1]] w fun e w'=>e= .returned (.bool b0)∧Keep w w':=by
 go_enter Tryz.func91,Tryz.ntmps91;go_wp2_with fail
 (refine((uq T0) _ (by repeat(first|apply zab|apply Keep.alloc|exact Keep.refl _))).mono ?_;rintro e w1 ⟨rfl,hk⟩;obtain⟨o0,k0,rfl⟩:=hk.ext;clear hk);go_wp2_with fail
 go_ret;exact⟨by simp,(by repeat(first|apply zab|apply Keep.alloc|exact Keep.refl _))⟩
theorem zgL {w:World} {ds:List D} {us:List Value} (hs:ShL zeG ds) (hr:Rvs w ds us):Calls Tryz.prog 91 #[.agg us.toArray] w fun e w'=>e= .returned (.bool (zdq ds))∧Keep w w':=by
 simp only[ShL,Sh1,zeG]at hs;obtain⟨_,_,rfl,⟨f0,rfl⟩,⟨_,_,rfl,⟨L1,rfl,_,h1⟩,rfl⟩⟩:=hs;simp only[Rvs,Rv,dS,dI,dB]at hr;obtain⟨_,_,rfl,rfl,⟨_,_,rfl,⟨x1,z1,rfl,y1,m1⟩,rfl⟩⟩:=hr;exact zfy f0 x1 L1.length z1 (zbb 1 4 zc1 L1) w (hide fun w' hk=>zeV (lo:=1) (hi:=4) (by decide) (fun xs w=>by kernel_rfl) h1 (Rvss.keep hk _ _ _ _ m1) (fun w' ds us q1 q2=>zeh q1 q2))
set_option maxHeartbeats 4000000 in
theorem ze3 (x0:Option Addr) (y0 z0:Nat) (b0:Bool) (w:World)
  (T0:Hid (∀ w',Keep w w'→Calls Tryz.prog 90 #[.slice x0 y0 z0,.int .i64 1,.int .i64 2,.func (.func 91) #[] #[]] w' fun e w''=>e= .returned (.bool b0)∧Keep w' w'')):
  Calls Tryz.prog 55 #[.agg #[.slice x0 y0 z0]] w fun e w'=>e= .returned (.bool b0)∧Keep w w':=by
 go_enter Tryz.func55,Tryz.ntmps55;go_wp2_with fail
 (refine((uq T0) _ (by repeat(first|apply zab|apply Keep.alloc|exact Keep.refl _))).mono ?_;rintro e w1 ⟨rfl,hk⟩;obtain⟨o0,k0,rfl⟩:=hk.ext;clear hk);go_wp2_with fail
 go_ret;exact⟨by simp,(by repeat(first|apply zab|apply Keep.alloc|exact Keep.refl _))⟩
theorem zfz {w:World} {ds:List D} {us:List Value} (hs:ShL zbE ds) (hr:Rvs w ds us):Calls Tryz.prog 55 #[.agg us.toArray] w fun e w'=>e= .returned (.bool (zbT ds))∧Keep w w':=by
 simp only[ShL,Sh1,zbE]at hs;obtain⟨_,_,rfl,⟨L0,rfl,_,h0⟩,rfl⟩:=hs;simp only[Rvs,Rv,dS,dI,dB]at hr;obtain⟨_,_,rfl,⟨x0,z0,rfl,y0,m0⟩,rfl⟩:=hr;exact ze3 x0 L0.length z0 (zbb 1 2 zdq L0) w (hide fun w' hk=>zhX (lo:=1) (hi:=2) (by decide) (fun xs w=>by kernel_rfl) h0 (Rvss.keep hk _ _ _ _ m0) (fun w' ds us q1 q2=>zgL q1 q2))
set_option maxHeartbeats 4000000 in
theorem zfA (s0:ByteArray) (x1:Option Addr) (y1 z1:Nat) (x2:Option Addr) (y2 z2:Nat) (x3:Option Addr) (y3 z3:Nat) (x4:Option Addr) (y4 z4:Nat) (x5:Option Addr) (y5 z5:Nat) (v6:Int) (b0 b1 b2 b3 b4 b5:Bool) (w:World)
  (T0:Hid (∀ w',Keep w w'→Calls Tryz.prog 47 #[.string s0] w' fun e w''=>e= .returned (.bool b0)∧Keep w' w''))
  (T1:Hid (∀ w',Keep w w'→Calls Tryz.prog 48 #[.slice x1 y1 z1,.int .i64 0,.int .i64 16,.func (.func 49) #[] #[]] w' fun e w''=>e= .returned (.bool b1)∧Keep w' w''))
  (T2:Hid (∀ w',Keep w w'→Calls Tryz.prog 50 #[.slice x2 y2 z2,.int .i64 0,.int .i64 8,.func (.func 51) #[] #[]] w' fun e w''=>e= .returned (.bool b2)∧Keep w' w''))
  (T3:Hid (∀ w',Keep w w'→Calls Tryz.prog 52 #[.slice x3 y3 z3,.int .i64 0,.int .i64 16,.func (.func 53) #[] #[]] w' fun e w''=>e= .returned (.bool b3)∧Keep w' w''))
  (T4:Hid (∀ w',Keep w w'→Calls Tryz.prog 54 #[.slice x4 y4 z4,.int .i64 0,.int .i64 4,.func (.func 55) #[] #[]] w' fun e w''=>e= .returned (.bool b4)∧Keep w' w''))
  (T5:Hid (∀ w',Keep w w'→Calls Tryz.prog 56 #[.slice x5 y5 z5,.int .i64 0,.int .i64 64,.func (.func 57) #[] #[]] w' fun e w''=>e= .returned (.bool b5)∧Keep w' w'')):
  Calls Tryz.prog 24 #[.agg #[.string s0,.slice x1 y1 z1,.slice x2 y2 z2,.slice x3 y3 z3,.slice x4 y4 z4,.slice x5 y5 z5,.int .i64 v6]] w fun e w'=>e= .returned (.bool (b0&&(b1&&(b2&&(b3&&(b4&&b5))))))∧Keep w w':=by
 go_enter Tryz.func24,Tryz.ntmps24;go_wp2_with fail
 (refine((uq T0) _ (by repeat(first|apply zab|apply Keep.alloc|exact Keep.refl _))).mono ?_;rintro e w1 ⟨rfl,hk⟩;obtain⟨o0,k0,rfl⟩:=hk.ext;clear hk);cases b0 with
 |false=>
  go_wp2_with fail
  go_ret;exact⟨by simp,(by repeat(first|apply zab|apply Keep.alloc|exact Keep.refl _))⟩
 |true=>
  go_wp2_with fail
  (refine((uq T1) _ (by repeat(first|apply zab|apply Keep.alloc|exact Keep.refl _))).mono ?_;rintro e w1 ⟨rfl,hk⟩;obtain⟨o1,k1,rfl⟩:=hk.ext;clear hk);cases b1 with
  |false=>
   go_wp2_with fail
   go_ret;exact⟨by simp,(by repeat(first|apply zab|apply Keep.alloc|exact Keep.refl _))⟩
  |true=>
   go_wp2_with fail
   (refine((uq T2) _ (by repeat(first|apply zab|apply Keep.alloc|exact Keep.refl _))).mono ?_;rintro e w1 ⟨rfl,hk⟩;obtain⟨o2,k2,rfl⟩:=hk.ext;clear hk);cases b2 with
   |false=>
    go_wp2_with fail
    go_ret;exact⟨by simp,(by repeat(first|apply zab|apply Keep.alloc|exact Keep.refl _))⟩
   |true=>
    go_wp2_with fail
    (refine((uq T3) _ (by repeat(first|apply zab|apply Keep.alloc|exact Keep.refl _))).mono ?_;rintro e w1 ⟨rfl,hk⟩;obtain⟨o3,k3,rfl⟩:=hk.ext;clear hk);cases b3 with
    |false=>
     go_wp2_with fail
     go_ret;exact⟨by simp,(by repeat(first|apply zab|apply Keep.alloc|exact Keep.refl _))⟩
    |true=>
     go_wp2_with fail
     (refine((uq T4) _ (by repeat(first|apply zab|apply Keep.alloc|exact Keep.refl _))).mono ?_;rintro e w1 ⟨rfl,hk⟩;obtain⟨o4,k4,rfl⟩:=hk.ext;clear hk);cases b4 with
     |false=>
      go_wp2_with fail
      go_ret;exact⟨by simp,(by repeat(first|apply zab|apply Keep.alloc|exact Keep.refl _))⟩
     |true=>
      go_wp2_with fail
      (refine((uq T5) _ (by repeat(first|apply zab|apply Keep.alloc|exact Keep.refl _))).mono ?_;rintro e w1 ⟨rfl,hk⟩;obtain⟨o5,k5,rfl⟩:=hk.ext;clear hk);go_wp2_with fail
      go_ret;exact⟨by simp,(by repeat(first|apply zab|apply Keep.alloc|exact Keep.refl _))⟩
theorem zgM {w:World} {ds:List D} {us:List Value} (hs:ShL zbL ds) (hr:Rvs w ds us):Calls Tryz.prog 24 #[.agg us.toArray] w fun e w'=>e= .returned (.bool (zbR ds))∧Keep w w':=by
 simp only[ShL,Sh1,zbL]at hs;obtain⟨_,_,rfl,⟨s0,rfl,_⟩,⟨_,_,rfl,⟨L1,rfl,_,h1⟩,⟨_,_,rfl,⟨L2,rfl,_,h2⟩,⟨_,_,rfl,⟨L3,rfl,_,h3⟩,⟨_,_,rfl,⟨L4,rfl,_,h4⟩,⟨_,_,rfl,⟨L5,rfl,_,h5⟩,⟨_,_,rfl,⟨v6,rfl,_,_⟩,rfl⟩⟩⟩⟩⟩⟩⟩:=hs;simp only[Rvs,Rv,dS,dI,dB]at hr;obtain⟨_,_,rfl,rfl,⟨_,_,rfl,⟨x1,z1,rfl,y1,m1⟩,⟨_,_,rfl,⟨x2,z2,rfl,y2,m2⟩,⟨_,_,rfl,⟨x3,z3,rfl,y3,m3⟩,⟨_,_,rfl,⟨x4,z4,rfl,y4,m4⟩,⟨_,_,rfl,⟨x5,z5,rfl,y5,m5⟩,⟨_,_,rfl,rfl,rfl⟩⟩⟩⟩⟩⟩⟩:=hr;exact zfA (sv s0) x1 L1.length z1 x2 L2.length z2 x3 L3.length z3 x4 L4.length z4 x5 L5.length z5 v6 (nmB s0) (zbb 0 16 za7 L1) (zbb 0 8 zbx L2) (zbb 0 16 zbm L3) (zbb 0 4 zbT L4) (zbb 0 64 zd7 L5) w (hide fun w' hk=>zaz (sv s0) w') (hide fun w' hk=>zgk (lo:=0) (hi:=16) (by decide) (fun xs w=>by kernel_rfl) h1 (Rvss.keep hk _ _ _ _ m1) (fun w' ds us q1 q2=>zgK q1 q2)) (hide fun w' hk=>zhU (lo:=0) (hi:=8) (by decide) (fun xs w=>by kernel_rfl) h2 (Rvss.keep hk _ _ _ _ m2) (fun w' ds us q1 q2=>zgI q1 q2)) (hide fun w' hk=>zfl (lo:=0) (hi:=16) (by decide) (fun xs w=>by kernel_rfl) h3 (Rvss.keep hk _ _ _ _ m3) (fun w' ds us q1 q2=>zfx q1 q2)) (hide fun w' hk=>zfm (lo:=0) (hi:=4) (by decide) (fun xs w=>by kernel_rfl) h4 (Rvss.keep hk _ _ _ _ m4) (fun w' ds us q1 q2=>zfz q1 q2)) (hide fun w' hk=>zhS (lo:=0) (hi:=64) (by decide) (fun xs w=>by kernel_rfl) h5 (Rvss.keep hk _ _ _ _ m5) (fun w' ds us q1 q2=>ziC q1 q2))
set_option maxHeartbeats 4000000 in
theorem zgN (v0:Int) (v1:Int) (v2:Int) (v3:Int) (v4:Int) (x5:Option Addr) (y5 z5:Nat) (x6:Option Addr) (y6 z6:Nat) (v7:Int) (v8:Int) (b0 b1 b2:Bool) (w:World)
  (T0:Hid (∀ w' g,Keep w w'→(∀ k u,[.int .i64 v0,.int .i64 v1,.int .i64 v2,.int .i64 v3,.int .i64 v4,.int .i64 v7,.int .i64 v8][k]? =some u→w'.cell? ⟨g,k,none⟩=some u)→Calls Tryz.prog 22 #[.slice (some ⟨g,0,none⟩) 7 7] w' fun e w''=>e= .returned (.bool b0)∧Keep w' w''))
  (T1:Hid (∀ w',Keep w w'→Calls Tryz.prog 23 #[.slice x5 y5 z5,.int .i64 0,.int .i64 12,.func (.func 24) #[] #[]] w' fun e w''=>e= .returned (.bool b1)∧Keep w' w''))
  (T2:Hid (∀ w',Keep w w'→Calls Tryz.prog 25 #[.slice x6 y6 z6,.int .i64 0,.int .i64 12,.func (.func 26) #[] #[]] w' fun e w''=>e= .returned (.bool b2)∧Keep w' w'')):
  Calls Tryz.prog 10 #[.agg #[.int .i64 v0,.int .i64 v1,.int .i64 v2,.int .i64 v3,.int .i64 v4,.slice x5 y5 z5,.slice x6 y6 z6,.int .i64 v7,.int .i64 v8]] w fun e w'=>e= .returned (.bool (b0&&(b1&&b2)))∧Keep w w':=by
 go_enter Tryz.func10,Tryz.ntmps10;go_wp2_with fail
 (refine((uq T0) _ _ (by repeat(first|apply zab|apply Keep.alloc|exact Keep.refl _)) (zdE (by simp))).mono ?_;rintro e w1 ⟨rfl,hk⟩;obtain⟨o0,k0,rfl⟩:=hk.ext;clear hk);cases b0 with
 |false=>
  go_wp2_with fail
  go_ret;exact⟨by simp,(by repeat(first|apply zab|apply Keep.alloc|exact Keep.refl _))⟩
 |true=>
  go_wp2_with fail
  (refine((uq T1) _ (by repeat(first|apply zab|apply Keep.alloc|exact Keep.refl _))).mono ?_;rintro e w1 ⟨rfl,hk⟩;obtain⟨o1,k1,rfl⟩:=hk.ext;clear hk);cases b1 with
  |false=>
   go_wp2_with fail
   go_ret;exact⟨by simp,(by repeat(first|apply zab|apply Keep.alloc|exact Keep.refl _))⟩
  |true=>
   go_wp2_with fail
   (refine((uq T2) _ (by repeat(first|apply zab|apply Keep.alloc|exact Keep.refl _))).mono ?_;rintro e w1 ⟨rfl,hk⟩;obtain⟨o2,k2,rfl⟩:=hk.ext;clear hk);go_wp2_with fail
   go_ret;exact⟨by simp,(by repeat(first|apply zab|apply Keep.alloc|exact Keep.refl _))⟩
theorem zcx {w:World} {ds:List D} {us:List Value} (hs:ShL zct ds) (hr:Rvs w ds us):Calls Tryz.prog 10 #[.agg us.toArray] w fun e w'=>e= .returned (.bool (zcs ds))∧Keep w w':=by
 simp only[ShL,Sh1,zct]at hs;obtain⟨_,_,rfl,⟨v0,rfl,_,_⟩,⟨_,_,rfl,⟨v1,rfl,_,_⟩,⟨_,_,rfl,⟨v2,rfl,_,_⟩,⟨_,_,rfl,⟨v3,rfl,_,_⟩,⟨_,_,rfl,⟨v4,rfl,_,_⟩,⟨_,_,rfl,⟨L5,rfl,_,h5⟩,⟨_,_,rfl,⟨L6,rfl,_,h6⟩,⟨_,_,rfl,⟨v7,rfl,_,_⟩,⟨_,_,rfl,⟨v8,rfl,_,_⟩,rfl⟩⟩⟩⟩⟩⟩⟩⟩⟩:=hs;simp only[Rvs,Rv,dS,dI,dB]at hr;obtain⟨_,_,rfl,rfl,⟨_,_,rfl,rfl,⟨_,_,rfl,rfl,⟨_,_,rfl,rfl,⟨_,_,rfl,rfl,⟨_,_,rfl,⟨x5,z5,rfl,y5,m5⟩,⟨_,_,rfl,⟨x6,z6,rfl,y6,m6⟩,⟨_,_,rfl,rfl,⟨_,_,rfl,rfl,rfl⟩⟩⟩⟩⟩⟩⟩⟩⟩:=hr;exact zgN v0 v1 v2 v3 v4 x5 L5.length z5 x6 L6.length z6 v7 v8 (zbs [v0,v1,v2,v3,v4,v7,v8]) (zbb 0 12 zbR L5) (zbb 0 12 zbv L6) w (hide fun w' g hk hc=>(zdC [v0,v1,v2,v3,v4,v7,v8] g 7 w' (by simp) hc).mono (fun e w2 hh=>⟨hh.1,hh.2▸Keep.refl _⟩)) (hide fun w' hk=>zgn (lo:=0) (hi:=12) (by decide) (fun xs w=>by kernel_rfl) h5 (Rvss.keep hk _ _ _ _ m5) (fun w' ds us q1 q2=>zgM q1 q2)) (hide fun w' hk=>zgo (lo:=0) (hi:=12) (by decide) (fun xs w=>by kernel_rfl) h6 (Rvss.keep hk _ _ _ _ m6) (fun w' ds us q1 q2=>zgJ q1 q2))
end S
end Go.Proofs.YtfepanidippjlaaGreatDoor
