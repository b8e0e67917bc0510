/- Package show: Right. -/
import Derived.Test.YthceiikgecoimaaGreatDoorSRow
import Derived.Test.YthceiikgecoimaaGreatDoorNVal
import Derived.Test.YthceiikgecoimaaGreatDoorLReadA
import Derived.Deep.RegionHeld
import Derived.Test.YthceiikgecoimaaGreatDoorSFew
import Derived.Test.YthceiikgecoimaaGreatDoorLVal
import Derived.Test.YthceiikgecoimaaGreatDoorSFwT
import Derived.Lib.UnsafeStr
import Derived.Deep.DrawnRows
namespace Go.Proofs.YthceiikgecoimaaGreatDoor
open Go.RowKit
attribute [local go_sem ↓] Go.wp_at_zero Go.wp_at_succ
set_option linter.unusedVariables false
set_option linter.unusedSimpArgs false
set_option maxRecDepth 10000
namespace S
theorem zeo {W:World} {us:List Value} {t:TypeId} {g:Nat} (hg:W.heap.size=g):∀ k u,us[k]? =some u->(W.alloc (.cells us.toArray t)).cell? ⟨g,k,none⟩=some u:=λk u hu=>by subst hg;exact(Q.bxs_new W us t k u hu).1
theorem ze9 {w:World} {ds:List D} {us:List Value} (hs:ShL zcd ds) (hr:Rvs w ds us):Calls Tryz.prog 34 #[us.getD 0 (.bool false)] w λe w'=>e= .returned (.bool (zfW ds))/\Keep w w':=by
 simp only[ShL,Sh1,zcd]at hs;obtain⟨_,_,rfl,⟨s,rfl,_⟩,rfl⟩:=hs;simp only[Rvs,Rv,dS]at hr;obtain⟨_,_,rfl,rfl,rfl⟩:=hr;exact zax (sv s) w
set_option maxHeartbeats 4000000 in
theorem zhZ (s0:ByteArray) (s1:ByteArray) (v2:Int) (b0 b1:Bool) (w:World)
  (T0:Hid (∀ w',Keep w w'->Calls Tryz.prog 34 #[.string s0] w' λe w''=>e= .returned (.bool b0)/\Keep w' w''))
  (T1:Hid (∀ w',Keep w w'->Calls Tryz.prog 34 #[.string s1] w' λe w''=>e= .returned (.bool b1)/\Keep w' w'')):
  Calls Tryz.prog 44 #[.agg #[.string s0,.string s1,.int .i64 v2]] w λe w'=>e= .returned (.bool (b0&&b1))/\Keep w w':=by
 go_enter Tryz.func44,Tryz.ntmps44;go_wp2_with fail
 (refine((uq T0) _ (by repeat(first|apply zaa|apply Keep.alloc|exact zk _))).mono ?_;rintro e w1 ⟨rfl,hk⟩;obtain⟨o0,k0,rfl⟩:=hk.ext;clear hk);cases b0 with
 |false=>
  go_wp2_with fail
  go_ret;exact⟨by simp,(by repeat(first|apply zaa|apply Keep.alloc|exact zk _))⟩
 |true=>
  go_wp2_with fail
  (refine((uq T1) _ (by repeat(first|apply zaa|apply Keep.alloc|exact zk _))).mono ?_;rintro e w1 ⟨rfl,hk⟩;obtain⟨o1,k1,rfl⟩:=hk.ext;clear hk);go_wp2_with fail
  go_ret;exact⟨by simp,(by repeat(first|apply zaa|apply Keep.alloc|exact zk _))⟩
theorem zjY {w:World} {ds:List D} {us:List Value} (hs:ShL zhJ ds) (hr:Rvs w ds us):Calls Tryz.prog 44 #[.agg us.toArray] w λe w'=>e= .returned (.bool (zk4 ds))/\Keep w w':=by
 simp only[ShL,Sh1,zhJ]at hs;obtain⟨_,_,rfl,⟨s0,rfl,_⟩,⟨_,_,rfl,⟨s1,rfl,_⟩,⟨_,_,rfl,⟨v2,rfl,_,_⟩,rfl⟩⟩⟩:=hs;simp only[Rvs,Rv,dS,dI,dB]at hr;obtain⟨_,_,rfl,rfl,⟨_,_,rfl,rfl,⟨_,_,rfl,rfl,rfl⟩⟩⟩:=hr;exact zhZ (sv s0) (sv s1) v2 (nmB s0) (nmB s1) w (zh λw' hk=>zax (sv s0) w') (zh λw' hk=>zax (sv s1) w')
set_option maxHeartbeats 4000000 in
theorem zgH (s0:ByteArray) (s1:ByteArray) (v2:Int) (v3:Int) (v4:Int) (v5:Int) (b0 b1 b2:Bool) (w:World)
  (T0:Hid (∀ w',Keep w w'->Calls Tryz.prog 34 #[.string s0] w' λe w''=>e= .returned (.bool b0)/\Keep w' w''))
  (T1:Hid (∀ w',Keep w w'->Calls Tryz.prog 34 #[.string s1] w' λe w''=>e= .returned (.bool b1)/\Keep w' w''))
  (T2:Hid (∀ w' g,Keep w w'->(∀ k u,[.int .i64 v2,.int .i64 v3,.int .i64 v4][k]? =some u->w'.cell? ⟨g,k,none⟩=some u)->Calls Tryz.prog 15 #[.slice (some ⟨g,0,none⟩) 3 3] w' λe w''=>e= .returned (.bool b2)/\Keep w' w'')):
  Calls Tryz.prog 38 #[.agg #[.string s0,.string s1,.int .i64 v2,.int .i64 v3,.int .i64 v4,.int .i64 v5]] w λe w'=>e= .returned (.bool (b0&&(b1&&b2)))/\Keep w w':=by
 go_enter Tryz.func38,Tryz.ntmps38;go_wp2_with fail
 (refine((uq T0) _ (by repeat(first|apply zaa|apply Keep.alloc|exact zk _))).mono ?_;rintro e w1 ⟨rfl,hk⟩;obtain⟨o0,k0,rfl⟩:=hk.ext;clear hk);cases b0 with
 |false=>
  go_wp2_with fail
  go_ret;exact⟨by simp,(by repeat(first|apply zaa|apply Keep.alloc|exact zk _))⟩
 |true=>
  go_wp2_with fail
  (refine((uq T1) _ (by repeat(first|apply zaa|apply Keep.alloc|exact zk _))).mono ?_;rintro e w1 ⟨rfl,hk⟩;obtain⟨o1,k1,rfl⟩:=hk.ext;clear hk);cases b1 with
  |false=>
   go_wp2_with fail
   go_ret;exact⟨by simp,(by repeat(first|apply zaa|apply Keep.alloc|exact zk _))⟩
  |true=>
   go_wp2_with fail
   (refine((uq T2) _ _ (by repeat(first|apply zaa|apply Keep.alloc|exact zk _)) (zeo (by simp))).mono ?_;rintro e w1 ⟨rfl,hk⟩;obtain⟨o2,k2,rfl⟩:=hk.ext;clear hk);go_wp2_with fail
   go_ret;exact⟨by simp,(by repeat(first|apply zaa|apply Keep.alloc|exact zk _))⟩
theorem zh0 {w:World} {ds:List D} {us:List Value} (hs:ShL zhI ds) (hr:Rvs w ds us):Calls Tryz.prog 38 #[.agg us.toArray] w λe w'=>e= .returned (.bool (zfs ds))/\Keep w w':=by
 simp only[ShL,Sh1,zhI]at hs;obtain⟨_,_,rfl,⟨s0,rfl,_⟩,⟨_,_,rfl,⟨s1,rfl,_⟩,⟨_,_,rfl,⟨v2,rfl,_,_⟩,⟨_,_,rfl,⟨v3,rfl,_,_⟩,⟨_,_,rfl,⟨v4,rfl,_,_⟩,⟨_,_,rfl,⟨v5,rfl,_,_⟩,rfl⟩⟩⟩⟩⟩⟩:=hs;simp only[Rvs,Rv,dS,dI,dB]at hr;obtain⟨_,_,rfl,rfl,⟨_,_,rfl,rfl,⟨_,_,rfl,rfl,⟨_,_,rfl,rfl,⟨_,_,rfl,rfl,⟨_,_,rfl,rfl,rfl⟩⟩⟩⟩⟩⟩:=hr;exact zgH (sv s0) (sv s1) v2 v3 v4 v5 (nmB s0) (nmB s1) (zfr [v2,v3,v4]) w (zh λw' hk=>zax (sv s0) w') (zh λw' hk=>zax (sv s1) w') (zh λw' g hk hc=>(zem [v2,v3,v4] g 3 w' (by simp) hc).mono (λe w2 hh=>⟨hh.1,hh.2▸zk _⟩))
set_option maxHeartbeats 4000000 in
theorem zgI (s0:ByteArray) (s1:ByteArray) (s2:ByteArray) (v3:Int) (v4:Int) (v5:Int) (b0 b1 b2 b3:Bool) (w:World)
  (T0:Hid (∀ w',Keep w w'->Calls Tryz.prog 34 #[.string s0] w' λe w''=>e= .returned (.bool b0)/\Keep w' w''))
  (T1:Hid (∀ w',Keep w w'->Calls Tryz.prog 34 #[.string s1] w' λe w''=>e= .returned (.bool b1)/\Keep w' w''))
  (T2:Hid (∀ w',Keep w w'->Calls Tryz.prog 34 #[.string s2] w' λe w''=>e= .returned (.bool b2)/\Keep w' w''))
  (T3:Hid (∀ w' g,Keep w w'->(∀ k u,[.int .i64 v3,.int .i64 v4][k]? =some u->w'.cell? ⟨g,k,none⟩=some u)->Calls Tryz.prog 15 #[.slice (some ⟨g,0,none⟩) 2 2] w' λe w''=>e= .returned (.bool b3)/\Keep w' w'')):
  Calls Tryz.prog 19 #[.agg #[.string s0,.string s1,.string s2,.int .i64 v3,.int .i64 v4,.int .i64 v5]] w λe w'=>e= .returned (.bool (b0&&(b1&&(b2&&b3))))/\Keep w w':=by
 go_enter Tryz.func19,Tryz.ntmps19;go_wp2_with fail
 (refine((uq T0) _ (by repeat(first|apply zaa|apply Keep.alloc|exact zk _))).mono ?_;rintro e w1 ⟨rfl,hk⟩;obtain⟨o0,k0,rfl⟩:=hk.ext;clear hk);cases b0 with
 |false=>
  go_wp2_with fail
  go_ret;exact⟨by simp,(by repeat(first|apply zaa|apply Keep.alloc|exact zk _))⟩
 |true=>
  go_wp2_with fail
  (refine((uq T1) _ (by repeat(first|apply zaa|apply Keep.alloc|exact zk _))).mono ?_;rintro e w1 ⟨rfl,hk⟩;obtain⟨o1,k1,rfl⟩:=hk.ext;clear hk);cases b1 with
  |false=>
   go_wp2_with fail
   go_ret;exact⟨by simp,(by repeat(first|apply zaa|apply Keep.alloc|exact zk _))⟩
  |true=>
   go_wp2_with fail
   (refine((uq T2) _ (by repeat(first|apply zaa|apply Keep.alloc|exact zk _))).mono ?_;rintro e w1 ⟨rfl,hk⟩;obtain⟨o2,k2,rfl⟩:=hk.ext;clear hk);cases b2 with
   |false=>
    go_wp2_with fail
    go_ret;exact⟨by simp,(by repeat(first|apply zaa|apply Keep.alloc|exact zk _))⟩
   |true=>
    go_wp2_with fail
    (refine((uq T3) _ _ (by repeat(first|apply zaa|apply Keep.alloc|exact zk _)) (zeo (by simp))).mono ?_;rintro e w1 ⟨rfl,hk⟩;obtain⟨o3,k3,rfl⟩:=hk.ext;clear hk);go_wp2_with fail
    go_ret;exact⟨by simp,(by repeat(first|apply zaa|apply Keep.alloc|exact zk _))⟩
theorem zh1 {w:World} {ds:List D} {us:List Value} (hs:ShL zdz ds) (hr:Rvs w ds us):Calls Tryz.prog 19 #[.agg us.toArray] w λe w'=>e= .returned (.bool (zeU ds))/\Keep w w':=by
 simp only[ShL,Sh1,zdz]at hs;obtain⟨_,_,rfl,⟨s0,rfl,_⟩,⟨_,_,rfl,⟨s1,rfl,_⟩,⟨_,_,rfl,⟨s2,rfl,_⟩,⟨_,_,rfl,⟨v3,rfl,_,_⟩,⟨_,_,rfl,⟨v4,rfl,_,_⟩,⟨_,_,rfl,⟨v5,rfl,_,_⟩,rfl⟩⟩⟩⟩⟩⟩:=hs;simp only[Rvs,Rv,dS,dI,dB]at hr;obtain⟨_,_,rfl,rfl,⟨_,_,rfl,rfl,⟨_,_,rfl,rfl,⟨_,_,rfl,rfl,⟨_,_,rfl,rfl,⟨_,_,rfl,rfl,rfl⟩⟩⟩⟩⟩⟩:=hr;exact zgI (sv s0) (sv s1) (sv s2) v3 v4 v5 (nmB s0) (nmB s1) (nmB s2) (zfr [v3,v4]) w (zh λw' hk=>zax (sv s0) w') (zh λw' hk=>zax (sv s1) w') (zh λw' hk=>zax (sv s2) w') (zh λw' g hk hc=>(zem [v3,v4] g 2 w' (by simp) hc).mono (λe w2 hh=>⟨hh.1,hh.2▸zk _⟩))
set_option maxHeartbeats 4000000 in
theorem zgJ (s0:ByteArray) (v1:Int) (v2:Int) (v3:Int) (v4:Int) (v5:Int) (v6:Int) (v7:Int) (v8:Int) (v9:Int) (v10:Int) (b0 b1 b2:Bool) (w:World)
  (T0:Hid (∀ w',Keep w w'->Calls Tryz.prog 34 #[.string s0] w' λe w''=>e= .returned (.bool b0)/\Keep w' w''))
  (T1:Hid (∀ w',Keep w w'->Calls Tryz.prog 71 #[.int .i64 v6] w' λe w''=>e= .returned (.bool b1)/\Keep w' w''))
  (T2:Hid (∀ w' g,Keep w w'->(∀ k u,[.int .i64 v1,.int .i64 v2,.int .i64 v3,.int .i64 v4,.int .i64 v5,.int .i64 v7,.int .i64 v8,.int .i64 v9][k]? =some u->w'.cell? ⟨g,k,none⟩=some u)->Calls Tryz.prog 15 #[.slice (some ⟨g,0,none⟩) 8 8] w' λe w''=>e= .returned (.bool b2)/\Keep w' w'')):
  Calls Tryz.prog 36 #[.agg #[.string s0,.int .i64 v1,.int .i64 v2,.int .i64 v3,.int .i64 v4,.int .i64 v5,.int .i64 v6,.int .i64 v7,.int .i64 v8,.int .i64 v9,.int .i64 v10]] w λe w'=>e= .returned (.bool (b0&&(b1&&b2)))/\Keep w w':=by
 go_enter Tryz.func36,Tryz.ntmps36;go_wp2_with fail
 (refine((uq T0) _ (by repeat(first|apply zaa|apply Keep.alloc|exact zk _))).mono ?_;rintro e w1 ⟨rfl,hk⟩;obtain⟨o0,k0,rfl⟩:=hk.ext;clear hk);cases b0 with
 |false=>
  go_wp2_with fail
  go_ret;exact⟨by simp,(by repeat(first|apply zaa|apply Keep.alloc|exact zk _))⟩
 |true=>
  go_wp2_with fail
  (refine((uq T1) _ (by repeat(first|apply zaa|apply Keep.alloc|exact zk _))).mono ?_;rintro e w1 ⟨rfl,hk⟩;obtain⟨o1,k1,rfl⟩:=hk.ext;clear hk);cases b1 with
  |false=>
   go_wp2_with fail
   go_ret;exact⟨by simp,(by repeat(first|apply zaa|apply Keep.alloc|exact zk _))⟩
  |true=>
   go_wp2_with fail
   (refine((uq T2) _ _ (by repeat(first|apply zaa|apply Keep.alloc|exact zk _)) (zeo (by simp))).mono ?_;rintro e w1 ⟨rfl,hk⟩;obtain⟨o2,k2,rfl⟩:=hk.ext;clear hk);go_wp2_with fail
   go_ret;exact⟨by simp,(by repeat(first|apply zaa|apply Keep.alloc|exact zk _))⟩
theorem zh2 {w:World} {ds:List D} {us:List Value} (hs:ShL zdT ds) (hr:Rvs w ds us):Calls Tryz.prog 36 #[.agg us.toArray] w λe w'=>e= .returned (.bool (zeS ds))/\Keep w w':=by
 simp only[ShL,Sh1,zdT]at hs;obtain⟨_,_,rfl,⟨s0,rfl,_⟩,⟨_,_,rfl,⟨v1,rfl,_,_⟩,⟨_,_,rfl,⟨v2,rfl,_,_⟩,⟨_,_,rfl,⟨v3,rfl,_,_⟩,⟨_,_,rfl,⟨v4,rfl,_,_⟩,⟨_,_,rfl,⟨v5,rfl,_,_⟩,⟨_,_,rfl,⟨v6,rfl,_,_⟩,⟨_,_,rfl,⟨v7,rfl,_,_⟩,⟨_,_,rfl,⟨v8,rfl,_,_⟩,⟨_,_,rfl,⟨v9,rfl,_,_⟩,⟨_,_,rfl,⟨v10,rfl,_,_⟩,rfl⟩⟩⟩⟩⟩⟩⟩⟩⟩⟩⟩:=hs;simp only[Rvs,Rv,dS,dI,dB]at hr;obtain⟨_,_,rfl,rfl,⟨_,_,rfl,rfl,⟨_,_,rfl,rfl,⟨_,_,rfl,rfl,⟨_,_,rfl,rfl,⟨_,_,rfl,rfl,⟨_,_,rfl,rfl,⟨_,_,rfl,rfl,⟨_,_,rfl,rfl,⟨_,_,rfl,rfl,⟨_,_,rfl,rfl,rfl⟩⟩⟩⟩⟩⟩⟩⟩⟩⟩⟩:=hr;exact zgJ (sv s0) v1 v2 v3 v4 v5 v6 v7 v8 v9 v10 (nmB s0) (grB v6) (zfr [v1,v2,v3,v4,v5,v7,v8,v9]) w (zh λw' hk=>zax (sv s0) w') (zh λw' hk=>(zeG v6 w').mono (λe w2 hh=>⟨hh.1,hh.2▸zk _⟩)) (zh λw' g hk hc=>(zem [v1,v2,v3,v4,v5,v7,v8,v9] g 8 w' (by simp) hc).mono (λe w2 hh=>⟨hh.1,hh.2▸zk _⟩))
set_option maxHeartbeats 4000000 in
theorem zf9 (s0:ByteArray) (x1:Option Addr) (y1 z1:Nat) (v2:Int) (b0 b1:Bool) (w:World)
  (T0:Hid (∀ w',Keep w w'->Calls Tryz.prog 34 #[.string s0] w' λe w''=>e= .returned (.bool b0)/\Keep w' w''))
  (T1:Hid (∀ w',Keep w w'->Calls Tryz.prog 72 #[.slice x1 y1 z1,.int .i64 1,.int .i64 16,.func (.func 34) #[] #[]] w' λe w''=>e= .returned (.bool b1)/\Keep w' w'')):
  Calls Tryz.prog 40 #[.agg #[.string s0,.slice x1 y1 z1,.int .i64 v2]] w λe w'=>e= .returned (.bool (b0&&b1))/\Keep w w':=by
 go_enter Tryz.func40,Tryz.ntmps40;go_wp2_with fail
 (refine((uq T0) _ (by repeat(first|apply zaa|apply Keep.alloc|exact zk _))).mono ?_;rintro e w1 ⟨rfl,hk⟩;obtain⟨o0,k0,rfl⟩:=hk.ext;clear hk);cases b0 with
 |false=>
  go_wp2_with fail
  go_ret;exact⟨by simp,(by repeat(first|apply zaa|apply Keep.alloc|exact zk _))⟩
 |true=>
  go_wp2_with fail
  (refine((uq T1) _ (by repeat(first|apply zaa|apply Keep.alloc|exact zk _))).mono ?_;rintro e w1 ⟨rfl,hk⟩;obtain⟨o1,k1,rfl⟩:=hk.ext;clear hk);go_wp2_with fail
  go_ret;exact⟨by simp,(by repeat(first|apply zaa|apply Keep.alloc|exact zk _))⟩
theorem zgK {w:World} {ds:List D} {us:List Value} (hs:ShL zb9 ds) (hr:Rvs w ds us):Calls Tryz.prog 40 #[.agg us.toArray] w λe w'=>e= .returned (.bool (zdx ds))/\Keep w w':=by
 simp only[ShL,Sh1,zb9]at hs;obtain⟨_,_,rfl,⟨s0,rfl,_⟩,⟨_,_,rfl,⟨L1,rfl,_,h1⟩,⟨_,_,rfl,⟨v2,rfl,_,_⟩,rfl⟩⟩⟩:=hs;simp only[Rvs,Rv,dS,dI,dB]at hr;obtain⟨_,_,rfl,rfl,⟨_,_,rfl,⟨x1,z1,rfl,y1,m1⟩,⟨_,_,rfl,rfl,rfl⟩⟩⟩:=hr;exact zf9 (sv s0) x1 L1.length z1 v2 (nmB s0) (zcP 1 16 zfW L1) w (zh λw' hk=>zax (sv s0) w') (zh λw' hk=>zf6 (lo:=1) (hi:=16) (by decide) (λxs w=>by kernel_rfl) h1 (Rvss.keep hk _ _ _ _ m1) (λw' ds us q1 q2=>ze9 q1 q2))
set_option maxHeartbeats 4000000 in
theorem zgL (f0:Bool) (x1:Option Addr) (y1 z1:Nat) (b0:Bool) (w:World)
  (T0:Hid (∀ w',Keep w w'->Calls Tryz.prog 72 #[.slice x1 y1 z1,.int .i64 1,.int .i64 4,.func (.func 34) #[] #[]] w' λe w''=>e= .returned (.bool b0)/\Keep w' w'')):
  Calls Tryz.prog 74 #[.agg #[.bool f0,.slice x1 y1 z1]] w λe w'=>e= .returned (.bool b0)/\Keep w w':=by
 go_enter Tryz.func74,Tryz.ntmps74;go_wp2_with fail
 (refine((uq T0) _ (by repeat(first|apply zaa|apply Keep.alloc|exact zk _))).mono ?_;rintro e w1 ⟨rfl,hk⟩;obtain⟨o0,k0,rfl⟩:=hk.ext;clear hk);go_wp2_with fail
 go_ret;exact⟨by simp,(by repeat(first|apply zaa|apply Keep.alloc|exact zk _))⟩
theorem zh3 {w:World} {ds:List D} {us:List Value} (hs:ShL zfX ds) (hr:Rvs w ds us):Calls Tryz.prog 74 #[.agg us.toArray] w λe w'=>e= .returned (.bool (zeT ds))/\Keep w w':=by
 simp only[ShL,Sh1,zfX]at hs;obtain⟨_,_,rfl,⟨f0,rfl⟩,⟨_,_,rfl,⟨L1,rfl,_,h1⟩,rfl⟩⟩:=hs;simp only[Rvs,Rv,dS,dI,dB]at hr;obtain⟨_,_,rfl,rfl,⟨_,_,rfl,⟨x1,z1,rfl,y1,m1⟩,rfl⟩⟩:=hr;exact zgL f0 x1 L1.length z1 (zcP 1 4 zfW L1) w (zh λw' hk=>zf6 (lo:=1) (hi:=4) (by decide) (λxs w=>by kernel_rfl) h1 (Rvss.keep hk _ _ _ _ m1) (λw' ds us q1 q2=>ze9 q1 q2))
set_option maxHeartbeats 4000000 in
theorem zga (x0:Option Addr) (y0 z0:Nat) (b0:Bool) (w:World)
  (T0:Hid (∀ w',Keep w w'->Calls Tryz.prog 73 #[.slice x0 y0 z0,.int .i64 1,.int .i64 2,.func (.func 74) #[] #[]] w' λe w''=>e= .returned (.bool b0)/\Keep w' w'')):
  Calls Tryz.prog 42 #[.agg #[.slice x0 y0 z0]] w λe w'=>e= .returned (.bool b0)/\Keep w w':=by
 go_enter Tryz.func42,Tryz.ntmps42;go_wp2_with fail
 (refine((uq T0) _ (by repeat(first|apply zaa|apply Keep.alloc|exact zk _))).mono ?_;rintro e w1 ⟨rfl,hk⟩;obtain⟨o0,k0,rfl⟩:=hk.ext;clear hk);go_wp2_with fail
 go_ret;exact⟨by simp,(by repeat(first|apply zaa|apply Keep.alloc|exact zk _))⟩
theorem zgM {w:World} {ds:List D} {us:List Value} (hs:ShL zca ds) (hr:Rvs w ds us):Calls Tryz.prog 42 #[.agg us.toArray] w λe w'=>e= .returned (.bool (zdy ds))/\Keep w w':=by
 simp only[ShL,Sh1,zca]at hs;obtain⟨_,_,rfl,⟨L0,rfl,_,h0⟩,rfl⟩:=hs;simp only[Rvs,Rv,dS,dI,dB]at hr;obtain⟨_,_,rfl,⟨x0,z0,rfl,y0,m0⟩,rfl⟩:=hr;exact zga x0 L0.length z0 (zcP 1 2 zeT L0) w (zh λw' hk=>zjv (lo:=1) (hi:=2) (by decide) (λxs w=>by kernel_rfl) h0 (Rvss.keep hk _ _ _ _ m0) (λw' ds us q1 q2=>zh3 q1 q2))
set_option maxHeartbeats 4000000 in
theorem zgN (s0:ByteArray) (x1:Option Addr) (y1 z1:Nat) (x2:Option Addr) (y2 z2:Nat) (x3:Option Addr) (y3 z3:Nat) (x4:Option Addr) (y4 z4:Nat) (x5:Option Addr) (y5 z5:Nat) (v6:Int) (b0 b1 b2 b3 b4 b5:Bool) (w:World)
  (T0:Hid (∀ w',Keep w w'->Calls Tryz.prog 34 #[.string s0] w' λe w''=>e= .returned (.bool b0)/\Keep w' w''))
  (T1:Hid (∀ w',Keep w w'->Calls Tryz.prog 35 #[.slice x1 y1 z1,.int .i64 0,.int .i64 16,.func (.func 36) #[] #[]] w' λe w''=>e= .returned (.bool b1)/\Keep w' w''))
  (T2:Hid (∀ w',Keep w w'->Calls Tryz.prog 37 #[.slice x2 y2 z2,.int .i64 0,.int .i64 8,.func (.func 38) #[] #[]] w' λe w''=>e= .returned (.bool b2)/\Keep w' w''))
  (T3:Hid (∀ w',Keep w w'->Calls Tryz.prog 39 #[.slice x3 y3 z3,.int .i64 0,.int .i64 16,.func (.func 40) #[] #[]] w' λe w''=>e= .returned (.bool b3)/\Keep w' w''))
  (T4:Hid (∀ w',Keep w w'->Calls Tryz.prog 41 #[.slice x4 y4 z4,.int .i64 0,.int .i64 4,.func (.func 42) #[] #[]] w' λe w''=>e= .returned (.bool b4)/\Keep w' w''))
  (T5:Hid (∀ w',Keep w w'->Calls Tryz.prog 43 #[.slice x5 y5 z5,.int .i64 0,.int .i64 64,.func (.func 44) #[] #[]] w' λe w''=>e= .returned (.bool b5)/\Keep w' w'')):
  Calls Tryz.prog 17 #[.agg #[.string s0,.slice x1 y1 z1,.slice x2 y2 z2,.slice x3 y3 z3,.slice x4 y4 z4,.slice x5 y5 z5,.int .i64 v6]] w λe w'=>e= .returned (.bool (b0&&(b1&&(b2&&(b3&&(b4&&b5))))))/\Keep w w':=by
 go_enter Tryz.func17,Tryz.ntmps17;go_wp2_with fail
 (refine((uq T0) _ (by repeat(first|apply zaa|apply Keep.alloc|exact zk _))).mono ?_;rintro e w1 ⟨rfl,hk⟩;obtain⟨o0,k0,rfl⟩:=hk.ext;clear hk);cases b0 with
 |false=>
  go_wp2_with fail
  go_ret;exact⟨by simp,(by repeat(first|apply zaa|apply Keep.alloc|exact zk _))⟩
 |true=>
  go_wp2_with fail
  (refine((uq T1) _ (by repeat(first|apply zaa|apply Keep.alloc|exact zk _))).mono ?_;rintro e w1 ⟨rfl,hk⟩;obtain⟨o1,k1,rfl⟩:=hk.ext;clear hk);cases b1 with
  |false=>
   go_wp2_with fail
   go_ret;exact⟨by simp,(by repeat(first|apply zaa|apply Keep.alloc|exact zk _))⟩
  |true=>
   go_wp2_with fail
   (refine((uq T2) _ (by repeat(first|apply zaa|apply Keep.alloc|exact zk _))).mono ?_;rintro e w1 ⟨rfl,hk⟩;obtain⟨o2,k2,rfl⟩:=hk.ext;clear hk);cases b2 with
   |false=>
    go_wp2_with fail
    go_ret;exact⟨by simp,(by repeat(first|apply zaa|apply Keep.alloc|exact zk _))⟩
   |true=>
    go_wp2_with fail
    (refine((uq T3) _ (by repeat(first|apply zaa|apply Keep.alloc|exact zk _))).mono ?_;rintro e w1 ⟨rfl,hk⟩;obtain⟨o3,k3,rfl⟩:=hk.ext;clear hk);cases b3 with
    |false=>
     go_wp2_with fail
     go_ret;exact⟨by simp,(by repeat(first|apply zaa|apply Keep.alloc|exact zk _))⟩
    |true=>
     go_wp2_with fail
     (refine((uq T4) _ (by repeat(first|apply zaa|apply Keep.alloc|exact zk _))).mono ?_;rintro e w1 ⟨rfl,hk⟩;obtain⟨o4,k4,rfl⟩:=hk.ext;clear hk);cases b4 with
     |false=>
      go_wp2_with fail
      go_ret;exact⟨by simp,(by repeat(first|apply zaa|apply Keep.alloc|exact zk _))⟩
     |true=>
      go_wp2_with fail
      (refine((uq T5) _ (by repeat(first|apply zaa|apply Keep.alloc|exact zk _))).mono ?_;rintro e w1 ⟨rfl,hk⟩;obtain⟨o5,k5,rfl⟩:=hk.ext;clear hk);go_wp2_with fail
      go_ret;exact⟨by simp,(by repeat(first|apply zaa|apply Keep.alloc|exact zk _))⟩
theorem zh4 {w:World} {ds:List D} {us:List Value} (hs:ShL zcx ds) (hr:Rvs w ds us):Calls Tryz.prog 17 #[.agg us.toArray] w λe w'=>e= .returned (.bool (zeC ds))/\Keep w w':=by
 simp only[ShL,Sh1,zcx]at hs;obtain⟨_,_,rfl,⟨s0,rfl,_⟩,⟨_,_,rfl,⟨L1,rfl,_,h1⟩,⟨_,_,rfl,⟨L2,rfl,_,h2⟩,⟨_,_,rfl,⟨L3,rfl,_,h3⟩,⟨_,_,rfl,⟨L4,rfl,_,h4⟩,⟨_,_,rfl,⟨L5,rfl,_,h5⟩,⟨_,_,rfl,⟨v6,rfl,_,_⟩,rfl⟩⟩⟩⟩⟩⟩⟩:=hs;simp only[Rvs,Rv,dS,dI,dB]at hr;obtain⟨_,_,rfl,rfl,⟨_,_,rfl,⟨x1,z1,rfl,y1,m1⟩,⟨_,_,rfl,⟨x2,z2,rfl,y2,m2⟩,⟨_,_,rfl,⟨x3,z3,rfl,y3,m3⟩,⟨_,_,rfl,⟨x4,z4,rfl,y4,m4⟩,⟨_,_,rfl,⟨x5,z5,rfl,y5,m5⟩,⟨_,_,rfl,rfl,rfl⟩⟩⟩⟩⟩⟩⟩:=hr;exact zgN (sv s0) x1 L1.length z1 x2 L2.length z2 x3 L3.length z3 x4 L4.length z4 x5 L5.length z5 v6 (nmB s0) (zcP 0 16 zeS L1) (zcP 0 8 zfs L2) (zcP 0 16 zdx L3) (zcP 0 4 zdy L4) (zcP 0 64 zk4 L5) w (zh λw' hk=>zax (sv s0) w') (zh λw' hk=>zhP (lo:=0) (hi:=16) (by decide) (λxs w=>by kernel_rfl) h1 (Rvss.keep hk _ _ _ _ m1) (λw' ds us q1 q2=>zh2 q1 q2)) (zh λw' hk=>zju (lo:=0) (hi:=8) (by decide) (λxs w=>by kernel_rfl) h2 (Rvss.keep hk _ _ _ _ m2) (λw' ds us q1 q2=>zh0 q1 q2)) (zh λw' hk=>zgC (lo:=0) (hi:=16) (by decide) (λxs w=>by kernel_rfl) h3 (Rvss.keep hk _ _ _ _ m3) (λw' ds us q1 q2=>zgK q1 q2)) (zh λw' hk=>zgD (lo:=0) (hi:=4) (by decide) (λxs w=>by kernel_rfl) h4 (Rvss.keep hk _ _ _ _ m4) (λw' ds us q1 q2=>zgM q1 q2)) (zh λw' hk=>zjt (lo:=0) (hi:=64) (by decide) (λxs w=>by kernel_rfl) h5 (Rvss.keep hk _ _ _ _ m5) (λw' ds us q1 q2=>zjY q1 q2))
set_option maxHeartbeats 4000000 in
theorem zh5 (v0:Int) (v1:Int) (v2:Int) (v3:Int) (v4:Int) (x5:Option Addr) (y5 z5:Nat) (x6:Option Addr) (y6 z6:Nat) (v7:Int) (v8:Int) (b0 b1 b2:Bool) (w:World)
  (T0:Hid (∀ w' g,Keep w w'->(∀ k u,[.int .i64 v0,.int .i64 v1,.int .i64 v2,.int .i64 v3,.int .i64 v4,.int .i64 v7,.int .i64 v8][k]? =some u->w'.cell? ⟨g,k,none⟩=some u)->Calls Tryz.prog 15 #[.slice (some ⟨g,0,none⟩) 7 7] w' λe w''=>e= .returned (.bool b0)/\Keep w' w''))
  (T1:Hid (∀ w',Keep w w'->Calls Tryz.prog 16 #[.slice x5 y5 z5,.int .i64 0,.int .i64 12,.func (.func 17) #[] #[]] w' λe w''=>e= .returned (.bool b1)/\Keep w' w''))
  (T2:Hid (∀ w',Keep w w'->Calls Tryz.prog 18 #[.slice x6 y6 z6,.int .i64 0,.int .i64 12,.func (.func 19) #[] #[]] w' λe w''=>e= .returned (.bool b2)/\Keep w' w'')):
  Calls Tryz.prog 7 #[.agg #[.int .i64 v0,.int .i64 v1,.int .i64 v2,.int .i64 v3,.int .i64 v4,.slice x5 y5 z5,.slice x6 y6 z6,.int .i64 v7,.int .i64 v8]] w λe w'=>e= .returned (.bool (b0&&(b1&&b2)))/\Keep w w':=by
 go_enter Tryz.func7,Tryz.ntmps7;go_wp2_with fail
 (refine((uq T0) _ _ (by repeat(first|apply zaa|apply Keep.alloc|exact zk _)) (zeo (by simp))).mono ?_;rintro e w1 ⟨rfl,hk⟩;obtain⟨o0,k0,rfl⟩:=hk.ext;clear hk);cases b0 with
 |false=>
  go_wp2_with fail
  go_ret;exact⟨by simp,(by repeat(first|apply zaa|apply Keep.alloc|exact zk _))⟩
 |true=>
  go_wp2_with fail
  (refine((uq T1) _ (by repeat(first|apply zaa|apply Keep.alloc|exact zk _))).mono ?_;rintro e w1 ⟨rfl,hk⟩;obtain⟨o1,k1,rfl⟩:=hk.ext;clear hk);cases b1 with
  |false=>
   go_wp2_with fail
   go_ret;exact⟨by simp,(by repeat(first|apply zaa|apply Keep.alloc|exact zk _))⟩
  |true=>
   go_wp2_with fail
   (refine((uq T2) _ (by repeat(first|apply zaa|apply Keep.alloc|exact zk _))).mono ?_;rintro e w1 ⟨rfl,hk⟩;obtain⟨o2,k2,rfl⟩:=hk.ext;clear hk);go_wp2_with fail
   go_ret;exact⟨by simp,(by repeat(first|apply zaa|apply Keep.alloc|exact zk _))⟩
theorem zcY {w:World} {ds:List D} {us:List Value} (hs:ShL zdo ds) (hr:Rvs w ds us):Calls Tryz.prog 7 #[.agg us.toArray] w λe w'=>e= .returned (.bool (zei ds))/\Keep w w':=by
 simp only[ShL,Sh1,zdo]at hs;obtain⟨_,_,rfl,⟨v0,rfl,_,_⟩,⟨_,_,rfl,⟨v1,rfl,_,_⟩,⟨_,_,rfl,⟨v2,rfl,_,_⟩,⟨_,_,rfl,⟨v3,rfl,_,_⟩,⟨_,_,rfl,⟨v4,rfl,_,_⟩,⟨_,_,rfl,⟨L5,rfl,_,h5⟩,⟨_,_,rfl,⟨L6,rfl,_,h6⟩,⟨_,_,rfl,⟨v7,rfl,_,_⟩,⟨_,_,rfl,⟨v8,rfl,_,_⟩,rfl⟩⟩⟩⟩⟩⟩⟩⟩⟩:=hs;simp only[Rvs,Rv,dS,dI,dB]at hr;obtain⟨_,_,rfl,rfl,⟨_,_,rfl,rfl,⟨_,_,rfl,rfl,⟨_,_,rfl,rfl,⟨_,_,rfl,rfl,⟨_,_,rfl,⟨x5,z5,rfl,y5,m5⟩,⟨_,_,rfl,⟨x6,z6,rfl,y6,m6⟩,⟨_,_,rfl,rfl,⟨_,_,rfl,rfl,rfl⟩⟩⟩⟩⟩⟩⟩⟩⟩:=hr;exact zh5 v0 v1 v2 v3 v4 x5 L5.length z5 x6 L6.length z6 v7 v8 (zfr [v0,v1,v2,v3,v4,v7,v8]) (zcP 0 12 zeC L5) (zcP 0 12 zeU L6) w (zh λw' g hk hc=>(zem [v0,v1,v2,v3,v4,v7,v8] g 7 w' (by simp) hc).mono (λe w2 hh=>⟨hh.1,hh.2▸zk _⟩)) (zh λw' hk=>zhQ (lo:=0) (hi:=12) (by decide) (λxs w=>by kernel_rfl) h5 (Rvss.keep hk _ _ _ _ m5) (λw' ds us q1 q2=>zh4 q1 q2)) (zh λw' hk=>zhR (lo:=0) (hi:=12) (by decide) (λxs w=>by kernel_rfl) h6 (Rvss.keep hk _ _ _ _ m6) (λw' ds us q1 q2=>zh1 q1 q2))
end S
end Go.Proofs.YthceiikgecoimaaGreatDoor
namespace Go.Proofs.YthceiikgecoimaaGreatDoor
open Go.RowKit
set_option linter.unusedVariables false
set_option linter.unusedSimpArgs false
set_option maxRecDepth 10000
theorem zmr (w:World) (s:ByteArray):∃ cap o k,(∀ src dst,Tryz.prog.underlying src=some .string->Tryz.prog.underlying dst=some (.slice 5)->(convert src dst (.string s)).run Tryz.prog w= .ok (.slice (some ⟨w.heap.size,0,none⟩) s.size cap) (ext w #[o] k))/\By (ext w #[o] k) (.slice (some ⟨w.heap.size,0,none⟩) s.size cap) s.data.toList:=by
 refine⟨grownCap w s.size 0 5,.cells (bytesRow s (grownCap w s.size 0 5)) 5 ((bytesRow s (grownCap w s.size 0 5)).size,(bytesRow s (grownCap w s.size 0 5)).size+1),w.drew.drawn,λsrc dst hs hd=>?_,?_⟩
 ·rw[run_bytes_of_string (P:=Tryz.prog) w src dst 5 s hs hd Tryz.underlying5];congr 1
 ·refine⟨_,_,rfl,grownCap_ge _ _ _ _,λk hk=>⟨_,rfl,by simp,?_⟩⟩;rw[zbt,Nat.zero_add];have hk':k<s.data.size:=by simpa using hk
  have h1:(ext w #[Obj.cells (bytesRow s (grownCap w s.size 0 5)) 5 ((bytesRow s (grownCap w s.size 0 5)).size,(bytesRow s (grownCap w s.size 0 5)).size+1)] w.drew.drawn).cell? ⟨w.heap.size,k,none⟩=(bytesRow s (grownCap w s.size 0 5))[k]? :=by
   unfold World.cell? ext
   simp
  rw[h1,bytesRow_at s _ k hk'];congr 3;rw[List.getD_eq_getElem?_getD,List.getElem?_eq_getElem (by simpa using hk')];simp
theorem zro {w:World} {v:Value} {l:List UInt8} (h:By w v l) {t u:TypeId} (hs:Tryz.prog.underlying t=some (.slice 5)) (hu:Tryz.prog.underlying u=some .string):(convert t u v).run Tryz.prog w= .ok (.string (sv l)) w:=by
 obtain⟨a,cap,rfl,_,h⟩:=h;cases a with
 |none=>
  have:l= []:=by
   cases l with
   |nil=>rfl
   |cons c r=>obtain⟨ad,e,_⟩:=h 0 (by simp);cases e
  subst this;exact run_convert_bytes_nil w t 5 hs Tryz.underlying5 _ _ u hu
 |some ad=>
  refine run_convert_bytes_back (P:=Tryz.prog) w t u 5 ad cap l hs Tryz.underlying5 hu (λj hj=>?_);obtain⟨ad',e,_,hc⟩:=h j hj;injection e with e
  subst e;rw[hc,List.getD_eq_getElem?_getD,List.getElem?_eq_getElem hj]
  rfl
theorem zjZ (l:List UInt8):(sv l).data.toList=l:=by simp[sv]
end Go.Proofs.YthceiikgecoimaaGreatDoor
namespace Go.Proofs.YthceiikgecoimaaGreatDoor
open Go.RowKit
attribute [local go_sem ↓] Go.wp_at_zero Go.wp_at_succ
set_option linter.unusedVariables false
set_option linter.unusedSimpArgs false
set_option maxRecDepth 10000
namespace S
theorem Fb.below {p:Nat} {w w':World} (h:Fb p w w') (hp:p<=w.heap.size):Below p w w':=⟨h.os,h.tape,h.output,h.size,λi hi=>h.block i (by omega) (by omega) (.inl hi)⟩
theorem zrp:Tryz.prog.cellsOf 5=1:=by kernel_rfl
set_option maxHeartbeats 4000000 in
theorem zgO (p g n cap:Nat) (S:ByteArray) (w w1:World) (c1:w.drew.cell? ⟨p,1,none⟩=some (.slice (some ⟨g,0,none⟩) n cap)) (c2:Hid (w1.cell? ⟨p,1,none⟩=some (.slice (some ⟨g,0,none⟩) n cap)))
  (hSD:(Builtin.unsafeSliceData_ #[29] 93 #[.slice (some ⟨g,0,none⟩) n cap]).run Tryz.prog w.drew= .ok (.pointer (some ⟨g,0,none⟩)) w.drew)
  (hUS:(Builtin.unsafeString_ #[93,3] 9 #[.pointer (some ⟨g,0,none⟩),.int .i64 n]).run Tryz.prog w.drew= .ok (.string S) w1):
  Calls Tryz.prog 14 #[.pointer (some ⟨p,0,none⟩)] w λe w'=>e= .returned (.string S)/\w'=w1:=by
 go_enter Tryz.func14,Tryz.ntmps14
 go_upto_region 1 with fail
 refine wp_region_held_drew (S:=λw'=>w'.cell? ⟨p,1,none⟩=some (.slice (some ⟨g,0,none⟩) n cap)) (by kernel_rfl) (by exact c1) (λzH=>?_);refine tk6 0 3 1 4 2 5 3 6 5 8 6 9 zH ?_;try simp only[Yq]
 refine tk3 7 10 8 11 9 12 zH ?_;try simp only[Yq]
 refine zap 4 (λK hK=>?_);go_simp;clear zH;refine hK.out _ _ ?_ (λzH=>?_)
 ·exact c1
 clear hK K;try simp only[Yq]
 refine zap 10 (λK hK=>?_);go_simp;clear zH;refine hK.out _ _ ?_ (λzH=>?_)
 ·exact uq c2
 clear hK K;try simp only[Yq]
 refine tkk 11 2 zH ?_;try simp only[Yq]
 refine wpAnyH_done (by kernel_rfl) ?_ _;clear zH;go_wp2_with fail
 go_ret;exact⟨rfl,rfl⟩
theorem zh6 {w:World} {p:Nat} {out:List UInt8} {op:Int} {la:ByteArray} (h:Pr w p out op la) (h0:out≠ []) (hl:out.length<=100000000000):Calls Tryz.prog 14 #[.pointer (some ⟨p,0,none⟩)] w λe w'=>e= .returned (.string (sv out))/\Below p w w':=by
 obtain⟨q,v,hq,hp,hown⟩:=h;have hl0:out.length≠0:=by simpa using h0
 obtain⟨g,cap,cur,rfl,hbg,hg,hnc,hcm,hcs,htake⟩:∃ g cap cur,v= .slice (some ⟨g,0,none⟩) out.length cap/\p+1<=g/\w.heap[g]? =some (.cells cur TB (0,0))/\out.length<=cap/\cap<=maxLen/\cur.size=cap * 1/\cur.toList.take (out.length * 1)=bc out:=by
  rcases hown.2 with ⟨_,hz⟩|⟨g,cap,cur,hv,r⟩
  ·exact absurd hz hl0
  ·exact⟨g,cap,cur,hv,r⟩
 have c1:w.drew.cell? ⟨p,1,none⟩=some (.slice (some ⟨g,0,none⟩) out.length cap):=by
  have:w.drew.heap[p]? =_:=hp;simp[World.cell?,this]
 refine(zgO p g out.length cap (sv out) w (w.drew.freeze ⟨g,0,none⟩ out.length) c1 (zh ?_) ?_ ?_).mono ?_
 ·have:(w.drew.freeze ⟨g,0,none⟩ out.length).heap[p]? =w.heap[p]? :=(Lib.below_freeze (Below.refl (p+1) w.drew) (p:=⟨g,0,none⟩) hbg out.length).block p (by omega);simp[World.cell?,this,hp]
 ·exact Lib.run_unsafeSliceData_row _ _ _ _ _ _ (by omega)
 ·refine Lib.run_unsafeString_row w.drew 93 3 9 TB (by kernel_rfl) zrp g cur.size (by have hg':w.drew.heap[g]? =some (.cells cur TB (0,0)):=hg;simp[World.shape?,hg']) out h0 (by omega) (by omega) ?_;intro j x hx
  exact hown.cells (g:=g) rfl j (.int .u8 x.toNat) (by simp[bc,hx])
 ·rintro e w' ⟨rfl,rfl⟩;exact⟨rfl,Lib.below_freeze (Below.drew (Below.refl p w)) (p:=⟨g,0,none⟩) (by show p<=g;omega) _⟩
set_option maxHeartbeats 4000000 in
theorem zo5 (v0 v1 v2 v3 v4:Int) (a5:Option Addr) (n5 c5:Nat) (a6:Option Addr) (n6 c6:Nat) (v7 v8:Int) (w:World)
  (T1:Hid (∀ w',Keep w w'->Calls Tryz.prog 7 #[.agg #[.int .i64 v0,.int .i64 v1,.int .i64 v2,.int .i64 v3,.int .i64 v4,.slice a5 n5 c5,.slice a6 n6 c6,.int .i64 v7,.int .i64 v8]] w' λe w''=>e= .returned (.bool false)/\Keep w' w'')):
  Calls Tryz.prog 6 #[.agg #[.int .i64 v0,.int .i64 v1,.int .i64 v2,.int .i64 v3,.int .i64 v4,.slice a5 n5 c5,.slice a6 n6 c6,.int .i64 v7,.int .i64 v8]] w λe w'=>e= .returned (.tuple #[.slice none 0 0,.int .i64 1])/\Keep w w':=by
 go_enter Tryz.func6,Tryz.ntmps6;go_wp2_with fail
 (refine((uq T1) _ (by repeat(first|apply Keep.alloc|exact zk _))).mono ?_;rintro e w2 ⟨rfl,hk⟩;have HK:=zh hk;clear hk);go_wp2_with fail
 go_ret2;exact⟨rfl,((zk w).alloc _).trans (uq HK)⟩
set_option maxHeartbeats 4000000 in
theorem zlu (v0 v1 v2 v3 v4:Int) (a5:Option Addr) (n5 c5:Nat) (a6:Option Addr) (n6 c6:Nat) (v7 v8:Int) (out:List UInt8) (op:Int) (la:ByteArray) (w:World) (h0:out≠ []) (hl:out.length<=100000000000)
  (T1:Hid (∀ w',Keep w w'->Calls Tryz.prog 7 #[.agg #[.int .i64 v0,.int .i64 v1,.int .i64 v2,.int .i64 v3,.int .i64 v4,.slice a5 n5 c5,.slice a6 n6 c6,.int .i64 v7,.int .i64 v8]] w' λe w''=>e= .returned (.bool true)/\Keep w' w''))
  (T2:Hid (∀ w' p,Keep w w'->w.heap.size<=p->Ps w' p ⟨[],0,[]⟩->Calls Tryz.prog 13 #[.pointer (some ⟨p,0,none⟩),.agg #[.int .i64 v0,.int .i64 v1,.int .i64 v2,.int .i64 v3,.int .i64 v4,.slice a5 n5 c5,.slice a6 n6 c6,.int .i64 v7,.int .i64 v8]] w' λe w''=>e= .returned (.tuple #[])/\Pr w'' p out op la/\Fb p w' w'')):
  Calls Tryz.prog 6 #[.agg #[.int .i64 v0,.int .i64 v1,.int .i64 v2,.int .i64 v3,.int .i64 v4,.slice a5 n5 c5,.slice a6 n6 c6,.int .i64 v7,.int .i64 v8]] w λe w'=>∃ v,e= .returned (.tuple #[v,.int .i64 0])/\By w' v out/\Keep w w':=by
 go_enter Tryz.func6,Tryz.ntmps6;go_wp2_with fail
 (refine((uq T1) _ (by repeat(first|apply Keep.alloc|exact zk _))).mono ?_;rintro e w2 ⟨rfl,hk⟩;obtain⟨o1,k1,rfl⟩:=hk.ext;clear hk)
 go_upto_region 4 with fail
 have HK1:Hid (Keep w (ext (w.alloc (Obj.cells #[.int .i64 v0,.int .i64 v1,.int .i64 v2,.int .i64 v3,.int .i64 v4,.slice a5 n5 c5,.slice a6 n6 c6,.int .i64 v7,.int .i64 v8] 27)) o1 k1)):=zh (by repeat(first|apply zaa|apply Keep.alloc|exact zk _));have ep:(ext (w.alloc (Obj.cells #[.int .i64 v0,.int .i64 v1,.int .i64 v2,.int .i64 v3,.int .i64 v4,.slice a5 n5 c5,.slice a6 n6 c6,.int .i64 v7,.int .i64 v8] 27)) o1 k1).heap.size=w.heap.size+1+o1.size:=by simp
 have HB:Hid ((ext (w.alloc (Obj.cells #[.int .i64 v0,.int .i64 v1,.int .i64 v2,.int .i64 v3,.int .i64 v4,.slice a5 n5 c5,.slice a6 n6 c6,.int .i64 v7,.int .i64 v8] 27)) o1 k1).heap[w.heap.size]? =some (.cells #[.int .i64 v0,.int .i64 v1,.int .i64 v2,.int .i64 v3,.int .i64 v4,.slice a5 n5 c5,.slice a6 n6 c6,.int .i64 v7,.int .i64 v8] 27 (0,0))):=zh (by
  have h1:=heap_alloc_new w (Obj.cells #[.int .i64 v0,.int .i64 v1,.int .i64 v2,.int .i64 v3,.int .i64 v4,.slice a5 n5 c5,.slice a6 n6 c6,.int .i64 v7,.int .i64 v8] 27);rw[(zaa (zk _) o1 k1).block w.heap.size (by simp)];exact h1)
 generalize (ext (w.alloc (Obj.cells #[.int .i64 v0,.int .i64 v1,.int .i64 v2,.int .i64 v3,.int .i64 v4,.slice a5 n5 c5,.slice a6 n6 c6,.int .i64 v7,.int .i64 v8] 27)) o1 k1)=w2 at HK1 ep HB |-;rw[<- ep];have hn:=heap_alloc_new w2 (.cells #[.pointer none,.slice none 0 0,.int .i64 0,.string ⟨#[]⟩] TP);have HK2:=zh ((uq HK1).alloc (.cells #[.pointer none,.slice none 0 0,.int .i64 0,.string ⟨#[]⟩] TP));have hx:(w2.alloc (.cells #[.pointer none,.slice none 0 0,.int .i64 0,.string ⟨#[]⟩] TP)).heap[w.heap.size]? =some (.cells #[.int .i64 v0,.int .i64 v1,.int .i64 v2,.int .i64 v3,.int .i64 v4,.slice a5 n5 c5,.slice a6 n6 c6,.int .i64 v7,.int .i64 v8] 27 (0,0)):=by
  rw[heap_alloc_old _ _ (by omega)];exact uq HB
 have hsz:(w2.alloc (.cells #[.pointer none,.slice none 0 0,.int .i64 0,.string ⟨#[]⟩] TP)).heap.size=w2.heap.size+1:=by simp
 have HPs:Hid (Ps (w2.alloc (.cells #[.pointer none,.slice none 0 0,.int .i64 0,.string ⟨#[]⟩] TP)) w2.heap.size ⟨[],0,[]⟩):=zh ⟨_,_,.inl rfl,hn,⟨rfl,.inl ⟨rfl,rfl⟩⟩⟩;have HW:Hid (w.heap.size<=w2.heap.size):=zh (by omega);have hb:w.heap.size=w2.heap.size - 1 - o1.size:=by omega
 clear ep HK1 HB hn;show Code.wp _ _ _ _ (w2.alloc (.cells #[.pointer none,.slice none 0 0,.int .i64 0,.string ⟨#[]⟩] TP));generalize w2.alloc (.cells #[.pointer none,.slice none 0 0,.int .i64 0,.string ⟨#[]⟩] TP)=w3 at *;obtain⟨b,HBb⟩:∃ b,Hid (w.heap.size=b):=⟨_,rfl⟩;obtain⟨p,HPp⟩:∃ p,Hid (w2.heap.size=p):=⟨_,rfl⟩;rw[uq HBb,uq HPp];rw[uq HPp]at HPs HW hsz;rw[uq HBb]at hx;have HSZ:=zh hsz;clear hb hsz;have q0:w3.cell? ⟨b,0,none⟩=some (.int .i64 v0):=by simp[World.cell?,hx]
 have q1:w3.cell? ⟨b,1,none⟩=some (.int .i64 v1):=by simp[World.cell?,hx]
 have q2:w3.cell? ⟨b,2,none⟩=some (.int .i64 v2):=by simp[World.cell?,hx]
 have q3:w3.cell? ⟨b,3,none⟩=some (.int .i64 v3):=by simp[World.cell?,hx]
 have q4:w3.cell? ⟨b,4,none⟩=some (.int .i64 v4):=by simp[World.cell?,hx]
 have q5:w3.cell? ⟨b,5,none⟩=some (.slice a5 n5 c5):=by simp[World.cell?,hx]
 have q6:w3.cell? ⟨b,6,none⟩=some (.slice a6 n6 c6):=by simp[World.cell?,hx]
 have q7:w3.cell? ⟨b,7,none⟩=some (.int .i64 v7):=by simp[World.cell?,hx]
 have q8:w3.cell? ⟨b,8,none⟩=some (.int .i64 v8):=by simp[World.cell?,hx]
 clear hx;go_wp2_with fail
 (refine((uq T2) _ _ (uq HK2) (uq HW) (uq HPs)).mono ?_;rintro e w4 ⟨rfl,hp,hf⟩;have HP4:=zh hp;have HF4:=zh hf;clear hp hf);clear q0 q1 q2 q3 q4 q5 q6 q7 q8;go_wp2_with fail
 (refine(zh6 (uq HP4) h0 hl).mono ?_;rintro e w5 ⟨rfl,hb5⟩;have HB5:=zh hb5;clear hb5);obtain⟨cp,o,kk,hcv,hby⟩:=zmr w5 (sv out);have cv:=hcv 9 29 Tryz.underlying9 Tryz.underlying29;rw[zjZ]at hby;have HBY:=zh hby;have HX6:=zh (zaa (zk w5) #[o] kk);clear hcv hby;generalize sv out=SS at *;go_wp2_with fail
 go_ret2;refine⟨_,rfl,uq HBY,?_⟩;have k3:=uq HK2;have f4:=(uq HF4).below (by have:=uq HSZ;omega);have k5:Below w.heap.size w3 w5:=(f4.mono (uq HW)).trans ((uq HB5).mono (uq HW));exact Below.trans (Below.trans k3 k5) ((uq HX6).mono (Nat.le_trans k3.size k5.size))
end S
end Go.Proofs.YthceiikgecoimaaGreatDoor
