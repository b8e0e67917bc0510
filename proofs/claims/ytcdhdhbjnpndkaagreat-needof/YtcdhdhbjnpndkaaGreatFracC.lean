/- What products come to. -/
import Derived.Test.YtcdhdhbjnpndkaaGreatShelf
import Derived.Test.YtcdhdhbjnpndkaaGreatProg
import Derived.Test.YtcdhdhbjnpndkaaGreatLSkip
import Derived.WalkKit
import Derived.ProofKit
import Derived.Deep.RegionWith
import Derived.WalkSpells
import Derived.Test.YtcdhdhbjnpndkaaGreatWholeQ
import Derived.LoopTactic
import Derived.RegionTactic
import Derived.Deep.RegionHeld3
import Derived.Shelf.Spec.BitsCarry
import Derived.Lib.BitFns
import Derived.Laws.Bits64b
namespace Go.Proofs.YtcdhdhbjnpndkaaGreat
open Go.RowKit
set_option linter.unusedVariables false
theorem zbI (x y:Int) (w:World) (hx0:0≤x) (hx:x<18446744073709551616) (hy0:0≤y) (hy:y<18446744073709551616):
  Calls Tryz.prog 155 #[.int .u64 x,.int .u64 y] w fun e w'=>∃ hi lo:Int,e= .returned (.tuple #[.int .u64 hi,.int .u64 lo])∧0≤hi∧hi<18446744073709551616∧0≤lo∧lo<18446744073709551616∧Hid (x * y=hi * 18446744073709551616+lo)∧w'=w:=by
 obtain⟨x,rfl⟩:=Int.eq_ofNat_of_zero_le hx0;obtain⟨y,rfl⟩:=Int.eq_ofNat_of_zero_le hy0;refine(Tryz.bits_Mul64 x y (by omega) (by omega) w).mono ?_;rintro e w' ⟨rfl,rfl⟩;have hm:x * y≤18446744073709551615 * 18446744073709551615:=Nat.mul_le_mul (by omega) (by omega);refine⟨_,_,rfl,by omega,by omega,by omega,by omega,?_,rfl⟩;refine hide ?_;rw[← Int.natCast_mul];generalize x * y=u;omega
set_option maxHeartbeats 400000 in
theorem zeK (a b:Int) (w:World) (h1: -9223372036854775808≤a) (h2:a≤9223372036854775807) (h3: -9223372036854775808≤b) (h4:b≤9223372036854775807):
  Calls Tryz.prog 140 #[.int .i64 a,.int .i64 b] w fun e w'=>e= .returned (.agg #[.int .i64 (zbF (a * b)),.int .u64 (zb2 (a * b))])∧∃ c,w'=w.alloc (.cells c 204):=by
 have pb:=hide (zlv h1 h2 h3 h4);by_cases ha:a<0<;>by_cases hb:b<0
 ·go_enter Tryz.func140,Tryz.ntmps140;go_wp2_with fail
  rw[zcf h1 ha,zcf h3 hb];refine(zbI _ _ _ (by omega) (by omega) (by omega) (by omega)).mono ?_;rintro e w' ⟨hi,lo,rfl,g1,g2,g3,g4,G,rfl⟩;go_wp2;refine bodyPost_ret (v:= .agg #[.int .i64 (wrap64 (IntKind.u64.wrap (IntKind.u64.wrap (hi - IntKind.u64.wrap b) - IntKind.u64.wrap a))),.int .u64 lo]) (by simp[results,Tryz.results140,go_sem]) rfl ⟨zd6 ?_ ?_,_,rfl⟩;all_goals
   have G':=uq G;have pb':=uq pb;rw[zn7]at G';clear G pb;simp only[zbF,zb2];generalize a * b=P at *;try simp only[IntKind.wrap_u64,wrap64]
   omega
 ·go_enter Tryz.func140,Tryz.ntmps140;go_wp2_with fail
  rw[zcf h1 ha];refine(zbI _ _ _ (by omega) (by omega) (by omega) (by omega)).mono ?_;rintro e w' ⟨hi,lo,rfl,g1,g2,g3,g4,G,rfl⟩;go_wp2;refine bodyPost_ret (v:= .agg #[.int .i64 (wrap64 (IntKind.u64.wrap (hi - b))),.int .u64 lo]) (by simp[results,Tryz.results140,go_sem]) rfl ⟨zd6 ?_ ?_,_,rfl⟩;all_goals
   have G':=uq G;have pb':=uq pb;rw[zn8]at G';clear G pb;simp only[zbF,zb2];generalize a * b=P at *;try simp only[IntKind.wrap_u64,wrap64]
   omega
 ·go_enter Tryz.func140,Tryz.ntmps140;go_wp2_with fail
  rw[zcf h3 hb];refine(zbI _ _ _ (by omega) (by omega) (by omega) (by omega)).mono ?_;rintro e w' ⟨hi,lo,rfl,g1,g2,g3,g4,G,rfl⟩;go_wp2;refine bodyPost_ret (v:= .agg #[.int .i64 (wrap64 (IntKind.u64.wrap (hi - a))),.int .u64 lo]) (by simp[results,Tryz.results140,go_sem]) rfl ⟨zd6 ?_ ?_,_,rfl⟩;all_goals
   have G':=uq G;have pb':=uq pb;rw[zlw]at G';clear G pb;simp only[zbF,zb2];generalize a * b=P at *;try simp only[IntKind.wrap_u64,wrap64]
   omega
 ·go_enter Tryz.func140,Tryz.ntmps140;go_wp2_with fail
  refine(zbI _ _ _ (by omega) (by omega) (by omega) (by omega)).mono ?_;rintro e w' ⟨hi,lo,rfl,g1,g2,g3,g4,G,rfl⟩;go_wp2;refine bodyPost_ret (v:= .agg #[.int .i64 (wrap64 hi),.int .u64 lo]) (by simp[results,Tryz.results140,go_sem]) rfl ⟨zd6 ?_ ?_,_,rfl⟩;all_goals
   have G':=uq G;have pb':=uq pb;clear G pb;simp only[zbF,zb2];generalize a * b=P at *;try simp only[wrap64]
   omega
set_option maxHeartbeats 400000 in
theorem zgl (a:Int) (w:World) (h1: -9223372036854775808≤a) (h2:a≤9223372036854775807):
  Calls Tryz.prog 154 #[.int .i64 a] w fun e w'=>e= .returned (.int .u64 (a.natAbs:Int))∧w'=w:=by
 by_cases ha:a<0
 ·go_enter Tryz.func154,Tryz.ntmps154;go_wp2;go_ret;exact⟨zaA (by rw[IntKind.wrap_u64,IntKind.wrap_u64];omega),rfl⟩
 ·go_enter Tryz.func154,Tryz.ntmps154;go_wp2;go_ret;exact⟨zaA (by omega),rfl⟩
set_option maxHeartbeats 1000000 in
theorem zj6 (a b:Int) (x y G:Nat) (w:World) (hx:x≤9223372036854775808) (hy:y≤9223372036854775808) (HG:Hid (Nat.gcd x y=G))
  (S1:Hid (∀ w,Calls Tryz.prog 154 #[.int .i64 a] w fun e w'=>e= .returned (.int .u64 (x:Int))∧w'=w))
  (S2:Hid (∀ w,Calls Tryz.prog 154 #[.int .i64 b] w fun e w'=>e= .returned (.int .u64 (y:Int))∧w'=w)):
  Calls Tryz.prog 139 #[.int .i64 a,.int .i64 b] w fun e w'=>e= .returned (.tuple #[.int .i64 (ans (G:Int)),.int .i64 (err (G:Int))])∧Keep w w':=by
 go_enter Tryz.func139,Tryz.ntmps139;go_wp2_with fail
 refine(uq S1 _).mono ?_;rintro e w' ⟨rfl,rfl⟩;go_wp2_with fail
 refine(uq S2 _).mono ?_;rintro e w' ⟨rfl,rfl⟩;go_wp2_with fail
 go_loopw [6,7] (fun p q wr=>∃ u v:Nat,p= .int .u64 (u:Int)∧q= .int .u64 (v:Int)∧u≤9223372036854775808∧v≤9223372036854775808∧Hid (Nat.gcd u v=G)∧Keep w' wr) (fun _ q _=>(intOf q).toNat)
 case atStart=>exact⟨x,y,rfl,rfl,hx,hy,HG,Keep.refl _⟩
 case round=>
  obtain⟨u,v,rfl,rfl,hu,hv,Hg,hk⟩:=hrel;by_cases hz:v=0
  ·subst hz;have e0:u=G:=by have:=uq Hg;simpa using this
   by_cases hf:u≤9223372036854775807
   ·have k:=zdf (n:=(u:Int)) (by omega) (by omega);have k':=zdg (n:=(u:Int)) (by omega) (by omega);rw[e0]at k k';have K:=hide k;have K':=hide k';have E0:=hide e0;clear k k' e0;go_wp2;go_ret2;exact⟨zdh (by rw[uq K,uq E0]) (by rw[uq K']),hk⟩
   ·have k:=zhH (n:=(u:Int)) (by omega);have k':=zhI (n:=(u:Int)) (by omega);rw[e0]at k k';have K:=hide k;have K':=hide k';have E0:=hide e0;clear k k' e0;go_wp2;go_ret2;exact⟨zdh (by rw[uq K]) (by rw[uq K']),hk⟩
  ·have hb:((v:Int)==0)=false:=by simp;omega
   have hb2:((v:Int) !=0)=true:=by simp;omega
   have hm:u % v<v:=Nat.mod_lt _ (by omega);have Hg2:Hid (Nat.gcd v (u % v)=G):=by
    refine hide ?_;rw[← uq Hg,Nat.gcd_comm u v];exact(Nat.gcd_rec v u).symm▸(by rw[Nat.gcd_comm])
   go_wp2
   go_region
   all_goals go_wp2
   all_goals go_roundw
   case rel=>exact⟨v,u % v,rfl,by go_num,by omega,by omega,Hg2,hk.drew⟩
   case measure=>simp[intOf];omega
theorem ziq (a b:Int) (w:World) (h1: -9223372036854775808≤a) (h2:a≤9223372036854775807) (h3: -9223372036854775808≤b) (h4:b≤9223372036854775807):
  Calls Tryz.prog 139 #[.int .i64 a,.int .i64 b] w fun e w'=>e= .returned (.tuple #[.int .i64 (ans (Int.gcd a b:Int)),.int .i64 (err (Int.gcd a b:Int))])∧Keep w w':=
 zj6 a b a.natAbs b.natAbs (Int.gcd a b) w (by omega) (by omega) (hide rfl) (hide fun w=>zgl a w h1 h2) (hide fun w=>zgl b w h3 h4)
set_option maxHeartbeats 400000 in
theorem zj7 (H L H2 L2:Int) (w:World) (hne:(H==H2)=false) (yes:Bool) (hy:decide (H<H2)=yes):
  Calls Tryz.prog 141 #[.agg #[.int .i64 H,.int .u64 L],.agg #[.int .i64 H2,.int .u64 L2]] w fun e w'=>e= .returned (.bool yes)∧Keep w w':=by
 go_enter Tryz.func141,Tryz.ntmps141;go_wp2;go_ret;exact⟨rfl,((Keep.refl _).alloc _).alloc _⟩
set_option maxHeartbeats 400000 in
theorem zj8 (H L L2:Int) (w:World) (yes:Bool) (hy:decide (L<L2)=yes):
  Calls Tryz.prog 141 #[.agg #[.int .i64 H,.int .u64 L],.agg #[.int .i64 H,.int .u64 L2]] w fun e w'=>e= .returned (.bool yes)∧Keep w w':=by
 go_enter Tryz.func141,Tryz.ntmps141;go_wp2;go_ret;exact⟨rfl,((Keep.refl _).alloc _).alloc _⟩
set_option maxHeartbeats 400000 in
theorem zg6 (a b c d H L:Int) (w:World)
  (T1:Hid (∀ w,Calls Tryz.prog 140 #[.int .i64 a,.int .i64 b] w fun e w'=>e= .returned (.agg #[.int .i64 H,.int .u64 L])∧∃ c,w'=w.alloc (.cells c 204)))
  (T2:Hid (∀ w,Calls Tryz.prog 140 #[.int .i64 c,.int .i64 d] w fun e w'=>e= .returned (.agg #[.int .i64 H,.int .u64 L])∧∃ c,w'=w.alloc (.cells c 204))):
  Calls Tryz.prog 113 #[.int .i64 a,.int .i64 b,.int .i64 c,.int .i64 d] w fun e w'=>e= .returned (.int .i64 0)∧Keep w w':=by
 go_enter Tryz.func113,Tryz.ntmps113;go_wp2_with fail
 refine(uq T1 _).mono ?_;rintro e w1 ⟨rfl,c1,rfl⟩;go_wp2_with fail
 refine(uq T2 _).mono ?_;rintro e w2 ⟨rfl,c2,rfl⟩;go_wp2_with fail
 go_ret;exact⟨rfl,by repeat(first|exact Keep.refl _|apply Keep.drew|apply Keep.alloc)⟩
set_option maxHeartbeats 400000 in
theorem zg7 (a b c d H L H2 L2:Int) (less:Bool) (w:World) (hne:(H==H2&&L==L2)=false)
  (T1:Hid (∀ w,Calls Tryz.prog 140 #[.int .i64 a,.int .i64 b] w fun e w'=>e= .returned (.agg #[.int .i64 H,.int .u64 L])∧∃ c,w'=w.alloc (.cells c 204)))
  (T2:Hid (∀ w,Calls Tryz.prog 140 #[.int .i64 c,.int .i64 d] w fun e w'=>e= .returned (.agg #[.int .i64 H2,.int .u64 L2])∧∃ c,w'=w.alloc (.cells c 204)))
  (B:Hid (∀ w,Calls Tryz.prog 141 #[.agg #[.int .i64 H,.int .u64 L],.agg #[.int .i64 H2,.int .u64 L2]] w fun e w'=>e= .returned (.bool less)∧Keep w w')):
  Calls Tryz.prog 113 #[.int .i64 a,.int .i64 b,.int .i64 c,.int .i64 d] w fun e w'=>e= .returned (.int .i64 (if less then -1 else 1))∧Keep w w':=by
 have fin:∀(w w':World) (c1 c2 c3 c4:Array Value),Keep ((((w.alloc (.cells c1 204)).alloc (.cells c2 204)).alloc (.cells c3 204)).alloc (.cells c4 204)) w'→Keep w w':=
  fun w w' _ _ _ _ h=>((((Keep.refl w).alloc _).alloc _).alloc _).alloc _ |>.trans h
 by_cases h1:H=H2
 ·subst h1;have h2:(L==L2)=false:=by simpa using hne
  clear hne;cases less
  all_goals
   go_enter Tryz.func113,Tryz.ntmps113;go_wp2_with fail
   refine(uq T1 _).mono ?_;rintro e w1 ⟨rfl,c1,rfl⟩;go_wp2_with fail
   refine(uq T2 _).mono ?_;rintro e w2 ⟨rfl,c2,rfl⟩;go_wp2_with fail
   refine(uq B _).mono ?_;rintro e w3 ⟨rfl,hk⟩;go_wp2_with fail
   go_ret;exact⟨rfl,fin _ _ _ _ _ _ hk⟩
 ·have h2:(H==H2)=false:=by simpa using h1
  clear hne;cases less
  all_goals
   go_enter Tryz.func113,Tryz.ntmps113;go_wp2_with fail
   refine(uq T1 _).mono ?_;rintro e w1 ⟨rfl,c1,rfl⟩;go_wp2_with fail
   refine(uq T2 _).mono ?_;rintro e w2 ⟨rfl,c2,rfl⟩;go_wp2_with fail
   refine(uq B _).mono ?_;rintro e w3 ⟨rfl,hk⟩;go_wp2_with fail
   go_ret;exact⟨rfl,fin _ _ _ _ _ _ hk⟩
theorem zg8 {x y:Int} (h1:zbF x=zbF y) (h2:zb2 x=zb2 y):x=y:=by unfold zbF zb2 at *;omega
theorem zir {x y:Int} (h1:¬zbF x=zbF y):zbF x<zbF y↔x<y:=by unfold zbF at *;omega
theorem zg9 {x y:Int} (h1:zbF x=zbF y):zb2 x<zb2 y↔x<y:=by unfold zbF zb2 at *;omega
theorem zfl (a b c d:Int) (w:World) (h1: -9223372036854775808≤a) (h2:a≤9223372036854775807) (h3: -9223372036854775808≤b) (h4:b≤9223372036854775807)
  (k1: -9223372036854775808≤c) (k2:c≤9223372036854775807) (k3: -9223372036854775808≤d) (k4:d≤9223372036854775807):
  Calls Tryz.prog 113 #[.int .i64 a,.int .i64 b,.int .i64 c,.int .i64 d] w fun e w'=>e= .returned (.int .i64 (cm (a * b) (c * d)))∧Keep w w':=by
 have T1:Hid (∀ w,_):=fun w=>zeK a b w h1 h2 h3 h4
 have T2:Hid (∀ w,_):=fun w=>zeK c d w k1 k2 k3 k4
 by_cases he:a * b=c * d
 ·rw[show cm (a * b) (c * d)=0 by simp[cm,he]];rw[he]at T1;exact zg6 a b c d _ _ w T1 T2
 ·have key:Hid (∀ w,Calls Tryz.prog 141 #[.agg #[.int .i64 (zbF (a * b)),.int .u64 (zb2 (a * b))],.agg #[.int .i64 (zbF (c * d)),.int .u64 (zb2 (c * d))]] w fun e w'=>e= .returned (.bool (decide (a * b<c * d)))∧Keep w w'):=by
   intro w
   by_cases hh:zbF (a * b)=zbF (c * d)
   ·rw[hh];exact zj8 _ _ _ w _ (decide_eq_decide.2 (zg9 hh))
   ·exact zj7 _ _ _ _ w (by simpa using hh) _ (decide_eq_decide.2 (zir hh))
  have hr:=zg7 a b c d _ _ _ _ _ w (by
   by_cases hh:zbF (a * b)=zbF (c * d)
   ·have:¬zb2 (a * b)=zb2 (c * d):=fun hl=>he (zg8 hh hl)
    simp[this]
   ·simp[hh]) T1 T2 key
  rw[show cm (a * b) (c * d)=if decide (a * b<c * d)=true then -1 else 1 by simp[cm,he]];exact hr
set_option maxHeartbeats 400000 in
theorem zis (n d:Int) (w:World) (h:d<1):
  Calls Tryz.prog 112 #[.agg #[.int .i64 n,.int .i64 d]] w fun e w'=>e= .returned (.bool false)∧Keep w w':=by
 go_enter Tryz.func112,Tryz.ntmps112;go_wp2_with fail
 go_ret;exact⟨rfl,by repeat(first|apply zaa|apply Keep.alloc|apply Keep.drew|exact Keep.refl _)⟩
set_option maxHeartbeats 400000 in
theorem zha (n d G:Int) (b:Bool) (w:World) (h:¬d<1) (hb:(G==1)=b) (T:Hid (∀ w,Calls Tryz.prog 139 #[.int .i64 n,.int .i64 d] w fun e w'=>e= .returned (.tuple #[.int .i64 G,.int .i64 0])∧Keep w w')):
  Calls Tryz.prog 112 #[.agg #[.int .i64 n,.int .i64 d]] w fun e w'=>e= .returned (.bool b)∧Keep w w':=by
 go_enter Tryz.func112,Tryz.ntmps112;go_wp2_with fail
 refine(uq T _).mono ?_;rintro e w1 ⟨rfl,hk⟩;obtain⟨o1,k1,rfl⟩:=hk.ext;clear hk;go_wp2_with fail
 go_ret;exact⟨rfl,by repeat(first|apply zaa|apply Keep.alloc|apply Keep.drew|exact Keep.refl _)⟩
theorem zeL {n d:Int} (h:1≤d):(Int.gcd n d:Int)≤d∧1≤(Int.gcd n d:Int):=by
 have h1:Int.gcd n d≤d.natAbs:=Nat.le_of_dvd (by omega) (Nat.gcd_dvd_right _ _);have h2:0<Int.gcd n d:=Int.gcd_pos_of_ne_zero_right _ (by omega);omega
theorem zit (n d:Int) (w:World) (h1: -9223372036854775808≤n) (h2:n≤9223372036854775807) (h3: -9223372036854775808≤d) (h4:d≤9223372036854775807):
  Calls Tryz.prog 112 #[.agg #[.int .i64 n,.int .i64 d]] w fun e w'=>e= .returned (.bool (rt n d))∧Keep w w':=by
 by_cases hd:d<1
 ·have e:rt n d=false:=by simp[rt];omega
  rw[e];exact zis n d w hd
 ·have g:=zeL (n:=n) (d:=d) (by omega);have e:(((Int.gcd n d:Nat):Int)==1)=rt n d:=by
   by_cases hg:Int.gcd n d=1
   ·simp[rt,hg];omega
   ·have:rt n d=false:=by simp[rt,hg]
    rw[this];simp;omega
  refine zha n d (Int.gcd n d:Int) _ w hd e (hide fun w=>?_);have k:=ziq n d w h1 h2 h3 h4;rw[zdf (by omega) (by omega),zdg (by omega) (by omega)]at k;exact k
set_option maxHeartbeats 400000 in
theorem zfm (n d:Int) (w:World) (T:Hid (∀ w,Calls Tryz.prog 112 #[.agg #[.int .i64 n,.int .i64 d]] w fun e w'=>e= .returned (.bool true)∧Keep w w')):
  Calls Tryz.prog 76 #[.agg #[.int .i64 n,.int .i64 d]] w fun e w'=>e= .returned (.agg #[.int .i64 n,.int .i64 d])∧Keep w w':=by
 go_enter Tryz.func76,Tryz.ntmps76;go_wp2_with fail
 refine(uq T _).mono ?_;rintro e w1 ⟨rfl,hk⟩;obtain⟨o1,k1,rfl⟩:=hk.ext;clear hk;go_wp2_with fail
 exact bodyPost_ret (v:= .agg #[.int .i64 n,.int .i64 d]) (by simp[results,Tryz.results76,go_sem]) rfl ⟨rfl,by repeat(first|apply zaa|apply Keep.alloc|apply Keep.drew|exact Keep.refl _)⟩
set_option maxHeartbeats 400000 in
theorem zdS (w:World):Calls Tryz.prog 75 #[] w fun e w'=>e= .returned (.agg #[.int .i64 0,.int .i64 1])∧Keep w w':=by
 go_enter Tryz.func75,Tryz.ntmps75;go_wp2_with fail
 exact bodyPost_ret (v:= .agg #[.int .i64 0,.int .i64 1]) (by simp[results,Tryz.results75,go_sem]) rfl ⟨rfl,by repeat(first|apply zaa|apply Keep.alloc|apply Keep.drew|exact Keep.refl _)⟩
set_option maxHeartbeats 400000 in
theorem zhb (n d:Int) (w:World) (T:Hid (∀ w,Calls Tryz.prog 112 #[.agg #[.int .i64 n,.int .i64 d]] w fun e w'=>e= .returned (.bool false)∧Keep w w')):
  Calls Tryz.prog 76 #[.agg #[.int .i64 n,.int .i64 d]] w fun e w'=>e= .returned (.agg #[.int .i64 0,.int .i64 1])∧Keep w w':=by
 go_enter Tryz.func76,Tryz.ntmps76;go_wp2_with fail
 refine(uq T _).mono ?_;rintro e w1 ⟨rfl,hk⟩;obtain⟨o1,k1,rfl⟩:=hk.ext;clear hk;go_wp2_with fail
 refine(zdS _).mono ?_;rintro e w2 ⟨rfl,hk⟩;obtain⟨o2,k2,rfl⟩:=hk.ext;clear hk;go_wp2_with fail
 exact bodyPost_ret (v:= .agg #[.int .i64 0,.int .i64 1]) (by simp[results,Tryz.results76,go_sem]) rfl ⟨rfl,by repeat(first|apply zaa|apply Keep.alloc|apply Keep.drew|exact Keep.refl _)⟩
theorem zbC (n d:Int) (w:World) (h1: -9223372036854775808≤n) (h2:n≤9223372036854775807) (h3: -9223372036854775808≤d) (h4:d≤9223372036854775807):
  Calls Tryz.prog 76 #[.agg #[.int .i64 n,.int .i64 d]] w fun e w'=>e= .returned (.agg #[.int .i64 (cn n d),.int .i64 (cd n d)])∧Keep w w':=by
 have T:Hid (∀ w,_):=fun w=>zit n d w h1 h2 h3 h4
 unfold cn cd
 by_cases h:rt n d=true
 ·rw[h]at T;simp only[h,if_true];exact zfm n d w T
 ·have h':rt n d=false:=by simpa using h
  rw[h']at T;simp only[h',if_false,Bool.false_eq_true];exact zhb n d w T
set_option maxHeartbeats 400000 in
theorem ziu (a:Int) (w:World) (h1: -9223372036854775808≤a) (h2:a≤9223372036854775807):
  Calls Tryz.prog 157 #[.int .i64 a] w fun e w'=>e= .returned (.int .u64 (a.natAbs:Int))∧w'=w:=by
 by_cases h:a<0
 ·go_enter Tryz.func157,Tryz.ntmps157;go_wp2;go_ret;refine⟨zaA ?_,rfl⟩;rw[IntKind.wrap_u64,IntKind.wrap_u64];omega
 ·go_enter Tryz.func157,Tryz.ntmps157;go_wp2;go_ret;refine⟨zaA ?_,rfl⟩;first|(rw[IntKind.wrap_u64];omega)|omega
set_option maxHeartbeats 400000 in
theorem ziv (n d x y z:Int) (b:Bool) (w:World) (hb:decide (x<0)=b) (hy:IntKind.u64.wrap y=y) (T:Hid (∀ w,Calls Tryz.prog 76 #[.agg #[.int .i64 n,.int .i64 d]] w fun e w'=>e= .returned (.agg #[.int .i64 x,.int .i64 y])∧Keep w w'))
  (S:Hid (∀ w,Calls Tryz.prog 157 #[.int .i64 x] w fun e w'=>e= .returned (.int .u64 z)∧w'=w)):
  Calls Tryz.prog 151 #[.agg #[.int .i64 n,.int .i64 d]] w fun e w'=>e= .returned (.agg #[.bool b,.int .u64 z,.int .u64 y])∧Keep w w':=by
 go_enter Tryz.func151,Tryz.ntmps151;go_wp2_with fail
 refine(uq T _).mono ?_;rintro e w1 ⟨rfl,hk⟩;obtain⟨o1,k1,rfl⟩:=hk.ext;clear hk;go_wp2_with fail
 go_region_held3 (fun w'=>w'.cell? ⟨w.heap.size,0,none⟩=some (.int .i64 x)∧w'.cell? ⟨w.heap.size,1,none⟩=some (.int .i64 y)) (simp[go_sem]) (first|(go_at_call 157;refine((uq S) _).mono ?_;rintro e w2 ⟨rfl,rfl⟩))
 all_goals go_wp2_with fail
 exact bodyPost_ret (v:= .agg #[.bool b,.int .u64 z,.int .u64 y]) (by simp[results,Tryz.results151,go_sem]) rfl ⟨rfl,by repeat(first|apply zaa|apply Keep.alloc|apply Keep.drew|exact Keep.refl _)⟩
theorem zcq (n d:Int) (w:World) (h1: -9223372036854775808≤n) (h2:n≤9223372036854775807) (h3: -9223372036854775808≤d) (h4:d≤9223372036854775807):
  Calls Tryz.prog 151 #[.agg #[.int .i64 n,.int .i64 d]] w fun e w'=>e= .returned (.agg #[.bool (decide (cn n d<0)),.int .u64 ((cn n d).natAbs:Int),.int .u64 (cd n d)])∧Keep w w':=by
 obtain⟨r1,r2,r3,r4,r5⟩:=zaG n d h1 h2 h4;exact ziv n d _ _ _ _ w rfl (by rw[IntKind.wrap_u64];omega) (hide fun w=>zbC n d w h1 h2 h3 h4) (hide fun w=>ziu _ w r3 r4)
set_option maxHeartbeats 400000 in
theorem zhc (b:Bool) (n d:Int) (w:World):Calls Tryz.prog 153 #[.agg #[.bool b,.int .u64 n,.int .u64 d]] w fun e w'=>e= .returned (.agg #[.bool b,.int .u64 d,.int .u64 n])∧Keep w w':=by
 go_enter Tryz.func153,Tryz.ntmps153;go_wp2_with fail
 exact bodyPost_ret (v:= .agg #[.bool b,.int .u64 d,.int .u64 n]) (by simp[results,Tryz.results153,go_sem]) rfl ⟨rfl,by repeat(first|apply zaa|apply Keep.alloc|apply Keep.drew|exact Keep.refl _)⟩
set_option maxHeartbeats 400000 in
theorem zfn (a b x y G:Int) (w:World) (ea:wrap64 a=x) (eb:wrap64 b=y) (hG:IntKind.u64.wrap G=G) (T:Hid (∀ w,Calls Tryz.prog 139 #[.int .i64 x,.int .i64 y] w fun e w'=>e= .returned (.tuple #[.int .i64 G,.int .i64 0])∧Keep w w')):
  Calls Tryz.prog 158 #[.int .u64 a,.int .u64 b] w fun e w'=>e= .returned (.int .u64 G)∧Keep w w':=by
 go_enter Tryz.func158,Tryz.ntmps158;go_wp2_with fail
 refine(uq T _).mono ?_;rintro e w1 ⟨rfl,hk⟩;go_wp2_with fail
 go_ret;exact⟨rfl,hk⟩
set_option maxHeartbeats 400000 in
theorem zhd (a b x y:Int) (w:World) (ea:wrap64 a=x) (eb:wrap64 b=y) (T:Hid (∀ w,Calls Tryz.prog 139 #[.int .i64 x,.int .i64 y] w fun e w'=>e= .returned (.tuple #[.int .i64 0,.int .i64 2])∧Keep w w')):
  Calls Tryz.prog 158 #[.int .u64 a,.int .u64 b] w fun e w'=>e= .returned (.int .u64 9223372036854775808)∧Keep w w':=by
 go_enter Tryz.func158,Tryz.ntmps158;go_wp2_with fail
 refine(uq T _).mono ?_;rintro e w1 ⟨rfl,hk⟩;go_wp2_with fail
 go_ret;exact⟨rfl,hk⟩
theorem zeM {a:Nat} (h:a≤9223372036854775808):(wrap64 (a:Int)).natAbs=a∧ -9223372036854775808≤wrap64 (a:Int)∧wrap64 (a:Int)≤9223372036854775807:=by
 unfold wrap64;omega
theorem zdu (a b:Nat) (w:World) (ha:a≤9223372036854775808) (hb:b≤9223372036854775808) (h0:0<a∨0<b):
  Calls Tryz.prog 158 #[.int .u64 (a:Int),.int .u64 (b:Int)] w fun e w'=>e= .returned (.int .u64 ((Nat.gcd a b:Nat):Int))∧Keep w w':=by
 obtain⟨a1,a2,a3⟩:=zeM ha;obtain⟨b1,b2,b3⟩:=zeM hb;have hg:Nat.gcd a b≤9223372036854775808:=by
  rcases h0 with h|h
  ·exact Nat.le_trans (Nat.le_of_dvd h (Nat.gcd_dvd_left a b)) ha
  ·exact Nat.le_trans (Nat.le_of_dvd h (Nat.gcd_dvd_right a b)) hb
 have e:Int.gcd (wrap64 (a:Int)) (wrap64 (b:Int))=Nat.gcd a b:=by rw[Int.gcd,a1,b1]
 have T:Hid (∀ w,_):=fun w=>ziq (wrap64 (a:Int)) (wrap64 (b:Int)) w a2 a3 b2 b3
 rw[e]at T;by_cases h:Nat.gcd a b=9223372036854775808
 ·rw[h,zhH (by omega),zhI (by omega)]at T;rw[h];exact zhd _ _ _ _ w rfl rfl T
 ·rw[zdf (by omega) (by omega),zdg (by omega) (by omega)]at T;exact zfn _ _ _ _ _ w rfl rfl (by rw[IntKind.wrap_u64];omega) T
theorem ziw {x:Int} (h0:0≤x) (h1:x<340282366920938463463374607431768211456):0≤zbF x∧zbF x<18446744073709551616∧0≤zb2 x∧zb2 x<18446744073709551616:=by unfold zbF zb2;omega
set_option maxHeartbeats 400000 in
theorem zdv (a b:Int) (w:World) (ha:0≤a) (ha':a<18446744073709551616) (hb:0≤b) (hb':b<18446744073709551616):
  Calls Tryz.prog 159 #[.int .u64 a,.int .u64 b] w fun e w'=>e= .returned (.agg #[.int .u64 (zbF (a * b)),.int .u64 (zb2 (a * b))])∧Keep w w':=by
 have T:Hid (∀ w,_):=fun w=>zbI a b w ha ha' hb hb'
 go_enter Tryz.func159,Tryz.ntmps159;go_wp2_with fail
 refine(uq T _).mono ?_;rintro e w1 ⟨H,L,rfl,h1,h2,h3,h4,h5,rfl⟩;obtain⟨e1,e2⟩:=zgM (uq h5) h3 h4;have E1:=hide e1;have E2:=hide e2;clear e1 e2 h5;go_wp2_with fail
 refine bodyPost_ret (v:= .agg #[.int .u64 H,.int .u64 L]) (by simp[results,Tryz.results159,go_sem]) rfl ⟨?_,by repeat(first|apply zaa|apply Keep.alloc|apply Keep.drew|exact Keep.refl _)⟩;rw[uq E1,uq E2]
set_option maxHeartbeats 400000 in
theorem zqW (H L DH DL:Int) (w:World) (b:Bool) (h:¬DH=0):
  Calls Tryz.prog 160 #[.bool b,.agg #[.int .u64 H,.int .u64 L],.agg #[.int .u64 DH,.int .u64 DL]] w fun e w'=>e= .returned (.tuple #[.agg #[.int .i64 0,.int .i64 0],.int .i64 2])∧Keep w w':=by
 go_enter Tryz.func160,Tryz.ntmps160;go_wp2;exact bodyPost_ret (v:= .tuple #[.agg #[.int .i64 0,.int .i64 0],.int .i64 2]) (by simp[results,Tryz.results160,go_sem]) rfl ⟨rfl,by repeat(first|apply zaa|apply Keep.alloc|apply Keep.drew|exact Keep.refl _)⟩
set_option maxHeartbeats 400000 in
theorem zqX (H L DL:Int) (w:World) (b:Bool) (h:9223372036854775807<DL):
  Calls Tryz.prog 160 #[.bool b,.agg #[.int .u64 H,.int .u64 L],.agg #[.int .u64 0,.int .u64 DL]] w fun e w'=>e= .returned (.tuple #[.agg #[.int .i64 0,.int .i64 0],.int .i64 2])∧Keep w w':=by
 go_enter Tryz.func160,Tryz.ntmps160;go_wp2;exact bodyPost_ret (v:= .tuple #[.agg #[.int .i64 0,.int .i64 0],.int .i64 2]) (by simp[results,Tryz.results160,go_sem]) rfl ⟨rfl,by repeat(first|apply zaa|apply Keep.alloc|apply Keep.drew|exact Keep.refl _)⟩
set_option maxHeartbeats 400000 in
theorem zfo (H L DL:Int) (w:World) (h:¬9223372036854775807<DL) (h2:¬H=0):
  Calls Tryz.prog 160 #[.bool false,.agg #[.int .u64 H,.int .u64 L],.agg #[.int .u64 0,.int .u64 DL]] w fun e w'=>e= .returned (.tuple #[.agg #[.int .i64 0,.int .i64 0],.int .i64 2])∧Keep w w':=by
 go_enter Tryz.func160,Tryz.ntmps160;go_wp2;exact bodyPost_ret (v:= .tuple #[.agg #[.int .i64 0,.int .i64 0],.int .i64 2]) (by simp[results,Tryz.results160,go_sem]) rfl ⟨rfl,by repeat(first|apply zaa|apply Keep.alloc|apply Keep.drew|exact Keep.refl _)⟩
set_option maxHeartbeats 400000 in
theorem zfp (L DL:Int) (w:World) (h:¬9223372036854775807<DL) (h2:9223372036854775807<L):
  Calls Tryz.prog 160 #[.bool false,.agg #[.int .u64 0,.int .u64 L],.agg #[.int .u64 0,.int .u64 DL]] w fun e w'=>e= .returned (.tuple #[.agg #[.int .i64 0,.int .i64 0],.int .i64 2])∧Keep w w':=by
 go_enter Tryz.func160,Tryz.ntmps160;go_wp2;exact bodyPost_ret (v:= .tuple #[.agg #[.int .i64 0,.int .i64 0],.int .i64 2]) (by simp[results,Tryz.results160,go_sem]) rfl ⟨rfl,by repeat(first|apply zaa|apply Keep.alloc|apply Keep.drew|exact Keep.refl _)⟩
set_option maxHeartbeats 400000 in
theorem zhe (H L DL:Int) (w:World) (h:¬9223372036854775807<DL) (h2:¬H=0):
  Calls Tryz.prog 160 #[.bool true,.agg #[.int .u64 H,.int .u64 L],.agg #[.int .u64 0,.int .u64 DL]] w fun e w'=>e= .returned (.tuple #[.agg #[.int .i64 0,.int .i64 0],.int .i64 2])∧Keep w w':=by
 go_enter Tryz.func160,Tryz.ntmps160;go_wp2;exact bodyPost_ret (v:= .tuple #[.agg #[.int .i64 0,.int .i64 0],.int .i64 2]) (by simp[results,Tryz.results160,go_sem]) rfl ⟨rfl,by repeat(first|apply zaa|apply Keep.alloc|apply Keep.drew|exact Keep.refl _)⟩
set_option maxHeartbeats 400000 in
theorem zhf (L DL:Int) (w:World) (h:¬9223372036854775807<DL) (h2:9223372036854775808<L):
  Calls Tryz.prog 160 #[.bool true,.agg #[.int .u64 0,.int .u64 L],.agg #[.int .u64 0,.int .u64 DL]] w fun e w'=>e= .returned (.tuple #[.agg #[.int .i64 0,.int .i64 0],.int .i64 2])∧Keep w w':=by
 go_enter Tryz.func160,Tryz.ntmps160;go_wp2;exact bodyPost_ret (v:= .tuple #[.agg #[.int .i64 0,.int .i64 0],.int .i64 2]) (by simp[results,Tryz.results160,go_sem]) rfl ⟨rfl,by repeat(first|apply zaa|apply Keep.alloc|apply Keep.drew|exact Keep.refl _)⟩
set_option maxHeartbeats 400000 in
theorem zfq (L DL:Int) (w:World) (h:¬9223372036854775807<DL) (h2:¬9223372036854775807<L) (e1:wrap64 L=L) (e2:wrap64 DL=DL):
  Calls Tryz.prog 160 #[.bool false,.agg #[.int .u64 0,.int .u64 L],.agg #[.int .u64 0,.int .u64 DL]] w fun e w'=>e= .returned (.tuple #[.agg #[.int .i64 L,.int .i64 DL],.int .i64 0])∧Keep w w':=by
 go_enter Tryz.func160,Tryz.ntmps160;go_wp2;exact bodyPost_ret (v:= .tuple #[.agg #[.int .i64 L,.int .i64 DL],.int .i64 0]) (by simp[results,Tryz.results160,go_sem]) rfl ⟨rfl,by repeat(first|apply zaa|apply Keep.alloc|apply Keep.drew|exact Keep.refl _)⟩
set_option maxHeartbeats 400000 in
theorem zhg (L DL U N:Int) (w:World) (h:¬9223372036854775807<DL) (h2:¬9223372036854775808<L) (e0:IntKind.u64.wrap (-L)=U) (e1:wrap64 U=N) (e2:wrap64 DL=DL):
  Calls Tryz.prog 160 #[.bool true,.agg #[.int .u64 0,.int .u64 L],.agg #[.int .u64 0,.int .u64 DL]] w fun e w'=>e= .returned (.tuple #[.agg #[.int .i64 N,.int .i64 DL],.int .i64 0])∧Keep w w':=by
 go_enter Tryz.func160,Tryz.ntmps160;go_wp2;exact bodyPost_ret (v:= .tuple #[.agg #[.int .i64 N,.int .i64 DL],.int .i64 0]) (by simp[results,Tryz.results160,go_sem]) rfl ⟨rfl,by repeat(first|apply zaa|apply Keep.alloc|apply Keep.drew|exact Keep.refl _)⟩
def sgn (b:Bool) (u:Int):Int:=if b then -u else u
theorem zbf {n d:Int} (h:fit n=false∨fit d=false):pN n d=0∧pD n d=0∧pE n d=2:=by
 have e:(fit n&&fit d)=false:=by rcases h with h|h<;>simp[h]
 simp[pN,pD,pE,e]
theorem zbT {n d:Int} (h:fit n=true) (h2:fit d=true):pN n d=n∧pD n d=d∧pE n d=0:=by
 simp[pN,pD,pE,h,h2]
theorem zno (b:Bool) (u v:Int) (w:World) (h0:0≤u) (h1:u<340282366920938463463374607431768211456) (h2:0≤v) (h3:v<340282366920938463463374607431768211456):
  Calls Tryz.prog 160 #[.bool b,.agg #[.int .u64 (zbF u),.int .u64 (zb2 u)],.agg #[.int .u64 (zbF v),.int .u64 (zb2 v)]] w fun e w'=>e= .returned (fv (sgn b u) v)∧Keep w w':=by
 have bu:=ziw h0 h1;have bv:=ziw h2 h3;have hu:=zkY u;have hv:=zkY v;unfold fv
 by_cases c1:zbF v=0
 ·by_cases c2:9223372036854775807<zb2 v
  ·obtain⟨e1,e2,e3⟩:=zbf (n:=sgn b u) (d:=v) (.inr (zb1 (by omega)));rw[e1,e2,e3,c1];exact zqX _ _ _ w b c2
  ·have ev:zb2 v=v:=by omega
   have fd:fit v=true:=zb6 (by omega) (by omega);by_cases c3:zbF u=0
   ·have eu:zb2 u=u:=by omega
    rw[c1,c3,ev,eu];cases b
    ·by_cases c4:9223372036854775807<u
     ·obtain⟨e1,e2,e3⟩:=zbf (n:=sgn false u) (d:=v) (.inl (zb1 (by simp[sgn];omega)));rw[e1,e2,e3];exact zfp _ _ w (by omega) c4
     ·obtain⟨e1,e2,e3⟩:=zbT (n:=sgn false u) (d:=v) (zb6 (by simp[sgn];omega) (by simp[sgn];omega)) fd;rw[e1,e2,e3];exact zfq _ _ w (by omega) c4 (zaB (by omega)) (zaB (by omega))
    ·by_cases c4:9223372036854775808<u
     ·obtain⟨e1,e2,e3⟩:=zbf (n:=sgn true u) (d:=v) (.inl (zb1 (by simp[sgn];omega)));rw[e1,e2,e3];exact zhf _ _ w (by omega) c4
     ·obtain⟨e1,e2,e3⟩:=zbT (n:=sgn true u) (d:=v) (zb6 (by simp[sgn];omega) (by simp[sgn];omega)) fd;rw[e1,e2,e3];exact zhg u v _ _ w (by omega) c4 rfl (by simp only[sgn,if_true];rw[IntKind.wrap_u64];unfold wrap64;omega) (zaB (by omega))
   ·have c3':=c3;rw[c1];cases b
    ·obtain⟨e1,e2,e3⟩:=zbf (n:=sgn false u) (d:=v) (.inl (zb1 (by simp[sgn];omega)));rw[e1,e2,e3];exact zfo _ _ _ w c2 c3'
    ·obtain⟨e1,e2,e3⟩:=zbf (n:=sgn true u) (d:=v) (.inl (zb1 (by simp[sgn];omega)));rw[e1,e2,e3];exact zhe _ _ _ w c2 c3'
 ·obtain⟨e1,e2,e3⟩:=zbf (n:=sgn b u) (d:=v) (.inr (zb1 (by omega)));rw[e1,e2,e3];exact zqW _ _ _ _ w b c1
end Go.Proofs.YtcdhdhbjnpndkaaGreat
