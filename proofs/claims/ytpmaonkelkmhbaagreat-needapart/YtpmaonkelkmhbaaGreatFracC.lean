/- What products come to. -/
import Derived.Test.YtpmaonkelkmhbaaGreatShelf
import Derived.Test.YtpmaonkelkmhbaaGreatProg
import Derived.Test.YtpmaonkelkmhbaaGreatLSkip
import Derived.WalkKit
import Derived.ProofKit
import Derived.Deep.RegionWith
import Derived.WalkSpells
import Derived.Test.YtpmaonkelkmhbaaGreatWholeQ
import Derived.LoopTactic
import Derived.RegionTactic
import Derived.Deep.RegionHeld3
import Derived.Shelf.Spec.BitsCarry
import Derived.Lib.BitFns
import Derived.Laws.Bits64b
namespace Go.Proofs.YtpmaonkelkmhbaaGreat
open Go.RowKit
set_option linter.unusedVariables false
theorem zbw (x y:Int) (w:World) (hx0:0≤x) (hx:x<18446744073709551616) (hy0:0≤y) (hy:y<18446744073709551616):
  Calls Tryz.prog 119 #[.int .u64 x,.int .u64 y] w fun e w'=>∃ hi lo:Int,e= .returned (.tuple #[.int .u64 hi,.int .u64 lo])∧0≤hi∧hi<18446744073709551616∧0≤lo∧lo<18446744073709551616∧Hid (x * y=hi * 18446744073709551616+lo)∧w'=w:=by
 obtain⟨x,rfl⟩:=Int.eq_ofNat_of_zero_le hx0;obtain⟨y,rfl⟩:=Int.eq_ofNat_of_zero_le hy0;refine(Tryz.bits_Mul64 x y (by omega) (by omega) w).mono ?_;rintro e w' ⟨rfl,rfl⟩;have hm:x * y≤18446744073709551615 * 18446744073709551615:=Nat.mul_le_mul (by omega) (by omega);refine⟨_,_,rfl,by omega,by omega,by omega,by omega,?_,rfl⟩;refine hide ?_;rw[← Int.natCast_mul];generalize x * y=u;omega
set_option maxHeartbeats 400000 in
theorem zdT (a b:Int) (w:World) (h1: -9223372036854775808≤a) (h2:a≤9223372036854775807) (h3: -9223372036854775808≤b) (h4:b≤9223372036854775807):
  Calls Tryz.prog 110 #[.int .i64 a,.int .i64 b] w fun e w'=>e= .returned (.agg #[.int .i64 (zbt (a * b)),.int .u64 (zbF (a * b))])∧∃ c,w'=w.alloc (.cells c 186):=by
 have pb:=hide (zjc h1 h2 h3 h4);by_cases ha:a<0<;>by_cases hb:b<0
 ·go_enter Tryz.func110,Tryz.ntmps110;go_wp2_with fail
  rw[zbR h1 ha,zbR h3 hb];refine(zbw _ _ _ (by omega) (by omega) (by omega) (by omega)).mono ?_;rintro e w' ⟨hi,lo,rfl,g1,g2,g3,g4,G,rfl⟩;go_wp2;refine bodyPost_ret (v:= .agg #[.int .i64 (wrap64 (IntKind.u64.wrap (IntKind.u64.wrap (hi - IntKind.u64.wrap b) - IntKind.u64.wrap a))),.int .u64 lo]) (by simp[results,Tryz.results110,go_sem]) rfl ⟨zdi ?_ ?_,_,rfl⟩;all_goals
   have G':=uq G;have pb':=uq pb;rw[zlP]at G';clear G pb;simp only[zbt,zbF];generalize a * b=P at *;try simp only[IntKind.wrap_u64,wrap64]
   omega
 ·go_enter Tryz.func110,Tryz.ntmps110;go_wp2_with fail
  rw[zbR h1 ha];refine(zbw _ _ _ (by omega) (by omega) (by omega) (by omega)).mono ?_;rintro e w' ⟨hi,lo,rfl,g1,g2,g3,g4,G,rfl⟩;go_wp2;refine bodyPost_ret (v:= .agg #[.int .i64 (wrap64 (IntKind.u64.wrap (hi - b))),.int .u64 lo]) (by simp[results,Tryz.results110,go_sem]) rfl ⟨zdi ?_ ?_,_,rfl⟩;all_goals
   have G':=uq G;have pb':=uq pb;rw[zlQ]at G';clear G pb;simp only[zbt,zbF];generalize a * b=P at *;try simp only[IntKind.wrap_u64,wrap64]
   omega
 ·go_enter Tryz.func110,Tryz.ntmps110;go_wp2_with fail
  rw[zbR h3 hb];refine(zbw _ _ _ (by omega) (by omega) (by omega) (by omega)).mono ?_;rintro e w' ⟨hi,lo,rfl,g1,g2,g3,g4,G,rfl⟩;go_wp2;refine bodyPost_ret (v:= .agg #[.int .i64 (wrap64 (IntKind.u64.wrap (hi - a))),.int .u64 lo]) (by simp[results,Tryz.results110,go_sem]) rfl ⟨zdi ?_ ?_,_,rfl⟩;all_goals
   have G':=uq G;have pb':=uq pb;rw[zjd]at G';clear G pb;simp only[zbt,zbF];generalize a * b=P at *;try simp only[IntKind.wrap_u64,wrap64]
   omega
 ·go_enter Tryz.func110,Tryz.ntmps110;go_wp2_with fail
  refine(zbw _ _ _ (by omega) (by omega) (by omega) (by omega)).mono ?_;rintro e w' ⟨hi,lo,rfl,g1,g2,g3,g4,G,rfl⟩;go_wp2;refine bodyPost_ret (v:= .agg #[.int .i64 (wrap64 hi),.int .u64 lo]) (by simp[results,Tryz.results110,go_sem]) rfl ⟨zdi ?_ ?_,_,rfl⟩;all_goals
   have G':=uq G;have pb':=uq pb;clear G pb;simp only[zbt,zbF];generalize a * b=P at *;try simp only[wrap64]
   omega
set_option maxHeartbeats 400000 in
theorem ze0 (a:Int) (w:World) (h1: -9223372036854775808≤a) (h2:a≤9223372036854775807):
  Calls Tryz.prog 118 #[.int .i64 a] w fun e w'=>e= .returned (.int .u64 (a.natAbs:Int))∧w'=w:=by
 by_cases ha:a<0
 ·go_enter Tryz.func118,Tryz.ntmps118;go_wp2;go_ret;exact⟨zdh (by rw[IntKind.wrap_u64,IntKind.wrap_u64];omega),rfl⟩
 ·go_enter Tryz.func118,Tryz.ntmps118;go_wp2;go_ret;exact⟨zdh (by omega),rfl⟩
set_option maxHeartbeats 1000000 in
theorem zh7 (a b:Int) (x y G:Nat) (w:World) (hx:x≤9223372036854775808) (hy:y≤9223372036854775808) (HG:Hid (Nat.gcd x y=G))
  (S1:Hid (∀ w,Calls Tryz.prog 118 #[.int .i64 a] w fun e w'=>e= .returned (.int .u64 (x:Int))∧w'=w))
  (S2:Hid (∀ w,Calls Tryz.prog 118 #[.int .i64 b] w fun e w'=>e= .returned (.int .u64 (y:Int))∧w'=w)):
  Calls Tryz.prog 109 #[.int .i64 a,.int .i64 b] w fun e w'=>e= .returned (.tuple #[.int .i64 (ans (G:Int)),.int .i64 (err (G:Int))])∧Keep w w':=by
 go_enter Tryz.func109,Tryz.ntmps109;go_wp2_with fail
 refine(uq S1 _).mono ?_;rintro e w' ⟨rfl,rfl⟩;go_wp2_with fail
 refine(uq S2 _).mono ?_;rintro e w' ⟨rfl,rfl⟩;go_wp2_with fail
 go_loopw [6,7] (fun p q wr=>∃ u v:Nat,p= .int .u64 (u:Int)∧q= .int .u64 (v:Int)∧u≤9223372036854775808∧v≤9223372036854775808∧Hid (Nat.gcd u v=G)∧Keep w' wr) (fun _ q _=>(intOf q).toNat)
 case atStart=>exact⟨x,y,rfl,rfl,hx,hy,HG,Keep.refl _⟩
 case round=>
  obtain⟨u,v,rfl,rfl,hu,hv,Hg,hk⟩:=hrel;by_cases hz:v=0
  ·subst hz;have e0:u=G:=by have:=uq Hg;simpa using this
   by_cases hf:u≤9223372036854775807
   ·have k:=zd6 (n:=(u:Int)) (by omega) (by omega);have k':=zd7 (n:=(u:Int)) (by omega) (by omega);rw[e0]at k k';have K:=hide k;have K':=hide k';have E0:=hide e0;clear k k' e0;go_wp2;go_ret2;exact⟨zf5 (by rw[uq K,uq E0]) (by rw[uq K']),hk⟩
   ·have k:=ziE (n:=(u:Int)) (by omega);have k':=ziF (n:=(u:Int)) (by omega);rw[e0]at k k';have K:=hide k;have K':=hide k';have E0:=hide e0;clear k k' e0;go_wp2;go_ret2;exact⟨zf5 (by rw[uq K]) (by rw[uq K']),hk⟩
  ·have hb:((v:Int)==0)=false:=by simp;omega
   have hb2:((v:Int) !=0)=true:=by simp;omega
   have hm:u % v<v:=Nat.mod_lt _ (by omega);have Hg2:Hid (Nat.gcd v (u % v)=G):=by
    refine hide ?_;rw[← uq Hg,Nat.gcd_comm u v];exact(Nat.gcd_rec v u).symm▸(by rw[Nat.gcd_comm])
   go_wp2
   go_region
   all_goals go_wp2
   all_goals go_roundw
   case rel=>exact⟨v,u % v,rfl,by go_num,by omega,by omega,Hg2,hk.drew⟩
   case measure=>simp[intOf];omega
theorem zgQ (a b:Int) (w:World) (h1: -9223372036854775808≤a) (h2:a≤9223372036854775807) (h3: -9223372036854775808≤b) (h4:b≤9223372036854775807):
  Calls Tryz.prog 109 #[.int .i64 a,.int .i64 b] w fun e w'=>e= .returned (.tuple #[.int .i64 (ans (Int.gcd a b:Int)),.int .i64 (err (Int.gcd a b:Int))])∧Keep w w':=
 zh7 a b a.natAbs b.natAbs (Int.gcd a b) w (by omega) (by omega) (hide rfl) (hide fun w=>ze0 a w h1 h2) (hide fun w=>ze0 b w h3 h4)
set_option maxHeartbeats 400000 in
theorem zh8 (H L H2 L2:Int) (w:World) (hne:(H==H2)=false) (yes:Bool) (hy:decide (H<H2)=yes):
  Calls Tryz.prog 111 #[.agg #[.int .i64 H,.int .u64 L],.agg #[.int .i64 H2,.int .u64 L2]] w fun e w'=>e= .returned (.bool yes)∧Keep w w':=by
 go_enter Tryz.func111,Tryz.ntmps111;go_wp2;go_ret;exact⟨rfl,((Keep.refl _).alloc _).alloc _⟩
set_option maxHeartbeats 400000 in
theorem zh9 (H L L2:Int) (w:World) (yes:Bool) (hy:decide (L<L2)=yes):
  Calls Tryz.prog 111 #[.agg #[.int .i64 H,.int .u64 L],.agg #[.int .i64 H,.int .u64 L2]] w fun e w'=>e= .returned (.bool yes)∧Keep w w':=by
 go_enter Tryz.func111,Tryz.ntmps111;go_wp2;go_ret;exact⟨rfl,((Keep.refl _).alloc _).alloc _⟩
set_option maxHeartbeats 400000 in
theorem zfC (a b c d H L:Int) (w:World)
  (T1:Hid (∀ w,Calls Tryz.prog 110 #[.int .i64 a,.int .i64 b] w fun e w'=>e= .returned (.agg #[.int .i64 H,.int .u64 L])∧∃ c,w'=w.alloc (.cells c 186)))
  (T2:Hid (∀ w,Calls Tryz.prog 110 #[.int .i64 c,.int .i64 d] w fun e w'=>e= .returned (.agg #[.int .i64 H,.int .u64 L])∧∃ c,w'=w.alloc (.cells c 186))):
  Calls Tryz.prog 100 #[.int .i64 a,.int .i64 b,.int .i64 c,.int .i64 d] w fun e w'=>e= .returned (.int .i64 0)∧Keep w w':=by
 go_enter Tryz.func100,Tryz.ntmps100;go_wp2_with fail
 refine(uq T1 _).mono ?_;rintro e w1 ⟨rfl,c1,rfl⟩;go_wp2_with fail
 refine(uq T2 _).mono ?_;rintro e w2 ⟨rfl,c2,rfl⟩;go_wp2_with fail
 go_ret;exact⟨rfl,by repeat(first|exact Keep.refl _|apply Keep.drew|apply Keep.alloc)⟩
set_option maxHeartbeats 400000 in
theorem zfD (a b c d H L H2 L2:Int) (less:Bool) (w:World) (hne:(H==H2&&L==L2)=false)
  (T1:Hid (∀ w,Calls Tryz.prog 110 #[.int .i64 a,.int .i64 b] w fun e w'=>e= .returned (.agg #[.int .i64 H,.int .u64 L])∧∃ c,w'=w.alloc (.cells c 186)))
  (T2:Hid (∀ w,Calls Tryz.prog 110 #[.int .i64 c,.int .i64 d] w fun e w'=>e= .returned (.agg #[.int .i64 H2,.int .u64 L2])∧∃ c,w'=w.alloc (.cells c 186)))
  (B:Hid (∀ w,Calls Tryz.prog 111 #[.agg #[.int .i64 H,.int .u64 L],.agg #[.int .i64 H2,.int .u64 L2]] w fun e w'=>e= .returned (.bool less)∧Keep w w')):
  Calls Tryz.prog 100 #[.int .i64 a,.int .i64 b,.int .i64 c,.int .i64 d] w fun e w'=>e= .returned (.int .i64 (if less then -1 else 1))∧Keep w w':=by
 have fin:∀(w w':World) (c1 c2 c3 c4:Array Value),Keep ((((w.alloc (.cells c1 186)).alloc (.cells c2 186)).alloc (.cells c3 186)).alloc (.cells c4 186)) w'→Keep w w':=
  fun w w' _ _ _ _ h=>((((Keep.refl w).alloc _).alloc _).alloc _).alloc _ |>.trans h
 by_cases h1:H=H2
 ·subst h1;have h2:(L==L2)=false:=by simpa using hne
  clear hne;cases less
  all_goals
   go_enter Tryz.func100,Tryz.ntmps100;go_wp2_with fail
   refine(uq T1 _).mono ?_;rintro e w1 ⟨rfl,c1,rfl⟩;go_wp2_with fail
   refine(uq T2 _).mono ?_;rintro e w2 ⟨rfl,c2,rfl⟩;go_wp2_with fail
   refine(uq B _).mono ?_;rintro e w3 ⟨rfl,hk⟩;go_wp2_with fail
   go_ret;exact⟨rfl,fin _ _ _ _ _ _ hk⟩
 ·have h2:(H==H2)=false:=by simpa using h1
  clear hne;cases less
  all_goals
   go_enter Tryz.func100,Tryz.ntmps100;go_wp2_with fail
   refine(uq T1 _).mono ?_;rintro e w1 ⟨rfl,c1,rfl⟩;go_wp2_with fail
   refine(uq T2 _).mono ?_;rintro e w2 ⟨rfl,c2,rfl⟩;go_wp2_with fail
   refine(uq B _).mono ?_;rintro e w3 ⟨rfl,hk⟩;go_wp2_with fail
   go_ret;exact⟨rfl,fin _ _ _ _ _ _ hk⟩
theorem zfE {x y:Int} (h1:zbt x=zbt y) (h2:zbF x=zbF y):x=y:=by unfold zbt zbF at *;omega
theorem zgR {x y:Int} (h1:¬zbt x=zbt y):zbt x<zbt y↔x<y:=by unfold zbt at *;omega
theorem zfF {x y:Int} (h1:zbt x=zbt y):zbF x<zbF y↔x<y:=by unfold zbt zbF at *;omega
theorem zek (a b c d:Int) (w:World) (h1: -9223372036854775808≤a) (h2:a≤9223372036854775807) (h3: -9223372036854775808≤b) (h4:b≤9223372036854775807)
  (k1: -9223372036854775808≤c) (k2:c≤9223372036854775807) (k3: -9223372036854775808≤d) (k4:d≤9223372036854775807):
  Calls Tryz.prog 100 #[.int .i64 a,.int .i64 b,.int .i64 c,.int .i64 d] w fun e w'=>e= .returned (.int .i64 (cm (a * b) (c * d)))∧Keep w w':=by
 have T1:Hid (∀ w,_):=fun w=>zdT a b w h1 h2 h3 h4
 have T2:Hid (∀ w,_):=fun w=>zdT c d w k1 k2 k3 k4
 by_cases he:a * b=c * d
 ·rw[show cm (a * b) (c * d)=0 by simp[cm,he]];rw[he]at T1;exact zfC a b c d _ _ w T1 T2
 ·have key:Hid (∀ w,Calls Tryz.prog 111 #[.agg #[.int .i64 (zbt (a * b)),.int .u64 (zbF (a * b))],.agg #[.int .i64 (zbt (c * d)),.int .u64 (zbF (c * d))]] w fun e w'=>e= .returned (.bool (decide (a * b<c * d)))∧Keep w w'):=by
   intro w
   by_cases hh:zbt (a * b)=zbt (c * d)
   ·rw[hh];exact zh9 _ _ _ w _ (decide_eq_decide.2 (zfF hh))
   ·exact zh8 _ _ _ _ w (by simpa using hh) _ (decide_eq_decide.2 (zgR hh))
  have hr:=zfD a b c d _ _ _ _ _ w (by
   by_cases hh:zbt (a * b)=zbt (c * d)
   ·have:¬zbF (a * b)=zbF (c * d):=fun hl=>he (zfE hh hl)
    simp[this]
   ·simp[hh]) T1 T2 key
  rw[show cm (a * b) (c * d)=if decide (a * b<c * d)=true then -1 else 1 by simp[cm,he]];exact hr
set_option maxHeartbeats 400000 in
theorem zgS (n d:Int) (w:World) (h:d<1):
  Calls Tryz.prog 99 #[.agg #[.int .i64 n,.int .i64 d]] w fun e w'=>e= .returned (.bool false)∧Keep w w':=by
 go_enter Tryz.func99,Tryz.ntmps99;go_wp2_with fail
 go_ret;exact⟨rfl,by repeat(first|apply zaa|apply Keep.alloc|apply Keep.drew|exact Keep.refl _)⟩
set_option maxHeartbeats 400000 in
theorem zfG (n d G:Int) (b:Bool) (w:World) (h:¬d<1) (hb:(G==1)=b) (T:Hid (∀ w,Calls Tryz.prog 109 #[.int .i64 n,.int .i64 d] w fun e w'=>e= .returned (.tuple #[.int .i64 G,.int .i64 0])∧Keep w w')):
  Calls Tryz.prog 99 #[.agg #[.int .i64 n,.int .i64 d]] w fun e w'=>e= .returned (.bool b)∧Keep w w':=by
 go_enter Tryz.func99,Tryz.ntmps99;go_wp2_with fail
 refine(uq T _).mono ?_;rintro e w1 ⟨rfl,hk⟩;obtain⟨o1,k1,rfl⟩:=hk.ext;clear hk;go_wp2_with fail
 go_ret;exact⟨rfl,by repeat(first|apply zaa|apply Keep.alloc|apply Keep.drew|exact Keep.refl _)⟩
theorem zdU {n d:Int} (h:1≤d):(Int.gcd n d:Int)≤d∧1≤(Int.gcd n d:Int):=by
 have h1:Int.gcd n d≤d.natAbs:=Nat.le_of_dvd (by omega) (Nat.gcd_dvd_right _ _);have h2:0<Int.gcd n d:=Int.gcd_pos_of_ne_zero_right _ (by omega);omega
theorem zgT (n d:Int) (w:World) (h1: -9223372036854775808≤n) (h2:n≤9223372036854775807) (h3: -9223372036854775808≤d) (h4:d≤9223372036854775807):
  Calls Tryz.prog 99 #[.agg #[.int .i64 n,.int .i64 d]] w fun e w'=>e= .returned (.bool (rt n d))∧Keep w w':=by
 by_cases hd:d<1
 ·have e:rt n d=false:=by simp[rt];omega
  rw[e];exact zgS n d w hd
 ·have g:=zdU (n:=n) (d:=d) (by omega);have e:(((Int.gcd n d:Nat):Int)==1)=rt n d:=by
   by_cases hg:Int.gcd n d=1
   ·simp[rt,hg];omega
   ·have:rt n d=false:=by simp[rt,hg]
    rw[this];simp;omega
  refine zfG n d (Int.gcd n d:Int) _ w hd e (hide fun w=>?_);have k:=zgQ n d w h1 h2 h3 h4;rw[zd6 (by omega) (by omega),zd7 (by omega) (by omega)]at k;exact k
set_option maxHeartbeats 400000 in
theorem zel (n d:Int) (w:World) (T:Hid (∀ w,Calls Tryz.prog 99 #[.agg #[.int .i64 n,.int .i64 d]] w fun e w'=>e= .returned (.bool true)∧Keep w w')):
  Calls Tryz.prog 77 #[.agg #[.int .i64 n,.int .i64 d]] w fun e w'=>e= .returned (.agg #[.int .i64 n,.int .i64 d])∧Keep w w':=by
 go_enter Tryz.func77,Tryz.ntmps77;go_wp2_with fail
 refine(uq T _).mono ?_;rintro e w1 ⟨rfl,hk⟩;obtain⟨o1,k1,rfl⟩:=hk.ext;clear hk;go_wp2_with fail
 exact bodyPost_ret (v:= .agg #[.int .i64 n,.int .i64 d]) (by simp[results,Tryz.results77,go_sem]) rfl ⟨rfl,by repeat(first|apply zaa|apply Keep.alloc|apply Keep.drew|exact Keep.refl _)⟩
set_option maxHeartbeats 400000 in
theorem zc9 (w:World):Calls Tryz.prog 76 #[] w fun e w'=>e= .returned (.agg #[.int .i64 0,.int .i64 1])∧Keep w w':=by
 go_enter Tryz.func76,Tryz.ntmps76;go_wp2_with fail
 exact bodyPost_ret (v:= .agg #[.int .i64 0,.int .i64 1]) (by simp[results,Tryz.results76,go_sem]) rfl ⟨rfl,by repeat(first|apply zaa|apply Keep.alloc|apply Keep.drew|exact Keep.refl _)⟩
set_option maxHeartbeats 400000 in
theorem zfH (n d:Int) (w:World) (T:Hid (∀ w,Calls Tryz.prog 99 #[.agg #[.int .i64 n,.int .i64 d]] w fun e w'=>e= .returned (.bool false)∧Keep w w')):
  Calls Tryz.prog 77 #[.agg #[.int .i64 n,.int .i64 d]] w fun e w'=>e= .returned (.agg #[.int .i64 0,.int .i64 1])∧Keep w w':=by
 go_enter Tryz.func77,Tryz.ntmps77;go_wp2_with fail
 refine(uq T _).mono ?_;rintro e w1 ⟨rfl,hk⟩;obtain⟨o1,k1,rfl⟩:=hk.ext;clear hk;go_wp2_with fail
 refine(zc9 _).mono ?_;rintro e w2 ⟨rfl,hk⟩;obtain⟨o2,k2,rfl⟩:=hk.ext;clear hk;go_wp2_with fail
 exact bodyPost_ret (v:= .agg #[.int .i64 0,.int .i64 1]) (by simp[results,Tryz.results77,go_sem]) rfl ⟨rfl,by repeat(first|apply zaa|apply Keep.alloc|apply Keep.drew|exact Keep.refl _)⟩
theorem zbr (n d:Int) (w:World) (h1: -9223372036854775808≤n) (h2:n≤9223372036854775807) (h3: -9223372036854775808≤d) (h4:d≤9223372036854775807):
  Calls Tryz.prog 77 #[.agg #[.int .i64 n,.int .i64 d]] w fun e w'=>e= .returned (.agg #[.int .i64 (cn n d),.int .i64 (cd n d)])∧Keep w w':=by
 have T:Hid (∀ w,_):=fun w=>zgT n d w h1 h2 h3 h4
 unfold cn cd
 by_cases h:rt n d=true
 ·rw[h]at T;simp only[h,if_true];exact zel n d w T
 ·have h':rt n d=false:=by simpa using h
  rw[h']at T;simp only[h',if_false,Bool.false_eq_true];exact zfH n d w T
set_option maxHeartbeats 400000 in
theorem zgU (a:Int) (w:World) (h1: -9223372036854775808≤a) (h2:a≤9223372036854775807):
  Calls Tryz.prog 121 #[.int .i64 a] w fun e w'=>e= .returned (.int .u64 (a.natAbs:Int))∧w'=w:=by
 by_cases h:a<0
 ·go_enter Tryz.func121,Tryz.ntmps121;go_wp2;go_ret;refine⟨zdh ?_,rfl⟩;rw[IntKind.wrap_u64,IntKind.wrap_u64];omega
 ·go_enter Tryz.func121,Tryz.ntmps121;go_wp2;go_ret;refine⟨zdh ?_,rfl⟩;first|(rw[IntKind.wrap_u64];omega)|omega
set_option maxHeartbeats 400000 in
theorem zgV (n d x y z:Int) (b:Bool) (w:World) (hb:decide (x<0)=b) (hy:IntKind.u64.wrap y=y) (T:Hid (∀ w,Calls Tryz.prog 77 #[.agg #[.int .i64 n,.int .i64 d]] w fun e w'=>e= .returned (.agg #[.int .i64 x,.int .i64 y])∧Keep w w'))
  (S:Hid (∀ w,Calls Tryz.prog 121 #[.int .i64 x] w fun e w'=>e= .returned (.int .u64 z)∧w'=w)):
  Calls Tryz.prog 115 #[.agg #[.int .i64 n,.int .i64 d]] w fun e w'=>e= .returned (.agg #[.bool b,.int .u64 z,.int .u64 y])∧Keep w w':=by
 go_enter Tryz.func115,Tryz.ntmps115;go_wp2_with fail
 refine(uq T _).mono ?_;rintro e w1 ⟨rfl,hk⟩;obtain⟨o1,k1,rfl⟩:=hk.ext;clear hk;go_wp2_with fail
 go_region_held3 (fun w'=>w'.cell? ⟨w.heap.size,0,none⟩=some (.int .i64 x)∧w'.cell? ⟨w.heap.size,1,none⟩=some (.int .i64 y)) (simp[go_sem]) (first|(go_at_call 121;refine((uq S) _).mono ?_;rintro e w2 ⟨rfl,rfl⟩))
 all_goals go_wp2_with fail
 exact bodyPost_ret (v:= .agg #[.bool b,.int .u64 z,.int .u64 y]) (by simp[results,Tryz.results115,go_sem]) rfl ⟨rfl,by repeat(first|apply zaa|apply Keep.alloc|apply Keep.drew|exact Keep.refl _)⟩
theorem zb5 (n d:Int) (w:World) (h1: -9223372036854775808≤n) (h2:n≤9223372036854775807) (h3: -9223372036854775808≤d) (h4:d≤9223372036854775807):
  Calls Tryz.prog 115 #[.agg #[.int .i64 n,.int .i64 d]] w fun e w'=>e= .returned (.agg #[.bool (decide (cn n d<0)),.int .u64 ((cn n d).natAbs:Int),.int .u64 (cd n d)])∧Keep w w':=by
 obtain⟨r1,r2,r3,r4,r5⟩:=zbi n d h1 h2 h4;exact zgV n d _ _ _ _ w rfl (by rw[IntKind.wrap_u64];omega) (hide fun w=>zbr n d w h1 h2 h3 h4) (hide fun w=>zgU _ w r3 r4)
set_option maxHeartbeats 400000 in
theorem zfI (b:Bool) (n d:Int) (w:World):Calls Tryz.prog 117 #[.agg #[.bool b,.int .u64 n,.int .u64 d]] w fun e w'=>e= .returned (.agg #[.bool b,.int .u64 d,.int .u64 n])∧Keep w w':=by
 go_enter Tryz.func117,Tryz.ntmps117;go_wp2_with fail
 exact bodyPost_ret (v:= .agg #[.bool b,.int .u64 d,.int .u64 n]) (by simp[results,Tryz.results117,go_sem]) rfl ⟨rfl,by repeat(first|apply zaa|apply Keep.alloc|apply Keep.drew|exact Keep.refl _)⟩
set_option maxHeartbeats 400000 in
theorem zem (a b x y G:Int) (w:World) (ea:wrap64 a=x) (eb:wrap64 b=y) (hG:IntKind.u64.wrap G=G) (T:Hid (∀ w,Calls Tryz.prog 109 #[.int .i64 x,.int .i64 y] w fun e w'=>e= .returned (.tuple #[.int .i64 G,.int .i64 0])∧Keep w w')):
  Calls Tryz.prog 122 #[.int .u64 a,.int .u64 b] w fun e w'=>e= .returned (.int .u64 G)∧Keep w w':=by
 go_enter Tryz.func122,Tryz.ntmps122;go_wp2_with fail
 refine(uq T _).mono ?_;rintro e w1 ⟨rfl,hk⟩;go_wp2_with fail
 go_ret;exact⟨rfl,hk⟩
set_option maxHeartbeats 400000 in
theorem zfJ (a b x y:Int) (w:World) (ea:wrap64 a=x) (eb:wrap64 b=y) (T:Hid (∀ w,Calls Tryz.prog 109 #[.int .i64 x,.int .i64 y] w fun e w'=>e= .returned (.tuple #[.int .i64 0,.int .i64 2])∧Keep w w')):
  Calls Tryz.prog 122 #[.int .u64 a,.int .u64 b] w fun e w'=>e= .returned (.int .u64 9223372036854775808)∧Keep w w':=by
 go_enter Tryz.func122,Tryz.ntmps122;go_wp2_with fail
 refine(uq T _).mono ?_;rintro e w1 ⟨rfl,hk⟩;go_wp2_with fail
 go_ret;exact⟨rfl,hk⟩
theorem zdV {a:Nat} (h:a≤9223372036854775808):(wrap64 (a:Int)).natAbs=a∧ -9223372036854775808≤wrap64 (a:Int)∧wrap64 (a:Int)≤9223372036854775807:=by
 unfold wrap64;omega
theorem zcS (a b:Nat) (w:World) (ha:a≤9223372036854775808) (hb:b≤9223372036854775808) (h0:0<a∨0<b):
  Calls Tryz.prog 122 #[.int .u64 (a:Int),.int .u64 (b:Int)] w fun e w'=>e= .returned (.int .u64 ((Nat.gcd a b:Nat):Int))∧Keep w w':=by
 obtain⟨a1,a2,a3⟩:=zdV ha;obtain⟨b1,b2,b3⟩:=zdV hb;have hg:Nat.gcd a b≤9223372036854775808:=by
  rcases h0 with h|h
  ·exact Nat.le_trans (Nat.le_of_dvd h (Nat.gcd_dvd_left a b)) ha
  ·exact Nat.le_trans (Nat.le_of_dvd h (Nat.gcd_dvd_right a b)) hb
 have e:Int.gcd (wrap64 (a:Int)) (wrap64 (b:Int))=Nat.gcd a b:=by rw[Int.gcd,a1,b1]
 have T:Hid (∀ w,_):=fun w=>zgQ (wrap64 (a:Int)) (wrap64 (b:Int)) w a2 a3 b2 b3
 rw[e]at T;by_cases h:Nat.gcd a b=9223372036854775808
 ·rw[h,ziE (by omega),ziF (by omega)]at T;rw[h];exact zfJ _ _ _ _ w rfl rfl T
 ·rw[zd6 (by omega) (by omega),zd7 (by omega) (by omega)]at T;exact zem _ _ _ _ _ w rfl rfl (by rw[IntKind.wrap_u64];omega) T
theorem zgW {x:Int} (h0:0≤x) (h1:x<340282366920938463463374607431768211456):0≤zbt x∧zbt x<18446744073709551616∧0≤zbF x∧zbF x<18446744073709551616:=by unfold zbt zbF;omega
set_option maxHeartbeats 400000 in
theorem zcT (a b:Int) (w:World) (ha:0≤a) (ha':a<18446744073709551616) (hb:0≤b) (hb':b<18446744073709551616):
  Calls Tryz.prog 123 #[.int .u64 a,.int .u64 b] w fun e w'=>e= .returned (.agg #[.int .u64 (zbt (a * b)),.int .u64 (zbF (a * b))])∧Keep w w':=by
 have T:Hid (∀ w,_):=fun w=>zbw a b w ha ha' hb hb'
 go_enter Tryz.func123,Tryz.ntmps123;go_wp2_with fail
 refine(uq T _).mono ?_;rintro e w1 ⟨H,L,rfl,h1,h2,h3,h4,h5,rfl⟩;obtain⟨e1,e2⟩:=zfj (uq h5) h3 h4;have E1:=hide e1;have E2:=hide e2;clear e1 e2 h5;go_wp2_with fail
 refine bodyPost_ret (v:= .agg #[.int .u64 H,.int .u64 L]) (by simp[results,Tryz.results123,go_sem]) rfl ⟨?_,by repeat(first|apply zaa|apply Keep.alloc|apply Keep.drew|exact Keep.refl _)⟩;rw[uq E1,uq E2]
set_option maxHeartbeats 400000 in
theorem zov (H L DH DL:Int) (w:World) (b:Bool) (h:¬DH=0):
  Calls Tryz.prog 124 #[.bool b,.agg #[.int .u64 H,.int .u64 L],.agg #[.int .u64 DH,.int .u64 DL]] w fun e w'=>e= .returned (.tuple #[.agg #[.int .i64 0,.int .i64 0],.int .i64 2])∧Keep w w':=by
 go_enter Tryz.func124,Tryz.ntmps124;go_wp2;exact bodyPost_ret (v:= .tuple #[.agg #[.int .i64 0,.int .i64 0],.int .i64 2]) (by simp[results,Tryz.results124,go_sem]) rfl ⟨rfl,by repeat(first|apply zaa|apply Keep.alloc|apply Keep.drew|exact Keep.refl _)⟩
set_option maxHeartbeats 400000 in
theorem zow (H L DL:Int) (w:World) (b:Bool) (h:9223372036854775807<DL):
  Calls Tryz.prog 124 #[.bool b,.agg #[.int .u64 H,.int .u64 L],.agg #[.int .u64 0,.int .u64 DL]] w fun e w'=>e= .returned (.tuple #[.agg #[.int .i64 0,.int .i64 0],.int .i64 2])∧Keep w w':=by
 go_enter Tryz.func124,Tryz.ntmps124;go_wp2;exact bodyPost_ret (v:= .tuple #[.agg #[.int .i64 0,.int .i64 0],.int .i64 2]) (by simp[results,Tryz.results124,go_sem]) rfl ⟨rfl,by repeat(first|apply zaa|apply Keep.alloc|apply Keep.drew|exact Keep.refl _)⟩
set_option maxHeartbeats 400000 in
theorem zen (H L DL:Int) (w:World) (h:¬9223372036854775807<DL) (h2:¬H=0):
  Calls Tryz.prog 124 #[.bool false,.agg #[.int .u64 H,.int .u64 L],.agg #[.int .u64 0,.int .u64 DL]] w fun e w'=>e= .returned (.tuple #[.agg #[.int .i64 0,.int .i64 0],.int .i64 2])∧Keep w w':=by
 go_enter Tryz.func124,Tryz.ntmps124;go_wp2;exact bodyPost_ret (v:= .tuple #[.agg #[.int .i64 0,.int .i64 0],.int .i64 2]) (by simp[results,Tryz.results124,go_sem]) rfl ⟨rfl,by repeat(first|apply zaa|apply Keep.alloc|apply Keep.drew|exact Keep.refl _)⟩
set_option maxHeartbeats 400000 in
theorem zeo (L DL:Int) (w:World) (h:¬9223372036854775807<DL) (h2:9223372036854775807<L):
  Calls Tryz.prog 124 #[.bool false,.agg #[.int .u64 0,.int .u64 L],.agg #[.int .u64 0,.int .u64 DL]] w fun e w'=>e= .returned (.tuple #[.agg #[.int .i64 0,.int .i64 0],.int .i64 2])∧Keep w w':=by
 go_enter Tryz.func124,Tryz.ntmps124;go_wp2;exact bodyPost_ret (v:= .tuple #[.agg #[.int .i64 0,.int .i64 0],.int .i64 2]) (by simp[results,Tryz.results124,go_sem]) rfl ⟨rfl,by repeat(first|apply zaa|apply Keep.alloc|apply Keep.drew|exact Keep.refl _)⟩
set_option maxHeartbeats 400000 in
theorem zfK (H L DL:Int) (w:World) (h:¬9223372036854775807<DL) (h2:¬H=0):
  Calls Tryz.prog 124 #[.bool true,.agg #[.int .u64 H,.int .u64 L],.agg #[.int .u64 0,.int .u64 DL]] w fun e w'=>e= .returned (.tuple #[.agg #[.int .i64 0,.int .i64 0],.int .i64 2])∧Keep w w':=by
 go_enter Tryz.func124,Tryz.ntmps124;go_wp2;exact bodyPost_ret (v:= .tuple #[.agg #[.int .i64 0,.int .i64 0],.int .i64 2]) (by simp[results,Tryz.results124,go_sem]) rfl ⟨rfl,by repeat(first|apply zaa|apply Keep.alloc|apply Keep.drew|exact Keep.refl _)⟩
set_option maxHeartbeats 400000 in
theorem zfL (L DL:Int) (w:World) (h:¬9223372036854775807<DL) (h2:9223372036854775808<L):
  Calls Tryz.prog 124 #[.bool true,.agg #[.int .u64 0,.int .u64 L],.agg #[.int .u64 0,.int .u64 DL]] w fun e w'=>e= .returned (.tuple #[.agg #[.int .i64 0,.int .i64 0],.int .i64 2])∧Keep w w':=by
 go_enter Tryz.func124,Tryz.ntmps124;go_wp2;exact bodyPost_ret (v:= .tuple #[.agg #[.int .i64 0,.int .i64 0],.int .i64 2]) (by simp[results,Tryz.results124,go_sem]) rfl ⟨rfl,by repeat(first|apply zaa|apply Keep.alloc|apply Keep.drew|exact Keep.refl _)⟩
set_option maxHeartbeats 400000 in
theorem zep (L DL:Int) (w:World) (h:¬9223372036854775807<DL) (h2:¬9223372036854775807<L) (e1:wrap64 L=L) (e2:wrap64 DL=DL):
  Calls Tryz.prog 124 #[.bool false,.agg #[.int .u64 0,.int .u64 L],.agg #[.int .u64 0,.int .u64 DL]] w fun e w'=>e= .returned (.tuple #[.agg #[.int .i64 L,.int .i64 DL],.int .i64 0])∧Keep w w':=by
 go_enter Tryz.func124,Tryz.ntmps124;go_wp2;exact bodyPost_ret (v:= .tuple #[.agg #[.int .i64 L,.int .i64 DL],.int .i64 0]) (by simp[results,Tryz.results124,go_sem]) rfl ⟨rfl,by repeat(first|apply zaa|apply Keep.alloc|apply Keep.drew|exact Keep.refl _)⟩
set_option maxHeartbeats 400000 in
theorem zfM (L DL U N:Int) (w:World) (h:¬9223372036854775807<DL) (h2:¬9223372036854775808<L) (e0:IntKind.u64.wrap (-L)=U) (e1:wrap64 U=N) (e2:wrap64 DL=DL):
  Calls Tryz.prog 124 #[.bool true,.agg #[.int .u64 0,.int .u64 L],.agg #[.int .u64 0,.int .u64 DL]] w fun e w'=>e= .returned (.tuple #[.agg #[.int .i64 N,.int .i64 DL],.int .i64 0])∧Keep w w':=by
 go_enter Tryz.func124,Tryz.ntmps124;go_wp2;exact bodyPost_ret (v:= .tuple #[.agg #[.int .i64 N,.int .i64 DL],.int .i64 0]) (by simp[results,Tryz.results124,go_sem]) rfl ⟨rfl,by repeat(first|apply zaa|apply Keep.alloc|apply Keep.drew|exact Keep.refl _)⟩
def sgn (b:Bool) (u:Int):Int:=if b then -u else u
theorem zbx {n d:Int} (h:fit n=false∨fit d=false):pN n d=0∧pD n d=0∧pE n d=2:=by
 have e:(fit n&&fit d)=false:=by rcases h with h|h<;>simp[h]
 simp[pN,pD,pE,e]
theorem zb6 {n d:Int} (h:fit n=true) (h2:fit d=true):pN n d=n∧pD n d=d∧pE n d=0:=by
 simp[pN,pD,pE,h,h2]
theorem zk8 (b:Bool) (u v:Int) (w:World) (h0:0≤u) (h1:u<340282366920938463463374607431768211456) (h2:0≤v) (h3:v<340282366920938463463374607431768211456):
  Calls Tryz.prog 124 #[.bool b,.agg #[.int .u64 (zbt u),.int .u64 (zbF u)],.agg #[.int .u64 (zbt v),.int .u64 (zbF v)]] w fun e w'=>e= .returned (fv (sgn b u) v)∧Keep w w':=by
 have bu:=zgW h0 h1;have bv:=zgW h2 h3;have hu:=ziG u;have hv:=ziG v;unfold fv
 by_cases c1:zbt v=0
 ·by_cases c2:9223372036854775807<zbF v
  ·obtain⟨e1,e2,e3⟩:=zbx (n:=sgn b u) (d:=v) (.inr (zci (by omega)));rw[e1,e2,e3,c1];exact zow _ _ _ w b c2
  ·have ev:zbF v=v:=by omega
   have fd:fit v=true:=zbJ (by omega) (by omega);by_cases c3:zbt u=0
   ·have eu:zbF u=u:=by omega
    rw[c1,c3,ev,eu];cases b
    ·by_cases c4:9223372036854775807<u
     ·obtain⟨e1,e2,e3⟩:=zbx (n:=sgn false u) (d:=v) (.inl (zci (by simp[sgn];omega)));rw[e1,e2,e3];exact zeo _ _ w (by omega) c4
     ·obtain⟨e1,e2,e3⟩:=zb6 (n:=sgn false u) (d:=v) (zbJ (by simp[sgn];omega) (by simp[sgn];omega)) fd;rw[e1,e2,e3];exact zep _ _ w (by omega) c4 (za3 (by omega)) (za3 (by omega))
    ·by_cases c4:9223372036854775808<u
     ·obtain⟨e1,e2,e3⟩:=zbx (n:=sgn true u) (d:=v) (.inl (zci (by simp[sgn];omega)));rw[e1,e2,e3];exact zfL _ _ w (by omega) c4
     ·obtain⟨e1,e2,e3⟩:=zb6 (n:=sgn true u) (d:=v) (zbJ (by simp[sgn];omega) (by simp[sgn];omega)) fd;rw[e1,e2,e3];exact zfM u v _ _ w (by omega) c4 rfl (by simp only[sgn,if_true];rw[IntKind.wrap_u64];unfold wrap64;omega) (za3 (by omega))
   ·have c3':=c3;rw[c1];cases b
    ·obtain⟨e1,e2,e3⟩:=zbx (n:=sgn false u) (d:=v) (.inl (zci (by simp[sgn];omega)));rw[e1,e2,e3];exact zen _ _ _ w c2 c3'
    ·obtain⟨e1,e2,e3⟩:=zbx (n:=sgn true u) (d:=v) (.inl (zci (by simp[sgn];omega)));rw[e1,e2,e3];exact zfK _ _ _ w c2 c3'
 ·obtain⟨e1,e2,e3⟩:=zbx (n:=sgn b u) (d:=v) (.inr (zci (by omega)));rw[e1,e2,e3];exact zov _ _ _ _ w b c1
end Go.Proofs.YtpmaonkelkmhbaaGreat
