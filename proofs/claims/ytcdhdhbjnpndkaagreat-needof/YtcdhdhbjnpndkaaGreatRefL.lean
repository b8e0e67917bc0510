/- The document's answer for products, scaled products, divisors and multiples. -/
import Derived.Test.YtcdhdhbjnpndkaaGreatRefC
import Derived.Test.YtcdhdhbjnpndkaaGreatFracC
import Derived.Test.YtcdhdhbjnpndkaaGreatLSkip
import Derived.Test.YtcdhdhbjnpndkaaGreatFracV
import Derived.Deep.DrawnRows
import Derived.Test.YtcdhdhbjnpndkaaGreatRefJ
namespace Go.Proofs.YtcdhdhbjnpndkaaGreat
open Go.RowKit
set_option linter.unusedVariables false
set_option maxRecDepth 10000
set_option maxHeartbeats 400000 in
theorem zaZ (a:Int) (w:World) (h1: -9223372036854775808≤a) (h2:a≤9223372036854775807):
  Calls Tryz.prog 89 #[.int .i64 a] w fun e w'=>e= .returned (.int .u64 (a.natAbs:Int))∧w'=w:=by
 by_cases ha:a<0
 ·go_enter Tryz.func89,Tryz.ntmps89;go_wp2;go_ret;exact⟨zaA (by rw[IntKind.wrap_u64,IntKind.wrap_u64];omega),rfl⟩
 ·go_enter Tryz.func89,Tryz.ntmps89;go_wp2;go_ret;exact⟨zaA (by omega),rfl⟩
def sg (u:Int) (below:Bool):Int:=if below then -u else u
set_option maxHeartbeats 400000 in
theorem zhB (w:World):
  Calls Tryz.prog 142 #[.int .u64 9223372036854775808,.bool true] w fun e w'=>e= .returned (.tuple #[.int .i64 (-9223372036854775808),.int .i64 0])∧w'=w:=by
 go_enter Tryz.func142,Tryz.ntmps142;go_wp2;go_ret2;exact⟨rfl,rfl⟩
set_option maxHeartbeats 400000 in
theorem zfP (u:Int) (below:Bool) (w:World) (h:9223372036854775807<u) (hu:u<18446744073709551616) (hb:below=true→u≠9223372036854775808):
  Calls Tryz.prog 142 #[.int .u64 u,.bool below] w fun e w'=>e= .returned (.tuple #[.int .i64 0,.int .i64 2])∧w'=w:=by
 cases below
 ·clear hb;by_cases he:u=9223372036854775808
  ·subst he;go_enter Tryz.func142,Tryz.ntmps142;go_wp2;go_ret2;exact⟨rfl,rfl⟩
  ·have he':(u==9223372036854775808)=false:=by simp[he]
   go_enter Tryz.func142,Tryz.ntmps142;go_wp2;go_ret2;exact⟨rfl,rfl⟩
 ·have he':(u==9223372036854775808)=false:=by simp[hb rfl]
  clear hb;go_enter Tryz.func142,Tryz.ntmps142;go_wp2;go_ret2;exact⟨rfl,rfl⟩
set_option maxHeartbeats 400000 in
theorem zfQ (u:Int) (below:Bool) (w:World) (h0:0≤u) (h:u≤9223372036854775807):
  Calls Tryz.prog 142 #[.int .u64 u,.bool below] w fun e w'=>e= .returned (.tuple #[.int .i64 (sg u below),.int .i64 0])∧w'=w:=by
 have he':(u==9223372036854775808)=false:=by simp;omega
 cases below
 ·go_enter Tryz.func142,Tryz.ntmps142;go_wp2;go_ret2;exact⟨zdh (by simp[sg]) rfl,rfl⟩
 ·go_enter Tryz.func142,Tryz.ntmps142;go_wp2;go_ret2;exact⟨zdh (by simp[sg]) rfl,rfl⟩
theorem zd2 (u:Int) (below:Bool) (w:World) (h0:0≤u) (hu:u<18446744073709551616):
  Calls Tryz.prog 142 #[.int .u64 u,.bool below] w fun e w'=>e= .returned (.tuple #[.int .i64 (ans (sg u below)),.int .i64 (err (sg u below))])∧w'=w:=by
 by_cases h:u≤9223372036854775807
 ·have hs: -9223372036854775808≤sg u below∧sg u below≤9223372036854775807:=by cases below<;>simp[sg]<;>omega
  rw[zdf hs.1 hs.2,zdg hs.1 hs.2];exact zfQ u below w h0 h
 ·by_cases hm:below=true∧u=9223372036854775808
  ·obtain⟨rfl,rfl⟩:=hm;rw[show sg 9223372036854775808 true= -9223372036854775808 by simp[sg],zdf (by omega) (by omega),zdg (by omega) (by omega)];exact zhB w
  ·have hs:sg u below< -9223372036854775808∨9223372036854775807<sg u below:=by
    cases below
    ·simp[sg];omega
    ·have:u≠9223372036854775808:=fun e=>hm ⟨rfl,e⟩
     simp[sg];omega
   rw[zhH hs,zhI hs];exact zfP u below w (by omega) hu (fun hb e=>hm ⟨hb,e⟩)
def bel (a b:Int):Bool:=decide (a * b<0)
end Go.Proofs.YtcdhdhbjnpndkaaGreat
namespace Go.Proofs.YtcdhdhbjnpndkaaGreat
open Go.RowKit
set_option linter.unusedVariables false
attribute [local go_sem ↓] Go.wp_at_zero Go.wp_at_succ
set_option linter.unusedSimpArgs false
set_option maxRecDepth 10000
set_option maxHeartbeats 1000000 in
theorem zd3 (x y G:Nat) (w:World) (hx:x≤9223372036854775808) (hy:y≤9223372036854775808) (HG:Hid (Nat.gcd x y=G)):
  Calls Tryz.prog 115 #[.int .u64 (x:Int),.int .u64 (y:Int)] w fun e w'=>e= .returned (.int .u64 (G:Int))∧w'=w:=by
 go_enter Tryz.func115,Tryz.ntmps115;go_wp2_with fail
 go_loop [0,1] (fun p q=>∃ u v:Nat,p= .int .u64 (u:Int)∧q= .int .u64 (v:Int)∧u≤9223372036854775808∧v≤9223372036854775808∧Hid (Nat.gcd u v=G)) (fun _ q=>(intOf q).toNat)
 case atStart=>exact⟨x,y,rfl,rfl,hx,hy,HG⟩
 case round=>
  obtain⟨u,v,rfl,rfl,hu,hv,Hg⟩:=hrel;by_cases hz:v=0
  ·subst hz;have e0:u=G:=by have:=uq Hg;simpa using this
   have E0:=hide e0;clear e0;go_wp2;go_ret;exact⟨zaA (by rw[uq E0]),rfl⟩
  ·have hb:((v:Int)==0)=false:=by simp;omega
   have hb2:((v:Int) !=0)=true:=by simp;omega
   have hm:u % v<v:=Nat.mod_lt _ (by omega);have Hg2:Hid (Nat.gcd v (u % v)=G):=by
    refine hide ?_;rw[← uq Hg,Nat.gcd_comm u v];exact(Nat.gcd_rec v u).symm▸(by rw[Nat.gcd_comm])
   go_wp2
   go_round
   case rel=>exact⟨v,u % v,rfl,by go_num,by omega,by omega,Hg2⟩
   case measure=>simp[intOf];omega
set_option maxHeartbeats 400000 in
theorem zfR (n d:Int) (w:World) (h:¬1≤d) (h':decide (1≤d)=false):
  Calls Tryz.prog 117 #[.agg #[.int .i64 n,.int .i64 d]] w fun e w'=>e= .returned (.bool false)∧Keep w w':=by
 go_enter Tryz.func117,Tryz.ntmps117;go_wp2_with fail
 go_region
 all_goals go_wp2_with fail
 all_goals go_ret
 all_goals exact⟨rfl,by repeat(first|apply zaa|apply Keep.alloc|apply Keep.drew|exact Keep.refl _)⟩
set_option maxHeartbeats 1000000 in
theorem zeZ (n d u G:Int) (b:Bool) (w:World) (h:1≤d) (h':decide (1≤d)=true) (hd:IntKind.u64.wrap d=d) (hb:(G==1)=b)
  (T1:Hid (∀ w,Calls Tryz.prog 89 #[.int .i64 n] w fun e w'=>e= .returned (.int .u64 u)∧w'=w))
  (T2:Hid (∀ w,Calls Tryz.prog 115 #[.int .u64 u,.int .u64 d] w fun e w'=>e= .returned (.int .u64 G)∧w'=w)):
  Calls Tryz.prog 117 #[.agg #[.int .i64 n,.int .i64 d]] w fun e w'=>e= .returned (.bool b)∧Keep w w':=by
 go_enter Tryz.func117,Tryz.ntmps117;go_wp2_with fail
 go_region_held3 (fun w'=>w'.cell? ⟨w.heap.size,0,none⟩=some (.int .i64 n)∧w'.cell? ⟨w.heap.size,1,none⟩=some (.int .i64 d)) (simp[go_sem]) (first|(go_at_call 89;refine((uq T1) _).mono ?_;rintro e w2 ⟨rfl,rfl⟩)|(go_at_call 115;refine((uq T2) _).mono ?_;rintro e w2 ⟨rfl,rfl⟩))
 all_goals go_wp2_with fail
 all_goals go_ret
 all_goals exact⟨rfl,by repeat(first|apply zaa|apply Keep.alloc|apply Keep.drew|exact Keep.refl _)⟩
theorem zfS (n d:Int) (w:World) (h1: -9223372036854775808≤n) (h2:n≤9223372036854775807) (h3: -9223372036854775808≤d) (h4:d≤9223372036854775807):
  Calls Tryz.prog 117 #[.agg #[.int .i64 n,.int .i64 d]] w fun e w'=>e= .returned (.bool (rt n d))∧Keep w w':=by
 by_cases hd:1≤d
 ·have e:(((Nat.gcd n.natAbs d.natAbs:Nat):Int)==1)=rt n d:=by
   by_cases hg:Nat.gcd n.natAbs d.natAbs=1
   ·have:rt n d=true:=by simp only[rt,decide_eq_true_eq];exact⟨hd,hg⟩
    rw[this,hg];rfl
   ·have:rt n d=false:=by simp only[rt,decide_eq_false_iff_not];exact fun h=>hg h.2
    rw[this];simp;omega
  refine zeZ n d _ _ _ w hd (by simpa using hd) (by rw[IntKind.wrap_u64];omega) e (hide fun w=>zaZ n w h1 h2) (hide fun w=>?_);have k:=zd3 n.natAbs d.natAbs _ w (by omega) (by omega) (hide rfl);rw[show((d.natAbs:Nat):Int)=d by omega]at k;exact k
 ·have e:rt n d=false:=by simp only[rt,decide_eq_false_iff_not];exact fun h=>hd h.1
  rw[e];exact zfR n d w hd (by simpa using hd)
set_option maxHeartbeats 400000 in
theorem zkO (n d:Int) (w:World) (T:Hid (∀ w,Calls Tryz.prog 117 #[.agg #[.int .i64 n,.int .i64 d]] w fun e w'=>e= .returned (.bool true)∧Keep w w')):
  Calls Tryz.prog 85 #[.agg #[.int .i64 n,.int .i64 d]] w fun e w'=>e= .returned (.agg #[.int .i64 n,.int .i64 d])∧Keep w w':=by
 go_enter Tryz.func85,Tryz.ntmps85;go_wp2_with fail
 (refine((uq T) _).mono ?_;rintro e w2 ⟨rfl,hk⟩;obtain⟨o1,k1,rfl⟩:=hk.ext;clear hk);go_wp2_with fail
 exact bodyPost_ret (v:= .agg #[.int .i64 n,.int .i64 d]) (by simp[results,Tryz.results85,go_sem]) rfl ⟨rfl,by repeat(first|apply zaa|apply Keep.alloc|apply Keep.drew|exact Keep.refl _)⟩
set_option maxHeartbeats 400000 in
theorem znR (n d:Int) (w:World) (T:Hid (∀ w,Calls Tryz.prog 117 #[.agg #[.int .i64 n,.int .i64 d]] w fun e w'=>e= .returned (.bool false)∧Keep w w')):
  Calls Tryz.prog 85 #[.agg #[.int .i64 n,.int .i64 d]] w fun e w'=>e= .returned (.agg #[.int .i64 0,.int .i64 1])∧Keep w w':=by
 go_enter Tryz.func85,Tryz.ntmps85;go_wp2_with fail
 (refine((uq T) _).mono ?_;rintro e w2 ⟨rfl,hk⟩;obtain⟨o1,k1,rfl⟩:=hk.ext;clear hk);go_wp2_with fail
 exact bodyPost_ret (v:= .agg #[.int .i64 0,.int .i64 1]) (by simp[results,Tryz.results85,go_sem]) rfl ⟨rfl,by repeat(first|apply zaa|apply Keep.alloc|apply Keep.drew|exact Keep.refl _)⟩
theorem zbn (n d:Int) (w:World) (h1: -9223372036854775808≤n) (h2:n≤9223372036854775807) (h3: -9223372036854775808≤d) (h4:d≤9223372036854775807):
  Calls Tryz.prog 85 #[.agg #[.int .i64 n,.int .i64 d]] w fun e w'=>e= .returned (.agg #[.int .i64 (cn n d),.int .i64 (cd n d)])∧Keep w w':=by
 have T:Hid (∀ w,_):=fun w=>zfS n d w h1 h2 h3 h4
 unfold cn cd
 by_cases h:rt n d=true
 ·rw[h]at T;simp only[h,if_true];exact zkO n d w T
 ·have h':rt n d=false:=by simpa using h
  rw[h']at T;simp only[h',if_false,Bool.false_eq_true];exact znR n d w T
set_option maxHeartbeats 1000000 in
theorem zjo (u v a e0 c e1 X Y Z:Int) (b:Bool) (w:World) (hr:(¬e0=0∧X=0∧Y=0∧Z=2)∨(e0=0∧¬e1=0∧X=0∧Y=0∧Z=2)∨(e0=0∧e1=0∧X=a∧Y=c∧Z=0))
  (Sg:Int→Bool→Int→Int→Prop) (S1:Sg u b a e0) (S2:Sg v false c e1)
  (T:Hid (∀(u:Int) (b:Bool) (a e0:Int),Sg u b a e0→∀ w,Calls Tryz.prog 142 #[.int .u64 u,.bool b] w fun e w'=>e= .returned (.tuple #[.int .i64 a,.int .i64 e0])∧w'=w)):
  Calls Tryz.prog 116 #[.int .u64 u,.int .u64 v,.bool b] w fun e w'=>e= .returned (.tuple #[.agg #[.int .i64 X,.int .i64 Y],.int .i64 Z])∧Keep w w':=by
 rcases hr with ⟨g1,rfl,rfl,rfl⟩|⟨rfl,g1,rfl,rfl,rfl⟩|⟨rfl,rfl,rfl,rfl,rfl⟩
 ·have g2:(e0==0)=false:=by simpa using g1
  go_enter Tryz.func116,Tryz.ntmps116;go_wp2_with fail
  (refine((uq T) _ _ _ _ S1 _).mono ?_;rintro e w2 ⟨rfl,rfl⟩);go_wp2_with fail
  (refine((uq T) _ _ _ _ S2 _).mono ?_;rintro e w2 ⟨rfl,rfl⟩);go_wp2_with fail
  exact bodyPost_ret (v:= .tuple #[.agg #[.int .i64 0,.int .i64 0],.int .i64 2]) (by simp[results,Tryz.results116,go_sem]) rfl ⟨rfl,by repeat(first|apply zaa|apply Keep.alloc|apply Keep.drew|exact Keep.refl _)⟩
 ·have g2:(e1==0)=false:=by simpa using g1
  go_enter Tryz.func116,Tryz.ntmps116;go_wp2_with fail
  (refine((uq T) _ _ _ _ S1 _).mono ?_;rintro e w2 ⟨rfl,rfl⟩);go_wp2_with fail
  (refine((uq T) _ _ _ _ S2 _).mono ?_;rintro e w2 ⟨rfl,rfl⟩);go_wp2_with fail
  exact bodyPost_ret (v:= .tuple #[.agg #[.int .i64 0,.int .i64 0],.int .i64 2]) (by simp[results,Tryz.results116,go_sem]) rfl ⟨rfl,by repeat(first|apply zaa|apply Keep.alloc|apply Keep.drew|exact Keep.refl _)⟩
 ·skip
  go_enter Tryz.func116,Tryz.ntmps116;go_wp2_with fail
  (refine((uq T) _ _ _ _ S1 _).mono ?_;rintro e w2 ⟨rfl,rfl⟩);go_wp2_with fail
  (refine((uq T) _ _ _ _ S2 _).mono ?_;rintro e w2 ⟨rfl,rfl⟩);go_wp2_with fail
  exact bodyPost_ret (v:= .tuple #[.agg #[.int .i64 X,.int .i64 Y],.int .i64 0]) (by simp[results,Tryz.results116,go_sem]) rfl ⟨rfl,by repeat(first|apply zaa|apply Keep.alloc|apply Keep.drew|exact Keep.refl _)⟩
theorem zgJ (u v:Int) (b:Bool) (w:World) (u0:0≤u) (u1:u<18446744073709551616) (v0:0≤v) (v1:v<18446744073709551616):
  Calls Tryz.prog 116 #[.int .u64 u,.int .u64 v,.bool b] w fun e w'=>e= .returned (fv (sg u b) v)∧Keep w w':=by
 refine zjo u v (ans (sg u b)) (err (sg u b)) (ans (sg v false)) (err (sg v false)) _ _ _ b w ?_ (fun u b a e0=>∀ w,Calls Tryz.prog 142 #[.int .u64 u,.bool b] w fun e w'=>e= .returned (.tuple #[.int .i64 a,.int .i64 e0])∧w'=w)
  (fun w=>zd2 u b w u0 u1) (fun w=>zd2 v false w v0 v1) (hide fun u b a e0 h=>h)
 have ev:sg v false=v:=by simp[sg]
 rw[ev];by_cases f1:fit (sg u b)=true
 ·by_cases f2:fit v=true
  ·obtain⟨p1,p2,p3⟩:=zbT f1 f2;refine .inr (.inr ⟨by simp[err,f1],by simp[err,f2],?_,?_,p3⟩)
   ·rw[p1];simp[ans,f1]
   ·rw[p2];simp[ans,f2]
  ·have f2':fit v=false:=by simpa using f2
   obtain⟨p1,p2,p3⟩:=zbf (n:=sg u b) (d:=v) (.inr f2');exact .inr (.inl ⟨by simp[err,f1],by simp[err,f2'],p1,p2,p3⟩)
 ·have f1':fit (sg u b)=false:=by simpa using f1
  obtain⟨p1,p2,p3⟩:=zbf (n:=sg u b) (d:=v) (.inl f1');exact .inl ⟨by simp[err,f1'],p1,p2,p3⟩
set_option maxHeartbeats 400000 in
theorem zjp (n:Int) (w:World):
  Calls Tryz.prog 83 #[.int .i64 n,.int .i64 0] w fun e w'=>e= .returned (.tuple #[.agg #[.int .i64 0,.int .i64 0],.int .i64 3])∧Keep w w':=by
 go_enter Tryz.func83,Tryz.ntmps83;go_wp2_with fail
 exact bodyPost_ret (v:= .tuple #[.agg #[.int .i64 0,.int .i64 0],.int .i64 3]) (by simp[results,Tryz.results83,go_sem]) rfl ⟨rfl,by repeat(first|apply zaa|apply Keep.alloc|apply Keep.drew|exact Keep.refl _)⟩
set_option maxHeartbeats 2000000 in
theorem zjq (n d x y g A B X Y Z:Int) (b:Bool) (w:World) (hd:(d==0)=false) (hd':¬d=0) (hg:¬g=0) (e1:x.tdiv g=A) (e2:y.tdiv g=B) (w1:IntKind.u64.wrap A=A) (w2:IntKind.u64.wrap B=B)
  (hb:(n=0∧b=false)∨(¬n=0∧(!(decide (n<0)==decide (d<0)))=b))
  (Sz:Int→Int→Prop) (S1:Sz n x) (S2:Sz d y)
  (T1:Hid (∀(n x:Int),Sz n x→∀ w,Calls Tryz.prog 89 #[.int .i64 n] w fun e w'=>e= .returned (.int .u64 x)∧w'=w))
  (T2:Hid (∀ w,Calls Tryz.prog 115 #[.int .u64 x,.int .u64 y] w fun e w'=>e= .returned (.int .u64 g)∧w'=w))
  (T3:Hid (∀ w,Calls Tryz.prog 116 #[.int .u64 A,.int .u64 B,.bool b] w fun e w'=>e= .returned (.tuple #[.agg #[.int .i64 X,.int .i64 Y],.int .i64 Z])∧Keep w w')):
  Calls Tryz.prog 83 #[.int .i64 n,.int .i64 d] w fun e w'=>e= .returned (.tuple #[.agg #[.int .i64 X,.int .i64 Y],.int .i64 Z])∧Keep w w':=by
 have hg':(g==0)=false:=by simpa using hg
 rcases hb with ⟨h0,rfl⟩|⟨h0,hb⟩
 ·subst h0;go_enter Tryz.func83,Tryz.ntmps83;go_wp2_with fail
  (refine((uq T1) _ _ S1 _).mono ?_;rintro e w2 ⟨rfl,rfl⟩);go_wp2_with fail
  (refine((uq T1) _ _ S2 _).mono ?_;rintro e w2 ⟨rfl,rfl⟩);go_wp2_with fail
  (refine((uq T2) _).mono ?_;rintro e w2 ⟨rfl,rfl⟩);go_wp2_with fail
  refine wp_region_held_drew (S:=fun _=>True) (by kernel_rfl) (by trivial) (fun hHeld=>?_);refine tkk 0 19 hHeld ?_;try simp only[Act.put,Ya,Yb,Yc]
  refine tkk 1 20 hHeld ?_;try simp only[Act.put,Ya,Yb,Yc]
  refine tkk 2 21 hHeld ?_;try simp only[Act.put,Ya,Yb,Yc]
  refine tkk 3 22 hHeld ?_;try simp only[Act.put,Ya,Yb,Yc]
  refine tkk 4 23 hHeld ?_;try simp only[Act.put,Ya,Yb,Yc]
  refine tkk 5 24 hHeld ?_;try simp only[Act.put,Ya,Yb,Yc]
  refine tkk 6 25 hHeld ?_;try simp only[Act.put,Ya,Yb,Yc]
  refine tkk 7 26 hHeld ?_;try simp only[Act.put,Ya,Yb,Yc]
  refine tkk 8 27 hHeld ?_;try simp only[Act.put,Ya,Yb,Yc]
  refine wpAnyH_take (i:=9) (v:=undef) rfl (by kernel_rfl) (by kernel_rfl) (by kernel_rfl) (fun _ _ _ h=>h) (Or.inr ⟨by rfl,rfl⟩) hHeld ?_;show wpAnyH _ _ _ _ _ _ _ (Act.put _ (some 28) _) _;try simp only[Act.put,Ya,Yb,Yc]
  refine wpAnyH_take (i:=10) (v:=undef) rfl (by kernel_rfl) (by kernel_rfl) (by kernel_rfl) (fun _ _ _ h=>h) (Or.inr ⟨by rfl,rfl⟩) hHeld ?_;show wpAnyH _ _ _ _ _ _ _ (Act.put _ (some 29) _) _;try simp only[Act.put,Ya,Yb,Yc]
  refine wpAnyH_take (i:=11) (v:=undef) rfl (by kernel_rfl) (by kernel_rfl) (by kernel_rfl) (fun _ _ _ h=>h) (Or.inr ⟨by rfl,rfl⟩) hHeld ?_;show wpAnyH _ _ _ _ _ _ _ (Act.put _ (some 30) _) _;try simp only[Act.put,Ya,Yb,Yc]
  refine wpAnyH_take (i:=12) (v:=undef) rfl (by kernel_rfl) (by kernel_rfl) (by kernel_rfl) (fun _ _ _ h=>h) (Or.inr ⟨by rfl,rfl⟩) hHeld ?_;show wpAnyH _ _ _ _ _ _ _ (Act.put _ (some 31) _) _;try simp only[Act.put,Ya,Yb,Yc]
  refine wpAnyH_take (i:=13) (v:=undef) rfl (by kernel_rfl) (by kernel_rfl) (by kernel_rfl) (fun _ _ _ h=>h) (Or.inr ⟨by rfl,rfl⟩) hHeld ?_;show wpAnyH _ _ _ _ _ _ _ (Act.put _ (some 32) _) _;try simp only[Act.put,Ya,Yb,Yc]
  refine tkk 14 33 hHeld ?_;try simp only[Act.put,Ya,Yb,Yc]
  refine zak 15 (fun K hK=>?_);go_simp;clear hHeld;(refine((uq T3) _).mono ?_;rintro e w2 ⟨rfl,hk⟩;obtain⟨o1,k1,rfl⟩:=hk.ext;clear hk);try go_wp2_with fail
  refine hK.out _ _ ?_ (fun hHeld=>?_)
  ·trivial
  clear hK K;try simp only[Act.put,Ya,Yb,Yc]
  refine tkk 16 35 hHeld ?_;try simp only[Act.put,Ya,Yb,Yc]
  refine tkk 17 36 hHeld ?_;try simp only[Act.put,Ya,Yb,Yc]
  refine zak 18 (fun K hK=>?_);go_simp;clear hHeld;refine hK.out _ _ ?_ (fun hHeld=>?_)
  ·trivial
  clear hK K;try simp only[Act.put,Ya,Yb,Yc]
  refine tkk 19 5 hHeld ?_;try simp only[Act.put,Ya,Yb,Yc]
  refine wpAnyH_done (by kernel_rfl) ?_ _;clear hHeld;all_goals go_wp2_with fail
  all_goals exact bodyPost_ret (v:= .tuple #[.agg #[.int .i64 X,.int .i64 Y],.int .i64 Z]) (by simp[results,Tryz.results83,go_sem]) rfl ⟨rfl,by repeat(first|apply zaa|apply Keep.alloc|apply Keep.drew|exact Keep.refl _)⟩
 ·have h0b:(n==0)=false:=by simpa using h0
  have h0c:(n !=0)=true:=by simpa using h0
  go_enter Tryz.func83,Tryz.ntmps83;go_wp2_with fail
  (refine((uq T1) _ _ S1 _).mono ?_;rintro e w2 ⟨rfl,rfl⟩);go_wp2_with fail
  (refine((uq T1) _ _ S2 _).mono ?_;rintro e w2 ⟨rfl,rfl⟩);go_wp2_with fail
  (refine((uq T2) _).mono ?_;rintro e w2 ⟨rfl,rfl⟩);go_wp2_with fail
  refine wp_region_held_drew (S:=fun _=>True) (by kernel_rfl) (by trivial) (fun hHeld=>?_);refine tkk 0 19 hHeld ?_;try simp only[Act.put,Ya,Yb,Yc]
  refine tkk 1 20 hHeld ?_;try simp only[Act.put,Ya,Yb,Yc]
  refine tkk 2 21 hHeld ?_;try simp only[Act.put,Ya,Yb,Yc]
  refine tkk 3 22 hHeld ?_;try simp only[Act.put,Ya,Yb,Yc]
  refine tkk 4 23 hHeld ?_;try simp only[Act.put,Ya,Yb,Yc]
  refine tkk 5 24 hHeld ?_;try simp only[Act.put,Ya,Yb,Yc]
  refine tkk 6 25 hHeld ?_;try simp only[Act.put,Ya,Yb,Yc]
  refine tkk 7 26 hHeld ?_;try simp only[Act.put,Ya,Yb,Yc]
  refine tkk 8 27 hHeld ?_;try simp only[Act.put,Ya,Yb,Yc]
  refine tkk 9 28 hHeld ?_;try simp only[Act.put,Ya,Yb,Yc]
  refine tkk 10 29 hHeld ?_;try simp only[Act.put,Ya,Yb,Yc]
  refine tkk 11 30 hHeld ?_;try simp only[Act.put,Ya,Yb,Yc]
  refine tkk 12 31 hHeld ?_;try simp only[Act.put,Ya,Yb,Yc]
  refine tkk 13 32 hHeld ?_;try simp only[Act.put,Ya,Yb,Yc]
  refine tkk 14 33 hHeld ?_;try simp only[Act.put,Ya,Yb,Yc]
  refine zak 15 (fun K hK=>?_);go_simp;clear hHeld;(refine((uq T3) _).mono ?_;rintro e w2 ⟨rfl,hk⟩;obtain⟨o1,k1,rfl⟩:=hk.ext;clear hk);try go_wp2_with fail
  refine hK.out _ _ ?_ (fun hHeld=>?_)
  ·trivial
  clear hK K;try simp only[Act.put,Ya,Yb,Yc]
  refine tkk 16 35 hHeld ?_;try simp only[Act.put,Ya,Yb,Yc]
  refine tkk 17 36 hHeld ?_;try simp only[Act.put,Ya,Yb,Yc]
  refine zak 18 (fun K hK=>?_);go_simp;clear hHeld;refine hK.out _ _ ?_ (fun hHeld=>?_)
  ·trivial
  clear hK K;try simp only[Act.put,Ya,Yb,Yc]
  refine tkk 19 5 hHeld ?_;try simp only[Act.put,Ya,Yb,Yc]
  refine wpAnyH_done (by kernel_rfl) ?_ _;clear hHeld;all_goals go_wp2_with fail
  all_goals exact bodyPost_ret (v:= .tuple #[.agg #[.int .i64 X,.int .i64 Y],.int .i64 Z]) (by simp[results,Tryz.results83,go_sem]) rfl ⟨rfl,by repeat(first|apply zaa|apply Keep.alloc|apply Keep.drew|exact Keep.refl _)⟩
theorem zp8 (n d:Int) (hz:¬d=0) (b:Bool) (hb:(n=0∧b=false)∨(¬n=0∧(!(decide (n<0)==decide (d<0)))=b)):
  rn (sgn (decide (d<0)) n) (d.natAbs:Int)=sg ((n.natAbs / Nat.gcd n.natAbs d.natAbs:Nat):Int) b∧rd (sgn (decide (d<0)) n) (d.natAbs:Int)=((d.natAbs / Nat.gcd n.natAbs d.natAbs:Nat):Int):=by
 have g0:0<Nat.gcd n.natAbs d.natAbs:=Nat.gcd_pos_of_pos_right _ (by omega);have c1:Nat.gcd (n.natAbs / Nat.gcd n.natAbs d.natAbs) (d.natAbs / Nat.gcd n.natAbs d.natAbs)=1:=Nat.coprime_div_gcd_div_gcd g0;obtain⟨a,ha⟩:=Nat.gcd_dvd_left n.natAbs d.natAbs;obtain⟨c,hc⟩:=Nat.gcd_dvd_right n.natAbs d.natAbs;have q1:n.natAbs / Nat.gcd n.natAbs d.natAbs=a:=Nat.div_eq_of_eq_mul_right g0 ha;have q2:d.natAbs / Nat.gcd n.natAbs d.natAbs=c:=Nat.div_eq_of_eq_mul_right g0 hc;rw[q1,q2]at c1 ⊢;generalize Nat.gcd n.natAbs d.natAbs=g at *;have hc0:0<c:=by
  rcases Nat.eq_zero_or_pos c with h|h
  ·rw[h,Nat.mul_zero]at hc;omega
  ·exact h
 have key:sgn (decide (d<0)) n=sg ((g * a:Nat):Int) b:=by
  rw[← ha];unfold sgn sg
  rcases hb with ⟨h0,rfl⟩|⟨h0,rfl⟩
  ·subst h0;simp
  ·by_cases p:n<0<;>by_cases q:d<0<;>simp[p,q]<;>omega
 rw[key,hc];refine zfk (by omega) (by rw[← hc];omega) ?_ ?_
 ·unfold sg Int.gcd
  split
  ·rw[Int.natAbs_neg];exact c1
  ·exact c1
 ·unfold sg
  split<;>simp only[Int.natCast_mul,Int.neg_mul]<;>ac_rfl
theorem zev (n d:Int) (w:World) (h1: -9223372036854775808≤n) (h2:n≤9223372036854775807) (h3: -9223372036854775808≤d) (h4:d≤9223372036854775807) (hz:¬d=0):
  Calls Tryz.prog 83 #[.int .i64 n,.int .i64 d] w fun e w'=>e= .returned (fv (rn (sgn (decide (d<0)) n) (d.natAbs:Int)) (rd (sgn (decide (d<0)) n) (d.natAbs:Int)))∧Keep w w':=by
 obtain⟨b,hb⟩:∃ b:Bool,(n=0∧b=false)∨(¬n=0∧(!(decide (n<0)==decide (d<0)))=b):=by
  by_cases h0:n=0
  ·exact⟨false,.inl ⟨h0,rfl⟩⟩
  ·exact⟨_,.inr ⟨h0,rfl⟩⟩
 obtain⟨l1,l2⟩:=zp8 n d hz b hb;rw[l1,l2];have g0:0<Nat.gcd n.natAbs d.natAbs:=Nat.gcd_pos_of_pos_right _ (by omega);have b1:n.natAbs / Nat.gcd n.natAbs d.natAbs≤n.natAbs:=Nat.div_le_self _ _;have b2:d.natAbs / Nat.gcd n.natAbs d.natAbs≤d.natAbs:=Nat.div_le_self _ _;have G:=fun w=>zd3 n.natAbs d.natAbs _ w (by omega) (by omega) (hide rfl)
 have eA:((n.natAbs:Nat):Int).tdiv (Nat.gcd n.natAbs d.natAbs:Nat)=(n.natAbs / Nat.gcd n.natAbs d.natAbs:Nat):=by rw[Int.tdiv_eq_ediv_of_nonneg (by omega)];rfl
 have eB:((d.natAbs:Nat):Int).tdiv (Nat.gcd n.natAbs d.natAbs:Nat)=(d.natAbs / Nat.gcd n.natAbs d.natAbs:Nat):=by rw[Int.tdiv_eq_ediv_of_nonneg (by omega)];rfl
 generalize n.natAbs / Nat.gcd n.natAbs d.natAbs=A at *;generalize d.natAbs / Nat.gcd n.natAbs d.natAbs=B at *;generalize Nat.gcd n.natAbs d.natAbs=g at *;exact zjq n d _ _ g A B _ _ _ b w (by simpa using hz) hz (by omega) eA eB (by rw[IntKind.wrap_u64];omega) (by rw[IntKind.wrap_u64];omega) hb
  (fun n x=>∀ w,Calls Tryz.prog 89 #[.int .i64 n] w fun e w'=>e= .returned (.int .u64 x)∧w'=w) (fun w=>zaZ n w h1 h2) (fun w=>zaZ d w h3 h4) (hide fun n x h=>h) (hide G) (hide fun w=>zgJ A B b w (by omega) (by omega) (by omega) (by omega))
def rdl (w:World):Value→List Int
 | .slice (some a) n _=>(List.range n).map fun j=>match w.cell? ⟨a.block,j,none⟩with|some v=>intOf v|none=>0
 | _=> []
theorem zp9 {w:World} {v:Value} {l:List Int} (h:Sl w v l):rdl w v=l:=by
 obtain⟨g,cap,rfl,_,_,_,hc,_⟩:=h;unfold rdl
 apply List.ext_getElem
 ·simp
 ·intro i h1 h2
  simp at h1;simp only[List.getElem_map,List.getElem_range];rw[hc i h1];simp[intOf,List.getD_eq_getElem?_getD,List.getElem?_eq_getElem h1]
def zew (w:World) (v:Value):Nat:=(val (rdl w v)).toNat
theorem zdD {w:World} {v:Value} {l:List Int} (h:Sl w v l):zew w v=(val l).toNat:=by unfold zew;rw[zp9 h]
theorem zkP (x y:Int) (hx:0≤x) (hy:0≤y):Int.gcd y (x % y)=Int.gcd x y:=by
 rw[Int.gcd_comm x y];have h:x % y=x - y * (x / y):=by have:=Int.emod_add_mul_ediv x y;omega
 rw[h,Int.mul_comm y (x / y),Int.gcd_sub_mul_right_right]
def Low (N D:Int) (b:Bool) (X Y Z:Int):Prop:=X=pN (rn (sgn b N) D) (rd (sgn b N) D)∧Y=pD (rn (sgn b N) D) (rd (sgn b N) D)∧Z=pE (rn (sgn b N) D) (rd (sgn b N) D)
theorem zfT {N D:Int} {b:Bool} {X Y Z X' Y' Z':Int} (h:Low N D b X Y Z) (k:Low N D b X' Y' Z'):X=X'∧Y=Y'∧Z=Z':=by
 obtain⟨a1,a2,a3⟩:=h;obtain⟨b1,b2,b3⟩:=k;exact⟨a1.trans b1.symm,a2.trans b2.symm,a3.trans b3.symm⟩
theorem ze0 {N D g:Int} {b:Bool} (hN:0≤N) (hD:1≤D) (hg:g=(Int.gcd N D:Int)):rn (sgn b N) D=sgn b (N / g)∧rd (sgn b N) D=D / g:=by
 have hg2:(Int.gcd (sgn b N) D:Int)=g:=by
  rw[hg];unfold sgn
  split
  ·rw[Int.neg_gcd]
  ·rfl
 unfold rn rd
 rw[hg2];refine⟨?_,rfl⟩;have hdv:g ∣ N:=by rw[hg];exact Int.gcd_dvd_left ..
 unfold sgn
 split
 ·exact Int.neg_ediv_of_dvd hdv
 ·rfl
theorem zjr {N D g:Int} {b:Bool} (hN:0≤N) (hD:1≤D) (hg:g=(Int.gcd N D:Int)) (h:¬N / g<18446744073709551616∨¬D / g<18446744073709551616):Low N D b 0 0 2:=by
 obtain⟨e1,e2⟩:=ze0 (b:=b) hN hD hg;unfold Low
 rw[e1,e2];have:fit (sgn b (N / g))=false∨fit (D / g)=false:=by
  rcases h with h|h
  ·refine .inl (zb1 ?_);unfold sgn
   split<;>omega
  ·exact .inr (zb1 (by omega))
 obtain⟨p1,p2,p3⟩:=zbf this;exact⟨p1.symm,p2.symm,p3.symm⟩
theorem zjs {N D g x y:Int} {b c:Bool} (hN:0≤N) (hD:1≤D) (hg:g=(Int.gcd N D:Int)) (hx:x=N / g) (hy:y=D / g) (hc:c=(b&&(x !=0))):Low N D b (pN (sg x c) y) (pD (sg x c) y) (pE (sg x c) y):=by
 obtain⟨e1,e2⟩:=ze0 (b:=b) hN hD hg;unfold Low
 rw[e1,e2,← hx,← hy];have:sg x c=sgn b x:=by
  subst hc;unfold sg sgn
  by_cases h:x=0
  ·subst h;cases b<;>simp
  ·have:(x !=0)=true:=by simpa using h
   rw[this];cases b<;>simp
 rw[this];exact⟨rfl,rfl,rfl⟩
set_option maxHeartbeats 4000000 in
theorem zdE (vn vd:Value) (N D:List Int) (b:Bool) (X Y Z:Int) (w:World) (rn0:Sl w vn N) (rd0:Sl w vd D) (hN:Dig N) (hD:Dig D) (hn:N.length≤20) (hd:D.length≤20) (hd1:1≤val D) (HL:Low (val N) (val D) b X Y Z):
  Calls Tryz.prog 90 #[vn,vd,.bool b] w fun e w'=>e= .returned (.tuple #[.agg #[.int .i64 X,.int .i64 Y],.int .i64 Z])∧Keep w w':=by
 have hn0:=(zbh hN).1;obtain⟨g,hg⟩:∃ g:Int,g=(Int.gcd (val N) (val D):Int):=⟨_,rfl⟩;have hg1:1≤g:=by
  have:0<Int.gcd (val N) (val D):=Int.gcd_pos_of_ne_zero_right _ (by omega);omega
 have HG:=hide hg;clear hg;go_enter Tryz.func90,Tryz.ntmps90;go_wp2_with fail
 go_loopw [8,9] (fun av bv wr=>∃(C E:List Int),Sl wr av C∧Sl wr bv E∧Dig C∧Dig E∧C.length≤20∧E.length≤20∧Hid (g=(Int.gcd (val C) (val E):Int))∧Keep (w.alloc (.cells #[.int .i64 0,.int .i64 0] 23)) wr) (fun _ bv wr=>zew wr bv)
 case atStart=>exact⟨N,D,rn0.keep ((Keep.refl w).alloc _),rd0.keep ((Keep.refl w).alloc _),hN,hD,hn,hd,HG,Keep.refl _⟩
 case round=>
  obtain⟨C,E,sc,se,dc,de,hc,he,Hg,hk⟩:=hrel;have hc0:=(zbh dc).1;have he0:=(zbh de).1;have O:=hide (zjl _ E wr se de (by omega));by_cases hz:val E=0
  ·have hcm:cm (val E) 0=0:=by rw[hz];simp[cm]
   rw[hcm]at O;have hgc:val C=g:=by
    have h:=uq Hg;rw[hz]at h;simp at h;omega
   have hkw:Keep w wr:=Keep.trans ((Keep.refl w).alloc _) hk;have D1:=hide (zdC vn u8 N C wr (rn0.keep hkw) sc hN dc hn hc (by omega));have D2:Hid (∀ w',Keep wr w'→Calls Tryz.prog 122 #[vd,u8] w' fun e w''=>e= .returned (.tuple #[.int .u64 (if val D / val C<18446744073709551616 then val D / val C else 0),.bool (decide (val D / val C<18446744073709551616))])∧Keep w' w''):=
    fun w' hw'=>zdC vd u8 D C w' ((rd0.keep hkw).keep hw') (sc.keep hw') hD dc hd hc (by omega)
   rw[hgc]at D1 D2;have HK:=hide hk;clear sc se hkw hk rn0 rd0 hgc hcm hz he0 hc0 Hg;by_cases f1:val N / g<18446744073709551616
   ·by_cases f2:val D / g<18446744073709551616
    ·obtain⟨x,hx⟩:∃ x,x=val N / g:=⟨_,rfl⟩;obtain⟨y,hy⟩:∃ y,y=val D / g:=⟨_,rfl⟩;rw[if_pos f1,decide_eq_true f1,← hx]at D1;rw[if_pos f2,decide_eq_true f2,← hy]at D2;have x0:0≤x:=by rw[hx];exact Int.ediv_nonneg hn0 (by omega)
     have y0:0≤y:=by rw[hy];exact Int.ediv_nonneg (by omega) (by omega)
     rw[← hx]at f1;rw[← hy]at f2;have hl:=zjs (b:=b) (c:=b&&(x !=0)) hn0 hd1 (uq HG) hx hy rfl;have M:=fun w=>zgJ x y (b&&(x !=0)) w x0 f1 y0 f2
     unfold fv at M
     obtain⟨q1,q2,q3⟩:=zfT HL hl;rw[← q1,← q2,← q3]at M;have HM:=hide M;clear M hl hx hy q1 q2 q3 HL;cases b
     ·rw[Bool.false_and]at HM;have HK':=uq HK;obtain⟨o0,k0,rfl⟩:=HK'.ext;clear HK';go_wp2_with fail
      refine(uq O).mono ?_;rintro e wr' ⟨rfl,rfl⟩;go_wp2_with fail
      refine(uq D1).mono ?_;rintro e w1 ⟨rfl,hk⟩;have D2'':=uq D2 _ hk;obtain⟨o1,k1,rfl⟩:=hk.ext;rw[zd7]at D2'';have D2':=hide D2'';clear hk D2 D2'';go_wp2_with fail
      refine(uq D2').mono ?_;rintro e w1 ⟨rfl,hk⟩;obtain⟨o2,k2,rfl⟩:=hk.ext;clear hk;go_wp2_with fail
      refine(uq HM _).mono ?_;rintro e w1 ⟨rfl,hk⟩;obtain⟨o3,k3,rfl⟩:=hk.ext;clear hk;go_wp2_with fail
      exact bodyPost_ret (v:= .tuple #[.agg #[.int .i64 X,.int .i64 Y],.int .i64 Z]) (by simp[results,Tryz.results90,go_sem]) rfl ⟨rfl,by repeat(first|apply zaa|apply Keep.alloc|apply Keep.drew|(refine zcr _ _ _ (by omega) ?_)|exact Keep.refl _)⟩
     ·rw[Bool.true_and]at HM;obtain⟨bb,hbb⟩:∃ bb,bb=(x !=0):=⟨_,rfl⟩;rw[← hbb]at HM;have hbx:(x !=0)=bb:=hbb.symm;clear hbb;have HK':=uq HK;obtain⟨o0,k0,rfl⟩:=HK'.ext;clear HK';go_wp2_with fail
      refine(uq O).mono ?_;rintro e wr' ⟨rfl,rfl⟩;go_wp2_with fail
      refine(uq D1).mono ?_;rintro e w1 ⟨rfl,hk⟩;have D2'':=uq D2 _ hk;obtain⟨o1,k1,rfl⟩:=hk.ext;rw[zd7]at D2'';have D2':=hide D2'';clear hk D2 D2'';go_wp2_with fail
      refine(uq D2').mono ?_;rintro e w1 ⟨rfl,hk⟩;obtain⟨o2,k2,rfl⟩:=hk.ext;clear hk;go_wp2_with fail
      refine(uq HM _).mono ?_;rintro e w1 ⟨rfl,hk⟩;obtain⟨o3,k3,rfl⟩:=hk.ext;clear hk;go_wp2_with fail
      exact bodyPost_ret (v:= .tuple #[.agg #[.int .i64 X,.int .i64 Y],.int .i64 Z]) (by simp[results,Tryz.results90,go_sem]) rfl ⟨rfl,by repeat(first|apply zaa|apply Keep.alloc|apply Keep.drew|(refine zcr _ _ _ (by omega) ?_)|exact Keep.refl _)⟩
    ·obtain⟨q1,q2,q3⟩:=zfT HL (zjr (b:=b) hn0 hd1 (uq HG) (.inr f2));subst q1 q2 q3;rw[if_pos f1,decide_eq_true f1]at D1;rw[if_neg f2,decide_eq_false f2]at D2;obtain⟨x,hx⟩:∃ x,x=val N / g:=⟨_,rfl⟩;rw[← hx]at D1;clear hx HL f1 f2;have HK':=uq HK;obtain⟨o0,k0,rfl⟩:=HK'.ext;clear HK';go_wp2_with fail
     refine(uq O).mono ?_;rintro e wr' ⟨rfl,rfl⟩;go_wp2_with fail
     refine(uq D1).mono ?_;rintro e w1 ⟨rfl,hk⟩;have D2'':=uq D2 _ hk;obtain⟨o1,k1,rfl⟩:=hk.ext;rw[zd7]at D2'';have D2':=hide D2'';clear hk D2 D2'';go_wp2_with fail
     refine(uq D2').mono ?_;rintro e w1 ⟨rfl,hk⟩;obtain⟨o2,k2,rfl⟩:=hk.ext;clear hk;go_wp2_with fail
     exact bodyPost_ret (v:= .tuple #[.agg #[.int .i64 0,.int .i64 0],.int .i64 2]) (by simp[results,Tryz.results90,go_sem]) rfl ⟨rfl,by repeat(first|apply zaa|apply Keep.alloc|apply Keep.drew|(refine zcr _ _ _ (by omega) ?_)|exact Keep.refl _)⟩
   ·obtain⟨q1,q2,q3⟩:=zfT HL (zjr (b:=b) hn0 hd1 (uq HG) (.inl f1));subst q1 q2 q3;rw[if_neg f1,decide_eq_false f1]at D1;obtain⟨y,hy⟩:∃ y,y=(if val D / g<18446744073709551616 then val D / g else 0):=⟨_,rfl⟩;obtain⟨yb,hyb⟩:∃ yb,yb=decide (val D / g<18446744073709551616):=⟨_,rfl⟩;rw[← hy,← hyb]at D2;clear hy hyb HL f1;have HK':=uq HK;obtain⟨o0,k0,rfl⟩:=HK'.ext;clear HK';go_wp2_with fail
    refine(uq O).mono ?_;rintro e wr' ⟨rfl,rfl⟩;go_wp2_with fail
    refine(uq D1).mono ?_;rintro e w1 ⟨rfl,hk⟩;have D2'':=uq D2 _ hk;obtain⟨o1,k1,rfl⟩:=hk.ext;rw[zd7]at D2'';have D2':=hide D2'';clear hk D2 D2'';go_wp2_with fail
    refine(uq D2').mono ?_;rintro e w1 ⟨rfl,hk⟩;obtain⟨o2,k2,rfl⟩:=hk.ext;clear hk;go_wp2_with fail
    exact bodyPost_ret (v:= .tuple #[.agg #[.int .i64 0,.int .i64 0],.int .i64 2]) (by simp[results,Tryz.results90,go_sem]) rfl ⟨rfl,by repeat(first|apply zaa|apply Keep.alloc|apply Keep.drew|(refine zcr _ _ _ (by omega) ?_)|exact Keep.refl _)⟩
  ·have hcm:¬cm (val E) 0=0:=by
    have h1:¬val E<0:=by omega
    simp[cm,hz,h1]
   generalize cm (val E) 0=cv at *;have hcb:(cv==0)=false:=by simpa using hcm
   have hcb2:(cv !=0)=true:=by simpa using hcm
   have R:=hide (zkK u8 u9 C E wr sc se dc de hc he (by omega));have HSE:=hide se;have hms:=zdD se;have HMS:=hide hms;clear sc hcm hms se;go_wp2_with fail
   refine(uq O).mono ?_;rintro e wr ⟨rfl,rfl⟩;go_wp2_with fail
   refine(uq R).mono ?_;rintro e w2 ⟨v2,l2,rfl,s2,d2,⟨q0,q1⟩,k2⟩;have Hg2:Hid (g=(Int.gcd (val E) (val l2):Int)):=by
    rw[q1,zkP _ _ hc0 he0];exact Hg
   have hlt:val l2<val E:=by rw[q1];exact Int.emod_lt_of_pos _ (by omega)
   have HLT:=hide hlt;have hms2:=hide (zdD s2);have HK2:=hide (Keep.trans hk k2);have HSE2:=hide ((uq HSE).keep k2);have S2:=hide s2;have hl20:=(zbh d2).1;clear q1 hlt s2 k2 hk HSE;go_wp2;go_roundw
   case rel=>exact⟨E,l2,uq HSE2,uq S2,de,d2,he,by omega,Hg2,uq HK2⟩
   case measure=>
    have h1:=uq HMS;have h2:=uq hms2;have h3:=uq HLT;simp[h1,h2];omega
def ze1 (n d n2 d2:Int):Bool:=decide (n.natAbs<1073741824∧n2.natAbs<1073741824∧d<1073741824∧d2<1073741824)
set_option maxHeartbeats 400000 in
theorem zru (n d n2 d2 u u2:Int) (w:World) (h:¬u<1073741824) (Sz:Int→Int→Prop) (S1:Sz n u) (S2:Sz n2 u2)
  (T1:Hid (∀(n x:Int),Sz n x→∀ w,Calls Tryz.prog 89 #[.int .i64 n] w fun e w'=>e= .returned (.int .u64 x)∧w'=w)):
  Calls Tryz.prog 86 #[.agg #[.int .i64 n,.int .i64 d],.agg #[.int .i64 n2,.int .i64 d2]] w fun e w'=>e= .returned (.bool false)∧Keep w w':=by
 go_enter Tryz.func86,Tryz.ntmps86;go_wp2_with fail
 refine((uq T1) _ _ S1 _).mono ?_;rintro e w2 ⟨rfl,rfl⟩;go_wp2;go_ret;exact⟨rfl,by repeat(first|apply zaa|apply Keep.alloc|apply Keep.drew|exact Keep.refl _)⟩
set_option maxHeartbeats 400000 in
theorem zrv (n d n2 d2 u u2:Int) (w:World) (h1:u<1073741824) (h:¬u2<1073741824) (Sz:Int→Int→Prop) (S1:Sz n u) (S2:Sz n2 u2)
  (T1:Hid (∀(n x:Int),Sz n x→∀ w,Calls Tryz.prog 89 #[.int .i64 n] w fun e w'=>e= .returned (.int .u64 x)∧w'=w)):
  Calls Tryz.prog 86 #[.agg #[.int .i64 n,.int .i64 d],.agg #[.int .i64 n2,.int .i64 d2]] w fun e w'=>e= .returned (.bool false)∧Keep w w':=by
 go_enter Tryz.func86,Tryz.ntmps86;go_wp2_with fail
 refine((uq T1) _ _ S1 _).mono ?_;rintro e w2 ⟨rfl,rfl⟩;go_wp2_with fail
 refine((uq T1) _ _ S2 _).mono ?_;rintro e w2 ⟨rfl,rfl⟩;go_wp2;go_ret;exact⟨rfl,by repeat(first|apply zaa|apply Keep.alloc|apply Keep.drew|exact Keep.refl _)⟩
set_option maxHeartbeats 400000 in
theorem zrw (n d n2 d2 u u2:Int) (w:World) (h1:u<1073741824) (h2:u2<1073741824) (h:¬d<1073741824) (Sz:Int→Int→Prop) (S1:Sz n u) (S2:Sz n2 u2)
  (T1:Hid (∀(n x:Int),Sz n x→∀ w,Calls Tryz.prog 89 #[.int .i64 n] w fun e w'=>e= .returned (.int .u64 x)∧w'=w)):
  Calls Tryz.prog 86 #[.agg #[.int .i64 n,.int .i64 d],.agg #[.int .i64 n2,.int .i64 d2]] w fun e w'=>e= .returned (.bool false)∧Keep w w':=by
 go_enter Tryz.func86,Tryz.ntmps86;go_wp2_with fail
 refine((uq T1) _ _ S1 _).mono ?_;rintro e w2 ⟨rfl,rfl⟩;go_wp2_with fail
 refine((uq T1) _ _ S2 _).mono ?_;rintro e w2 ⟨rfl,rfl⟩;go_wp2;go_ret;exact⟨rfl,by repeat(first|apply zaa|apply Keep.alloc|apply Keep.drew|exact Keep.refl _)⟩
set_option maxHeartbeats 400000 in
theorem zrx (n d n2 d2 u u2:Int) (w:World) (h1:u<1073741824) (h2:u2<1073741824) (h3:d<1073741824) (h:¬d2<1073741824) (Sz:Int→Int→Prop) (S1:Sz n u) (S2:Sz n2 u2)
  (T1:Hid (∀(n x:Int),Sz n x→∀ w,Calls Tryz.prog 89 #[.int .i64 n] w fun e w'=>e= .returned (.int .u64 x)∧w'=w)):
  Calls Tryz.prog 86 #[.agg #[.int .i64 n,.int .i64 d],.agg #[.int .i64 n2,.int .i64 d2]] w fun e w'=>e= .returned (.bool false)∧Keep w w':=by
 have hb:decide (d2<1073741824)=false:=by simpa using h
 go_enter Tryz.func86,Tryz.ntmps86;go_wp2_with fail
 refine((uq T1) _ _ S1 _).mono ?_;rintro e w2 ⟨rfl,rfl⟩;go_wp2_with fail
 refine((uq T1) _ _ S2 _).mono ?_;rintro e w2 ⟨rfl,rfl⟩;go_wp2;go_ret;exact⟨rfl,by repeat(first|apply zaa|apply Keep.alloc|apply Keep.drew|exact Keep.refl _)⟩
set_option maxHeartbeats 400000 in
theorem zry (n d n2 d2 u u2:Int) (w:World) (h1:u<1073741824) (h2:u2<1073741824) (h3:d<1073741824) (h:d2<1073741824) (Sz:Int→Int→Prop) (S1:Sz n u) (S2:Sz n2 u2)
  (T1:Hid (∀(n x:Int),Sz n x→∀ w,Calls Tryz.prog 89 #[.int .i64 n] w fun e w'=>e= .returned (.int .u64 x)∧w'=w)):
  Calls Tryz.prog 86 #[.agg #[.int .i64 n,.int .i64 d],.agg #[.int .i64 n2,.int .i64 d2]] w fun e w'=>e= .returned (.bool true)∧Keep w w':=by
 go_enter Tryz.func86,Tryz.ntmps86;go_wp2_with fail
 refine((uq T1) _ _ S1 _).mono ?_;rintro e w2 ⟨rfl,rfl⟩;go_wp2_with fail
 refine((uq T1) _ _ S2 _).mono ?_;rintro e w2 ⟨rfl,rfl⟩;go_wp2;go_ret;exact⟨rfl,by repeat(first|apply zaa|apply Keep.alloc|apply Keep.drew|exact Keep.refl _)⟩
theorem few_any (n d n2 d2:Int) (w:World) (h1: -9223372036854775808≤n) (h2:n≤9223372036854775807) (k1: -9223372036854775808≤n2) (k2:n2≤9223372036854775807):
  Calls Tryz.prog 86 #[.agg #[.int .i64 n,.int .i64 d],.agg #[.int .i64 n2,.int .i64 d2]] w fun e w'=>e= .returned (.bool (ze1 n d n2 d2))∧Keep w w':=by
 have A:=fun w=>zaZ n w h1 h2
 have B:=fun w=>zaZ n2 w k1 k2
 by_cases a1:(n.natAbs:Int)<1073741824
 ·by_cases a2:(n2.natAbs:Int)<1073741824
  ·by_cases a3:d<1073741824
   ·by_cases a4:d2<1073741824
    ·rw[show ze1 n d n2 d2=true by simp only[ze1,decide_eq_true_eq];omega];exact zry n d n2 d2 _ _ w a1 a2 a3 a4 (fun n x=>∀ w,Calls Tryz.prog 89 #[.int .i64 n] w fun e w'=>e= .returned (.int .u64 x)∧w'=w) A B (hide fun n x h=>h)
    ·rw[show ze1 n d n2 d2=false by simp only[ze1,decide_eq_false_iff_not];omega];exact zrx n d n2 d2 _ _ w a1 a2 a3 a4 (fun n x=>∀ w,Calls Tryz.prog 89 #[.int .i64 n] w fun e w'=>e= .returned (.int .u64 x)∧w'=w) A B (hide fun n x h=>h)
   ·rw[show ze1 n d n2 d2=false by simp only[ze1,decide_eq_false_iff_not];omega];exact zrw n d n2 d2 _ _ w a1 a2 a3 (fun n x=>∀ w,Calls Tryz.prog 89 #[.int .i64 n] w fun e w'=>e= .returned (.int .u64 x)∧w'=w) A B (hide fun n x h=>h)
  ·rw[show ze1 n d n2 d2=false by simp only[ze1,decide_eq_false_iff_not];omega];exact zrv n d n2 d2 _ _ w a1 a2 (fun n x=>∀ w,Calls Tryz.prog 89 #[.int .i64 n] w fun e w'=>e= .returned (.int .u64 x)∧w'=w) A B (hide fun n x h=>h)
 ·rw[show ze1 n d n2 d2=false by simp only[ze1,decide_eq_false_iff_not];omega];exact zru n d n2 d2 _ _ w a1 (fun n x=>∀ w,Calls Tryz.prog 89 #[.int .i64 n] w fun e w'=>e= .returned (.int .u64 x)∧w'=w) A B (hide fun n x h=>h)
def Fa (w wc:World) (x y x2 y2:Int):Prop:=
 Keep w wc∧w.heap.size+1+1<wc.heap.size
 ∧wc.cell? ⟨w.heap.size,0,none⟩=some (.int .i64 x)∧wc.cell? ⟨w.heap.size,1,none⟩=some (.int .i64 y)∧wc.cell? ⟨w.heap.size+1,0,none⟩=some (.int .i64 x2)∧wc.cell? ⟨w.heap.size+1,1,none⟩=some (.int .i64 y2)
 ∧wc.cell? ⟨w.heap.size+1+1,0,none⟩=some (.int .i64 0)∧wc.cell? ⟨w.heap.size+1+1,1,none⟩=some (.int .i64 0)
 ∧wc.frozen? ⟨w.heap.size+1+1,0,none⟩=false∧wc.frozen? ⟨w.heap.size+1+1,1,none⟩=false
theorem Fa.keep {w wc w':World} {x y x2 y2:Int} (h:Fa w wc x y x2 y2) (hk:Keep wc w'):Fa w w' x y x2 y2:=by
 obtain⟨h1,h2,h3,h4,h5,h6,h7,h8,h9,h10⟩:=h;have hs:=Below.size hk;refine⟨h1.trans hk,by omega,?_,?_,?_,?_,?_,?_,?_,?_⟩
 ·rw[Below.cell (p:=⟨w.heap.size,0,none⟩) hk (by simp;omega)];exact h3
 ·rw[Below.cell (p:=⟨w.heap.size,1,none⟩) hk (by simp;omega)];exact h4
 ·rw[Below.cell (p:=⟨w.heap.size+1,0,none⟩) hk (by simp;omega)];exact h5
 ·rw[Below.cell (p:=⟨w.heap.size+1,1,none⟩) hk (by simp;omega)];exact h6
 ·rw[Below.cell (p:=⟨w.heap.size+1+1,0,none⟩) hk (by simp;omega)];exact h7
 ·rw[Below.cell (p:=⟨w.heap.size+1+1,1,none⟩) hk (by simp;omega)];exact h8
 ·rw[Below.frozen (p:=⟨w.heap.size+1+1,0,none⟩) hk (by simp;omega)];exact h9
 ·rw[Below.frozen (p:=⟨w.heap.size+1+1,1,none⟩) hk (by simp;omega)];exact h10
theorem Fa.cells {w wc:World} {x y x2 y2:Int} (h:Fa w wc x y x2 y2):wc.cell? ⟨w.heap.size,0,none⟩=some (.int .i64 x)∧wc.cell? ⟨w.heap.size,1,none⟩=some (.int .i64 y)∧wc.cell? ⟨w.heap.size+1,0,none⟩=some (.int .i64 x2)∧wc.cell? ⟨w.heap.size+1,1,none⟩=some (.int .i64 y2):=
 ⟨h.2.2.1,h.2.2.2.1,h.2.2.2.2.1,h.2.2.2.2.2.1⟩
theorem Fa.drew {w wc:World} {x y x2 y2:Int} (h:Fa w wc x y x2 y2):Fa w wc.drew x y x2 y2:=h.keep ((Keep.refl _).drew)
theorem zgK (w:World) (os:Array Obj) (k:Nat) (T:TypeId) (x y x2 y2:Int):
  Fa w (ext (((w.alloc (.cells #[.int .i64 x,.int .i64 y] T)).alloc (.cells #[.int .i64 x2,.int .i64 y2] T)).alloc (.cells #[.int .i64 0,.int .i64 0] T)) os k) x y x2 y2:=by
 refine⟨by repeat(first|apply zaa|apply Keep.alloc|exact Keep.refl _),by simp;omega,?_,?_,?_,?_,?_,?_,?_,?_⟩<;>simp[go_sem]
end Go.Proofs.YtcdhdhbjnpndkaaGreat
