/- The document's answer for layer 6: names, numbers, fractions, rows of names. -/
import Derived.Test.YtfepanidippjlaaGreatDoorSNum
import Derived.Test.YtfepanidippjlaaGreatDoorSFew
import Derived.Test.YtfepanidippjlaaGreatDoorLRRight
import Derived.Test.YtfepanidippjlaaGreatDoorQOne
namespace Go.Proofs.YtfepanidippjlaaGreatDoor
open Go.RowKit
attribute [local go_sem ↓] Go.wp_at_zero Go.wp_at_succ
set_option linter.unusedVariables false
set_option linter.unusedSimpArgs false
set_option maxRecDepth 10000
namespace S
theorem zgS (t:Tok) (w:World):Calls Tryz.prog 59 #[tv t] w fun e w'=>e= .returned (.bool (rg t))∧Keep w w':=by
 by_cases hl:t.s.length≤70000
 ·exact zge t w hl
 ·have e:T t.s= .error (4,65536):=by unfold T;rw[if_pos (by omega)]
  rw[zgd (fun x y h=>by rw[e]at h;cases h)];refine zfN _ _ _ 4 65536 0 _ w (by simp) (hide fun w' v h=>?_);have:=zhN v t.s w' h;rw[e]at this;refine this.mono ?_;rintro _ w'' ⟨u,rfl,h1,_,h3⟩;obtain⟨b,cap,rfl⟩:=h1.shape;exact⟨b,cap,rfl,h3⟩
set_option maxHeartbeats 2000000 in
theorem zgT (s:ByteArray) (x y:Bool) (w:World)
  (T1:Hid (Calls Tryz.prog 59 #[.agg #[.int .i64 1,.string s,.int .i64 0,.int .i64 0]] w fun e w'=>e= .returned (.bool x)∧Keep w w'))
  (T2:Hid (∀ w',Calls Tryz.prog 60 #[.string s] w' fun e w''=>e= .returned (.bool y)∧Keep w' w'')):
  Calls Tryz.prog 30 #[.string s] w fun e w'=>e= .returned (.bool (x&& !y))∧Keep w w':=by
 cases x with
 |false=>
  go_enter Tryz.func30,Tryz.ntmps30;go_wp2_with fail
  (refine(uq T1).mono ?_;rintro e w2 ⟨rfl,hk⟩;have HK:=hide hk;clear hk);go_wp2_with fail
  go_ret;exact⟨rfl,uq HK⟩
 |true=>
  go_enter Tryz.func30,Tryz.ntmps30;go_wp2_with fail
  (refine(uq T1).mono ?_;rintro e w2 ⟨rfl,hk⟩;have HK:=hide hk;clear hk);go_wp2_with fail
  (refine((uq T2) _).mono ?_;rintro e w3 ⟨rfl,hk⟩;have HK3:=hide ((uq HK).trans hk);clear hk);go_wp2_with fail
  go_ret;refine⟨?_,uq HK3⟩;cases y<;>rfl
theorem ze6 (s:ByteArray) (w:World):Calls Tryz.prog 30 #[.string s] w fun e w'=>e= .returned (.bool (nmB s.data.toList))∧Keep w w':=by
 refine zgT s (rg ⟨1,s.data.toList,0,0⟩) (decide (s.data.toList∈words)) w (hide ?_) (hide fun w'=>?_)
 ·have:=zgS ⟨1,s.data.toList,0,0⟩ w;simp only[tv,zhp]at this;exact this
 ·have:=zdu s w';rwa[show s.toList=s.data.toList from by have h9:=zgc s.data.toList;rwa[zhp]at h9]at this
set_option maxHeartbeats 2000000 in
theorem zeF (n:Int) (w:World):Calls Tryz.prog 27 #[.int .i64 n] w fun e w'=>e= .returned (.bool (nuB n))∧w'=w:=by
 by_cases h1:0≤n
 ·by_cases h2:n≤999999999999999999
  ·rw[show nuB n=true by unfold nuB;rw[decide_eq_true ⟨h1,h2⟩]];go_enter Tryz.func27,Tryz.ntmps27;go_wp2_with fail
   go_ret;exact⟨rfl,rfl⟩
  ·rw[show nuB n=false by unfold nuB;rw[decide_eq_false (fun x=>h2 x.2)]];go_enter Tryz.func27,Tryz.ntmps27;go_wp2_with fail
   go_ret;exact⟨rfl,rfl⟩
 ·rw[show nuB n=false by unfold nuB;rw[decide_eq_false (fun x=>h1 x.1)]];go_enter Tryz.func27,Tryz.ntmps27;go_wp2_with fail
  go_ret;exact⟨rfl,rfl⟩
set_option maxHeartbeats 2000000 in
theorem ziK (a b:Int) (x y:Bool) (w:World) (TN:Hid (∀ w',Calls Tryz.prog 27 #[.int .i64 a] w' fun e w''=>e= .returned (.bool x)∧w''=w'))
  (TM:Hid (∀ w',Calls Tryz.prog 27 #[.int .i64 b] w' fun e w''=>e= .returned (.bool y)∧w''=w')):
  Calls Tryz.prog 28 #[.agg #[.int .i64 a,.int .i64 b]] w fun e w'=>e= .returned (.bool (x&&y))∧Keep w w':=by
 go_enter Tryz.func28,Tryz.ntmps28;go_wp2_with fail
 (refine((uq TN) _).mono ?_;rintro e w2 ⟨rfl,rfl⟩);cases x
 ·go_wp2_with fail
  go_ret;exact⟨rfl,(Keep.refl w).alloc _⟩
 ·go_wp2_with fail
  (refine((uq TM) _).mono ?_;rintro e w2 ⟨rfl,rfl⟩);go_wp2_with fail
  go_ret;refine⟨?_,(Keep.refl w).alloc _⟩;cases y<;>rfl
set_option maxHeartbeats 4000000 in
theorem zfB (a:Option Addr) (n cap most:Nat) (X:Nat→ByteArray) (B:Nat→Bool) (r:Bool) (w:World) (hm:most≤100)
  (HC:Hid (∀ k,k<n→∃ ad,a=some ad∧w.cell? (ad.add k)=some (.string (X k))))
  (TN:Hid (∀ k,k<n→∀ w',Calls Tryz.prog 30 #[.string (X k)] w' fun e w''=>e= .returned (.bool (B k))∧Keep w' w''))
  (HL:Hid (¬(1≤n∧n≤most)→r=false)) (HB:Hid (∀ k,k<n→B k=false→r=false)) (HY:Hid ((1≤n∧n≤most)→(∀ k,k<n→B k=true)→r=true)):
  Calls Tryz.prog 58 #[.slice a n cap,.int .i64 (most:Int)] w fun e w'=>e= .returned (.bool r)∧Keep w w':=by
 by_cases h1:n<1
 ·have g1:(n:Int)<1:=by omega
  obtain rfl:n=0:=by omega
  rw[(uq HL) (by omega)];go_enter Tryz.func58,Tryz.ntmps58;go_wp2_with fail
  go_ret;exact⟨rfl,Keep.refl _⟩
 by_cases h2:most<n
 ·have g1:¬(n:Int)<1:=by omega
  have g2:(most:Int)<(n:Int):=by omega
  rw[(uq HL) (by omega)];go_enter Tryz.func58,Tryz.ntmps58;go_wp2_with fail
  go_ret;exact⟨rfl,Keep.refl _⟩
 have g1:¬(n:Int)<1:=by omega
 have g2:¬(most:Int)<(n:Int):=by omega
 have HNM:Hid (1≤n∧n≤most):=hide (by omega);clear h1 h2;go_enter Tryz.func58,Tryz.ntmps58;go_wp2_with fail
 clear g1 g2
 go_loopw [5] (fun vi wr=>∃ k:Nat,k≤n∧vi= .int .i64 (k:Int)∧Hid (Keep w wr)∧Hid (∀ j,j<k→B j=true)) (fun vi _=>n - (intOf vi).toNat)
 case atStart=>exact⟨0,Nat.zero_le _,rfl,hide (Keep.refl _),hide (fun j hj=>by omega)⟩
 case round=>
  obtain⟨k,hk,rfl,HK,HA⟩:=hrel;by_cases hlt:k<n
  ·have li:(k:Int)<(n:Int):=by omega
   have hk9:k≤100:=by have:=uq HNM;omega
   have HT:=hide ((uq TN) k hlt);have HBk:=hide ((uq HB) k hlt);obtain⟨ad,rfl,e0⟩:=(uq HC) k hlt;have x0:=Q.kcell (uq HK) e0;clear e0;generalize X k=Xk at x0 HT;obtain⟨b,hb⟩:∃ b,Hid (B k=b):=⟨_,hide rfl⟩;rw[uq hb]at HT HBk;go_wp2_with fail
   (refine((uq HT) _).mono ?_;rintro e w2 ⟨rfl,hk2⟩;have HK2:=hide ((uq HK).trans hk2);clear hk2);cases b
   ·have HR:=hide ((uq HBk) rfl);clear HBk;go_wp2_with fail
    go_ret;exact⟨by rw[uq HR];rfl,uq HK2⟩
   ·go_wp2_with fail
    go_roundw
    case rel=>exact⟨k+1,hlt,by go_num,HK2,hide (fun j hj=>by rcases Nat.lt_succ_iff_lt_or_eq.1 hj with h|rfl;exact(uq HA) j h;exact uq hb)⟩
    case measure=>simp[intOf];omega
  ·have li:¬(k:Int)<(n:Int):=by omega
   have e:k=n:=by omega
   subst e;go_wp2_with fail
   go_ret;exact⟨by rw[(uq HY) (uq HNM) (uq HA)];rfl,uq HK⟩
theorem zej {w:World} {a:Option Addr} {L:List (List D)} {cap most:Nat} (hm:most≤100) (hL:∀ ds∈L,ShL zbK ds) (HA:Rvss w a 1 L 0):
  Calls Tryz.prog 58 #[.slice a L.length cap,.int .i64 (most:Int)] w fun e w'=>e= .returned (.bool (zbb 1 most zc1 L))∧Keep w w':=by
 refine zfB a L.length cap most (fun k=>sv (tS (gt (L.getD k []) 0))) (fun k=>zc1 (L.getD k [])) _ w hm (hide fun k hk=>?_) (hide fun k hk w'=>?_) (hide fun h=>za4 h) (hide fun k hk h=>zan hk h) (hide fun h1 h2=>zaR h1 h2)
 ·obtain⟨ad,us,rfl,hb,h1,h2,h3⟩:=zaL L 0 HA k hk;have hs:=hL (L.getD k []) (zaV hk);show ∃ ad',some ad=some ad'∧w.cell? (ad'.add k)=some (.string (sv (tS (gt (L.getD k []) 0))));generalize L.getD k []=ds at h1 hs ⊢;simp only[ShL,Sh1,zbK]at hs;obtain⟨_,_,rfl,⟨s0,rfl,_⟩,rfl⟩:=hs;simp only[Rvs,Rv,dS,dI,dB]at h1;obtain⟨_,_,rfl,rfl,rfl⟩:=h1;rw[Nat.zero_add,Nat.mul_one]at h3;exact⟨ad,rfl,h3 0 _ rfl⟩
 ·exact ze6 _ w'
end S
end Go.Proofs.YtfepanidippjlaaGreatDoor
