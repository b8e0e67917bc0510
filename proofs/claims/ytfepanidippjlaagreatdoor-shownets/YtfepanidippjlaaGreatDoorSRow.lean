/- Package show: rows of right things. -/
import Derived.Test.YtfepanidippjlaaGreatDoorSNum
namespace Go.Proofs.YtfepanidippjlaaGreatDoor
open Go.RowKit
attribute [local go_sem ↓] Go.wp_at_zero Go.wp_at_succ
set_option linter.unusedVariables false
set_option linter.unusedSimpArgs false
set_option maxRecDepth 10000
namespace S
def Ent (fn:FuncId):Prop:=∀(xs:Array Value) (w:World),(callFunc fn xs).run Tryz.prog w= .ok (.enter fn xs) w
def adO (a:Option Addr):Addr:=a.getD ⟨0,0,none⟩
set_option maxHeartbeats 2000000 in
theorem zjn (a:Option Addr) (n cap lo hi:Nat) (f:FuncId) (w:World) (h:¬(lo≤n∧n≤hi)):Calls Tryz.prog 56 #[.slice a n cap,.int .i64 (lo:Int),.int .i64 (hi:Int),.func (.func f) #[] #[]] w fun e w'=>e= .returned (.bool false)∧w'=w:=by
 by_cases h1:n<lo
 ·have l1:(n:Int)<(lo:Int):=by omega
  go_enter Tryz.func56,Tryz.ntmps56;go_wp2_with fail
  go_ret;exact⟨rfl,rfl⟩
 ·have l1:¬(n:Int)<(lo:Int):=by omega
  have l2:(hi:Int)<(n:Int):=by omega
  go_enter Tryz.func56,Tryz.ntmps56;go_wp2_with fail
  go_ret;exact⟨rfl,rfl⟩
set_option maxHeartbeats 4000000 in
theorem zp8 (a:Option Addr) (n cap lo hi:Nat) (f:FuncId) (S0:Nat→ByteArray) (S1:Nat→ByteArray) (V2:Nat→Int) (B:Nat→Bool) (r:Bool) (w:World) (hlo:lo≤n) (hhi:n≤hi) (hh:hi≤100) (he:Ent f)
  (HC:Hid (∀ k,k<n→∃ ad,a=some ad∧w.cell? (ad.add (k * 3))=some (.string (S0 k))∧w.cell? ⟨(ad.add (k * 3)).block,(ad.add (k * 3)).off+1,none⟩=some (.string (S1 k))∧w.cell? ⟨(ad.add (k * 3)).block,(ad.add (k * 3)).off+2,none⟩=some (.int .i64 (V2 k))))
  (T1:Hid (∀ k,k<n→∀ w',Keep w w'→Calls Tryz.prog f #[.agg #[.string (S0 k),.string (S1 k),.int .i64 (V2 k)]] w' fun e w''=>e= .returned (.bool (B k))∧Keep w' w''))
  (H1:Hid (∀ k,k<n→B k=false→r=false)) (H2:Hid ((∀ k,k<n→B k=true)→r=true)):
  Calls Tryz.prog 56 #[.slice a n cap,.int .i64 (lo:Int),.int .i64 (hi:Int),.func (.func f) #[] #[]] w fun e w'=>e= .returned (.bool r)∧Keep w w':=by
 have l1:¬(n:Int)<(lo:Int):=by omega
 have l2:¬(hi:Int)<(n:Int):=by omega
 have hn:n≤100:=by omega
 clear hlo hhi hh;have he2:∀(xs:Array Value) (w:World),(callFunc f xs).run Tryz.prog w= .ok (.enter f xs) w:=he;clear he;go_enter Tryz.func56,Tryz.ntmps56;go_wp2_with fail
 go_loopw [23] (fun vi wr=>∃ k:Nat,k≤n∧vi= .int .i64 (k:Int)∧Hid (∀ j,j<k→B j=true)∧Hid (Keep w wr)) (fun vi wr=>n - (intOf vi).toNat)
 case atStart=>exact⟨0,Nat.zero_le _,rfl,hide fun j hj=>by omega,hide (Keep.refl w)⟩
 case round=>
  obtain⟨k,hk,rfl,HN,HK⟩:=hrel;by_cases hlt:k<n
  ·have li:(k:Int)<(n:Int):=by omega
   obtain⟨ad,ea,c0,c1,c2⟩:=(uq HC) k hlt;subst ea;replace c0:=Q.kcell (uq HK) c0;replace c1:=Q.kcell (uq HK) c1;replace c2:=Q.kcell (uq HK) c2;have HT:=hide ((uq T1) k hlt);have HQ:=hide ((uq H1) k hlt);obtain⟨b,hb⟩:∃ b,B k=b:=⟨_,rfl⟩;rw[hb]at HT HQ;have HBK:=hide hb;clear hb;generalize S0 k=s0 at c0 HT;generalize S1 k=s1 at c1 HT;generalize V2 k=v2 at c2 HT;go_wp2_with fail
   (refine((uq HT) _ ((uq HK).alloc _)).mono ?_;rintro e w3 ⟨rfl,hk3⟩;have HK3:=hide (Keep.trans ((uq HK).alloc _) hk3);clear hk3);cases b with
   |false=>
    have hr:=(uq HQ) rfl;subst hr;go_wp2_with fail
    go_ret;exact⟨rfl,uq HK3⟩
   |true=>
    go_wp2_with fail
    go_roundw
    case rel=>exact⟨k+1,hlt,by go_num,hide fun j hj=>(Nat.lt_succ_iff_lt_or_eq.1 hj).elim ((uq HN) j) (fun e=>e▸uq HBK),HK3⟩
    case measure=>simp[intOf];omega
  ·have hr:=(uq H2) (fun j hj=>(uq HN) j (by omega));subst hr;go_wp2_with fail
   go_ret;exact⟨rfl,uq HK⟩
theorem zhS {w:World} {L:List (List D)} {a:Option Addr} {cap lo hi:Nat} {f:FuncId} {B:List D→Bool} (hh:hi≤100) (he:Ent f) (hL:∀ ds∈L,ShL zfP ds) (HA:Rvss w a 3 L 0)
  (ET:∀ w' ds us,ShL zfP ds→Rvs w' ds us→Calls Tryz.prog f #[.agg us.toArray] w' fun e w''=>e= .returned (.bool (B ds))∧Keep w' w''):
  Calls Tryz.prog 56 #[.slice a L.length cap,.int .i64 (lo:Int),.int .i64 (hi:Int),.func (.func f) #[] #[]] w fun e w'=>e= .returned (.bool (zbb lo hi B L))∧Keep w w':=by
 by_cases hc:lo≤L.length∧L.length≤hi
 ·have key:∀ k,k<L.length→∃ ad,a=some ad∧(w.cell? (ad.add (k * 3))=some (.string (fS (gt (L.getD k []) 0)))∧w.cell? ⟨(ad.add (k * 3)).block,(ad.add (k * 3)).off+1,none⟩=some (.string (fS (gt (L.getD k []) 1)))∧w.cell? ⟨(ad.add (k * 3)).block,(ad.add (k * 3)).off+2,none⟩=some (.int .i64 (fI (gt (L.getD k []) 2))))∧Rvs w (L.getD k []) [.string (fS (gt (L.getD k []) 0)),.string (fS (gt (L.getD k []) 1)),.int .i64 (fI (gt (L.getD k []) 2))]:=by
   intro k hk
   obtain⟨ad,us,rfl,_,h1,h2,h3⟩:=zaL L 0 HA k hk;have hs:=hL (L.getD k []) (by rw[List.getD_eq_getElem?_getD,List.getElem?_eq_getElem hk];exact List.getElem_mem hk);generalize L.getD k []=ds at h1 hs;simp only[ShL,Sh1,zfP]at hs;obtain⟨_,_,rfl,⟨s0,rfl,_⟩,⟨_,_,rfl,⟨s1,rfl,_⟩,⟨_,_,rfl,⟨v2,rfl,_,_⟩,rfl⟩⟩⟩:=hs;simp only[Rvs,Rv,dS,dI,dB]at h1;obtain⟨_,_,rfl,rfl,⟨_,_,rfl,rfl,⟨_,_,rfl,rfl,rfl⟩⟩⟩:=h1;rw[Nat.zero_add]at h3;have e0:w.cell? (ad.add (k * 3))=_:=h3 0 _ rfl;have e1:w.cell? ⟨(ad.add (k * 3)).block,(ad.add (k * 3)).off+1,none⟩=_:=h3 1 _ rfl;have e2:w.cell? ⟨(ad.add (k * 3)).block,(ad.add (k * 3)).off+2,none⟩=_:=h3 2 _ rfl;refine⟨ad,rfl,⟨e0,e1,e2⟩,?_⟩;simp only[Rvs,Rv,dS,dI,dB];exact⟨_,_,rfl,rfl,⟨_,_,rfl,rfl,⟨_,_,rfl,rfl,rfl⟩⟩⟩
  refine zp8 a L.length cap lo hi f (fun k=>fS (gt (L.getD k []) 0)) (fun k=>fS (gt (L.getD k []) 1)) (fun k=>fI (gt (L.getD k []) 2)) (fun k=>B (L.getD k [])) _ w hc.1 hc.2 hh he (hide fun k hk=>?_) (hide fun k hk w' hk2=>?_) (hide fun k hk h=>zan hk h) (hide fun h=>zaR hc h)
  ·obtain⟨ad,e,h,_⟩:=key k hk;exact⟨ad,e,h⟩
  ·obtain⟨ad,e,_,h⟩:=key k hk;exact ET w' _ _ (hL _ (by rw[List.getD_eq_getElem?_getD,List.getElem?_eq_getElem hk];exact List.getElem_mem hk)) (Rvs.keep hk2 _ _ h)
 ·rw[za4 hc];refine(zjn a L.length cap lo hi f w hc).mono ?_;rintro e w' ⟨rfl,rfl⟩;exact⟨rfl,Keep.refl _⟩
set_option maxHeartbeats 2000000 in
theorem zhT (a:Option Addr) (n cap lo hi:Nat) (f:FuncId) (w:World) (h:¬(lo≤n∧n≤hi)):Calls Tryz.prog 48 #[.slice a n cap,.int .i64 (lo:Int),.int .i64 (hi:Int),.func (.func f) #[] #[]] w fun e w'=>e= .returned (.bool false)∧w'=w:=by
 by_cases h1:n<lo
 ·have l1:(n:Int)<(lo:Int):=by omega
  go_enter Tryz.func48,Tryz.ntmps48;go_wp2_with fail
  go_ret;exact⟨rfl,rfl⟩
 ·have l1:¬(n:Int)<(lo:Int):=by omega
  have l2:(hi:Int)<(n:Int):=by omega
  go_enter Tryz.func48,Tryz.ntmps48;go_wp2_with fail
  go_ret;exact⟨rfl,rfl⟩
set_option maxHeartbeats 4000000 in
theorem zoK (a:Option Addr) (n cap lo hi:Nat) (f:FuncId) (S0:Nat→ByteArray) (V1:Nat→Int) (V2:Nat→Int) (V3:Nat→Int) (V4:Nat→Int) (V5:Nat→Int) (V6:Nat→Int) (V7:Nat→Int) (V8:Nat→Int) (V9:Nat→Int) (V10:Nat→Int) (B:Nat→Bool) (r:Bool) (w:World) (hlo:lo≤n) (hhi:n≤hi) (hh:hi≤100) (he:Ent f)
  (HC:Hid (∀ k,k<n→∃ ad,a=some ad∧w.cell? (ad.add (k * 11))=some (.string (S0 k))∧w.cell? ⟨(ad.add (k * 11)).block,(ad.add (k * 11)).off+1,none⟩=some (.int .i64 (V1 k))∧w.cell? ⟨(ad.add (k * 11)).block,(ad.add (k * 11)).off+2,none⟩=some (.int .i64 (V2 k))∧w.cell? ⟨(ad.add (k * 11)).block,(ad.add (k * 11)).off+3,none⟩=some (.int .i64 (V3 k))∧w.cell? ⟨(ad.add (k * 11)).block,(ad.add (k * 11)).off+4,none⟩=some (.int .i64 (V4 k))∧w.cell? ⟨(ad.add (k * 11)).block,(ad.add (k * 11)).off+5,none⟩=some (.int .i64 (V5 k))∧w.cell? ⟨(ad.add (k * 11)).block,(ad.add (k * 11)).off+6,none⟩=some (.int .i64 (V6 k))∧w.cell? ⟨(ad.add (k * 11)).block,(ad.add (k * 11)).off+7,none⟩=some (.int .i64 (V7 k))∧w.cell? ⟨(ad.add (k * 11)).block,(ad.add (k * 11)).off+8,none⟩=some (.int .i64 (V8 k))∧w.cell? ⟨(ad.add (k * 11)).block,(ad.add (k * 11)).off+9,none⟩=some (.int .i64 (V9 k))∧w.cell? ⟨(ad.add (k * 11)).block,(ad.add (k * 11)).off+10,none⟩=some (.int .i64 (V10 k))))
  (T1:Hid (∀ k,k<n→∀ w',Keep w w'→Calls Tryz.prog f #[.agg #[.string (S0 k),.int .i64 (V1 k),.int .i64 (V2 k),.int .i64 (V3 k),.int .i64 (V4 k),.int .i64 (V5 k),.int .i64 (V6 k),.int .i64 (V7 k),.int .i64 (V8 k),.int .i64 (V9 k),.int .i64 (V10 k)]] w' fun e w''=>e= .returned (.bool (B k))∧Keep w' w''))
  (H1:Hid (∀ k,k<n→B k=false→r=false)) (H2:Hid ((∀ k,k<n→B k=true)→r=true)):
  Calls Tryz.prog 48 #[.slice a n cap,.int .i64 (lo:Int),.int .i64 (hi:Int),.func (.func f) #[] #[]] w fun e w'=>e= .returned (.bool r)∧Keep w w':=by
 have l1:¬(n:Int)<(lo:Int):=by omega
 have l2:¬(hi:Int)<(n:Int):=by omega
 have hn:n≤100:=by omega
 clear hlo hhi hh;have he2:∀(xs:Array Value) (w:World),(callFunc f xs).run Tryz.prog w= .ok (.enter f xs) w:=he;clear he;go_enter Tryz.func48,Tryz.ntmps48;go_wp2_with fail
 go_loopw [23] (fun vi wr=>∃ k:Nat,k≤n∧vi= .int .i64 (k:Int)∧Hid (∀ j,j<k→B j=true)∧Hid (Keep w wr)) (fun vi wr=>n - (intOf vi).toNat)
 case atStart=>exact⟨0,Nat.zero_le _,rfl,hide fun j hj=>by omega,hide (Keep.refl w)⟩
 case round=>
  obtain⟨k,hk,rfl,HN,HK⟩:=hrel;by_cases hlt:k<n
  ·have li:(k:Int)<(n:Int):=by omega
   obtain⟨ad,ea,c0,c1,c2,c3,c4,c5,c6,c7,c8,c9,c10⟩:=(uq HC) k hlt;subst ea;replace c0:=Q.kcell (uq HK) c0;replace c1:=Q.kcell (uq HK) c1;replace c2:=Q.kcell (uq HK) c2;replace c3:=Q.kcell (uq HK) c3;replace c4:=Q.kcell (uq HK) c4;replace c5:=Q.kcell (uq HK) c5;replace c6:=Q.kcell (uq HK) c6;replace c7:=Q.kcell (uq HK) c7;replace c8:=Q.kcell (uq HK) c8;replace c9:=Q.kcell (uq HK) c9;replace c10:=Q.kcell (uq HK) c10;have HT:=hide ((uq T1) k hlt);have HQ:=hide ((uq H1) k hlt);obtain⟨b,hb⟩:∃ b,B k=b:=⟨_,rfl⟩;rw[hb]at HT HQ;have HBK:=hide hb;clear hb;generalize S0 k=s0 at c0 HT;generalize V1 k=v1 at c1 HT;generalize V2 k=v2 at c2 HT;generalize V3 k=v3 at c3 HT;generalize V4 k=v4 at c4 HT;generalize V5 k=v5 at c5 HT;generalize V6 k=v6 at c6 HT;generalize V7 k=v7 at c7 HT;generalize V8 k=v8 at c8 HT;generalize V9 k=v9 at c9 HT;generalize V10 k=v10 at c10 HT;go_wp2_with fail
   (refine((uq HT) _ ((uq HK).alloc _)).mono ?_;rintro e w3 ⟨rfl,hk3⟩;have HK3:=hide (Keep.trans ((uq HK).alloc _) hk3);clear hk3);cases b with
   |false=>
    have hr:=(uq HQ) rfl;subst hr;go_wp2_with fail
    go_ret;exact⟨rfl,uq HK3⟩
   |true=>
    go_wp2_with fail
    go_roundw
    case rel=>exact⟨k+1,hlt,by go_num,hide fun j hj=>(Nat.lt_succ_iff_lt_or_eq.1 hj).elim ((uq HN) j) (fun e=>e▸uq HBK),HK3⟩
    case measure=>simp[intOf];omega
  ·have hr:=(uq H2) (fun j hj=>(uq HN) j (by omega));subst hr;go_wp2_with fail
   go_ret;exact⟨rfl,uq HK⟩
theorem zgk {w:World} {L:List (List D)} {a:Option Addr} {cap lo hi:Nat} {f:FuncId} {B:List D→Bool} (hh:hi≤100) (he:Ent f) (hL:∀ ds∈L,ShL zc2 ds) (HA:Rvss w a 11 L 0)
  (ET:∀ w' ds us,ShL zc2 ds→Rvs w' ds us→Calls Tryz.prog f #[.agg us.toArray] w' fun e w''=>e= .returned (.bool (B ds))∧Keep w' w''):
  Calls Tryz.prog 48 #[.slice a L.length cap,.int .i64 (lo:Int),.int .i64 (hi:Int),.func (.func f) #[] #[]] w fun e w'=>e= .returned (.bool (zbb lo hi B L))∧Keep w w':=by
 by_cases hc:lo≤L.length∧L.length≤hi
 ·have key:∀ k,k<L.length→∃ ad,a=some ad∧(w.cell? (ad.add (k * 11))=some (.string (fS (gt (L.getD k []) 0)))∧w.cell? ⟨(ad.add (k * 11)).block,(ad.add (k * 11)).off+1,none⟩=some (.int .i64 (fI (gt (L.getD k []) 1)))∧w.cell? ⟨(ad.add (k * 11)).block,(ad.add (k * 11)).off+2,none⟩=some (.int .i64 (fI (gt (L.getD k []) 2)))∧w.cell? ⟨(ad.add (k * 11)).block,(ad.add (k * 11)).off+3,none⟩=some (.int .i64 (fI (gt (L.getD k []) 3)))∧w.cell? ⟨(ad.add (k * 11)).block,(ad.add (k * 11)).off+4,none⟩=some (.int .i64 (fI (gt (L.getD k []) 4)))∧w.cell? ⟨(ad.add (k * 11)).block,(ad.add (k * 11)).off+5,none⟩=some (.int .i64 (fI (gt (L.getD k []) 5)))∧w.cell? ⟨(ad.add (k * 11)).block,(ad.add (k * 11)).off+6,none⟩=some (.int .i64 (fI (gt (L.getD k []) 6)))∧w.cell? ⟨(ad.add (k * 11)).block,(ad.add (k * 11)).off+7,none⟩=some (.int .i64 (fI (gt (L.getD k []) 7)))∧w.cell? ⟨(ad.add (k * 11)).block,(ad.add (k * 11)).off+8,none⟩=some (.int .i64 (fI (gt (L.getD k []) 8)))∧w.cell? ⟨(ad.add (k * 11)).block,(ad.add (k * 11)).off+9,none⟩=some (.int .i64 (fI (gt (L.getD k []) 9)))∧w.cell? ⟨(ad.add (k * 11)).block,(ad.add (k * 11)).off+10,none⟩=some (.int .i64 (fI (gt (L.getD k []) 10))))∧Rvs w (L.getD k []) [.string (fS (gt (L.getD k []) 0)),.int .i64 (fI (gt (L.getD k []) 1)),.int .i64 (fI (gt (L.getD k []) 2)),.int .i64 (fI (gt (L.getD k []) 3)),.int .i64 (fI (gt (L.getD k []) 4)),.int .i64 (fI (gt (L.getD k []) 5)),.int .i64 (fI (gt (L.getD k []) 6)),.int .i64 (fI (gt (L.getD k []) 7)),.int .i64 (fI (gt (L.getD k []) 8)),.int .i64 (fI (gt (L.getD k []) 9)),.int .i64 (fI (gt (L.getD k []) 10))]:=by
   intro k hk
   obtain⟨ad,us,rfl,_,h1,h2,h3⟩:=zaL L 0 HA k hk;have hs:=hL (L.getD k []) (by rw[List.getD_eq_getElem?_getD,List.getElem?_eq_getElem hk];exact List.getElem_mem hk);generalize L.getD k []=ds at h1 hs;simp only[ShL,Sh1,zc2]at hs;obtain⟨_,_,rfl,⟨s0,rfl,_⟩,⟨_,_,rfl,⟨v1,rfl,_,_⟩,⟨_,_,rfl,⟨v2,rfl,_,_⟩,⟨_,_,rfl,⟨v3,rfl,_,_⟩,⟨_,_,rfl,⟨v4,rfl,_,_⟩,⟨_,_,rfl,⟨v5,rfl,_,_⟩,⟨_,_,rfl,⟨v6,rfl,_,_⟩,⟨_,_,rfl,⟨v7,rfl,_,_⟩,⟨_,_,rfl,⟨v8,rfl,_,_⟩,⟨_,_,rfl,⟨v9,rfl,_,_⟩,⟨_,_,rfl,⟨v10,rfl,_,_⟩,rfl⟩⟩⟩⟩⟩⟩⟩⟩⟩⟩⟩:=hs;simp only[Rvs,Rv,dS,dI,dB]at h1;obtain⟨_,_,rfl,rfl,⟨_,_,rfl,rfl,⟨_,_,rfl,rfl,⟨_,_,rfl,rfl,⟨_,_,rfl,rfl,⟨_,_,rfl,rfl,⟨_,_,rfl,rfl,⟨_,_,rfl,rfl,⟨_,_,rfl,rfl,⟨_,_,rfl,rfl,⟨_,_,rfl,rfl,rfl⟩⟩⟩⟩⟩⟩⟩⟩⟩⟩⟩:=h1;rw[Nat.zero_add]at h3;have e0:w.cell? (ad.add (k * 11))=_:=h3 0 _ rfl;have e1:w.cell? ⟨(ad.add (k * 11)).block,(ad.add (k * 11)).off+1,none⟩=_:=h3 1 _ rfl;have e2:w.cell? ⟨(ad.add (k * 11)).block,(ad.add (k * 11)).off+2,none⟩=_:=h3 2 _ rfl;have e3:w.cell? ⟨(ad.add (k * 11)).block,(ad.add (k * 11)).off+3,none⟩=_:=h3 3 _ rfl;have e4:w.cell? ⟨(ad.add (k * 11)).block,(ad.add (k * 11)).off+4,none⟩=_:=h3 4 _ rfl;have e5:w.cell? ⟨(ad.add (k * 11)).block,(ad.add (k * 11)).off+5,none⟩=_:=h3 5 _ rfl;have e6:w.cell? ⟨(ad.add (k * 11)).block,(ad.add (k * 11)).off+6,none⟩=_:=h3 6 _ rfl;have e7:w.cell? ⟨(ad.add (k * 11)).block,(ad.add (k * 11)).off+7,none⟩=_:=h3 7 _ rfl;have e8:w.cell? ⟨(ad.add (k * 11)).block,(ad.add (k * 11)).off+8,none⟩=_:=h3 8 _ rfl;have e9:w.cell? ⟨(ad.add (k * 11)).block,(ad.add (k * 11)).off+9,none⟩=_:=h3 9 _ rfl;have e10:w.cell? ⟨(ad.add (k * 11)).block,(ad.add (k * 11)).off+10,none⟩=_:=h3 10 _ rfl;refine⟨ad,rfl,⟨e0,e1,e2,e3,e4,e5,e6,e7,e8,e9,e10⟩,?_⟩;simp only[Rvs,Rv,dS,dI,dB];exact⟨_,_,rfl,rfl,⟨_,_,rfl,rfl,⟨_,_,rfl,rfl,⟨_,_,rfl,rfl,⟨_,_,rfl,rfl,⟨_,_,rfl,rfl,⟨_,_,rfl,rfl,⟨_,_,rfl,rfl,⟨_,_,rfl,rfl,⟨_,_,rfl,rfl,⟨_,_,rfl,rfl,rfl⟩⟩⟩⟩⟩⟩⟩⟩⟩⟩⟩
  refine zoK a L.length cap lo hi f (fun k=>fS (gt (L.getD k []) 0)) (fun k=>fI (gt (L.getD k []) 1)) (fun k=>fI (gt (L.getD k []) 2)) (fun k=>fI (gt (L.getD k []) 3)) (fun k=>fI (gt (L.getD k []) 4)) (fun k=>fI (gt (L.getD k []) 5)) (fun k=>fI (gt (L.getD k []) 6)) (fun k=>fI (gt (L.getD k []) 7)) (fun k=>fI (gt (L.getD k []) 8)) (fun k=>fI (gt (L.getD k []) 9)) (fun k=>fI (gt (L.getD k []) 10)) (fun k=>B (L.getD k [])) _ w hc.1 hc.2 hh he (hide fun k hk=>?_) (hide fun k hk w' hk2=>?_) (hide fun k hk h=>zan hk h) (hide fun h=>zaR hc h)
  ·obtain⟨ad,e,h,_⟩:=key k hk;exact⟨ad,e,h⟩
  ·obtain⟨ad,e,_,h⟩:=key k hk;exact ET w' _ _ (hL _ (by rw[List.getD_eq_getElem?_getD,List.getElem?_eq_getElem hk];exact List.getElem_mem hk)) (Rvs.keep hk2 _ _ h)
 ·rw[za4 hc];refine(zhT a L.length cap lo hi f w hc).mono ?_;rintro e w' ⟨rfl,rfl⟩;exact⟨rfl,Keep.refl _⟩
set_option maxHeartbeats 2000000 in
theorem zjo (a:Option Addr) (n cap lo hi:Nat) (f:FuncId) (w:World) (h:¬(lo≤n∧n≤hi)):Calls Tryz.prog 50 #[.slice a n cap,.int .i64 (lo:Int),.int .i64 (hi:Int),.func (.func f) #[] #[]] w fun e w'=>e= .returned (.bool false)∧w'=w:=by
 by_cases h1:n<lo
 ·have l1:(n:Int)<(lo:Int):=by omega
  go_enter Tryz.func50,Tryz.ntmps50;go_wp2_with fail
  go_ret;exact⟨rfl,rfl⟩
 ·have l1:¬(n:Int)<(lo:Int):=by omega
  have l2:(hi:Int)<(n:Int):=by omega
  go_enter Tryz.func50,Tryz.ntmps50;go_wp2_with fail
  go_ret;exact⟨rfl,rfl⟩
set_option maxHeartbeats 4000000 in
theorem zp9 (a:Option Addr) (n cap lo hi:Nat) (f:FuncId) (S0:Nat→ByteArray) (S1:Nat→ByteArray) (V2:Nat→Int) (V3:Nat→Int) (V4:Nat→Int) (V5:Nat→Int) (B:Nat→Bool) (r:Bool) (w:World) (hlo:lo≤n) (hhi:n≤hi) (hh:hi≤100) (he:Ent f)
  (HC:Hid (∀ k,k<n→∃ ad,a=some ad∧w.cell? (ad.add (k * 6))=some (.string (S0 k))∧w.cell? ⟨(ad.add (k * 6)).block,(ad.add (k * 6)).off+1,none⟩=some (.string (S1 k))∧w.cell? ⟨(ad.add (k * 6)).block,(ad.add (k * 6)).off+2,none⟩=some (.int .i64 (V2 k))∧w.cell? ⟨(ad.add (k * 6)).block,(ad.add (k * 6)).off+3,none⟩=some (.int .i64 (V3 k))∧w.cell? ⟨(ad.add (k * 6)).block,(ad.add (k * 6)).off+4,none⟩=some (.int .i64 (V4 k))∧w.cell? ⟨(ad.add (k * 6)).block,(ad.add (k * 6)).off+5,none⟩=some (.int .i64 (V5 k))))
  (T1:Hid (∀ k,k<n→∀ w',Keep w w'→Calls Tryz.prog f #[.agg #[.string (S0 k),.string (S1 k),.int .i64 (V2 k),.int .i64 (V3 k),.int .i64 (V4 k),.int .i64 (V5 k)]] w' fun e w''=>e= .returned (.bool (B k))∧Keep w' w''))
  (H1:Hid (∀ k,k<n→B k=false→r=false)) (H2:Hid ((∀ k,k<n→B k=true)→r=true)):
  Calls Tryz.prog 50 #[.slice a n cap,.int .i64 (lo:Int),.int .i64 (hi:Int),.func (.func f) #[] #[]] w fun e w'=>e= .returned (.bool r)∧Keep w w':=by
 have l1:¬(n:Int)<(lo:Int):=by omega
 have l2:¬(hi:Int)<(n:Int):=by omega
 have hn:n≤100:=by omega
 clear hlo hhi hh;have he2:∀(xs:Array Value) (w:World),(callFunc f xs).run Tryz.prog w= .ok (.enter f xs) w:=he;clear he;go_enter Tryz.func50,Tryz.ntmps50;go_wp2_with fail
 go_loopw [23] (fun vi wr=>∃ k:Nat,k≤n∧vi= .int .i64 (k:Int)∧Hid (∀ j,j<k→B j=true)∧Hid (Keep w wr)) (fun vi wr=>n - (intOf vi).toNat)
 case atStart=>exact⟨0,Nat.zero_le _,rfl,hide fun j hj=>by omega,hide (Keep.refl w)⟩
 case round=>
  obtain⟨k,hk,rfl,HN,HK⟩:=hrel;by_cases hlt:k<n
  ·have li:(k:Int)<(n:Int):=by omega
   obtain⟨ad,ea,c0,c1,c2,c3,c4,c5⟩:=(uq HC) k hlt;subst ea;replace c0:=Q.kcell (uq HK) c0;replace c1:=Q.kcell (uq HK) c1;replace c2:=Q.kcell (uq HK) c2;replace c3:=Q.kcell (uq HK) c3;replace c4:=Q.kcell (uq HK) c4;replace c5:=Q.kcell (uq HK) c5;have HT:=hide ((uq T1) k hlt);have HQ:=hide ((uq H1) k hlt);obtain⟨b,hb⟩:∃ b,B k=b:=⟨_,rfl⟩;rw[hb]at HT HQ;have HBK:=hide hb;clear hb;generalize S0 k=s0 at c0 HT;generalize S1 k=s1 at c1 HT;generalize V2 k=v2 at c2 HT;generalize V3 k=v3 at c3 HT;generalize V4 k=v4 at c4 HT;generalize V5 k=v5 at c5 HT;go_wp2_with fail
   (refine((uq HT) _ ((uq HK).alloc _)).mono ?_;rintro e w3 ⟨rfl,hk3⟩;have HK3:=hide (Keep.trans ((uq HK).alloc _) hk3);clear hk3);cases b with
   |false=>
    have hr:=(uq HQ) rfl;subst hr;go_wp2_with fail
    go_ret;exact⟨rfl,uq HK3⟩
   |true=>
    go_wp2_with fail
    go_roundw
    case rel=>exact⟨k+1,hlt,by go_num,hide fun j hj=>(Nat.lt_succ_iff_lt_or_eq.1 hj).elim ((uq HN) j) (fun e=>e▸uq HBK),HK3⟩
    case measure=>simp[intOf];omega
  ·have hr:=(uq H2) (fun j hj=>(uq HN) j (by omega));subst hr;go_wp2_with fail
   go_ret;exact⟨rfl,uq HK⟩
theorem zhU {w:World} {L:List (List D)} {a:Option Addr} {cap lo hi:Nat} {f:FuncId} {B:List D→Bool} (hh:hi≤100) (he:Ent f) (hL:∀ ds∈L,ShL zfO ds) (HA:Rvss w a 6 L 0)
  (ET:∀ w' ds us,ShL zfO ds→Rvs w' ds us→Calls Tryz.prog f #[.agg us.toArray] w' fun e w''=>e= .returned (.bool (B ds))∧Keep w' w''):
  Calls Tryz.prog 50 #[.slice a L.length cap,.int .i64 (lo:Int),.int .i64 (hi:Int),.func (.func f) #[] #[]] w fun e w'=>e= .returned (.bool (zbb lo hi B L))∧Keep w w':=by
 by_cases hc:lo≤L.length∧L.length≤hi
 ·have key:∀ k,k<L.length→∃ ad,a=some ad∧(w.cell? (ad.add (k * 6))=some (.string (fS (gt (L.getD k []) 0)))∧w.cell? ⟨(ad.add (k * 6)).block,(ad.add (k * 6)).off+1,none⟩=some (.string (fS (gt (L.getD k []) 1)))∧w.cell? ⟨(ad.add (k * 6)).block,(ad.add (k * 6)).off+2,none⟩=some (.int .i64 (fI (gt (L.getD k []) 2)))∧w.cell? ⟨(ad.add (k * 6)).block,(ad.add (k * 6)).off+3,none⟩=some (.int .i64 (fI (gt (L.getD k []) 3)))∧w.cell? ⟨(ad.add (k * 6)).block,(ad.add (k * 6)).off+4,none⟩=some (.int .i64 (fI (gt (L.getD k []) 4)))∧w.cell? ⟨(ad.add (k * 6)).block,(ad.add (k * 6)).off+5,none⟩=some (.int .i64 (fI (gt (L.getD k []) 5))))∧Rvs w (L.getD k []) [.string (fS (gt (L.getD k []) 0)),.string (fS (gt (L.getD k []) 1)),.int .i64 (fI (gt (L.getD k []) 2)),.int .i64 (fI (gt (L.getD k []) 3)),.int .i64 (fI (gt (L.getD k []) 4)),.int .i64 (fI (gt (L.getD k []) 5))]:=by
   intro k hk
   obtain⟨ad,us,rfl,_,h1,h2,h3⟩:=zaL L 0 HA k hk;have hs:=hL (L.getD k []) (by rw[List.getD_eq_getElem?_getD,List.getElem?_eq_getElem hk];exact List.getElem_mem hk);generalize L.getD k []=ds at h1 hs;simp only[ShL,Sh1,zfO]at hs;obtain⟨_,_,rfl,⟨s0,rfl,_⟩,⟨_,_,rfl,⟨s1,rfl,_⟩,⟨_,_,rfl,⟨v2,rfl,_,_⟩,⟨_,_,rfl,⟨v3,rfl,_,_⟩,⟨_,_,rfl,⟨v4,rfl,_,_⟩,⟨_,_,rfl,⟨v5,rfl,_,_⟩,rfl⟩⟩⟩⟩⟩⟩:=hs;simp only[Rvs,Rv,dS,dI,dB]at h1;obtain⟨_,_,rfl,rfl,⟨_,_,rfl,rfl,⟨_,_,rfl,rfl,⟨_,_,rfl,rfl,⟨_,_,rfl,rfl,⟨_,_,rfl,rfl,rfl⟩⟩⟩⟩⟩⟩:=h1;rw[Nat.zero_add]at h3;have e0:w.cell? (ad.add (k * 6))=_:=h3 0 _ rfl;have e1:w.cell? ⟨(ad.add (k * 6)).block,(ad.add (k * 6)).off+1,none⟩=_:=h3 1 _ rfl;have e2:w.cell? ⟨(ad.add (k * 6)).block,(ad.add (k * 6)).off+2,none⟩=_:=h3 2 _ rfl;have e3:w.cell? ⟨(ad.add (k * 6)).block,(ad.add (k * 6)).off+3,none⟩=_:=h3 3 _ rfl;have e4:w.cell? ⟨(ad.add (k * 6)).block,(ad.add (k * 6)).off+4,none⟩=_:=h3 4 _ rfl;have e5:w.cell? ⟨(ad.add (k * 6)).block,(ad.add (k * 6)).off+5,none⟩=_:=h3 5 _ rfl;refine⟨ad,rfl,⟨e0,e1,e2,e3,e4,e5⟩,?_⟩;simp only[Rvs,Rv,dS,dI,dB];exact⟨_,_,rfl,rfl,⟨_,_,rfl,rfl,⟨_,_,rfl,rfl,⟨_,_,rfl,rfl,⟨_,_,rfl,rfl,⟨_,_,rfl,rfl,rfl⟩⟩⟩⟩⟩⟩
  refine zp9 a L.length cap lo hi f (fun k=>fS (gt (L.getD k []) 0)) (fun k=>fS (gt (L.getD k []) 1)) (fun k=>fI (gt (L.getD k []) 2)) (fun k=>fI (gt (L.getD k []) 3)) (fun k=>fI (gt (L.getD k []) 4)) (fun k=>fI (gt (L.getD k []) 5)) (fun k=>B (L.getD k [])) _ w hc.1 hc.2 hh he (hide fun k hk=>?_) (hide fun k hk w' hk2=>?_) (hide fun k hk h=>zan hk h) (hide fun h=>zaR hc h)
  ·obtain⟨ad,e,h,_⟩:=key k hk;exact⟨ad,e,h⟩
  ·obtain⟨ad,e,_,h⟩:=key k hk;exact ET w' _ _ (hL _ (by rw[List.getD_eq_getElem?_getD,List.getElem?_eq_getElem hk];exact List.getElem_mem hk)) (Rvs.keep hk2 _ _ h)
 ·rw[za4 hc];refine(zjo a L.length cap lo hi f w hc).mono ?_;rintro e w' ⟨rfl,rfl⟩;exact⟨rfl,Keep.refl _⟩
set_option maxHeartbeats 2000000 in
theorem zgl (a:Option Addr) (n cap lo hi:Nat) (f:FuncId) (w:World) (h:¬(lo≤n∧n≤hi)):Calls Tryz.prog 52 #[.slice a n cap,.int .i64 (lo:Int),.int .i64 (hi:Int),.func (.func f) #[] #[]] w fun e w'=>e= .returned (.bool false)∧w'=w:=by
 by_cases h1:n<lo
 ·have l1:(n:Int)<(lo:Int):=by omega
  go_enter Tryz.func52,Tryz.ntmps52;go_wp2_with fail
  go_ret;exact⟨rfl,rfl⟩
 ·have l1:¬(n:Int)<(lo:Int):=by omega
  have l2:(hi:Int)<(n:Int):=by omega
  go_enter Tryz.func52,Tryz.ntmps52;go_wp2_with fail
  go_ret;exact⟨rfl,rfl⟩
set_option maxHeartbeats 4000000 in
theorem zmF (a:Option Addr) (n cap lo hi:Nat) (f:FuncId) (S0:Nat→ByteArray) (A1:Nat→Option Addr) (N1 C1:Nat→Nat) (V2:Nat→Int) (B:Nat→Bool) (r:Bool) (w:World) (hlo:lo≤n) (hhi:n≤hi) (hh:hi≤100) (he:Ent f)
  (HC:Hid (∀ k,k<n→∃ ad,a=some ad∧w.cell? (ad.add (k * 3))=some (.string (S0 k))∧w.cell? ⟨(ad.add (k * 3)).block,(ad.add (k * 3)).off+1,none⟩=some (.slice (A1 k) (N1 k) (C1 k))∧w.cell? ⟨(ad.add (k * 3)).block,(ad.add (k * 3)).off+2,none⟩=some (.int .i64 (V2 k))))
  (T1:Hid (∀ k,k<n→∀ w',Keep w w'→Calls Tryz.prog f #[.agg #[.string (S0 k),.slice (A1 k) (N1 k) (C1 k),.int .i64 (V2 k)]] w' fun e w''=>e= .returned (.bool (B k))∧Keep w' w''))
  (H1:Hid (∀ k,k<n→B k=false→r=false)) (H2:Hid ((∀ k,k<n→B k=true)→r=true)):
  Calls Tryz.prog 52 #[.slice a n cap,.int .i64 (lo:Int),.int .i64 (hi:Int),.func (.func f) #[] #[]] w fun e w'=>e= .returned (.bool r)∧Keep w w':=by
 have l1:¬(n:Int)<(lo:Int):=by omega
 have l2:¬(hi:Int)<(n:Int):=by omega
 have hn:n≤100:=by omega
 clear hlo hhi hh;have he2:∀(xs:Array Value) (w:World),(callFunc f xs).run Tryz.prog w= .ok (.enter f xs) w:=he;clear he;go_enter Tryz.func52,Tryz.ntmps52;go_wp2_with fail
 go_loopw [23] (fun vi wr=>∃ k:Nat,k≤n∧vi= .int .i64 (k:Int)∧Hid (∀ j,j<k→B j=true)∧Hid (Keep w wr)) (fun vi wr=>n - (intOf vi).toNat)
 case atStart=>exact⟨0,Nat.zero_le _,rfl,hide fun j hj=>by omega,hide (Keep.refl w)⟩
 case round=>
  obtain⟨k,hk,rfl,HN,HK⟩:=hrel;by_cases hlt:k<n
  ·have li:(k:Int)<(n:Int):=by omega
   obtain⟨ad,ea,c0,c1,c2⟩:=(uq HC) k hlt;subst ea;replace c0:=Q.kcell (uq HK) c0;replace c1:=Q.kcell (uq HK) c1;replace c2:=Q.kcell (uq HK) c2;have HT:=hide ((uq T1) k hlt);have HQ:=hide ((uq H1) k hlt);obtain⟨b,hb⟩:∃ b,B k=b:=⟨_,rfl⟩;rw[hb]at HT HQ;have HBK:=hide hb;clear hb;generalize S0 k=s0 at c0 HT;generalize A1 k=x1 at c1 HT;generalize N1 k=y1 at c1 HT;generalize C1 k=z1 at c1 HT;generalize V2 k=v2 at c2 HT;go_wp2_with fail
   (refine((uq HT) _ ((uq HK).alloc _)).mono ?_;rintro e w3 ⟨rfl,hk3⟩;have HK3:=hide (Keep.trans ((uq HK).alloc _) hk3);clear hk3);cases b with
   |false=>
    have hr:=(uq HQ) rfl;subst hr;go_wp2_with fail
    go_ret;exact⟨rfl,uq HK3⟩
   |true=>
    go_wp2_with fail
    go_roundw
    case rel=>exact⟨k+1,hlt,by go_num,hide fun j hj=>(Nat.lt_succ_iff_lt_or_eq.1 hj).elim ((uq HN) j) (fun e=>e▸uq HBK),HK3⟩
    case measure=>simp[intOf];omega
  ·have hr:=(uq H2) (fun j hj=>(uq HN) j (by omega));subst hr;go_wp2_with fail
   go_ret;exact⟨rfl,uq HK⟩
theorem zfl {w:World} {L:List (List D)} {a:Option Addr} {cap lo hi:Nat} {f:FuncId} {B:List D→Bool} (hh:hi≤100) (he:Ent f) (hL:∀ ds∈L,ShL zbD ds) (HA:Rvss w a 3 L 0)
  (ET:∀ w' ds us,ShL zbD ds→Rvs w' ds us→Calls Tryz.prog f #[.agg us.toArray] w' fun e w''=>e= .returned (.bool (B ds))∧Keep w' w''):
  Calls Tryz.prog 52 #[.slice a L.length cap,.int .i64 (lo:Int),.int .i64 (hi:Int),.func (.func f) #[] #[]] w fun e w'=>e= .returned (.bool (zbb lo hi B L))∧Keep w w':=by
 by_cases hc:lo≤L.length∧L.length≤hi
 ·have key:∀ k,k<L.length→∃ ad,a=some ad∧(w.cell? (ad.add (k * 3))=some (.string (fS (gt (L.getD k []) 0)))∧w.cell? ⟨(ad.add (k * 3)).block,(ad.add (k * 3)).off+1,none⟩=some (.slice (slA w ⟨((adO a).add (k * 3)).block,((adO a).add (k * 3)).off+1,none⟩) (slN w ⟨((adO a).add (k * 3)).block,((adO a).add (k * 3)).off+1,none⟩) (slC w ⟨((adO a).add (k * 3)).block,((adO a).add (k * 3)).off+1,none⟩))∧w.cell? ⟨(ad.add (k * 3)).block,(ad.add (k * 3)).off+2,none⟩=some (.int .i64 (fI (gt (L.getD k []) 2))))∧Rvs w (L.getD k []) [.string (fS (gt (L.getD k []) 0)),.slice (slA w ⟨((adO a).add (k * 3)).block,((adO a).add (k * 3)).off+1,none⟩) (slN w ⟨((adO a).add (k * 3)).block,((adO a).add (k * 3)).off+1,none⟩) (slC w ⟨((adO a).add (k * 3)).block,((adO a).add (k * 3)).off+1,none⟩),.int .i64 (fI (gt (L.getD k []) 2))]:=by
   intro k hk
   obtain⟨ad,us,rfl,_,h1,h2,h3⟩:=zaL L 0 HA k hk;have hs:=hL (L.getD k []) (by rw[List.getD_eq_getElem?_getD,List.getElem?_eq_getElem hk];exact List.getElem_mem hk);generalize L.getD k []=ds at h1 hs;simp only[ShL,Sh1,zbD]at hs;obtain⟨_,_,rfl,⟨s0,rfl,_⟩,⟨_,_,rfl,⟨L1,rfl,_,_⟩,⟨_,_,rfl,⟨v2,rfl,_,_⟩,rfl⟩⟩⟩:=hs;simp only[Rvs,Rv,dS,dI,dB]at h1;obtain⟨_,_,rfl,rfl,⟨_,_,rfl,⟨x1,z1,rfl,y1,m1⟩,⟨_,_,rfl,rfl,rfl⟩⟩⟩:=h1;rw[Nat.zero_add]at h3;have e0:w.cell? (ad.add (k * 3))=_:=h3 0 _ rfl;have e1:w.cell? ⟨(ad.add (k * 3)).block,(ad.add (k * 3)).off+1,none⟩=_:=h3 1 _ rfl;have q1:Value.slice (slA w ⟨(ad.add (k * 3)).block,(ad.add (k * 3)).off+1,none⟩) (slN w ⟨(ad.add (k * 3)).block,(ad.add (k * 3)).off+1,none⟩) (slC w ⟨(ad.add (k * 3)).block,(ad.add (k * 3)).off+1,none⟩)= .slice x1 L1.length z1:=by simp only[slA,slN,slC,e1]
   have e2:w.cell? ⟨(ad.add (k * 3)).block,(ad.add (k * 3)).off+2,none⟩=_:=h3 2 _ rfl;refine⟨ad,rfl,⟨e0,e1.trans (congrArg some q1.symm),e2⟩,?_⟩;simp only[Rvs,Rv,dS,dI,dB];exact⟨_,_,rfl,rfl,⟨_,_,rfl,⟨x1,z1,q1,y1,m1⟩,⟨_,_,rfl,rfl,rfl⟩⟩⟩
  refine zmF a L.length cap lo hi f (fun k=>fS (gt (L.getD k []) 0)) (fun k=>slA w ⟨((adO a).add (k * 3)).block,((adO a).add (k * 3)).off+1,none⟩) (fun k=>slN w ⟨((adO a).add (k * 3)).block,((adO a).add (k * 3)).off+1,none⟩) (fun k=>slC w ⟨((adO a).add (k * 3)).block,((adO a).add (k * 3)).off+1,none⟩) (fun k=>fI (gt (L.getD k []) 2)) (fun k=>B (L.getD k [])) _ w hc.1 hc.2 hh he (hide fun k hk=>?_) (hide fun k hk w' hk2=>?_) (hide fun k hk h=>zan hk h) (hide fun h=>zaR hc h)
  ·obtain⟨ad,e,h,_⟩:=key k hk;exact⟨ad,e,h⟩
  ·obtain⟨ad,e,_,h⟩:=key k hk;exact ET w' _ _ (hL _ (by rw[List.getD_eq_getElem?_getD,List.getElem?_eq_getElem hk];exact List.getElem_mem hk)) (Rvs.keep hk2 _ _ h)
 ·rw[za4 hc];refine(zgl a L.length cap lo hi f w hc).mono ?_;rintro e w' ⟨rfl,rfl⟩;exact⟨rfl,Keep.refl _⟩
set_option maxHeartbeats 2000000 in
theorem zgm (a:Option Addr) (n cap lo hi:Nat) (f:FuncId) (w:World) (h:¬(lo≤n∧n≤hi)):Calls Tryz.prog 54 #[.slice a n cap,.int .i64 (lo:Int),.int .i64 (hi:Int),.func (.func f) #[] #[]] w fun e w'=>e= .returned (.bool false)∧w'=w:=by
 by_cases h1:n<lo
 ·have l1:(n:Int)<(lo:Int):=by omega
  go_enter Tryz.func54,Tryz.ntmps54;go_wp2_with fail
  go_ret;exact⟨rfl,rfl⟩
 ·have l1:¬(n:Int)<(lo:Int):=by omega
  have l2:(hi:Int)<(n:Int):=by omega
  go_enter Tryz.func54,Tryz.ntmps54;go_wp2_with fail
  go_ret;exact⟨rfl,rfl⟩
set_option maxHeartbeats 4000000 in
theorem zmG (a:Option Addr) (n cap lo hi:Nat) (f:FuncId) (A0:Nat→Option Addr) (N0 C0:Nat→Nat) (B:Nat→Bool) (r:Bool) (w:World) (hlo:lo≤n) (hhi:n≤hi) (hh:hi≤100) (he:Ent f)
  (HC:Hid (∀ k,k<n→∃ ad,a=some ad∧w.cell? (ad.add k)=some (.slice (A0 k) (N0 k) (C0 k))))
  (T1:Hid (∀ k,k<n→∀ w',Keep w w'→Calls Tryz.prog f #[.agg #[.slice (A0 k) (N0 k) (C0 k)]] w' fun e w''=>e= .returned (.bool (B k))∧Keep w' w''))
  (H1:Hid (∀ k,k<n→B k=false→r=false)) (H2:Hid ((∀ k,k<n→B k=true)→r=true)):
  Calls Tryz.prog 54 #[.slice a n cap,.int .i64 (lo:Int),.int .i64 (hi:Int),.func (.func f) #[] #[]] w fun e w'=>e= .returned (.bool r)∧Keep w w':=by
 have l1:¬(n:Int)<(lo:Int):=by omega
 have l2:¬(hi:Int)<(n:Int):=by omega
 have hn:n≤100:=by omega
 clear hlo hhi hh;have he2:∀(xs:Array Value) (w:World),(callFunc f xs).run Tryz.prog w= .ok (.enter f xs) w:=he;clear he;go_enter Tryz.func54,Tryz.ntmps54;go_wp2_with fail
 go_loopw [23] (fun vi wr=>∃ k:Nat,k≤n∧vi= .int .i64 (k:Int)∧Hid (∀ j,j<k→B j=true)∧Hid (Keep w wr)) (fun vi wr=>n - (intOf vi).toNat)
 case atStart=>exact⟨0,Nat.zero_le _,rfl,hide fun j hj=>by omega,hide (Keep.refl w)⟩
 case round=>
  obtain⟨k,hk,rfl,HN,HK⟩:=hrel;by_cases hlt:k<n
  ·have li:(k:Int)<(n:Int):=by omega
   obtain⟨ad,ea,c0⟩:=(uq HC) k hlt;subst ea;replace c0:=Q.kcell (uq HK) c0;have HT:=hide ((uq T1) k hlt);have HQ:=hide ((uq H1) k hlt);obtain⟨b,hb⟩:∃ b,B k=b:=⟨_,rfl⟩;rw[hb]at HT HQ;have HBK:=hide hb;clear hb;generalize A0 k=x0 at c0 HT;generalize N0 k=y0 at c0 HT;generalize C0 k=z0 at c0 HT;go_wp2_with fail
   (refine((uq HT) _ ((uq HK).alloc _)).mono ?_;rintro e w3 ⟨rfl,hk3⟩;have HK3:=hide (Keep.trans ((uq HK).alloc _) hk3);clear hk3);cases b with
   |false=>
    have hr:=(uq HQ) rfl;subst hr;go_wp2_with fail
    go_ret;exact⟨rfl,uq HK3⟩
   |true=>
    go_wp2_with fail
    go_roundw
    case rel=>exact⟨k+1,hlt,by go_num,hide fun j hj=>(Nat.lt_succ_iff_lt_or_eq.1 hj).elim ((uq HN) j) (fun e=>e▸uq HBK),HK3⟩
    case measure=>simp[intOf];omega
  ·have hr:=(uq H2) (fun j hj=>(uq HN) j (by omega));subst hr;go_wp2_with fail
   go_ret;exact⟨rfl,uq HK⟩
theorem zfm {w:World} {L:List (List D)} {a:Option Addr} {cap lo hi:Nat} {f:FuncId} {B:List D→Bool} (hh:hi≤100) (he:Ent f) (hL:∀ ds∈L,ShL zbE ds) (HA:Rvss w a 1 L 0)
  (ET:∀ w' ds us,ShL zbE ds→Rvs w' ds us→Calls Tryz.prog f #[.agg us.toArray] w' fun e w''=>e= .returned (.bool (B ds))∧Keep w' w''):
  Calls Tryz.prog 54 #[.slice a L.length cap,.int .i64 (lo:Int),.int .i64 (hi:Int),.func (.func f) #[] #[]] w fun e w'=>e= .returned (.bool (zbb lo hi B L))∧Keep w w':=by
 by_cases hc:lo≤L.length∧L.length≤hi
 ·have key:∀ k,k<L.length→∃ ad,a=some ad∧(w.cell? (ad.add k)=some (.slice (slA w ((adO a).add k)) (slN w ((adO a).add k)) (slC w ((adO a).add k))))∧Rvs w (L.getD k []) [.slice (slA w ((adO a).add k)) (slN w ((adO a).add k)) (slC w ((adO a).add k))]:=by
   intro k hk
   obtain⟨ad,us,rfl,_,h1,h2,h3⟩:=zaL L 0 HA k hk;have hs:=hL (L.getD k []) (by rw[List.getD_eq_getElem?_getD,List.getElem?_eq_getElem hk];exact List.getElem_mem hk);generalize L.getD k []=ds at h1 hs;simp only[ShL,Sh1,zbE]at hs;obtain⟨_,_,rfl,⟨L0,rfl,_,_⟩,rfl⟩:=hs;simp only[Rvs,Rv,dS,dI,dB]at h1;obtain⟨_,_,rfl,⟨x0,z0,rfl,y0,m0⟩,rfl⟩:=h1;rw[Nat.zero_add]at h3;have e0:=h3 0 _ rfl;rw[Nat.mul_one]at e0;replace e0:w.cell? (ad.add k)=some (.slice x0 L0.length z0):=e0;have q0:Value.slice (slA w (ad.add k)) (slN w (ad.add k)) (slC w (ad.add k))= .slice x0 L0.length z0:=by simp only[slA,slN,slC,e0]
   refine⟨ad,rfl,e0.trans (congrArg some q0.symm),?_⟩;simp only[Rvs,Rv,dS,dI,dB];exact⟨_,_,rfl,⟨x0,z0,q0,y0,m0⟩,rfl⟩
  refine zmG a L.length cap lo hi f (fun k=>slA w ((adO a).add k)) (fun k=>slN w ((adO a).add k)) (fun k=>slC w ((adO a).add k)) (fun k=>B (L.getD k [])) _ w hc.1 hc.2 hh he (hide fun k hk=>?_) (hide fun k hk w' hk2=>?_) (hide fun k hk h=>zan hk h) (hide fun h=>zaR hc h)
  ·obtain⟨ad,e,h,_⟩:=key k hk;exact⟨ad,e,h⟩
  ·obtain⟨ad,e,_,h⟩:=key k hk;exact ET w' _ _ (hL _ (by rw[List.getD_eq_getElem?_getD,List.getElem?_eq_getElem hk];exact List.getElem_mem hk)) (Rvs.keep hk2 _ _ h)
 ·rw[za4 hc];refine(zgm a L.length cap lo hi f w hc).mono ?_;rintro e w' ⟨rfl,rfl⟩;exact⟨rfl,Keep.refl _⟩
set_option maxHeartbeats 2000000 in
theorem zhV (a:Option Addr) (n cap lo hi:Nat) (f:FuncId) (w:World) (h:¬(lo≤n∧n≤hi)):Calls Tryz.prog 23 #[.slice a n cap,.int .i64 (lo:Int),.int .i64 (hi:Int),.func (.func f) #[] #[]] w fun e w'=>e= .returned (.bool false)∧w'=w:=by
 by_cases h1:n<lo
 ·have l1:(n:Int)<(lo:Int):=by omega
  go_enter Tryz.func23,Tryz.ntmps23;go_wp2_with fail
  go_ret;exact⟨rfl,rfl⟩
 ·have l1:¬(n:Int)<(lo:Int):=by omega
  have l2:(hi:Int)<(n:Int):=by omega
  go_enter Tryz.func23,Tryz.ntmps23;go_wp2_with fail
  go_ret;exact⟨rfl,rfl⟩
set_option maxHeartbeats 4000000 in
theorem zoL (a:Option Addr) (n cap lo hi:Nat) (f:FuncId) (S0:Nat→ByteArray) (A1:Nat→Option Addr) (N1 C1:Nat→Nat) (A2:Nat→Option Addr) (N2 C2:Nat→Nat) (A3:Nat→Option Addr) (N3 C3:Nat→Nat) (A4:Nat→Option Addr) (N4 C4:Nat→Nat) (A5:Nat→Option Addr) (N5 C5:Nat→Nat) (V6:Nat→Int) (B:Nat→Bool) (r:Bool) (w:World) (hlo:lo≤n) (hhi:n≤hi) (hh:hi≤100) (he:Ent f)
  (HC:Hid (∀ k,k<n→∃ ad,a=some ad∧w.cell? (ad.add (k * 7))=some (.string (S0 k))∧w.cell? ⟨(ad.add (k * 7)).block,(ad.add (k * 7)).off+1,none⟩=some (.slice (A1 k) (N1 k) (C1 k))∧w.cell? ⟨(ad.add (k * 7)).block,(ad.add (k * 7)).off+2,none⟩=some (.slice (A2 k) (N2 k) (C2 k))∧w.cell? ⟨(ad.add (k * 7)).block,(ad.add (k * 7)).off+3,none⟩=some (.slice (A3 k) (N3 k) (C3 k))∧w.cell? ⟨(ad.add (k * 7)).block,(ad.add (k * 7)).off+4,none⟩=some (.slice (A4 k) (N4 k) (C4 k))∧w.cell? ⟨(ad.add (k * 7)).block,(ad.add (k * 7)).off+5,none⟩=some (.slice (A5 k) (N5 k) (C5 k))∧w.cell? ⟨(ad.add (k * 7)).block,(ad.add (k * 7)).off+6,none⟩=some (.int .i64 (V6 k))))
  (T1:Hid (∀ k,k<n→∀ w',Keep w w'→Calls Tryz.prog f #[.agg #[.string (S0 k),.slice (A1 k) (N1 k) (C1 k),.slice (A2 k) (N2 k) (C2 k),.slice (A3 k) (N3 k) (C3 k),.slice (A4 k) (N4 k) (C4 k),.slice (A5 k) (N5 k) (C5 k),.int .i64 (V6 k)]] w' fun e w''=>e= .returned (.bool (B k))∧Keep w' w''))
  (H1:Hid (∀ k,k<n→B k=false→r=false)) (H2:Hid ((∀ k,k<n→B k=true)→r=true)):
  Calls Tryz.prog 23 #[.slice a n cap,.int .i64 (lo:Int),.int .i64 (hi:Int),.func (.func f) #[] #[]] w fun e w'=>e= .returned (.bool r)∧Keep w w':=by
 have l1:¬(n:Int)<(lo:Int):=by omega
 have l2:¬(hi:Int)<(n:Int):=by omega
 have hn:n≤100:=by omega
 clear hlo hhi hh;have he2:∀(xs:Array Value) (w:World),(callFunc f xs).run Tryz.prog w= .ok (.enter f xs) w:=he;clear he;go_enter Tryz.func23,Tryz.ntmps23;go_wp2_with fail
 go_loopw [23] (fun vi wr=>∃ k:Nat,k≤n∧vi= .int .i64 (k:Int)∧Hid (∀ j,j<k→B j=true)∧Hid (Keep w wr)) (fun vi wr=>n - (intOf vi).toNat)
 case atStart=>exact⟨0,Nat.zero_le _,rfl,hide fun j hj=>by omega,hide (Keep.refl w)⟩
 case round=>
  obtain⟨k,hk,rfl,HN,HK⟩:=hrel;by_cases hlt:k<n
  ·have li:(k:Int)<(n:Int):=by omega
   obtain⟨ad,ea,c0,c1,c2,c3,c4,c5,c6⟩:=(uq HC) k hlt;subst ea;replace c0:=Q.kcell (uq HK) c0;replace c1:=Q.kcell (uq HK) c1;replace c2:=Q.kcell (uq HK) c2;replace c3:=Q.kcell (uq HK) c3;replace c4:=Q.kcell (uq HK) c4;replace c5:=Q.kcell (uq HK) c5;replace c6:=Q.kcell (uq HK) c6;have HT:=hide ((uq T1) k hlt);have HQ:=hide ((uq H1) k hlt);obtain⟨b,hb⟩:∃ b,B k=b:=⟨_,rfl⟩;rw[hb]at HT HQ;have HBK:=hide hb;clear hb;generalize S0 k=s0 at c0 HT;generalize A1 k=x1 at c1 HT;generalize N1 k=y1 at c1 HT;generalize C1 k=z1 at c1 HT;generalize A2 k=x2 at c2 HT;generalize N2 k=y2 at c2 HT;generalize C2 k=z2 at c2 HT;generalize A3 k=x3 at c3 HT;generalize N3 k=y3 at c3 HT;generalize C3 k=z3 at c3 HT;generalize A4 k=x4 at c4 HT;generalize N4 k=y4 at c4 HT;generalize C4 k=z4 at c4 HT;generalize A5 k=x5 at c5 HT;generalize N5 k=y5 at c5 HT;generalize C5 k=z5 at c5 HT;generalize V6 k=v6 at c6 HT;go_wp2_with fail
   (refine((uq HT) _ ((uq HK).alloc _)).mono ?_;rintro e w3 ⟨rfl,hk3⟩;have HK3:=hide (Keep.trans ((uq HK).alloc _) hk3);clear hk3);cases b with
   |false=>
    have hr:=(uq HQ) rfl;subst hr;go_wp2_with fail
    go_ret;exact⟨rfl,uq HK3⟩
   |true=>
    go_wp2_with fail
    go_roundw
    case rel=>exact⟨k+1,hlt,by go_num,hide fun j hj=>(Nat.lt_succ_iff_lt_or_eq.1 hj).elim ((uq HN) j) (fun e=>e▸uq HBK),HK3⟩
    case measure=>simp[intOf];omega
  ·have hr:=(uq H2) (fun j hj=>(uq HN) j (by omega));subst hr;go_wp2_with fail
   go_ret;exact⟨rfl,uq HK⟩
theorem zgn {w:World} {L:List (List D)} {a:Option Addr} {cap lo hi:Nat} {f:FuncId} {B:List D→Bool} (hh:hi≤100) (he:Ent f) (hL:∀ ds∈L,ShL zbL ds) (HA:Rvss w a 7 L 0)
  (ET:∀ w' ds us,ShL zbL ds→Rvs w' ds us→Calls Tryz.prog f #[.agg us.toArray] w' fun e w''=>e= .returned (.bool (B ds))∧Keep w' w''):
  Calls Tryz.prog 23 #[.slice a L.length cap,.int .i64 (lo:Int),.int .i64 (hi:Int),.func (.func f) #[] #[]] w fun e w'=>e= .returned (.bool (zbb lo hi B L))∧Keep w w':=by
 by_cases hc:lo≤L.length∧L.length≤hi
 ·have key:∀ k,k<L.length→∃ ad,a=some ad∧(w.cell? (ad.add (k * 7))=some (.string (fS (gt (L.getD k []) 0)))∧w.cell? ⟨(ad.add (k * 7)).block,(ad.add (k * 7)).off+1,none⟩=some (.slice (slA w ⟨((adO a).add (k * 7)).block,((adO a).add (k * 7)).off+1,none⟩) (slN w ⟨((adO a).add (k * 7)).block,((adO a).add (k * 7)).off+1,none⟩) (slC w ⟨((adO a).add (k * 7)).block,((adO a).add (k * 7)).off+1,none⟩))∧w.cell? ⟨(ad.add (k * 7)).block,(ad.add (k * 7)).off+2,none⟩=some (.slice (slA w ⟨((adO a).add (k * 7)).block,((adO a).add (k * 7)).off+2,none⟩) (slN w ⟨((adO a).add (k * 7)).block,((adO a).add (k * 7)).off+2,none⟩) (slC w ⟨((adO a).add (k * 7)).block,((adO a).add (k * 7)).off+2,none⟩))∧w.cell? ⟨(ad.add (k * 7)).block,(ad.add (k * 7)).off+3,none⟩=some (.slice (slA w ⟨((adO a).add (k * 7)).block,((adO a).add (k * 7)).off+3,none⟩) (slN w ⟨((adO a).add (k * 7)).block,((adO a).add (k * 7)).off+3,none⟩) (slC w ⟨((adO a).add (k * 7)).block,((adO a).add (k * 7)).off+3,none⟩))∧w.cell? ⟨(ad.add (k * 7)).block,(ad.add (k * 7)).off+4,none⟩=some (.slice (slA w ⟨((adO a).add (k * 7)).block,((adO a).add (k * 7)).off+4,none⟩) (slN w ⟨((adO a).add (k * 7)).block,((adO a).add (k * 7)).off+4,none⟩) (slC w ⟨((adO a).add (k * 7)).block,((adO a).add (k * 7)).off+4,none⟩))∧w.cell? ⟨(ad.add (k * 7)).block,(ad.add (k * 7)).off+5,none⟩=some (.slice (slA w ⟨((adO a).add (k * 7)).block,((adO a).add (k * 7)).off+5,none⟩) (slN w ⟨((adO a).add (k * 7)).block,((adO a).add (k * 7)).off+5,none⟩) (slC w ⟨((adO a).add (k * 7)).block,((adO a).add (k * 7)).off+5,none⟩))∧w.cell? ⟨(ad.add (k * 7)).block,(ad.add (k * 7)).off+6,none⟩=some (.int .i64 (fI (gt (L.getD k []) 6))))∧Rvs w (L.getD k []) [.string (fS (gt (L.getD k []) 0)),.slice (slA w ⟨((adO a).add (k * 7)).block,((adO a).add (k * 7)).off+1,none⟩) (slN w ⟨((adO a).add (k * 7)).block,((adO a).add (k * 7)).off+1,none⟩) (slC w ⟨((adO a).add (k * 7)).block,((adO a).add (k * 7)).off+1,none⟩),.slice (slA w ⟨((adO a).add (k * 7)).block,((adO a).add (k * 7)).off+2,none⟩) (slN w ⟨((adO a).add (k * 7)).block,((adO a).add (k * 7)).off+2,none⟩) (slC w ⟨((adO a).add (k * 7)).block,((adO a).add (k * 7)).off+2,none⟩),.slice (slA w ⟨((adO a).add (k * 7)).block,((adO a).add (k * 7)).off+3,none⟩) (slN w ⟨((adO a).add (k * 7)).block,((adO a).add (k * 7)).off+3,none⟩) (slC w ⟨((adO a).add (k * 7)).block,((adO a).add (k * 7)).off+3,none⟩),.slice (slA w ⟨((adO a).add (k * 7)).block,((adO a).add (k * 7)).off+4,none⟩) (slN w ⟨((adO a).add (k * 7)).block,((adO a).add (k * 7)).off+4,none⟩) (slC w ⟨((adO a).add (k * 7)).block,((adO a).add (k * 7)).off+4,none⟩),.slice (slA w ⟨((adO a).add (k * 7)).block,((adO a).add (k * 7)).off+5,none⟩) (slN w ⟨((adO a).add (k * 7)).block,((adO a).add (k * 7)).off+5,none⟩) (slC w ⟨((adO a).add (k * 7)).block,((adO a).add (k * 7)).off+5,none⟩),.int .i64 (fI (gt (L.getD k []) 6))]:=by
   intro k hk
   obtain⟨ad,us,rfl,_,h1,h2,h3⟩:=zaL L 0 HA k hk;have hs:=hL (L.getD k []) (by rw[List.getD_eq_getElem?_getD,List.getElem?_eq_getElem hk];exact List.getElem_mem hk);generalize L.getD k []=ds at h1 hs;simp only[ShL,Sh1,zbL]at hs;obtain⟨_,_,rfl,⟨s0,rfl,_⟩,⟨_,_,rfl,⟨L1,rfl,_,_⟩,⟨_,_,rfl,⟨L2,rfl,_,_⟩,⟨_,_,rfl,⟨L3,rfl,_,_⟩,⟨_,_,rfl,⟨L4,rfl,_,_⟩,⟨_,_,rfl,⟨L5,rfl,_,_⟩,⟨_,_,rfl,⟨v6,rfl,_,_⟩,rfl⟩⟩⟩⟩⟩⟩⟩:=hs;simp only[Rvs,Rv,dS,dI,dB]at h1;obtain⟨_,_,rfl,rfl,⟨_,_,rfl,⟨x1,z1,rfl,y1,m1⟩,⟨_,_,rfl,⟨x2,z2,rfl,y2,m2⟩,⟨_,_,rfl,⟨x3,z3,rfl,y3,m3⟩,⟨_,_,rfl,⟨x4,z4,rfl,y4,m4⟩,⟨_,_,rfl,⟨x5,z5,rfl,y5,m5⟩,⟨_,_,rfl,rfl,rfl⟩⟩⟩⟩⟩⟩⟩:=h1;rw[Nat.zero_add]at h3;have e0:w.cell? (ad.add (k * 7))=_:=h3 0 _ rfl;have e1:w.cell? ⟨(ad.add (k * 7)).block,(ad.add (k * 7)).off+1,none⟩=_:=h3 1 _ rfl;have q1:Value.slice (slA w ⟨(ad.add (k * 7)).block,(ad.add (k * 7)).off+1,none⟩) (slN w ⟨(ad.add (k * 7)).block,(ad.add (k * 7)).off+1,none⟩) (slC w ⟨(ad.add (k * 7)).block,(ad.add (k * 7)).off+1,none⟩)= .slice x1 L1.length z1:=by simp only[slA,slN,slC,e1]
   have e2:w.cell? ⟨(ad.add (k * 7)).block,(ad.add (k * 7)).off+2,none⟩=_:=h3 2 _ rfl;have q2:Value.slice (slA w ⟨(ad.add (k * 7)).block,(ad.add (k * 7)).off+2,none⟩) (slN w ⟨(ad.add (k * 7)).block,(ad.add (k * 7)).off+2,none⟩) (slC w ⟨(ad.add (k * 7)).block,(ad.add (k * 7)).off+2,none⟩)= .slice x2 L2.length z2:=by simp only[slA,slN,slC,e2]
   have e3:w.cell? ⟨(ad.add (k * 7)).block,(ad.add (k * 7)).off+3,none⟩=_:=h3 3 _ rfl;have q3:Value.slice (slA w ⟨(ad.add (k * 7)).block,(ad.add (k * 7)).off+3,none⟩) (slN w ⟨(ad.add (k * 7)).block,(ad.add (k * 7)).off+3,none⟩) (slC w ⟨(ad.add (k * 7)).block,(ad.add (k * 7)).off+3,none⟩)= .slice x3 L3.length z3:=by simp only[slA,slN,slC,e3]
   have e4:w.cell? ⟨(ad.add (k * 7)).block,(ad.add (k * 7)).off+4,none⟩=_:=h3 4 _ rfl;have q4:Value.slice (slA w ⟨(ad.add (k * 7)).block,(ad.add (k * 7)).off+4,none⟩) (slN w ⟨(ad.add (k * 7)).block,(ad.add (k * 7)).off+4,none⟩) (slC w ⟨(ad.add (k * 7)).block,(ad.add (k * 7)).off+4,none⟩)= .slice x4 L4.length z4:=by simp only[slA,slN,slC,e4]
   have e5:w.cell? ⟨(ad.add (k * 7)).block,(ad.add (k * 7)).off+5,none⟩=_:=h3 5 _ rfl;have q5:Value.slice (slA w ⟨(ad.add (k * 7)).block,(ad.add (k * 7)).off+5,none⟩) (slN w ⟨(ad.add (k * 7)).block,(ad.add (k * 7)).off+5,none⟩) (slC w ⟨(ad.add (k * 7)).block,(ad.add (k * 7)).off+5,none⟩)= .slice x5 L5.length z5:=by simp only[slA,slN,slC,e5]
   have e6:w.cell? ⟨(ad.add (k * 7)).block,(ad.add (k * 7)).off+6,none⟩=_:=h3 6 _ rfl;refine⟨ad,rfl,⟨e0,e1.trans (congrArg some q1.symm),e2.trans (congrArg some q2.symm),e3.trans (congrArg some q3.symm),e4.trans (congrArg some q4.symm),e5.trans (congrArg some q5.symm),e6⟩,?_⟩;simp only[Rvs,Rv,dS,dI,dB];exact⟨_,_,rfl,rfl,⟨_,_,rfl,⟨x1,z1,q1,y1,m1⟩,⟨_,_,rfl,⟨x2,z2,q2,y2,m2⟩,⟨_,_,rfl,⟨x3,z3,q3,y3,m3⟩,⟨_,_,rfl,⟨x4,z4,q4,y4,m4⟩,⟨_,_,rfl,⟨x5,z5,q5,y5,m5⟩,⟨_,_,rfl,rfl,rfl⟩⟩⟩⟩⟩⟩⟩
  refine zoL a L.length cap lo hi f (fun k=>fS (gt (L.getD k []) 0)) (fun k=>slA w ⟨((adO a).add (k * 7)).block,((adO a).add (k * 7)).off+1,none⟩) (fun k=>slN w ⟨((adO a).add (k * 7)).block,((adO a).add (k * 7)).off+1,none⟩) (fun k=>slC w ⟨((adO a).add (k * 7)).block,((adO a).add (k * 7)).off+1,none⟩) (fun k=>slA w ⟨((adO a).add (k * 7)).block,((adO a).add (k * 7)).off+2,none⟩) (fun k=>slN w ⟨((adO a).add (k * 7)).block,((adO a).add (k * 7)).off+2,none⟩) (fun k=>slC w ⟨((adO a).add (k * 7)).block,((adO a).add (k * 7)).off+2,none⟩) (fun k=>slA w ⟨((adO a).add (k * 7)).block,((adO a).add (k * 7)).off+3,none⟩) (fun k=>slN w ⟨((adO a).add (k * 7)).block,((adO a).add (k * 7)).off+3,none⟩) (fun k=>slC w ⟨((adO a).add (k * 7)).block,((adO a).add (k * 7)).off+3,none⟩) (fun k=>slA w ⟨((adO a).add (k * 7)).block,((adO a).add (k * 7)).off+4,none⟩) (fun k=>slN w ⟨((adO a).add (k * 7)).block,((adO a).add (k * 7)).off+4,none⟩) (fun k=>slC w ⟨((adO a).add (k * 7)).block,((adO a).add (k * 7)).off+4,none⟩) (fun k=>slA w ⟨((adO a).add (k * 7)).block,((adO a).add (k * 7)).off+5,none⟩) (fun k=>slN w ⟨((adO a).add (k * 7)).block,((adO a).add (k * 7)).off+5,none⟩) (fun k=>slC w ⟨((adO a).add (k * 7)).block,((adO a).add (k * 7)).off+5,none⟩) (fun k=>fI (gt (L.getD k []) 6)) (fun k=>B (L.getD k [])) _ w hc.1 hc.2 hh he (hide fun k hk=>?_) (hide fun k hk w' hk2=>?_) (hide fun k hk h=>zan hk h) (hide fun h=>zaR hc h)
  ·obtain⟨ad,e,h,_⟩:=key k hk;exact⟨ad,e,h⟩
  ·obtain⟨ad,e,_,h⟩:=key k hk;exact ET w' _ _ (hL _ (by rw[List.getD_eq_getElem?_getD,List.getElem?_eq_getElem hk];exact List.getElem_mem hk)) (Rvs.keep hk2 _ _ h)
 ·rw[za4 hc];refine(zhV a L.length cap lo hi f w hc).mono ?_;rintro e w' ⟨rfl,rfl⟩;exact⟨rfl,Keep.refl _⟩
set_option maxHeartbeats 2000000 in
theorem zhW (a:Option Addr) (n cap lo hi:Nat) (f:FuncId) (w:World) (h:¬(lo≤n∧n≤hi)):Calls Tryz.prog 25 #[.slice a n cap,.int .i64 (lo:Int),.int .i64 (hi:Int),.func (.func f) #[] #[]] w fun e w'=>e= .returned (.bool false)∧w'=w:=by
 by_cases h1:n<lo
 ·have l1:(n:Int)<(lo:Int):=by omega
  go_enter Tryz.func25,Tryz.ntmps25;go_wp2_with fail
  go_ret;exact⟨rfl,rfl⟩
 ·have l1:¬(n:Int)<(lo:Int):=by omega
  have l2:(hi:Int)<(n:Int):=by omega
  go_enter Tryz.func25,Tryz.ntmps25;go_wp2_with fail
  go_ret;exact⟨rfl,rfl⟩
set_option maxHeartbeats 4000000 in
theorem zoM (a:Option Addr) (n cap lo hi:Nat) (f:FuncId) (S0:Nat→ByteArray) (S1:Nat→ByteArray) (S2:Nat→ByteArray) (V3:Nat→Int) (V4:Nat→Int) (V5:Nat→Int) (B:Nat→Bool) (r:Bool) (w:World) (hlo:lo≤n) (hhi:n≤hi) (hh:hi≤100) (he:Ent f)
  (HC:Hid (∀ k,k<n→∃ ad,a=some ad∧w.cell? (ad.add (k * 6))=some (.string (S0 k))∧w.cell? ⟨(ad.add (k * 6)).block,(ad.add (k * 6)).off+1,none⟩=some (.string (S1 k))∧w.cell? ⟨(ad.add (k * 6)).block,(ad.add (k * 6)).off+2,none⟩=some (.string (S2 k))∧w.cell? ⟨(ad.add (k * 6)).block,(ad.add (k * 6)).off+3,none⟩=some (.int .i64 (V3 k))∧w.cell? ⟨(ad.add (k * 6)).block,(ad.add (k * 6)).off+4,none⟩=some (.int .i64 (V4 k))∧w.cell? ⟨(ad.add (k * 6)).block,(ad.add (k * 6)).off+5,none⟩=some (.int .i64 (V5 k))))
  (T1:Hid (∀ k,k<n→∀ w',Keep w w'→Calls Tryz.prog f #[.agg #[.string (S0 k),.string (S1 k),.string (S2 k),.int .i64 (V3 k),.int .i64 (V4 k),.int .i64 (V5 k)]] w' fun e w''=>e= .returned (.bool (B k))∧Keep w' w''))
  (H1:Hid (∀ k,k<n→B k=false→r=false)) (H2:Hid ((∀ k,k<n→B k=true)→r=true)):
  Calls Tryz.prog 25 #[.slice a n cap,.int .i64 (lo:Int),.int .i64 (hi:Int),.func (.func f) #[] #[]] w fun e w'=>e= .returned (.bool r)∧Keep w w':=by
 have l1:¬(n:Int)<(lo:Int):=by omega
 have l2:¬(hi:Int)<(n:Int):=by omega
 have hn:n≤100:=by omega
 clear hlo hhi hh;have he2:∀(xs:Array Value) (w:World),(callFunc f xs).run Tryz.prog w= .ok (.enter f xs) w:=he;clear he;go_enter Tryz.func25,Tryz.ntmps25;go_wp2_with fail
 go_loopw [23] (fun vi wr=>∃ k:Nat,k≤n∧vi= .int .i64 (k:Int)∧Hid (∀ j,j<k→B j=true)∧Hid (Keep w wr)) (fun vi wr=>n - (intOf vi).toNat)
 case atStart=>exact⟨0,Nat.zero_le _,rfl,hide fun j hj=>by omega,hide (Keep.refl w)⟩
 case round=>
  obtain⟨k,hk,rfl,HN,HK⟩:=hrel;by_cases hlt:k<n
  ·have li:(k:Int)<(n:Int):=by omega
   obtain⟨ad,ea,c0,c1,c2,c3,c4,c5⟩:=(uq HC) k hlt;subst ea;replace c0:=Q.kcell (uq HK) c0;replace c1:=Q.kcell (uq HK) c1;replace c2:=Q.kcell (uq HK) c2;replace c3:=Q.kcell (uq HK) c3;replace c4:=Q.kcell (uq HK) c4;replace c5:=Q.kcell (uq HK) c5;have HT:=hide ((uq T1) k hlt);have HQ:=hide ((uq H1) k hlt);obtain⟨b,hb⟩:∃ b,B k=b:=⟨_,rfl⟩;rw[hb]at HT HQ;have HBK:=hide hb;clear hb;generalize S0 k=s0 at c0 HT;generalize S1 k=s1 at c1 HT;generalize S2 k=s2 at c2 HT;generalize V3 k=v3 at c3 HT;generalize V4 k=v4 at c4 HT;generalize V5 k=v5 at c5 HT;go_wp2_with fail
   (refine((uq HT) _ ((uq HK).alloc _)).mono ?_;rintro e w3 ⟨rfl,hk3⟩;have HK3:=hide (Keep.trans ((uq HK).alloc _) hk3);clear hk3);cases b with
   |false=>
    have hr:=(uq HQ) rfl;subst hr;go_wp2_with fail
    go_ret;exact⟨rfl,uq HK3⟩
   |true=>
    go_wp2_with fail
    go_roundw
    case rel=>exact⟨k+1,hlt,by go_num,hide fun j hj=>(Nat.lt_succ_iff_lt_or_eq.1 hj).elim ((uq HN) j) (fun e=>e▸uq HBK),HK3⟩
    case measure=>simp[intOf];omega
  ·have hr:=(uq H2) (fun j hj=>(uq HN) j (by omega));subst hr;go_wp2_with fail
   go_ret;exact⟨rfl,uq HK⟩
theorem zgo {w:World} {L:List (List D)} {a:Option Addr} {cap lo hi:Nat} {f:FuncId} {B:List D→Bool} (hh:hi≤100) (he:Ent f) (hL:∀ ds∈L,ShL zcR ds) (HA:Rvss w a 6 L 0)
  (ET:∀ w' ds us,ShL zcR ds→Rvs w' ds us→Calls Tryz.prog f #[.agg us.toArray] w' fun e w''=>e= .returned (.bool (B ds))∧Keep w' w''):
  Calls Tryz.prog 25 #[.slice a L.length cap,.int .i64 (lo:Int),.int .i64 (hi:Int),.func (.func f) #[] #[]] w fun e w'=>e= .returned (.bool (zbb lo hi B L))∧Keep w w':=by
 by_cases hc:lo≤L.length∧L.length≤hi
 ·have key:∀ k,k<L.length→∃ ad,a=some ad∧(w.cell? (ad.add (k * 6))=some (.string (fS (gt (L.getD k []) 0)))∧w.cell? ⟨(ad.add (k * 6)).block,(ad.add (k * 6)).off+1,none⟩=some (.string (fS (gt (L.getD k []) 1)))∧w.cell? ⟨(ad.add (k * 6)).block,(ad.add (k * 6)).off+2,none⟩=some (.string (fS (gt (L.getD k []) 2)))∧w.cell? ⟨(ad.add (k * 6)).block,(ad.add (k * 6)).off+3,none⟩=some (.int .i64 (fI (gt (L.getD k []) 3)))∧w.cell? ⟨(ad.add (k * 6)).block,(ad.add (k * 6)).off+4,none⟩=some (.int .i64 (fI (gt (L.getD k []) 4)))∧w.cell? ⟨(ad.add (k * 6)).block,(ad.add (k * 6)).off+5,none⟩=some (.int .i64 (fI (gt (L.getD k []) 5))))∧Rvs w (L.getD k []) [.string (fS (gt (L.getD k []) 0)),.string (fS (gt (L.getD k []) 1)),.string (fS (gt (L.getD k []) 2)),.int .i64 (fI (gt (L.getD k []) 3)),.int .i64 (fI (gt (L.getD k []) 4)),.int .i64 (fI (gt (L.getD k []) 5))]:=by
   intro k hk
   obtain⟨ad,us,rfl,_,h1,h2,h3⟩:=zaL L 0 HA k hk;have hs:=hL (L.getD k []) (by rw[List.getD_eq_getElem?_getD,List.getElem?_eq_getElem hk];exact List.getElem_mem hk);generalize L.getD k []=ds at h1 hs;simp only[ShL,Sh1,zcR]at hs;obtain⟨_,_,rfl,⟨s0,rfl,_⟩,⟨_,_,rfl,⟨s1,rfl,_⟩,⟨_,_,rfl,⟨s2,rfl,_⟩,⟨_,_,rfl,⟨v3,rfl,_,_⟩,⟨_,_,rfl,⟨v4,rfl,_,_⟩,⟨_,_,rfl,⟨v5,rfl,_,_⟩,rfl⟩⟩⟩⟩⟩⟩:=hs;simp only[Rvs,Rv,dS,dI,dB]at h1;obtain⟨_,_,rfl,rfl,⟨_,_,rfl,rfl,⟨_,_,rfl,rfl,⟨_,_,rfl,rfl,⟨_,_,rfl,rfl,⟨_,_,rfl,rfl,rfl⟩⟩⟩⟩⟩⟩:=h1;rw[Nat.zero_add]at h3;have e0:w.cell? (ad.add (k * 6))=_:=h3 0 _ rfl;have e1:w.cell? ⟨(ad.add (k * 6)).block,(ad.add (k * 6)).off+1,none⟩=_:=h3 1 _ rfl;have e2:w.cell? ⟨(ad.add (k * 6)).block,(ad.add (k * 6)).off+2,none⟩=_:=h3 2 _ rfl;have e3:w.cell? ⟨(ad.add (k * 6)).block,(ad.add (k * 6)).off+3,none⟩=_:=h3 3 _ rfl;have e4:w.cell? ⟨(ad.add (k * 6)).block,(ad.add (k * 6)).off+4,none⟩=_:=h3 4 _ rfl;have e5:w.cell? ⟨(ad.add (k * 6)).block,(ad.add (k * 6)).off+5,none⟩=_:=h3 5 _ rfl;refine⟨ad,rfl,⟨e0,e1,e2,e3,e4,e5⟩,?_⟩;simp only[Rvs,Rv,dS,dI,dB];exact⟨_,_,rfl,rfl,⟨_,_,rfl,rfl,⟨_,_,rfl,rfl,⟨_,_,rfl,rfl,⟨_,_,rfl,rfl,⟨_,_,rfl,rfl,rfl⟩⟩⟩⟩⟩⟩
  refine zoM a L.length cap lo hi f (fun k=>fS (gt (L.getD k []) 0)) (fun k=>fS (gt (L.getD k []) 1)) (fun k=>fS (gt (L.getD k []) 2)) (fun k=>fI (gt (L.getD k []) 3)) (fun k=>fI (gt (L.getD k []) 4)) (fun k=>fI (gt (L.getD k []) 5)) (fun k=>B (L.getD k [])) _ w hc.1 hc.2 hh he (hide fun k hk=>?_) (hide fun k hk w' hk2=>?_) (hide fun k hk h=>zan hk h) (hide fun h=>zaR hc h)
  ·obtain⟨ad,e,h,_⟩:=key k hk;exact⟨ad,e,h⟩
  ·obtain⟨ad,e,_,h⟩:=key k hk;exact ET w' _ _ (hL _ (by rw[List.getD_eq_getElem?_getD,List.getElem?_eq_getElem hk];exact List.getElem_mem hk)) (Rvs.keep hk2 _ _ h)
 ·rw[za4 hc];refine(zhW a L.length cap lo hi f w hc).mono ?_;rintro e w' ⟨rfl,rfl⟩;exact⟨rfl,Keep.refl _⟩
set_option maxHeartbeats 2000000 in
theorem zjp (a:Option Addr) (n cap lo hi:Nat) (f:FuncId) (w:World) (h:¬(lo≤n∧n≤hi)):Calls Tryz.prog 90 #[.slice a n cap,.int .i64 (lo:Int),.int .i64 (hi:Int),.func (.func f) #[] #[]] w fun e w'=>e= .returned (.bool false)∧w'=w:=by
 by_cases h1:n<lo
 ·have l1:(n:Int)<(lo:Int):=by omega
  go_enter Tryz.func90,Tryz.ntmps90;go_wp2_with fail
  go_ret;exact⟨rfl,rfl⟩
 ·have l1:¬(n:Int)<(lo:Int):=by omega
  have l2:(hi:Int)<(n:Int):=by omega
  go_enter Tryz.func90,Tryz.ntmps90;go_wp2_with fail
  go_ret;exact⟨rfl,rfl⟩
set_option maxHeartbeats 4000000 in
theorem zqa (a:Option Addr) (n cap lo hi:Nat) (f:FuncId) (F0:Nat→Bool) (A1:Nat→Option Addr) (N1 C1:Nat→Nat) (B:Nat→Bool) (r:Bool) (w:World) (hlo:lo≤n) (hhi:n≤hi) (hh:hi≤100) (he:Ent f)
  (HC:Hid (∀ k,k<n→∃ ad,a=some ad∧w.cell? (ad.add (k * 2))=some (.bool (F0 k))∧w.cell? ⟨(ad.add (k * 2)).block,(ad.add (k * 2)).off+1,none⟩=some (.slice (A1 k) (N1 k) (C1 k))))
  (T1:Hid (∀ k,k<n→∀ w',Keep w w'→Calls Tryz.prog f #[.agg #[.bool (F0 k),.slice (A1 k) (N1 k) (C1 k)]] w' fun e w''=>e= .returned (.bool (B k))∧Keep w' w''))
  (H1:Hid (∀ k,k<n→B k=false→r=false)) (H2:Hid ((∀ k,k<n→B k=true)→r=true)):
  Calls Tryz.prog 90 #[.slice a n cap,.int .i64 (lo:Int),.int .i64 (hi:Int),.func (.func f) #[] #[]] w fun e w'=>e= .returned (.bool r)∧Keep w w':=by
 have l1:¬(n:Int)<(lo:Int):=by omega
 have l2:¬(hi:Int)<(n:Int):=by omega
 have hn:n≤100:=by omega
 clear hlo hhi hh;have he2:∀(xs:Array Value) (w:World),(callFunc f xs).run Tryz.prog w= .ok (.enter f xs) w:=he;clear he;go_enter Tryz.func90,Tryz.ntmps90;go_wp2_with fail
 go_loopw [23] (fun vi wr=>∃ k:Nat,k≤n∧vi= .int .i64 (k:Int)∧Hid (∀ j,j<k→B j=true)∧Hid (Keep w wr)) (fun vi wr=>n - (intOf vi).toNat)
 case atStart=>exact⟨0,Nat.zero_le _,rfl,hide fun j hj=>by omega,hide (Keep.refl w)⟩
 case round=>
  obtain⟨k,hk,rfl,HN,HK⟩:=hrel;by_cases hlt:k<n
  ·have li:(k:Int)<(n:Int):=by omega
   obtain⟨ad,ea,c0,c1⟩:=(uq HC) k hlt;subst ea;replace c0:=Q.kcell (uq HK) c0;replace c1:=Q.kcell (uq HK) c1;have HT:=hide ((uq T1) k hlt);have HQ:=hide ((uq H1) k hlt);obtain⟨b,hb⟩:∃ b,B k=b:=⟨_,rfl⟩;rw[hb]at HT HQ;have HBK:=hide hb;clear hb;generalize F0 k=f0 at c0 HT;generalize A1 k=x1 at c1 HT;generalize N1 k=y1 at c1 HT;generalize C1 k=z1 at c1 HT;go_wp2_with fail
   (refine((uq HT) _ ((uq HK).alloc _)).mono ?_;rintro e w3 ⟨rfl,hk3⟩;have HK3:=hide (Keep.trans ((uq HK).alloc _) hk3);clear hk3);cases b with
   |false=>
    have hr:=(uq HQ) rfl;subst hr;go_wp2_with fail
    go_ret;exact⟨rfl,uq HK3⟩
   |true=>
    go_wp2_with fail
    go_roundw
    case rel=>exact⟨k+1,hlt,by go_num,hide fun j hj=>(Nat.lt_succ_iff_lt_or_eq.1 hj).elim ((uq HN) j) (fun e=>e▸uq HBK),HK3⟩
    case measure=>simp[intOf];omega
  ·have hr:=(uq H2) (fun j hj=>(uq HN) j (by omega));subst hr;go_wp2_with fail
   go_ret;exact⟨rfl,uq HK⟩
theorem zhX {w:World} {L:List (List D)} {a:Option Addr} {cap lo hi:Nat} {f:FuncId} {B:List D→Bool} (hh:hi≤100) (he:Ent f) (hL:∀ ds∈L,ShL zeG ds) (HA:Rvss w a 2 L 0)
  (ET:∀ w' ds us,ShL zeG ds→Rvs w' ds us→Calls Tryz.prog f #[.agg us.toArray] w' fun e w''=>e= .returned (.bool (B ds))∧Keep w' w''):
  Calls Tryz.prog 90 #[.slice a L.length cap,.int .i64 (lo:Int),.int .i64 (hi:Int),.func (.func f) #[] #[]] w fun e w'=>e= .returned (.bool (zbb lo hi B L))∧Keep w w':=by
 by_cases hc:lo≤L.length∧L.length≤hi
 ·have key:∀ k,k<L.length→∃ ad,a=some ad∧(w.cell? (ad.add (k * 2))=some (.bool (fB (gt (L.getD k []) 0)))∧w.cell? ⟨(ad.add (k * 2)).block,(ad.add (k * 2)).off+1,none⟩=some (.slice (slA w ⟨((adO a).add (k * 2)).block,((adO a).add (k * 2)).off+1,none⟩) (slN w ⟨((adO a).add (k * 2)).block,((adO a).add (k * 2)).off+1,none⟩) (slC w ⟨((adO a).add (k * 2)).block,((adO a).add (k * 2)).off+1,none⟩)))∧Rvs w (L.getD k []) [.bool (fB (gt (L.getD k []) 0)),.slice (slA w ⟨((adO a).add (k * 2)).block,((adO a).add (k * 2)).off+1,none⟩) (slN w ⟨((adO a).add (k * 2)).block,((adO a).add (k * 2)).off+1,none⟩) (slC w ⟨((adO a).add (k * 2)).block,((adO a).add (k * 2)).off+1,none⟩)]:=by
   intro k hk
   obtain⟨ad,us,rfl,_,h1,h2,h3⟩:=zaL L 0 HA k hk;have hs:=hL (L.getD k []) (by rw[List.getD_eq_getElem?_getD,List.getElem?_eq_getElem hk];exact List.getElem_mem hk);generalize L.getD k []=ds at h1 hs;simp only[ShL,Sh1,zeG]at hs;obtain⟨_,_,rfl,⟨f0,rfl⟩,⟨_,_,rfl,⟨L1,rfl,_,_⟩,rfl⟩⟩:=hs;simp only[Rvs,Rv,dS,dI,dB]at h1;obtain⟨_,_,rfl,rfl,⟨_,_,rfl,⟨x1,z1,rfl,y1,m1⟩,rfl⟩⟩:=h1;rw[Nat.zero_add]at h3;have e0:w.cell? (ad.add (k * 2))=_:=h3 0 _ rfl;have e1:w.cell? ⟨(ad.add (k * 2)).block,(ad.add (k * 2)).off+1,none⟩=_:=h3 1 _ rfl;have q1:Value.slice (slA w ⟨(ad.add (k * 2)).block,(ad.add (k * 2)).off+1,none⟩) (slN w ⟨(ad.add (k * 2)).block,(ad.add (k * 2)).off+1,none⟩) (slC w ⟨(ad.add (k * 2)).block,(ad.add (k * 2)).off+1,none⟩)= .slice x1 L1.length z1:=by simp only[slA,slN,slC,e1]
   refine⟨ad,rfl,⟨e0,e1.trans (congrArg some q1.symm)⟩,?_⟩;simp only[Rvs,Rv,dS,dI,dB];exact⟨_,_,rfl,rfl,⟨_,_,rfl,⟨x1,z1,q1,y1,m1⟩,rfl⟩⟩
  refine zqa a L.length cap lo hi f (fun k=>fB (gt (L.getD k []) 0)) (fun k=>slA w ⟨((adO a).add (k * 2)).block,((adO a).add (k * 2)).off+1,none⟩) (fun k=>slN w ⟨((adO a).add (k * 2)).block,((adO a).add (k * 2)).off+1,none⟩) (fun k=>slC w ⟨((adO a).add (k * 2)).block,((adO a).add (k * 2)).off+1,none⟩) (fun k=>B (L.getD k [])) _ w hc.1 hc.2 hh he (hide fun k hk=>?_) (hide fun k hk w' hk2=>?_) (hide fun k hk h=>zan hk h) (hide fun h=>zaR hc h)
  ·obtain⟨ad,e,h,_⟩:=key k hk;exact⟨ad,e,h⟩
  ·obtain⟨ad,e,_,h⟩:=key k hk;exact ET w' _ _ (hL _ (by rw[List.getD_eq_getElem?_getD,List.getElem?_eq_getElem hk];exact List.getElem_mem hk)) (Rvs.keep hk2 _ _ h)
 ·rw[za4 hc];refine(zjp a L.length cap lo hi f w hc).mono ?_;rintro e w' ⟨rfl,rfl⟩;exact⟨rfl,Keep.refl _⟩
set_option maxHeartbeats 2000000 in
theorem zjq (a:Option Addr) (n cap lo hi:Nat) (f:FuncId) (w:World) (h:¬(lo≤n∧n≤hi)):Calls Tryz.prog 89 #[.slice a n cap,.int .i64 (lo:Int),.int .i64 (hi:Int),.func (.func f) #[] #[]] w fun e w'=>e= .returned (.bool false)∧w'=w:=by
 by_cases h1:n<lo
 ·have l1:(n:Int)<(lo:Int):=by omega
  go_enter Tryz.func89,Tryz.ntmps89;go_wp2_with fail
  go_ret;exact⟨rfl,rfl⟩
 ·have l1:¬(n:Int)<(lo:Int):=by omega
  have l2:(hi:Int)<(n:Int):=by omega
  go_enter Tryz.func89,Tryz.ntmps89;go_wp2_with fail
  go_ret;exact⟨rfl,rfl⟩
set_option maxHeartbeats 4000000 in
theorem zqb (a:Option Addr) (n cap lo hi:Nat) (f:FuncId) (S0:Nat→ByteArray) (B:Nat→Bool) (r:Bool) (w:World) (hlo:lo≤n) (hhi:n≤hi) (hh:hi≤100) (he:Ent f)
  (HC:Hid (∀ k,k<n→∃ ad,a=some ad∧w.cell? (ad.add k)=some (.string (S0 k))))
  (T1:Hid (∀ k,k<n→∀ w',Keep w w'→Calls Tryz.prog f #[.string (S0 k)] w' fun e w''=>e= .returned (.bool (B k))∧Keep w' w''))
  (H1:Hid (∀ k,k<n→B k=false→r=false)) (H2:Hid ((∀ k,k<n→B k=true)→r=true)):
  Calls Tryz.prog 89 #[.slice a n cap,.int .i64 (lo:Int),.int .i64 (hi:Int),.func (.func f) #[] #[]] w fun e w'=>e= .returned (.bool r)∧Keep w w':=by
 have l1:¬(n:Int)<(lo:Int):=by omega
 have l2:¬(hi:Int)<(n:Int):=by omega
 have hn:n≤100:=by omega
 clear hlo hhi hh;have he2:∀(xs:Array Value) (w:World),(callFunc f xs).run Tryz.prog w= .ok (.enter f xs) w:=he;clear he;go_enter Tryz.func89,Tryz.ntmps89;go_wp2_with fail
 go_loopw [23] (fun vi wr=>∃ k:Nat,k≤n∧vi= .int .i64 (k:Int)∧Hid (∀ j,j<k→B j=true)∧Hid (Keep w wr)) (fun vi wr=>n - (intOf vi).toNat)
 case atStart=>exact⟨0,Nat.zero_le _,rfl,hide fun j hj=>by omega,hide (Keep.refl w)⟩
 case round=>
  obtain⟨k,hk,rfl,HN,HK⟩:=hrel;by_cases hlt:k<n
  ·have li:(k:Int)<(n:Int):=by omega
   obtain⟨ad,ea,c0⟩:=(uq HC) k hlt;subst ea;replace c0:=Q.kcell (uq HK) c0;have HT:=hide ((uq T1) k hlt);have HQ:=hide ((uq H1) k hlt);obtain⟨b,hb⟩:∃ b,B k=b:=⟨_,rfl⟩;rw[hb]at HT HQ;have HBK:=hide hb;clear hb;generalize S0 k=s0 at c0 HT;go_wp2_with fail
   (refine((uq HT) _ (uq HK)).mono ?_;rintro e w3 ⟨rfl,hk3⟩;have HK3:=hide (Keep.trans (uq HK) hk3);clear hk3);cases b with
   |false=>
    have hr:=(uq HQ) rfl;subst hr;go_wp2_with fail
    go_ret;exact⟨rfl,uq HK3⟩
   |true=>
    go_wp2_with fail
    go_roundw
    case rel=>exact⟨k+1,hlt,by go_num,hide fun j hj=>(Nat.lt_succ_iff_lt_or_eq.1 hj).elim ((uq HN) j) (fun e=>e▸uq HBK),HK3⟩
    case measure=>simp[intOf];omega
  ·have hr:=(uq H2) (fun j hj=>(uq HN) j (by omega));subst hr;go_wp2_with fail
   go_ret;exact⟨rfl,uq HK⟩
theorem zeV {w:World} {L:List (List D)} {a:Option Addr} {cap lo hi:Nat} {f:FuncId} {B:List D→Bool} (hh:hi≤100) (he:Ent f) (hL:∀ ds∈L,ShL zbK ds) (HA:Rvss w a 1 L 0)
  (ET:∀ w' ds us,ShL zbK ds→Rvs w' ds us→Calls Tryz.prog f #[us.getD 0 (.bool false)] w' fun e w''=>e= .returned (.bool (B ds))∧Keep w' w''):
  Calls Tryz.prog 89 #[.slice a L.length cap,.int .i64 (lo:Int),.int .i64 (hi:Int),.func (.func f) #[] #[]] w fun e w'=>e= .returned (.bool (zbb lo hi B L))∧Keep w w':=by
 by_cases hc:lo≤L.length∧L.length≤hi
 ·have key:∀ k,k<L.length→∃ ad,a=some ad∧(w.cell? (ad.add k)=some (.string (fS (gt (L.getD k []) 0))))∧Rvs w (L.getD k []) [.string (fS (gt (L.getD k []) 0))]:=by
   intro k hk
   obtain⟨ad,us,rfl,_,h1,h2,h3⟩:=zaL L 0 HA k hk;have hs:=hL (L.getD k []) (by rw[List.getD_eq_getElem?_getD,List.getElem?_eq_getElem hk];exact List.getElem_mem hk);generalize L.getD k []=ds at h1 hs;simp only[ShL,Sh1,zbK]at hs;obtain⟨_,_,rfl,⟨s0,rfl,_⟩,rfl⟩:=hs;simp only[Rvs,Rv,dS,dI,dB]at h1;obtain⟨_,_,rfl,rfl,rfl⟩:=h1;rw[Nat.zero_add]at h3;have e0:=h3 0 _ rfl;rw[Nat.mul_one]at e0;replace e0:w.cell? (ad.add k)=some (.string (sv s0)):=e0;refine⟨ad,rfl,e0,?_⟩;simp only[Rvs,Rv,dS,dI,dB];exact⟨_,_,rfl,rfl,rfl⟩
  refine zqb a L.length cap lo hi f (fun k=>fS (gt (L.getD k []) 0)) (fun k=>B (L.getD k [])) _ w hc.1 hc.2 hh he (hide fun k hk=>?_) (hide fun k hk w' hk2=>?_) (hide fun k hk h=>zan hk h) (hide fun h=>zaR hc h)
  ·obtain⟨ad,e,h,_⟩:=key k hk;exact⟨ad,e,h⟩
  ·obtain⟨ad,e,_,h⟩:=key k hk;exact ET w' _ _ (hL _ (by rw[List.getD_eq_getElem?_getD,List.getElem?_eq_getElem hk];exact List.getElem_mem hk)) (Rvs.keep hk2 _ _ h)
 ·rw[za4 hc];refine(zjq a L.length cap lo hi f w hc).mono ?_;rintro e w' ⟨rfl,rfl⟩;exact⟨rfl,Keep.refl _⟩
end S
end Go.Proofs.YtfepanidippjlaaGreatDoor
