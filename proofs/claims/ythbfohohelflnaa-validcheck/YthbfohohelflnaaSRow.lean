/- All tokens: the document. -/
import Derived.Test.YthbfohohelflnaaNVal
import Derived.Test.YthbfohohelflnaaNOpn
import Derived.Test.YthbfohohelflnaaLFact
import Derived.Deep.RegionHeld
namespace Go.Proofs.Ythbfohohelflnaa
open Go.RowKit
attribute [local go_sem ↓] Go.wp_at_zero Go.wp_at_succ
set_option linter.unusedVariables false
set_option linter.unusedSimpArgs false
set_option maxRecDepth 10000
set_option maxHeartbeats 4000000 in
theorem zd1 (a:Option Addr) (n cap:Nat) (X:Except (Int×Nat) (List Tok)) (A:Nat→Nat) (R:Nat→Except Int Tok) (F:Nat→Except (Int×Nat) (List Tok)) (w:World) (hn:n≤65536)
  (T1:Hid (∀ k,k≤n→∀ w',Keep w w'→Calls Try.prog 60 #[.slice a n cap,.int .i64 (k:Int)] w' fun e w''=>e= .returned (.int .i64 (A k:Nat))∧w''=w'))
  (T2:Hid (∀ k,k≤n→A k<n→∀ w',Keep w w'→Calls Try.prog 61 #[.slice a n cap,.int .i64 (A k:Nat)] w' fun e w''=>e= .returned (.tuple #[tv (rtk (R k)),.int .i64 (re (R k))])∧Keep w' w''))
  (HA:Hid (∀ k,k≤n→k≤A k∧A k≤n))
  (HR:Hid (∀ k t,k≤n→R k= .ok t→A k<n→t.k≠0∧1≤t.s.length∧A k+t.s.length≤n))
  (HE:Hid (∀ k e,k≤n→R k= .error e→e≠0∧F k= .error (e,A k)))
  (HF:Hid (∀ k t,k≤n→R k= .ok t→A k<n→F k=pre [t] (F (A k+t.s.length))))
  (HZ:Hid (∀ k,k≤n→A k=n→F k= .ok [⟨0,[],0,n⟩]))
  (H0:Hid (F 0=X)):
  Calls Try.prog 49 #[.slice a n cap] w (Tp X w):=by
 obtain⟨i0,hi,hz0,hz1,hz2⟩:=zax zkR;have hn':¬(65536:Int)<(n:Int):=by omega
 have T10:=hide ((uq T1) 0 (Nat.zero_le _) w (Keep.refl w));go_enter Try.func49,Try.ntmps49;go_wp2_with fail
 (refine(uq T10).mono ?_;rintro e w ⟨rfl,rfl⟩);go_wp2_with fail
 go_loopw [5,6] (fun vl vi wr=>∃(k:Nat) (acc:List Tok),k≤n∧acc.length≤k∧vi= .int .i64 (A k:Nat)∧wr.ownsRow w.heap.size 102 4 vl acc.length (tc acc)∧Hid (pre acc (F k)=X)∧Hid (Keep w wr)) (fun vl vi _=>n - (intOf vi).toNat)
 case atStart=>exact⟨0,[],Nat.zero_le _,Nat.le_refl _,rfl,World.ownsRow_nil _ _ _ _,by unfold Hid;rw[zhR];exact uq H0,hide (Keep.refl w)⟩
 case round=>
  obtain⟨k,acc,hk,hak,rfl,hrow,HX,HK⟩:=hrel;have HROW:=hide hrow;clear hrow;obtain⟨ha1,ha2⟩:=(uq HA) k hk;have hl9:acc.length≤70000:=by omega
  have hsz0:=Below.size (uq HK);by_cases hlt:A k<n
  ·have li:((A k:Nat):Int)<(n:Int):=by omega
   go_wp2_with fail
   (refine((uq T2) k hk hlt _ (uq HK)).mono ?_;rintro e w3 ⟨rfl,hk3⟩);have HK3:=hide ((uq HK).trans hk3);have HROW3:=hide (zfA (uq HROW) hk3);clear hk3 HK HROW;have hsz:=Below.size (uq HK3);cases hr:R k with
   |error e=>
    obtain⟨he,hf⟩:=(uq HE) k e hk hr;have HR1:Hid (X= .error (e,A k)):=by have:=uq HX;rw[hf]at this;exact this.symm
    have hb0:(e !=0)=true:=by simp[he]
    simp only[rtk,re,tv,t0];clear hf hr he;go_wp2_with fail
    go_ret3
    rw[uq HR1];exact⟨_,rfl,zeq _,zf9 _,(uq HK3).alloc _⟩
   |ok t=>
    have hf:=(uq HF) k t hk hr hlt;have hb:=(uq HR) k t hk hr hlt;obtain⟨kk,ss,nn,pp⟩:=t;simp only[rtk,re,tv]at hf hb ⊢;have HR1:Hid (pre (acc++ [⟨kk,ss,nn,pp⟩]) (F (A k+ss.length))=X):=by have:=uq HX;rw[hf,zhS]at this;exact this
    have hS:=zep ss;have HTC:Hid (tc (acc++ [⟨kk,ss,nn,pp⟩])=tc acc++ [.int .i64 kk,.string (sv ss),.int .i64 nn,.int .i64 pp]):=zce _ _;generalize sv ss=S at *;clear hf hr HX;have hb':=hb.2;clear hb;have hsz2:S.size≤70000:=by omega
    have hA3:=(uq HA) (A k+ss.length) hb'.2;have T1k:=hide ((uq T1) (A k+ss.length) hb'.2);have hcast:((A k+ss.length:Nat):Int)=(A k:Int)+(ss.length:Int):=by omega
    rw[hcast]at T1k;clear hcast;go_wp2_with (first
     |(at_builtin;refine wpList_append_own _ rfl _ _ 90 rfl w.heap.size 102 i0 _ 4 40 Try.underlying90 hi hz0 hz1 hz2 rfl (by decide) _ _ _ rfl (((uq HROW3).alloc _).alloc _) ⟨w3.heap.size+1,0,none⟩ 1 1 [.int .i64 kk,.string S,.int .i64 nn,.int .i64 pp] rfl rfl (zey w3 _ _ _ _ _ _) (by simp[Value.oneCell']) (by unfold maxLen;omega) (by omega) (by simp;omega) ?_;intro v' w4 hown' hgrow hnil;obtain⟨g',cp',rfl⟩:=zak hown';have HOWN:=hide hown';have HGROW:=hide hgrow;have HK4:=hide (Below.grown (((uq HK3).alloc _).alloc _) hgrow (by simp;omega) (fun j ej=>((uq HROW3).lt j ej).1));have c1:=zdZ rfl hgrow (fun j ej=>((uq HROW3).lt j ej).2) 1 (.string S) rfl;clear hown' hgrow hnil)
     |(go_at_call 60;refine((uq T1k) _ (uq HK4)).mono ?_;rintro e w5 ⟨rfl,rfl⟩))
    go_roundw
    case rel=>
     refine⟨A k+ss.length,acc++ [⟨kk,ss,nn,pp⟩],hb'.2,by rw[List.length_append];simp;omega,rfl,?_,HR1,HK4⟩;rw[uq HTC,List.length_append];exact uq HOWN
    case measure=>simp[intOf];omega
  ·have hAn:A k=n:=by omega
   have HR1:Hid (X= .ok (acc++ [⟨0,[],0,n⟩])):=by have:=uq HX;rw[(uq HZ) k hk hAn]at this;exact this.symm
   have HTC:Hid (tc (acc++ [⟨0,[],0,n⟩])=tc acc++ [.int .i64 0,.string ⟨#[]⟩,.int .i64 0,.int .i64 (n:Int)]):=zce _ _;rw[hAn];clear hAn HX;have hrow2:=uq HROW;go_wp2_with (at_builtin;refine wpList_append_own _ rfl _ _ 90 rfl w.heap.size 102 i0 _ 4 40 Try.underlying90 hi hz0 hz1 hz2 rfl (by decide) _ _ _ rfl ((uq HROW).alloc _) ⟨wr.heap.size,0,none⟩ 1 1 [.int .i64 0,.string ⟨#[]⟩,.int .i64 0,.int .i64 (n:Int)] rfl rfl (zdI wr _ _ _ _ _) (by simp[Value.oneCell']) (by unfold maxLen;omega) (by omega) (by simp;omega) ?_;intro v' w4 hown' hgrow hnil;obtain⟨g',cp',rfl⟩:=zak hown';have HOWN:=hide hown';have HK4:=hide (Below.grown ((uq HK).alloc _) hgrow (by simp;omega) (fun j ej=>((uq HROW).lt j ej).1));clear hown' hgrow hnil)
   go_ret3
   rw[uq HR1];refine⟨_,rfl,zjD (base:=w.heap.size) (e:=102) ?_,zjK (uq HOWN),uq HK4⟩;show w4.ownsRow _ _ _ _ (acc++ [_]).length (tc (acc++ [_]));rw[uq HTC,List.length_append];exact uq HOWN
theorem zh2 (l:List UInt8) (k:Nat):tk (l.drop k) k=match one (l.drop (sk false l k)) (sk false l k)with
  | .error e=>Except.error (e,sk false l k)
  | .ok t=>if t.k=0 then .ok [t]else pre [t] (tk (l.drop (sk false l k+t.s.length)) (sk false l k+t.s.length)):=by
 rw[zjB];have e1:(l.drop k).drop (skp false (l.drop k))=l.drop (sk false l k):=by rw[List.drop_drop];rfl
 rw[e1];simp only[List.drop_drop]
 rfl
theorem zeD (v:Value) (l:List UInt8) (w:World) (hl:l.length≤70000) (h:By w v l):Calls Try.prog 49 #[v] w (Tp (T l) w):=by
 obtain⟨a,cap,rfl⟩:=h.shape;unfold T
 by_cases hlong:65536<l.length
 ·rw[if_pos hlong];refine(zdY a l.length cap w hlong).mono ?_;rintro e w' ⟨rfl,rfl⟩;exact⟨_,rfl,zeq _,zf9 _,Keep.refl _⟩
 ·rw[if_neg hlong];refine zd1 a l.length cap (tk l 0) (sk false l) (fun k=>one (l.drop (sk false l k)) (sk false l k)) (fun k=>tk (l.drop k) k) w (by omega) (hide fun k hk w' hK=>zfu _ l k w' hl hk (h.keep hK)) (hide fun k hk hA w' hK=>zhX _ l _ w' hl hA (h.keep hK))
   (hide fun k hk=>⟨zkt _ _ _,zks _ _ _ hk⟩) (hide fun k t hk ht hA=>?_) (hide fun k e hk he=>?_) (hide fun k t hk ht hA=>?_) (hide fun k hk hA=>?_) (hide (by rw[List.drop_zero]))
  ·rcases(zcY ht).2 with ⟨h1,_⟩|⟨h0,_,_,h1,h2,_⟩
   ·have:=congrArg List.length h1;simp only[List.length_drop,List.length_nil]at this;omega
   ·have:=zdW (l.drop (sk false l k));simp only[List.length_drop]at *;exact⟨h0,by omega,by omega⟩
  ·refine⟨?_,?_⟩
   ·intro e0
    subst e0;cases hr:l.drop (sk false l k)with
    |nil=>rw[hr]at he;simp[one]at he
    |cons c r=>rw[hr]at he;simp only[one]at he;(repeat' split at he)<;>simp at he
   ·show tk (l.drop k) k=_;rw[zh2,he]
  ·show tk (l.drop k) k=_;rw[zh2,ht];rcases(zcY ht).2 with ⟨h1,_⟩|⟨h0,_⟩
   ·have:=congrArg List.length h1;simp only[List.length_drop,List.length_nil]at this;omega
   ·simp only[if_neg h0]
  ·show tk (l.drop k) k=_;rw[zh2,hA,List.drop_length]
   rfl
namespace S
def d0:D:= .val (.bool false)
def tS (d:D):List UInt8:=(fS d).data.toList
def gt (ds:List D) (k:Nat):D:=ds.getD k d0
def zc3:List Ty:= [.s]
def zdi:List Ty:= [.s,.i,.i,.i,.i,.i,.i,.i,.i,.i,.i]
def zjP:List Ty:= [.s,.s,.i,.i,.i,.i]
def zbo:List Ty:= [.s,.row 9 1 zc3,.i]
def zgb:List Ty:= [.b,.row 9 1 zc3]
def zbI:List Ty:= [.row 66 2 zgb]
def zjQ:List Ty:= [.s,.s,.i]
def zfC:List Ty:= [.s,.s,.s,.i,.i,.i]
def za6:List Ty:= [.s,.row 59 11 zdi,.row 61 6 zjP,.row 57 3 zbo,.row 64 1 zbI,.row 68 3 zjQ,.i]
def zdK:List Ty:= [.i,.i,.i,.i,.i,.row 40 7 za6,.row 43 6 zfC,.i,.i]
theorem net_desc:zd0 Try.prog 12 27=some zdK:=by kernel_rfl
end S
namespace S
def adO (a:Option Addr):Addr:=a.getD ⟨0,0,none⟩
end S
end Go.Proofs.Ythbfohohelflnaa
