/- Package lex, one byte: its kind, and what goes on with what; the document's letters, digits and signs. -/
import Derived.Test.YtpdcabfabghbkaaLMath
import Derived.Test.YtpdcabfabghbkaaExt
import Derived.Test.YtpdcabfabghbkaaProg
import Derived.Deep.DrawnRows
import Derived.Laws.AppendOwn
import Derived.Laws.OwnMore
import Derived.Laws.IdiomStrings
import Derived.OwnWalk
import Derived.LoopTactic
import Derived.Deep.DeepCutAuto
namespace Go.Proofs.Ytpdcabfabghbkaa
open Go.RowKit
attribute [local go_sem ↓] Go.wp_at_zero Go.wp_at_succ
set_option linter.unusedVariables false
set_option linter.unusedSimpArgs false
set_option maxRecDepth 10000
theorem zcB {a b:Bool} (h:a=b):Ending.returned (.bool a)= .returned (.bool b):=by rw[h]
set_option maxHeartbeats 2000000 in
theorem zcQ (c:Int) (w:World):Calls Try.prog 78 #[.int .u8 c] w fun e w'=>e= .returned (.bool (decide (97≤c∧c≤122)))∧w'=w:=by
 go_enter Try.func78,Try.ntmps78;go_wp2;all_goals (go_ret;refine⟨zcB ?_,rfl⟩;rw[Bool.eq_iff_iff];(first|simp only[zcr]|skip);simp only[beq_iff_eq,bne_iff_ne,beq_eq_false_iff_ne,ne_eq,decide_eq_true_eq,Bool.or_eq_true,Bool.and_eq_true,Bool.false_eq_true,false_iff,true_iff]at *;omega)
set_option maxHeartbeats 2000000 in
theorem zb9 (c:Int) (w:World):Calls Try.prog 79 #[.int .u8 c] w fun e w'=>e= .returned (.bool (decide (48≤c∧c≤57)))∧w'=w:=by
 go_enter Try.func79,Try.ntmps79;go_wp2;all_goals (go_ret;refine⟨zcB ?_,rfl⟩;rw[Bool.eq_iff_iff];(first|simp only[zcr]|skip);simp only[beq_iff_eq,bne_iff_ne,beq_eq_false_iff_ne,ne_eq,decide_eq_true_eq,Bool.or_eq_true,Bool.and_eq_true,Bool.false_eq_true,false_iff,true_iff]at *;omega)
set_option maxHeartbeats 2000000 in
theorem zfe (c:Int) (w:World):Calls Try.prog 80 #[.int .u8 c] w fun e w'=>e= .returned (.bool (decide (c=123∨c=125∨c=44∨c=59∨c=58∨c=47∨c=45)))∧w'=w:=by
 go_enter Try.func80,Try.ntmps80;go_wp2;all_goals (go_ret;refine⟨zcB ?_,rfl⟩;rw[Bool.eq_iff_iff];(first|simp only[zcr]|skip);simp only[beq_iff_eq,bne_iff_ne,beq_eq_false_iff_ne,ne_eq,decide_eq_true_eq,Bool.or_eq_true,Bool.and_eq_true,Bool.false_eq_true,false_iff,true_iff]at *;omega)
end Go.Proofs.Ytpdcabfabghbkaa
namespace Go.Proofs.Ytpdcabfabghbkaa
open Go.RowKit
set_option linter.unusedVariables false
set_option linter.unusedSimpArgs false
theorem zaG (ad:Addr) (n:Nat):(ad.add n).block=ad.block:=by unfold Addr.add;split<;>rfl
theorem zaR (b o n:Nat):(⟨b,o,none⟩:Addr).add n=⟨b,o+n,none⟩:=by unfold Addr.add;split<;>simp_all
def By (w:World) (v:Value) (l:List UInt8):Prop:=∃ a cap,v= .slice a l.length cap∧l.length≤cap∧∀ k,k<l.length→∃ ad,a=some ad∧ad.block<w.heap.size∧w.cell? (ad.add k)=some (.int .u8 ((l.getD k 0).toNat:Int))
theorem By.keep {w w':World} {v:Value} {l:List UInt8} (h:By w v l) (hk:Keep w w'):By w' v l:=by
 obtain⟨a,cap,rfl,hc,h⟩:=h;refine⟨a,cap,rfl,hc,fun k hlt=>?_⟩;obtain⟨ad,h0,h1,h2⟩:=h k hlt;exact⟨ad,h0,Nat.lt_of_lt_of_le h1 (Below.size hk),by rw[Below.cell hk (by rw[zaG];exact h1)];exact h2⟩
theorem By.shape {w:World} {v:Value} {l:List UInt8} (h:By w v l):∃ a cap,v= .slice a l.length cap:=by obtain⟨a,cap,rfl,_⟩:=h;exact⟨a,cap,rfl⟩
end Go.Proofs.Ytpdcabfabghbkaa
namespace Go.Proofs.Ytpdcabfabghbkaa
open Go.RowKit
attribute [local go_sem ↓] Go.wp_at_zero Go.wp_at_succ
set_option linter.unusedVariables false
set_option linter.unusedSimpArgs false
set_option maxRecDepth 10000
def Cy (w:World) (a:Option Addr) (n:Nat) (C:Nat→Int):Prop:=∀ k,k<n→∃ ad,a=some ad∧ad.block<w.heap.size∧w.cell? (ad.add k)=some (.int .u8 (C k))
theorem Cy.keep {w w':World} {a:Option Addr} {n:Nat} {C:Nat→Int} (h:Cy w a n C) (hk:Keep w w'):Cy w' a n C:=by
 intro k hlt
 obtain⟨ad,h0,h1,h2⟩:=h k hlt;exact⟨ad,h0,Nat.lt_of_lt_of_le h1 (Below.size hk),by rw[Below.cell hk (by rw[zaG];exact h1)];exact h2⟩
theorem By.cy {w:World} {a:Option Addr} {n cap:Nat} {l:List UInt8} (h:By w (.slice a n cap) l):Cy w a l.length (fun k=>((l.getD k 0).toNat:Int)):=by
 obtain⟨a',cap',e,_,h⟩:=h;injection e with e1 e2 e3
 subst e1;exact h
set_option maxHeartbeats 4000000 in
theorem zec (a:Option Addr) (n cap i E:Nat) (C:Nat→Int) (S R:Nat→Nat) (w:World) (hn:n≤70000) (hi:i≤n)
  (HC:Hid (Cy w a n C))
  (H0:Hid (∀ k,k<n→C k=35→R k=S k))
  (H1:Hid (∀ k,k<n→C k≠10→R (k+1)=R k))
  (H2:Hid (∀ k,k<n→C k=10→R k=S k))
  (H3:Hid (∀ k,n≤k→S k=k∧R k=k))
  (H4:Hid (∀ k,k<n→(C k=32∨C k=9∨C k=10∨C k=13)→S (k+1)=S k))
  (H5:Hid (∀ k,k<n→¬(C k=35∨C k=32∨C k=9∨C k=10∨C k=13)→S k=k))
  (HE:Hid (S i=E)):
  Calls Try.prog 71 #[.slice a n cap,.int .i64 (i:Int)] w fun e w'=>e= .returned (.int .i64 (E:Int))∧w'=w:=by
 go_enter Try.func71,Try.ntmps71;go_wp2_with fail
 go_loop [1] (fun vi=>∃ k:Nat,k≤n∧vi= .int .i64 (k:Int)∧Hid (S k=E)) (fun vi=>n - (intOf vi).toNat)
 case atStart=>exact⟨i,hi,rfl,HE⟩
 case round=>
  obtain⟨k,hk,rfl,hE⟩:=hrel;by_cases hlt:k<n
  ·have li:(k:Int)<(n:Int):=by omega
   obtain⟨ad,rfl,hb,ck⟩:=(uq HC) k hlt;by_cases hc:C k=35
   ·have h35:(C k==35)=true:=by simp[hc]
    have HCk:=hide hc;clear hc;go_wp2_with fail
    go_loop [1] (fun vi=>∃ j:Nat,k≤j∧j≤n∧vi= .int .i64 (j:Int)∧Hid (R j=E)) (fun vi=>n - (intOf vi).toNat)
    case atStart=>exact⟨k,Nat.le_refl _,hk,rfl,((uq H0) k hlt (uq HCk)).trans (uq hE)⟩
    case round=>
     obtain⟨j,hkj,hj,rfl,hR⟩:=hrel;by_cases hjn:j<n
     ·have lj:(j:Int)<(n:Int):=by omega
      obtain⟨ad',e,_,cj⟩:=(uq HC) j hjn;injection e with e
      subst e;by_cases h10:C j=10
      ·have hb10:(C j !=10)=false:=by simp[h10]
       have hne:k≠j:=by
        intro e
        have h0:=uq HCk;rw[e,h10]at h0;omega
       have HS:Hid (S j=E):=((uq H2) j hjn h10).symm.trans (uq hR);clear h10;go_wp2_with fail
       exact⟨⟨j,hj,rfl,HS⟩,by simp[intOf];omega⟩
      ·have hb10:(C j !=10)=true:=by simp[h10]
       have HR':Hid (R (j+1)=E):=((uq H1) j hjn h10).trans (uq hR);clear h10;go_wp2_with fail
       exact⟨⟨j+1,by omega,hjn,by go_num,HR'⟩,by simp[intOf];omega⟩
     ·have HS:Hid (S j=E):=by
       have h3:=(uq H3) j (by omega);exact(h3.1.trans h3.2.symm).trans (uq hR)
      go_wp2_with fail
      exact⟨⟨j,hj,rfl,HS⟩,by simp[intOf];omega⟩
   ·have h35:(C k==35)=false:=by simp[hc]
    have HCk:=hide hc;clear hc;go_wp2_with fail
    iterate 4
     ·refine⟨⟨k+1,hlt,by go_num,?_⟩,by simp[intOf];omega⟩;refine((uq H4) k hlt ?_).trans (uq hE);simp only[beq_iff_eq]at *;omega
    ·have hEk:k=E:=by
      have:=uq hE;rw[(uq H5) k hlt (by have:=uq HCk;simp only[beq_eq_false_iff_ne]at *;omega)]at this;omega
     subst hEk;go_ret;exact⟨rfl,rfl⟩
  ·have hEk:k=E:=by have:=uq hE;rw[((uq H3) k (by omega)).1]at this;omega
   subst hEk;go_wp2_with fail
   go_ret;exact⟨rfl,rfl⟩
theorem zff (v:Value) (l:List UInt8) (i:Nat) (w:World) (hl:l.length≤70000) (hi:i≤l.length) (h:By w v l):
  Calls Try.prog 71 #[v,.int .i64 (i:Int)] w fun e w'=>e= .returned (.int .i64 (sk false l i:Nat))∧w'=w:=by
 obtain⟨a,cap,rfl⟩:=h.shape;exact zec a l.length cap i _ (fun k=>((l.getD k 0).toNat:Int)) (sk false l) (sk true l) w hl hi (hide h.cy)
  (hide fun k hk hq=>zga l k hk ((zk1 _).2 hq)) (hide fun k hk hq=>ziv l k hk (fun h=>hq ((zj8 _).1 h))) (hide fun k hk hq=>ziu l k hk ((zj8 _).2 hq)) (hide fun k hk=>⟨zfR _ _ _ hk,zfR _ _ _ hk⟩)
  (hide fun k hk hq=>zfd l k hk (by rw[zk0,zj8];omega)) (hide fun k hk hq=>zf9 l k hk (by rw[zk0,zj8,zk1];omega)) (hide rfl)
end Go.Proofs.Ytpdcabfabghbkaa
namespace Go.Proofs.Ytpdcabfabghbkaa
open Go.RowKit
set_option linter.unusedVariables false
set_option linter.unusedSimpArgs false
structure Tok where
 k:Int
 s:List UInt8
 n:Int
 p:Int
deriving DecidableEq
def num (l:List UInt8):Int:=l.foldl (fun v c=>v * 10+((c.toNat:Int) - 48)) 0
def one (r:List UInt8) (p:Nat):Except Int Tok:=
 match r with
 | []=> .ok ⟨0,[],0,p⟩
 |c :: _=>
  if kd c.toNat=4 then(if 24<en r then .error 4 else .ok ⟨1,r.take (en r),0,p⟩)
  else if kd c.toNat=5 then(if 18<en r then .error 4 else .ok ⟨2,r.take (en r),num (r.take (en r)),p⟩)
  else if kd c.toNat=7 then .ok ⟨3,r.take (en r),0,p⟩
  else .error 40
def pre (acc:List Tok):Except (Int×Nat) (List Tok)→Except (Int×Nat) (List Tok)
 | .error x=> .error x
 | .ok r=> .ok (acc++r)
theorem zhF (x:Except (Int×Nat) (List Tok)):pre [] x=x:=by cases x<;>rfl
theorem zhG (a b:List Tok) (x:Except (Int×Nat) (List Tok)):pre a (pre b x)=pre (a++b) x:=by cases x<;>simp[pre]
def tkz:Nat→List UInt8→Nat→Except (Int×Nat) (List Tok)
 |0,_,_=> .ok []
 |f+1,r,p=>
  match one (r.drop (skp false r)) (p+skp false r)with
  | .error e=> .error (e,p+skp false r)
  | .ok t=>if t.k=0 then .ok [t]else pre [t] (tkz f ((r.drop (skp false r)).drop t.s.length) (p+skp false r+t.s.length))
theorem zfS (c:UInt8) (r:List UInt8):1≤en (c :: r):=by simp[en]
theorem zcR {r:List UInt8} {p:Nat} {t:Tok} (h:one r p= .ok t):t.p=p∧((r= []∧t=⟨0,[],0,p⟩)∨(t.k≠0∧r≠ []∧t.s=r.take (en r)∧t.s.length=en r∧1≤en r∧en r≤24)):=by
 cases r with
 |nil=>simp only[one,Except.ok.injEq]at h;subst h;exact⟨rfl,.inl ⟨rfl,rfl⟩⟩
 |cons c r=>
  have h1:=zfS c r;have h2:=zdM (c :: r);have h3:((c :: r).take (en (c :: r))).length=en (c :: r):=by rw[List.length_take];omega
  simp only[one]at h;split at h
  ·split at h
   ·cases h
   ·simp only[Except.ok.injEq]at h;subst h;exact⟨rfl,.inr ⟨by simp,by simp,rfl,h3,h1,by omega⟩⟩
  ·split at h
   ·split at h
    ·cases h
    ·simp only[Except.ok.injEq]at h;subst h;exact⟨rfl,.inr ⟨by simp,by simp,rfl,h3,h1,by omega⟩⟩
   ·split at h
    ·rename_i h7
     have e:en (c :: r)=1:=by
      have:tw (zcs c) r=0:=zeb fun x=>by unfold zcs;rw[h7];unfold on;simp
      simp[en,this]
     simp only[Except.ok.injEq]at h;subst h;exact⟨rfl,.inr ⟨by simp,by simp,rfl,h3,h1,by omega⟩⟩
    ·cases h
theorem zdn:∀(f g:Nat) (r:List UInt8) (p:Nat),r.length<f→r.length<g→tkz f r p=tkz g r p
 |0,_,_,_,h,_=>by omega
 | _,0,_,_,_,h=>by omega
 |f+1,g+1,r,p,hf,hg=>by
  simp only[tkz];split
  ·rfl
  ·rename_i t ht
   split
   ·rfl
   ·rename_i hk
    rcases(zcR ht).2 with ⟨_,h⟩|⟨_,_,_,h1,h2,_⟩
    ·rw[h]at hk;exact absurd rfl hk
    ·have:=zdM (r.drop (skp false r));rw[zdn f g _ _ (by simp only[List.length_drop]at *;omega) (by simp only[List.length_drop]at *;omega)]
def tk (r:List UInt8) (p:Nat):Except (Int×Nat) (List Tok):=tkz (r.length+1) r p
theorem zju (r:List UInt8) (p:Nat):tk r p=match one (r.drop (skp false r)) (p+skp false r)with
  | .error e=> .error (e,p+skp false r)
  | .ok t=>if t.k=0 then .ok [t]else pre [t] (tk ((r.drop (skp false r)).drop t.s.length) (p+skp false r+t.s.length)):=by
 unfold tk
 rw[tkz];split
 ·rfl
 ·rename_i t ht
  split
  ·rfl
  ·rename_i hk
   rcases(zcR ht).2 with ⟨_,h⟩|⟨_,_,_,h1,h2,_⟩
   ·rw[h]at hk;exact absurd rfl hk
   ·have:=zdM (r.drop (skp false r));rw[zdn _ _ _ _ (by simp only[List.length_drop]at *;omega) (Nat.lt_succ_self _)]
def T (l:List UInt8):Except (Int×Nat) (List Tok):=if 65536<l.length then .error (4,65536)else tk l 0
def tl:Except (Int×Nat) (List Tok)→List Tok
 | .ok l=>l
 | .error _=> []
def te:Except (Int×Nat) (List Tok)→Int
 | .ok _=>0
 | .error x=>x.1
def tn:Except (Int×Nat) (List Tok)→Nat
 | .ok _=>0
 | .error x=>x.2
def sv (l:List UInt8):ByteArray:=⟨l.toArray⟩
theorem zed (l:List UInt8):(sv l).size=l.length:=by simp[sv,ByteArray.size]
def tv (t:Tok):Value:= .agg #[.int .i64 t.k,.string (sv t.s),.int .i64 t.n,.int .i64 t.p]
def tc:List Tok→List Value
 | []=> []
 |t :: l=> .int .i64 t.k :: .string (sv t.s) :: .int .i64 t.n :: .int .i64 t.p :: tc l
theorem zca:∀ l m:List Tok,tc (l++m)=tc l++tc m
 | [],m=>rfl
 |p :: l,m=>by simp only[List.cons_append,tc,zca l m]
def t0:Tok:=⟨0,[],0,0⟩
theorem zjv:∀(l:List Tok) (k:Nat),k<l.length→(tc l)[k * 4]? =some (.int .i64 (l.getD k t0).k)∧(tc l)[k * 4+1]? =some (.string (sv (l.getD k t0).s))∧(tc l)[k * 4+2]? =some (.int .i64 (l.getD k t0).n)∧(tc l)[k * 4+3]? =some (.int .i64 (l.getD k t0).p)
 | [],k,h=>by simp at h
 |p :: l,0,h=>by simp[tc]
 |p :: l,k+1,h=>by
  have:=zjv l k (by simpa using h);rw[show(k+1) * 4=k * 4+1+1+1+1 by omega];simpa [tc]using this
def Tc (w:World) (ad:Addr) (t:Tok):Prop:=w.cell? ad=some (.int .i64 t.k)∧w.cell? ⟨ad.block,ad.off+1,none⟩=some (.string (sv t.s))∧w.cell? ⟨ad.block,ad.off+2,none⟩=some (.int .i64 t.n)∧w.cell? ⟨ad.block,ad.off+3,none⟩=some (.int .i64 t.p)
theorem Tc.keep {w w':World} {ad:Addr} {t:Tok} (h:Tc w ad t) (hb:ad.block<w.heap.size) (hk:Keep w w'):Tc w' ad t:=by
 obtain⟨h0,h1,h2,h3⟩:=h;refine⟨?_,?_,?_,?_⟩
 ·rw[Below.cell hk hb];exact h0
 ·rw[Below.cell (p:=⟨ad.block,ad.off+1,none⟩) hk hb];exact h1
 ·rw[Below.cell (p:=⟨ad.block,ad.off+2,none⟩) hk hb];exact h2
 ·rw[Below.cell (p:=⟨ad.block,ad.off+3,none⟩) hk hb];exact h3
def Ts (w:World) (v:Value) (L:List Tok):Prop:=∃ a cap,v= .slice a L.length cap∧L.length≤cap∧∀ k,k<L.length→∃ ad,a=some ad∧ad.block<w.heap.size∧Tc w (ad.add (k * 4)) (L.getD k t0)
theorem Ts.keep {w w':World} {v:Value} {L:List Tok} (h:Ts w v L) (hk:Keep w w'):Ts w' v L:=by
 obtain⟨a,cap,rfl,hc,h⟩:=h;refine⟨a,cap,rfl,hc,fun k hlt=>?_⟩;obtain⟨ad,h0,h1,h2⟩:=h k hlt;exact⟨ad,h0,Nat.lt_of_lt_of_le h1 (Below.size hk),h2.keep (by rw[zaG];exact h1) hk⟩
theorem Ts.shape {w:World} {v:Value} {L:List Tok} (h:Ts w v L):∃ a cap,v= .slice a L.length cap:=by obtain⟨a,cap,rfl,_⟩:=h;exact⟨a,cap,rfl⟩
theorem zee (w:World):Ts w (.slice none 0 0) []:=⟨none,0,rfl,Nat.le_refl _,fun k h=>by simp at h⟩
theorem zjw {w:World} {base:Nat} {e:TypeId} {v:Value} {L:List Tok} (h:w.ownsRow base e 4 v L.length (tc L)):Ts w v L:=by
 obtain⟨_,h⟩:=h;rcases h with ⟨rfl,h0⟩|⟨g,cap,cur,rfl,hb,hg,hc,hm,hs,ht⟩
 ·have:L= []:=List.eq_nil_of_length_eq_zero h0;subst this;exact zee w
 ·refine⟨_,cap,rfl,hc,fun k hk=>⟨_,rfl,(Array.getElem?_eq_some_iff.1 hg).1,?_⟩⟩;have hh:=zjv L k hk;rw[← ht,List.getElem?_take_of_lt (by omega),List.getElem?_take_of_lt (by omega),List.getElem?_take_of_lt (by omega),List.getElem?_take_of_lt (by omega)]at hh;rw[zaR,Nat.zero_add];unfold Tc
  simp only[World.cell?,hg];simpa using hh
end Go.Proofs.Ytpdcabfabghbkaa
namespace Go.Proofs.Ytpdcabfabghbkaa
open Go.RowKit
attribute [local go_sem ↓] Go.wp_at_zero Go.wp_at_succ
set_option linter.unusedVariables false
set_option linter.unusedSimpArgs false
set_option maxRecDepth 10000
def words:List (List UInt8):= [[99,121,99,108,101],[116,111],[98,121],[112,101,97,107],[110,111,100,101],[104,101,97,100],[118,111,108,117,109,101],[102,108,111,119],[117,115,101],[115,112,101,101,100],[103,114,97,100,101],[119,105,100,116,104],[108,101,110,103,116,104],[103,114,101,101,110],[119,97,108,107],[119,105,116,104],[108,111,110,103],[112,97,99,101],[108,101,97,115,116],[112,104,97,115,101],[103,114,111,117,112],[114,105,110,103],[102,114,101,101],[102,111,101],[97,114,116,101,114,121],[115,116,111,112],[111,117,116],[105,110],[97,104,101,97,100],[98,97,99,107],[119,101,105,103,104,116,115],[112,108,97,110],[111,102,102,115,101,116],[115,117,109],[115,112,108,105,116],[121,101,108,108,111,119],[114,101,100],[102,108,97,115,104],[98,101,115,116],[121,101,115],[110,111],[115,112,101,110,116]]
end Go.Proofs.Ytpdcabfabghbkaa
