/- Package show: rows of right things. -/
import Derived.Test.YthceiikgecoimaaGreatDoorSNum
namespace Go.Proofs.YthceiikgecoimaaGreatDoor
open Go.RowKit
attribute [local go_sem ↓] Go.wp_at_zero Go.wp_at_succ
set_option linter.unusedVariables false
set_option linter.unusedSimpArgs false
set_option maxRecDepth 10000
namespace S
inductive Ga:Nat->Prop|mk (n:Nat):Ga n
def Ent (fn:FuncId):Prop:=∀(xs:Array Value) (w:World),(callFunc fn xs).run Tryz.prog w= .ok (.enter fn xs) w
def adO (a:Option Addr):Addr:=a.getD ⟨0,0,none⟩
def ArN (fn:FuncId):Prop:=∀(a:Option Addr) (n cap lo hi:Nat) (f:FuncId) (w:World),¬(lo<=n/\n<=hi)->Calls Tryz.prog fn #[.slice a n cap,.int .i64 (lo:Int),.int .i64 (hi:Int),.func (.func f) #[] #[]] w λe w'=>e= .returned (.bool false)/\w'=w
def ArS (fn:FuncId) (N:Nat):Prop:=∀(a:Option Addr) (n cap lo hi:Nat) (f:FuncId) (B:Nat->Bool) (r:Bool) (w:World),lo<=n->n<=hi->hi<=100->Ent f->
  Hid (∀ k,k<n->∃(ad:Addr) (us:List Value),a=some ad/\us.length=N/\(∀ u∈us,u.oneCell'=true)/\(∀ j u,us[j]? =some u->w.cell? (ati (ad.add (k * N)) j)=some u)/\∀ w',Keep w w'->Calls Tryz.prog f #[.agg us.toArray] w' λe w''=>e= .returned (.bool (B k))/\Keep w' w'')->
  Hid (∀ k,k<n->B k=false->r=false)->Hid ((∀ k,k<n->B k=true)->r=true)->
  Calls Tryz.prog fn #[.slice a n cap,.int .i64 (lo:Int),.int .i64 (hi:Int),.func (.func f) #[] #[]] w λe w'=>e= .returned (.bool r)/\Keep w w'
theorem zgB {P:Program} {w:World} {a:Addr} {v:Value} {m:Mode} (hv:v.oneCell'=true):(store a v m).run P w=stored P w a v m:=run_store P w a v m hv
attribute [local go_sem] zgB
theorem zml {w:World} :∀(T:List Ty) (ds:List D) (us:List Value),ShL T ds->Rvs w ds us->∀ u∈us,u.oneCell'=true
 | [],ds,us,h,h1=>by simp only[ShL]at h;subst h;simp only[Rvs]at h1;subst h1;simp
 |t :: ts,ds,us,h,h1=>by
  simp only[ShL]at h;obtain⟨d,r,rfl,h2,h3⟩:=h;simp only[Rvs]at h1;obtain⟨u,vs,rfl,h4,h5⟩:=h1;intro x hx
  rcases List.mem_cons.1 hx with e|e
  ·subst e;cases t with
   |i=>simp only[Sh1]at h2;obtain⟨n,rfl,_⟩:=h2;simp only[Rv,dI]at h4;subst h4;rfl
   |s=>simp only[Sh1]at h2;obtain⟨n,rfl,_⟩:=h2;simp only[Rv,dS]at h4;subst h4;rfl
   |b=>simp only[Sh1]at h2;obtain⟨n,rfl⟩:=h2;simp only[Rv,dB]at h4;subst h4;rfl
   |row e z fs=>simp only[Sh1]at h2;obtain⟨L,rfl,_⟩:=h2;simp only[Rv]at h4;obtain⟨a,c,rfl,_⟩:=h4;rfl
  ·exact zml ts r vs h3 h5 x e
theorem pt1 {vs:List Value} (h:vs.length=1):∃ u0,vs= [u0]:=by
 match vs,h with
 | [u0],_=>exact⟨u0,rfl⟩
theorem pt2 {vs:List Value} (h:vs.length=2):∃ u0 u1,vs= [u0,u1]:=by
 match vs,h with
 | [u0,u1],_=>exact⟨u0,u1,rfl⟩
theorem pt3 {vs:List Value} (h:vs.length=3):∃ u0 u1 u2,vs= [u0,u1,u2]:=by
 match vs,h with
 | [u0,u1,u2],_=>exact⟨u0,u1,u2,rfl⟩
theorem pt6 {vs:List Value} (h:vs.length=6):∃ u0 u1 u2 u3 u4 u5,vs= [u0,u1,u2,u3,u4,u5]:=by
 match vs,h with
 | [u0,u1,u2,u3,u4,u5],_=>exact⟨u0,u1,u2,u3,u4,u5,rfl⟩
theorem pt7 {vs:List Value} (h:vs.length=7):∃ u0 u1 u2 u3 u4 u5 u6,vs= [u0,u1,u2,u3,u4,u5,u6]:=by
 match vs,h with
 | [u0,u1,u2,u3,u4,u5,u6],_=>exact⟨u0,u1,u2,u3,u4,u5,u6,rfl⟩
theorem zsZ {vs:List Value} (h:vs.length=11):∃ u0 u1 u2 u3 u4 u5 u6 u7 u8 u9 u10,vs= [u0,u1,u2,u3,u4,u5,u6,u7,u8,u9,u10]:=by
 match vs,h with
 | [u0,u1,u2,u3,u4,u5,u6,u7,u8,u9,u10],_=>exact⟨u0,u1,u2,u3,u4,u5,u6,u7,u8,u9,u10,rfl⟩
set_option maxHeartbeats 16000000 in
theorem arN:ArN 43/\ArN 35/\ArN 37/\ArN 39/\ArN 41/\ArN 16/\ArN 18/\ArN 73:=by
 refine⟨?_,?_,?_,?_,?_,?_,?_,?_⟩
 focus
  intro a n cap lo hi f w h
  have l:(n:Int)<(lo:Int)\/¬(n:Int)<(lo:Int)/\(hi:Int)<(n:Int):=by omega
  go_enter Tryz.func43,Tryz.ntmps43
 rotate_left
 focus
  intro a n cap lo hi f w h
  have l:(n:Int)<(lo:Int)\/¬(n:Int)<(lo:Int)/\(hi:Int)<(n:Int):=by omega
  go_enter Tryz.func35,Tryz.ntmps35
 rotate_left
 focus
  intro a n cap lo hi f w h
  have l:(n:Int)<(lo:Int)\/¬(n:Int)<(lo:Int)/\(hi:Int)<(n:Int):=by omega
  go_enter Tryz.func37,Tryz.ntmps37
 rotate_left
 focus
  intro a n cap lo hi f w h
  have l:(n:Int)<(lo:Int)\/¬(n:Int)<(lo:Int)/\(hi:Int)<(n:Int):=by omega
  go_enter Tryz.func39,Tryz.ntmps39
 rotate_left
 focus
  intro a n cap lo hi f w h
  have l:(n:Int)<(lo:Int)\/¬(n:Int)<(lo:Int)/\(hi:Int)<(n:Int):=by omega
  go_enter Tryz.func41,Tryz.ntmps41
 rotate_left
 focus
  intro a n cap lo hi f w h
  have l:(n:Int)<(lo:Int)\/¬(n:Int)<(lo:Int)/\(hi:Int)<(n:Int):=by omega
  go_enter Tryz.func16,Tryz.ntmps16
 rotate_left
 focus
  intro a n cap lo hi f w h
  have l:(n:Int)<(lo:Int)\/¬(n:Int)<(lo:Int)/\(hi:Int)<(n:Int):=by omega
  go_enter Tryz.func18,Tryz.ntmps18
 rotate_left
 focus
  intro a n cap lo hi f w h
  have l:(n:Int)<(lo:Int)\/¬(n:Int)<(lo:Int)/\(hi:Int)<(n:Int):=by omega
  go_enter Tryz.func73,Tryz.ntmps73
 rotate_left
 all_goals
  rcases l with l1|⟨l1,l2⟩
  all_goals
   go_wp2_with fail
   go_ret;exact⟨rfl,rfl⟩
set_option maxHeartbeats 64000000 in
theorem arS:ArS 43 3/\ArS 35 11/\ArS 37 6/\ArS 39 3/\ArS 41 1/\ArS 16 7/\ArS 18 6/\ArS 73 2:=by
 refine⟨?_,?_,?_,?_,?_,?_,?_,?_⟩
 focus
  intro a n cap lo hi f B r w hlo hhi hh he HC H1 H2
  have HG:=Ga.mk 3;have l1:¬(n:Int)<(lo:Int):=by omega
  have l2:¬(hi:Int)<(n:Int):=by omega
  have hn:n<=100:=by omega
  clear hlo hhi hh;have he2:∀(xs:Array Value) (w:World),(callFunc f xs).run Tryz.prog w= .ok (.enter f xs) w:=he;clear he;go_enter Tryz.func43,Tryz.ntmps43
 rotate_left
 focus
  intro a n cap lo hi f B r w hlo hhi hh he HC H1 H2
  have HG:=Ga.mk 11;have l1:¬(n:Int)<(lo:Int):=by omega
  have l2:¬(hi:Int)<(n:Int):=by omega
  have hn:n<=100:=by omega
  clear hlo hhi hh;have he2:∀(xs:Array Value) (w:World),(callFunc f xs).run Tryz.prog w= .ok (.enter f xs) w:=he;clear he;go_enter Tryz.func35,Tryz.ntmps35
 rotate_left
 focus
  intro a n cap lo hi f B r w hlo hhi hh he HC H1 H2
  have HG:=Ga.mk 6;have l1:¬(n:Int)<(lo:Int):=by omega
  have l2:¬(hi:Int)<(n:Int):=by omega
  have hn:n<=100:=by omega
  clear hlo hhi hh;have he2:∀(xs:Array Value) (w:World),(callFunc f xs).run Tryz.prog w= .ok (.enter f xs) w:=he;clear he;go_enter Tryz.func37,Tryz.ntmps37
 rotate_left
 focus
  intro a n cap lo hi f B r w hlo hhi hh he HC H1 H2
  have HG:=Ga.mk 3;have l1:¬(n:Int)<(lo:Int):=by omega
  have l2:¬(hi:Int)<(n:Int):=by omega
  have hn:n<=100:=by omega
  clear hlo hhi hh;have he2:∀(xs:Array Value) (w:World),(callFunc f xs).run Tryz.prog w= .ok (.enter f xs) w:=he;clear he;go_enter Tryz.func39,Tryz.ntmps39
 rotate_left
 focus
  intro a n cap lo hi f B r w hlo hhi hh he HC H1 H2
  have HG:=Ga.mk 1;have l1:¬(n:Int)<(lo:Int):=by omega
  have l2:¬(hi:Int)<(n:Int):=by omega
  have hn:n<=100:=by omega
  clear hlo hhi hh;have he2:∀(xs:Array Value) (w:World),(callFunc f xs).run Tryz.prog w= .ok (.enter f xs) w:=he;clear he;go_enter Tryz.func41,Tryz.ntmps41
 rotate_left
 focus
  intro a n cap lo hi f B r w hlo hhi hh he HC H1 H2
  have HG:=Ga.mk 7;have l1:¬(n:Int)<(lo:Int):=by omega
  have l2:¬(hi:Int)<(n:Int):=by omega
  have hn:n<=100:=by omega
  clear hlo hhi hh;have he2:∀(xs:Array Value) (w:World),(callFunc f xs).run Tryz.prog w= .ok (.enter f xs) w:=he;clear he;go_enter Tryz.func16,Tryz.ntmps16
 rotate_left
 focus
  intro a n cap lo hi f B r w hlo hhi hh he HC H1 H2
  have HG:=Ga.mk 6;have l1:¬(n:Int)<(lo:Int):=by omega
  have l2:¬(hi:Int)<(n:Int):=by omega
  have hn:n<=100:=by omega
  clear hlo hhi hh;have he2:∀(xs:Array Value) (w:World),(callFunc f xs).run Tryz.prog w= .ok (.enter f xs) w:=he;clear he;go_enter Tryz.func18,Tryz.ntmps18
 rotate_left
 focus
  intro a n cap lo hi f B r w hlo hhi hh he HC H1 H2
  have HG:=Ga.mk 2;have l1:¬(n:Int)<(lo:Int):=by omega
  have l2:¬(hi:Int)<(n:Int):=by omega
  have hn:n<=100:=by omega
  clear hlo hhi hh;have he2:∀(xs:Array Value) (w:World),(callFunc f xs).run Tryz.prog w= .ok (.enter f xs) w:=he;clear he;go_enter Tryz.func73,Tryz.ntmps73
 rotate_left
 all_goals
  go_wp2_with fail
  go_loopw [23] (λvi wr=>∃ k:Nat,k<=n/\vi= .int .i64 (k:Int)/\Hid (∀ j,j<k->B j=true)/\Hid (Keep w wr)) (λvi wr=>n - (intOf vi).toNat)
  case atStart=>exact⟨0,Nat.zero_le _,rfl,zh λj hj=>by omega,zh (zk w)⟩
  case round=>
   obtain⟨k,hk,rfl,HN,HK⟩:=hrel;by_cases hlt:k<n
   ·have li:(k:Int)<(n:Int):=by omega
    obtain⟨ad,us,ea,hl,ho,hc,ht⟩:=(uq HC) k hlt;subst ea;have HT:=zh ht;have HQ:=zh ((uq H1) k hlt);obtain⟨b,hb⟩:∃ b,B k=b:=⟨_,rfl⟩;rw[hb]at HT HQ;have HBK:=zh hb;clear hb ht;first
    |(have hG:Ga 1:=HG;clear hG HG;obtain⟨u0,rfl⟩:=pt1 hl;have c0:wr.cell? (ad.add k)=some u0:=Q.kcell (uq HK) (by have e:=hc 0 _ rfl;rw[Nat.mul_one]at e;exact e);have o0:=ho u0 (by simp);clear hc hl ho)
    |(have hG:Ga 2:=HG;clear hG HG;obtain⟨u0,u1,rfl⟩:=pt2 hl;have c0:wr.cell? (ad.add (k * 2))=some u0:=Q.kcell (uq HK) (hc 0 _ rfl);have c1:wr.cell? ⟨(ad.add (k * 2)).block,(ad.add (k * 2)).off+1,none⟩=some u1:=Q.kcell (uq HK) (hc 1 _ rfl);have o0:=ho u0 (by simp);have o1:=ho u1 (by simp);clear hc hl ho)
    |(have hG:Ga 3:=HG;clear hG HG;obtain⟨u0,u1,u2,rfl⟩:=pt3 hl;have c0:wr.cell? (ad.add (k * 3))=some u0:=Q.kcell (uq HK) (hc 0 _ rfl);have c1:wr.cell? ⟨(ad.add (k * 3)).block,(ad.add (k * 3)).off+1,none⟩=some u1:=Q.kcell (uq HK) (hc 1 _ rfl);have c2:wr.cell? ⟨(ad.add (k * 3)).block,(ad.add (k * 3)).off+2,none⟩=some u2:=Q.kcell (uq HK) (hc 2 _ rfl);have o0:=ho u0 (by simp);have o1:=ho u1 (by simp);have o2:=ho u2 (by simp);clear hc hl ho)
    |(have hG:Ga 6:=HG;clear hG HG;obtain⟨u0,u1,u2,u3,u4,u5,rfl⟩:=pt6 hl;have c0:wr.cell? (ad.add (k * 6))=some u0:=Q.kcell (uq HK) (hc 0 _ rfl);have c1:wr.cell? ⟨(ad.add (k * 6)).block,(ad.add (k * 6)).off+1,none⟩=some u1:=Q.kcell (uq HK) (hc 1 _ rfl);have c2:wr.cell? ⟨(ad.add (k * 6)).block,(ad.add (k * 6)).off+2,none⟩=some u2:=Q.kcell (uq HK) (hc 2 _ rfl);have c3:wr.cell? ⟨(ad.add (k * 6)).block,(ad.add (k * 6)).off+3,none⟩=some u3:=Q.kcell (uq HK) (hc 3 _ rfl);have c4:wr.cell? ⟨(ad.add (k * 6)).block,(ad.add (k * 6)).off+4,none⟩=some u4:=Q.kcell (uq HK) (hc 4 _ rfl);have c5:wr.cell? ⟨(ad.add (k * 6)).block,(ad.add (k * 6)).off+5,none⟩=some u5:=Q.kcell (uq HK) (hc 5 _ rfl);have o0:=ho u0 (by simp);have o1:=ho u1 (by simp);have o2:=ho u2 (by simp);have o3:=ho u3 (by simp);have o4:=ho u4 (by simp);have o5:=ho u5 (by simp);clear hc hl ho)
    |(have hG:Ga 7:=HG;clear hG HG;obtain⟨u0,u1,u2,u3,u4,u5,u6,rfl⟩:=pt7 hl;have c0:wr.cell? (ad.add (k * 7))=some u0:=Q.kcell (uq HK) (hc 0 _ rfl);have c1:wr.cell? ⟨(ad.add (k * 7)).block,(ad.add (k * 7)).off+1,none⟩=some u1:=Q.kcell (uq HK) (hc 1 _ rfl);have c2:wr.cell? ⟨(ad.add (k * 7)).block,(ad.add (k * 7)).off+2,none⟩=some u2:=Q.kcell (uq HK) (hc 2 _ rfl);have c3:wr.cell? ⟨(ad.add (k * 7)).block,(ad.add (k * 7)).off+3,none⟩=some u3:=Q.kcell (uq HK) (hc 3 _ rfl);have c4:wr.cell? ⟨(ad.add (k * 7)).block,(ad.add (k * 7)).off+4,none⟩=some u4:=Q.kcell (uq HK) (hc 4 _ rfl);have c5:wr.cell? ⟨(ad.add (k * 7)).block,(ad.add (k * 7)).off+5,none⟩=some u5:=Q.kcell (uq HK) (hc 5 _ rfl);have c6:wr.cell? ⟨(ad.add (k * 7)).block,(ad.add (k * 7)).off+6,none⟩=some u6:=Q.kcell (uq HK) (hc 6 _ rfl);have o0:=ho u0 (by simp);have o1:=ho u1 (by simp);have o2:=ho u2 (by simp);have o3:=ho u3 (by simp);have o4:=ho u4 (by simp);have o5:=ho u5 (by simp);have o6:=ho u6 (by simp);clear hc hl ho)
    |(have hG:Ga 11:=HG;clear hG HG;obtain⟨u0,u1,u2,u3,u4,u5,u6,u7,u8,u9,u10,rfl⟩:=zsZ hl;have c0:wr.cell? (ad.add (k * 11))=some u0:=Q.kcell (uq HK) (hc 0 _ rfl);have c1:wr.cell? ⟨(ad.add (k * 11)).block,(ad.add (k * 11)).off+1,none⟩=some u1:=Q.kcell (uq HK) (hc 1 _ rfl);have c2:wr.cell? ⟨(ad.add (k * 11)).block,(ad.add (k * 11)).off+2,none⟩=some u2:=Q.kcell (uq HK) (hc 2 _ rfl);have c3:wr.cell? ⟨(ad.add (k * 11)).block,(ad.add (k * 11)).off+3,none⟩=some u3:=Q.kcell (uq HK) (hc 3 _ rfl);have c4:wr.cell? ⟨(ad.add (k * 11)).block,(ad.add (k * 11)).off+4,none⟩=some u4:=Q.kcell (uq HK) (hc 4 _ rfl);have c5:wr.cell? ⟨(ad.add (k * 11)).block,(ad.add (k * 11)).off+5,none⟩=some u5:=Q.kcell (uq HK) (hc 5 _ rfl);have c6:wr.cell? ⟨(ad.add (k * 11)).block,(ad.add (k * 11)).off+6,none⟩=some u6:=Q.kcell (uq HK) (hc 6 _ rfl);have c7:wr.cell? ⟨(ad.add (k * 11)).block,(ad.add (k * 11)).off+7,none⟩=some u7:=Q.kcell (uq HK) (hc 7 _ rfl);have c8:wr.cell? ⟨(ad.add (k * 11)).block,(ad.add (k * 11)).off+8,none⟩=some u8:=Q.kcell (uq HK) (hc 8 _ rfl);have c9:wr.cell? ⟨(ad.add (k * 11)).block,(ad.add (k * 11)).off+9,none⟩=some u9:=Q.kcell (uq HK) (hc 9 _ rfl);have c10:wr.cell? ⟨(ad.add (k * 11)).block,(ad.add (k * 11)).off+10,none⟩=some u10:=Q.kcell (uq HK) (hc 10 _ rfl);have o0:=ho u0 (by simp);have o1:=ho u1 (by simp);have o2:=ho u2 (by simp);have o3:=ho u3 (by simp);have o4:=ho u4 (by simp);have o5:=ho u5 (by simp);have o6:=ho u6 (by simp);have o7:=ho u7 (by simp);have o8:=ho u8 (by simp);have o9:=ho u9 (by simp);have o10:=ho u10 (by simp);clear hc hl ho)
    go_wp2_with fail
    (refine((uq HT) _ ((uq HK).alloc _)).mono ?_;rintro e w3 ⟨rfl,hk3⟩;have HK3:=zh (Keep.trans ((uq HK).alloc _) hk3);clear hk3);cases b with
    |false=>
     have hr:=(uq HQ) rfl;subst hr;go_wp2_with fail
     go_ret;exact⟨rfl,uq HK3⟩
    |true=>
     go_wp2_with fail
     go_roundw
     case rel=>exact⟨k+1,hlt,by go_num,zh λj hj=>(Nat.lt_succ_iff_lt_or_eq.1 hj).elim ((uq HN) j) (λe=>e▸uq HBK),HK3⟩
     case measure=>simp[intOf];omega
   ·have hr:=(uq H2) (λj hj=>(uq HN) j (by omega));subst hr;go_wp2_with fail
    go_ret;exact⟨rfl,uq HK⟩
def ArA (fn:FuncId) (N:Nat) (T:List Ty):Prop:=∀ {w:World} {L:List (List D)} {a:Option Addr} {cap lo hi:Nat} {f:FuncId} {B:List D->Bool},hi<=100->Ent f->(∀ ds∈L,ShL T ds)->Rvss w a N L 0->
  (∀ w' ds us,ShL T ds->Rvs w' ds us->Calls Tryz.prog f #[.agg us.toArray] w' λe w''=>e= .returned (.bool (B ds))/\Keep w' w'')->
  Calls Tryz.prog fn #[.slice a L.length cap,.int .i64 (lo:Int),.int .i64 (hi:Int),.func (.func f) #[] #[]] w λe w'=>e= .returned (.bool (zcP lo hi B L))/\Keep w w'
theorem zeb {fn:FuncId} {N:Nat} {T:List Ty} (hS:ArS fn N) (hN:ArN fn):ArA fn N T:=by
 intro w L a cap lo hi f B hh he hL HA ET
 by_cases hc:lo<=L.length/\L.length<=hi
 ·refine hS a L.length cap lo hi f (λk=>B (L.getD k [])) _ w hc.1 hc.2 hh he (zh λk hk=>?_) (zh λk hk h=>zhg hk h) (zh λh=>zhh hc h);obtain⟨ad,us,ea,_,h1,h2,h3⟩:=za0 L 0 HA k hk;rw[Nat.zero_add]at h3;exact⟨ad,us,ea,h2,zml _ _ _ (hL _ (by rw[List.getD_eq_getElem?_getD,List.getElem?_eq_getElem hk];exact List.getElem_mem hk)) h1,h3,λw' hk2=>ET w' _ _ (hL _ (by rw[List.getD_eq_getElem?_getD,List.getElem?_eq_getElem hk];exact List.getElem_mem hk)) (Rvs.keep hk2 _ _ h1)⟩
 ·rw[zi6 hc];refine(hN a L.length cap lo hi f w hc).mono ?_;rintro e w' ⟨rfl,rfl⟩;exact⟨rfl,zk _⟩
theorem zjt:ArA 43 3 zhJ:=zeb arS.1 arN.1
theorem zhP:ArA 35 11 zdT:=zeb arS.2.1 arN.2.1
theorem zju:ArA 37 6 zhI:=zeb arS.2.2.1 arN.2.2.1
theorem zgC:ArA 39 3 zb9:=zeb arS.2.2.2.1 arN.2.2.2.1
theorem zgD:ArA 41 1 zca:=zeb arS.2.2.2.2.1 arN.2.2.2.2.1
theorem zhQ:ArA 16 7 zcx:=zeb arS.2.2.2.2.2.1 arN.2.2.2.2.2.1
theorem zhR:ArA 18 6 zdz:=zeb arS.2.2.2.2.2.2.1 arN.2.2.2.2.2.2.1
theorem zjv:ArA 73 2 zfX:=zeb arS.2.2.2.2.2.2.2 arN.2.2.2.2.2.2.2
set_option maxHeartbeats 2000000 in
theorem zli (a:Option Addr) (n cap lo hi:Nat) (f:FuncId) (w:World) (h:¬(lo<=n/\n<=hi)):Calls Tryz.prog 72 #[.slice a n cap,.int .i64 (lo:Int),.int .i64 (hi:Int),.func (.func f) #[] #[]] w λe w'=>e= .returned (.bool false)/\w'=w:=by
 by_cases h1:n<lo
 ·have l1:(n:Int)<(lo:Int):=by omega
  go_enter Tryz.func72,Tryz.ntmps72;go_wp2_with fail
  go_ret;exact⟨rfl,rfl⟩
 ·have l1:¬(n:Int)<(lo:Int):=by omega
  have l2:(hi:Int)<(n:Int):=by omega
  go_enter Tryz.func72,Tryz.ntmps72;go_wp2_with fail
  go_ret;exact⟨rfl,rfl⟩
set_option maxHeartbeats 4000000 in
theorem zsk (a:Option Addr) (n cap lo hi:Nat) (f:FuncId) (S0:Nat->ByteArray) (B:Nat->Bool) (r:Bool) (w:World) (hlo:lo<=n) (hhi:n<=hi) (hh:hi<=100) (he:Ent f)
  (HC:Hid (∀ k,k<n->∃ ad,a=some ad/\w.cell? (ad.add k)=some (.string (S0 k))))
  (T1:Hid (∀ k,k<n->∀ w',Keep w w'->Calls Tryz.prog f #[.string (S0 k)] w' λe w''=>e= .returned (.bool (B k))/\Keep w' w''))
  (H1:Hid (∀ k,k<n->B k=false->r=false)) (H2:Hid ((∀ k,k<n->B k=true)->r=true)):
  Calls Tryz.prog 72 #[.slice a n cap,.int .i64 (lo:Int),.int .i64 (hi:Int),.func (.func f) #[] #[]] w λe w'=>e= .returned (.bool r)/\Keep w w':=by
 have l1:¬(n:Int)<(lo:Int):=by omega
 have l2:¬(hi:Int)<(n:Int):=by omega
 have hn:n<=100:=by omega
 clear hlo hhi hh;have he2:∀(xs:Array Value) (w:World),(callFunc f xs).run Tryz.prog w= .ok (.enter f xs) w:=he;clear he;go_enter Tryz.func72,Tryz.ntmps72;go_wp2_with fail
 go_loopw [23] (λvi wr=>∃ k:Nat,k<=n/\vi= .int .i64 (k:Int)/\Hid (∀ j,j<k->B j=true)/\Hid (Keep w wr)) (λvi wr=>n - (intOf vi).toNat)
 case atStart=>exact⟨0,Nat.zero_le _,rfl,zh λj hj=>by omega,zh (zk w)⟩
 case round=>
  obtain⟨k,hk,rfl,HN,HK⟩:=hrel;by_cases hlt:k<n
  ·have li:(k:Int)<(n:Int):=by omega
   obtain⟨ad,ea,c0⟩:=(uq HC) k hlt;subst ea;replace c0:=Q.kcell (uq HK) c0;have HT:=zh ((uq T1) k hlt);have HQ:=zh ((uq H1) k hlt);obtain⟨b,hb⟩:∃ b,B k=b:=⟨_,rfl⟩;rw[hb]at HT HQ;have HBK:=zh hb;clear hb;generalize S0 k=s0 at c0 HT;go_wp2_with fail
   (refine((uq HT) _ (uq HK)).mono ?_;rintro e w3 ⟨rfl,hk3⟩;have HK3:=zh (Keep.trans (uq HK) hk3);clear hk3);cases b with
   |false=>
    have hr:=(uq HQ) rfl;subst hr;go_wp2_with fail
    go_ret;exact⟨rfl,uq HK3⟩
   |true=>
    go_wp2_with fail
    go_roundw
    case rel=>exact⟨k+1,hlt,by go_num,zh λj hj=>(Nat.lt_succ_iff_lt_or_eq.1 hj).elim ((uq HN) j) (λe=>e▸uq HBK),HK3⟩
    case measure=>simp[intOf];omega
  ·have hr:=(uq H2) (λj hj=>(uq HN) j (by omega));subst hr;go_wp2_with fail
   go_ret;exact⟨rfl,uq HK⟩
theorem zf6 {w:World} {L:List (List D)} {a:Option Addr} {cap lo hi:Nat} {f:FuncId} {B:List D->Bool} (hh:hi<=100) (he:Ent f) (hL:∀ ds∈L,ShL zcd ds) (HA:Rvss w a 1 L 0)
  (ET:∀ w' ds us,ShL zcd ds->Rvs w' ds us->Calls Tryz.prog f #[us.getD 0 (.bool false)] w' λe w''=>e= .returned (.bool (B ds))/\Keep w' w''):
  Calls Tryz.prog 72 #[.slice a L.length cap,.int .i64 (lo:Int),.int .i64 (hi:Int),.func (.func f) #[] #[]] w λe w'=>e= .returned (.bool (zcP lo hi B L))/\Keep w w':=by
 by_cases hc:lo<=L.length/\L.length<=hi
 ·have key:∀ k,k<L.length->∃ ad,a=some ad/\(w.cell? (ad.add k)=some (.string (fS (gt (L.getD k []) 0))))/\Rvs w (L.getD k []) [.string (fS (gt (L.getD k []) 0))]:=by
   intro k hk
   obtain⟨ad,us,rfl,_,h1,h2,h3⟩:=za0 L 0 HA k hk;have hs:=hL (L.getD k []) (by rw[List.getD_eq_getElem?_getD,List.getElem?_eq_getElem hk];exact List.getElem_mem hk);generalize L.getD k []=ds at h1 hs;simp only[ShL,Sh1,zcd]at hs;obtain⟨_,_,rfl,⟨s0,rfl,_⟩,rfl⟩:=hs;simp only[Rvs,Rv,dS,dI,dB]at h1;obtain⟨_,_,rfl,rfl,rfl⟩:=h1;rw[Nat.zero_add]at h3;have e0:=h3 0 _ rfl;rw[Nat.mul_one]at e0;replace e0:w.cell? (ad.add k)=some (.string (sv s0)):=e0;refine⟨ad,rfl,e0,?_⟩;simp only[Rvs,Rv,dS,dI,dB];exact⟨_,_,rfl,rfl,rfl⟩
  refine zsk a L.length cap lo hi f (λk=>fS (gt (L.getD k []) 0)) (λk=>B (L.getD k [])) _ w hc.1 hc.2 hh he (zh λk hk=>?_) (zh λk hk w' hk2=>?_) (zh λk hk h=>zhg hk h) (zh λh=>zhh hc h)
  ·obtain⟨ad,e,h,_⟩:=key k hk;exact⟨ad,e,h⟩
  ·obtain⟨ad,e,_,h⟩:=key k hk;exact ET w' _ _ (hL _ (by rw[List.getD_eq_getElem?_getD,List.getElem?_eq_getElem hk];exact List.getElem_mem hk)) (Rvs.keep hk2 _ _ h)
 ·rw[zi6 hc];refine(zli a L.length cap lo hi f w hc).mono ?_;rintro e w' ⟨rfl,rfl⟩;exact⟨rfl,zk _⟩
end S
end Go.Proofs.YthceiikgecoimaaGreatDoor
