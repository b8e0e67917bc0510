/- Tokens in plain words: one token, all tokens of bytes; tokens in memory. -/
import Derived.Test.YtcdhdhbjnpndkaaGreatLSkip
namespace Go.Proofs.YtcdhdhbjnpndkaaGreat
open Go.RowKit
set_option linter.unusedVariables false
set_option linter.unusedSimpArgs false
structure Tok where
 k:Int
 s:List UInt8
 n:Int
 p:Int
deriving DecidableEq
def num (l:List UInt8):Int:=l.foldl (fun v c=>v * 10+((c.toNat:Int) - 48)) 0
def one (r:List UInt8) (p:Nat):Except Int Tok:=
 match r with
 | []=> .ok ⟨0,[],0,p⟩
 |c :: _=>
  if kd c.toNat=4 then(if 24<en r then .error 4 else .ok ⟨1,r.take (en r),0,p⟩)
  else if kd c.toNat=5 then(if 18<en r then .error 4 else .ok ⟨2,r.take (en r),num (r.take (en r)),p⟩)
  else if kd c.toNat=7 then .ok ⟨3,r.take (en r),0,p⟩
  else .error 40
def pre (acc:List Tok):Except (Int×Nat) (List Tok)→Except (Int×Nat) (List Tok)
 | .error x=> .error x
 | .ok r=> .ok (acc++r)
theorem zm3 (x:Except (Int×Nat) (List Tok)):pre [] x=x:=by cases x<;>rfl
theorem zm4 (a b:List Tok) (x:Except (Int×Nat) (List Tok)):pre a (pre b x)=pre (a++b) x:=by cases x<;>simp[pre]
def tkz:Nat→List UInt8→Nat→Except (Int×Nat) (List Tok)
 |0,_,_=> .ok []
 |f+1,r,p=>
  match one (r.drop (skp false r)) (p+skp false r)with
  | .error e=> .error (e,p+skp false r)
  | .ok t=>if t.k=0 then .ok [t]else pre [t] (tkz f ((r.drop (skp false r)).drop t.s.length) (p+skp false r+t.s.length))
theorem zk1 (c:UInt8) (r:List UInt8):1≤en (c :: r):=by simp[en]
theorem zcg {r:List UInt8} {p:Nat} {t:Tok} (h:one r p= .ok t):t.p=p∧((r= []∧t=⟨0,[],0,p⟩)∨(t.k≠0∧r≠ []∧t.s=r.take (en r)∧t.s.length=en r∧1≤en r∧en r≤24)):=by
 cases r with
 |nil=>simp only[one,Except.ok.injEq]at h;subst h;exact⟨rfl,.inl ⟨rfl,rfl⟩⟩
 |cons c r=>
  have h1:=zk1 c r;have h2:=zgN (c :: r);have h3:((c :: r).take (en (c :: r))).length=en (c :: r):=by rw[List.length_take];omega
  simp only[one]at h;split at h
  ·split at h
   ·cases h
   ·simp only[Except.ok.injEq]at h;subst h;exact⟨rfl,.inr ⟨by simp,by simp,rfl,h3,h1,by omega⟩⟩
  ·split at h
   ·split at h
    ·cases h
    ·simp only[Except.ok.injEq]at h;subst h;exact⟨rfl,.inr ⟨by simp,by simp,rfl,h3,h1,by omega⟩⟩
   ·split at h
    ·rename_i h7
     have e:en (c :: r)=1:=by
      have:tw (zez c) r=0:=zhJ fun x=>by unfold zez;rw[h7];unfold on;simp
      simp[en,this]
     simp only[Except.ok.injEq]at h;subst h;exact⟨rfl,.inr ⟨by simp,by simp,rfl,h3,h1,by omega⟩⟩
    ·cases h
theorem zf5:∀(f g:Nat) (r:List UInt8) (p:Nat),r.length<f→r.length<g→tkz f r p=tkz g r p
 |0,_,_,_,h,_=>by omega
 | _,0,_,_,_,h=>by omega
 |f+1,g+1,r,p,hf,hg=>by
  simp only[tkz];split
  ·rfl
  ·rename_i t ht
   split
   ·rfl
   ·rename_i hk
    rcases(zcg ht).2 with ⟨_,h⟩|⟨_,_,_,h1,h2,_⟩
    ·rw[h]at hk;exact absurd rfl hk
    ·have:=zgN (r.drop (skp false r));rw[zf5 f g _ _ (by simp only[List.length_drop]at *;omega) (by simp only[List.length_drop]at *;omega)]
def tk (r:List UInt8) (p:Nat):Except (Int×Nat) (List Tok):=tkz (r.length+1) r p
theorem zpb (r:List UInt8) (p:Nat):tk r p=match one (r.drop (skp false r)) (p+skp false r)with
  | .error e=> .error (e,p+skp false r)
  | .ok t=>if t.k=0 then .ok [t]else pre [t] (tk ((r.drop (skp false r)).drop t.s.length) (p+skp false r+t.s.length)):=by
 unfold tk
 rw[tkz];split
 ·rfl
 ·rename_i t ht
  split
  ·rfl
  ·rename_i hk
   rcases(zcg ht).2 with ⟨_,h⟩|⟨_,_,_,h1,h2,_⟩
   ·rw[h]at hk;exact absurd rfl hk
   ·have:=zgN (r.drop (skp false r));rw[zf5 _ _ _ _ (by simp only[List.length_drop]at *;omega) (Nat.lt_succ_self _)]
def T (l:List UInt8):Except (Int×Nat) (List Tok):=if 65536<l.length then .error (4,65536)else tk l 0
def tl:Except (Int×Nat) (List Tok)→List Tok
 | .ok l=>l
 | .error _=> []
def te:Except (Int×Nat) (List Tok)→Int
 | .ok _=>0
 | .error x=>x.1
def tn:Except (Int×Nat) (List Tok)→Nat
 | .ok _=>0
 | .error x=>x.2
def sv (l:List UInt8):ByteArray:=⟨l.toArray⟩
theorem zhL (l:List UInt8):(sv l).size=l.length:=by simp[sv,ByteArray.size]
def tv (t:Tok):Value:= .agg #[.int .i64 t.k,.string (sv t.s),.int .i64 t.n,.int .i64 t.p]
def tc:List Tok→List Value
 | []=> []
 |t :: l=> .int .i64 t.k :: .string (sv t.s) :: .int .i64 t.n :: .int .i64 t.p :: tc l
theorem zdj:∀ l m:List Tok,tc (l++m)=tc l++tc m
 | [],m=>rfl
 |p :: l,m=>by simp only[List.cons_append,tc,zdj l m]
def t0:Tok:=⟨0,[],0,0⟩
theorem zpc:∀(l:List Tok) (k:Nat),k<l.length→(tc l)[k * 4]? =some (.int .i64 (l.getD k t0).k)∧(tc l)[k * 4+1]? =some (.string (sv (l.getD k t0).s))∧(tc l)[k * 4+2]? =some (.int .i64 (l.getD k t0).n)∧(tc l)[k * 4+3]? =some (.int .i64 (l.getD k t0).p)
 | [],k,h=>by simp at h
 |p :: l,0,h=>by simp[tc]
 |p :: l,k+1,h=>by
  have:=zpc l k (by simpa using h);rw[show(k+1) * 4=k * 4+1+1+1+1 by omega];simpa [tc]using this
def Tc (w:World) (ad:Addr) (t:Tok):Prop:=w.cell? ad=some (.int .i64 t.k)∧w.cell? ⟨ad.block,ad.off+1,none⟩=some (.string (sv t.s))∧w.cell? ⟨ad.block,ad.off+2,none⟩=some (.int .i64 t.n)∧w.cell? ⟨ad.block,ad.off+3,none⟩=some (.int .i64 t.p)
theorem Tc.keep {w w':World} {ad:Addr} {t:Tok} (h:Tc w ad t) (hb:ad.block<w.heap.size) (hk:Keep w w'):Tc w' ad t:=by
 obtain⟨h0,h1,h2,h3⟩:=h;refine⟨?_,?_,?_,?_⟩
 ·rw[Below.cell hk hb];exact h0
 ·rw[Below.cell (p:=⟨ad.block,ad.off+1,none⟩) hk hb];exact h1
 ·rw[Below.cell (p:=⟨ad.block,ad.off+2,none⟩) hk hb];exact h2
 ·rw[Below.cell (p:=⟨ad.block,ad.off+3,none⟩) hk hb];exact h3
def Ts (w:World) (v:Value) (L:List Tok):Prop:=∃ a cap,v= .slice a L.length cap∧L.length≤cap∧∀ k,k<L.length→∃ ad,a=some ad∧ad.block<w.heap.size∧Tc w (ad.add (k * 4)) (L.getD k t0)
theorem Ts.keep {w w':World} {v:Value} {L:List Tok} (h:Ts w v L) (hk:Keep w w'):Ts w' v L:=by
 obtain⟨a,cap,rfl,hc,h⟩:=h;refine⟨a,cap,rfl,hc,fun k hlt=>?_⟩;obtain⟨ad,h0,h1,h2⟩:=h k hlt;exact⟨ad,h0,Nat.lt_of_lt_of_le h1 (Below.size hk),h2.keep (by rw[zaO];exact h1) hk⟩
theorem Ts.shape {w:World} {v:Value} {L:List Tok} (h:Ts w v L):∃ a cap,v= .slice a L.length cap:=by obtain⟨a,cap,rfl,_⟩:=h;exact⟨a,cap,rfl⟩
theorem zhM (w:World):Ts w (.slice none 0 0) []:=⟨none,0,rfl,Nat.le_refl _,fun k h=>by simp at h⟩
theorem zpd {w:World} {base:Nat} {e:TypeId} {v:Value} {L:List Tok} (h:w.ownsRow base e 4 v L.length (tc L)):Ts w v L:=by
 obtain⟨_,h⟩:=h;rcases h with ⟨rfl,h0⟩|⟨g,cap,cur,rfl,hb,hg,hc,hm,hs,ht⟩
 ·have:L= []:=List.eq_nil_of_length_eq_zero h0;subst this;exact zhM w
 ·refine⟨_,cap,rfl,hc,fun k hk=>⟨_,rfl,(Array.getElem?_eq_some_iff.1 hg).1,?_⟩⟩;have hh:=zpc L k hk;rw[← ht,List.getElem?_take_of_lt (by omega),List.getElem?_take_of_lt (by omega),List.getElem?_take_of_lt (by omega),List.getElem?_take_of_lt (by omega)]at hh;rw[zaV,Nat.zero_add];unfold Tc
  simp only[World.cell?,hg];simpa using hh
end Go.Proofs.YtcdhdhbjnpndkaaGreat
namespace Go.Proofs.YtcdhdhbjnpndkaaGreat
open Go.RowKit
attribute [local go_sem ↓] Go.wp_at_zero Go.wp_at_succ
set_option linter.unusedVariables false
set_option linter.unusedSimpArgs false
set_option maxRecDepth 10000
def words:List (List UInt8):= [[99,121,99,108,101],[116,111],[98,121],[112,101,97,107],[110,111,100,101],[104,101,97,100],[118,111,108,117,109,101],[102,108,111,119],[117,115,101],[115,112,101,101,100],[103,114,97,100,101],[119,105,100,116,104],[108,101,110,103,116,104],[103,114,101,101,110],[119,97,108,107],[119,105,116,104],[108,111,110,103],[112,97,99,101],[108,101,97,115,116],[112,104,97,115,101],[103,114,111,117,112],[114,105,110,103],[102,114,101,101],[102,111,101],[97,114,116,101,114,121],[115,116,111,112],[111,117,116],[105,110],[97,104,101,97,100],[98,97,99,107],[119,101,105,103,104,116,115],[112,108,97,110],[111,102,102,115,101,116],[115,117,109],[115,112,108,105,116],[121,101,108,108,111,119],[114,101,100],[102,108,97,115,104],[98,101,115,116],[121,101,115],[110,111],[115,112,101,110,116]]
end Go.Proofs.YtcdhdhbjnpndkaaGreat
namespace Go.Proofs.YtcdhdhbjnpndkaaGreat
open Go.RowKit
set_option linter.unusedVariables false
set_option linter.unusedSimpArgs false
inductive D where
 |val (v:Value)
 |row (e z:Nat) (L:List (List D))
abbrev Er:=Int×Int
abbrev Rs:=Except Er (List D×List Tok)
abbrev Sp:=List D→List Tok→Rs
def dS (s:List UInt8):D:= .val (.string (sv s))
def dI (n:Int):D:= .val (.int .i64 n)
def dB (b:Bool):D:= .val (.bool b)
def bad (e:Int):List Tok→Rs
 | []=> .error (e,0)
 |t :: _=> .error (e,t.p)
def zai (s:List UInt8):Sp
 |c,[]=>bad 50 []
 |c,t :: r=>if t.s=s then .ok (c,r)else bad 50 (t :: r)
def zao:Sp
 |c,[]=>bad 50 []
 |c,t :: r=>if t.k=1∧¬t.s∈words then .ok (c++ [dS t.s],r)else bad 50 (t :: r)
def zc1:Sp
 |c,[]=>bad 50 []
 |c,t :: r=> .ok (c++ [dI t.p],t :: r)
def zaN:Sp
 |c,[]=>bad 50 []
 |c,t :: r=>if t.k=2 then .ok (c++ [dI t.n],r)else bad 50 (t :: r)
def zhG:Sp
 |c,[]=>bad 50 []
 |c,t :: r=>if t.k=0 then .ok (c,t :: r)else bad 50 (t :: r)
def zbb (s:List UInt8):Sp
 |c,[]=>bad 50 []
 |c,t :: r=>if t.s=s then .ok (c++ [dB true],r)else .ok (c++ [dB false],t :: r)
def sq:List Sp→Sp
 | [],c,r=> .ok (c,r)
 |p :: ps,c,r=>match p c r with
  | .error x=> .error x
  | .ok (c',r')=>sq ps c' r'
def zcX:Sp:=sq [zaN,zai [47],zaN]
def za4:Sp:=fun c r=>match sq [zbb [45],zaN] [] r with
 | .error x=> .error x
 | .ok ([.val (.bool b),.val (.int .i64 n)],r')=> .ok (c++ [dI (if b then -n else n)],r')
 | .ok _=> .error (0,0)
def nmz (most:Nat):Nat→List (List D)→List Tok→Except Er (List (List D)×List Tok)
 |0,_,_=> .error (0,0)
 |f+1,L,r=>match zao [] r with
  | .error x=> .error x
  | .ok (d,r')=>
   if L.length=most then(match bad 4 r with| .error x=> .error x| .ok _=> .error (0,0))
   else match zbb [44] [] r' with
    | .ok ([.val (.bool true)],r2)=>nmz most f (L++ [d]) r2
    | .ok (_,r2)=> .ok (L++ [d],r2)
    | .error x=> .error x
def zal (e most:Nat):Sp:=fun c r=>match nmz most (r.length+1) [] r with
 | .error x=> .error x
 | .ok (L,r')=> .ok (c++ [.row e 1 L],r')
def rwz (word:List UInt8) (most:Nat) (body:List Tok→Rs):Nat→List (List D)→List Tok→Except Er (List (List D)×List Tok)
 |0,_,_=> .error (0,0)
 | _+1,_,[]=> .error (50,0)
 |f+1,L,t :: r=>
  if t.s=word then
   (if L.length=most then .error (4,t.p)
    else match body r with
    | .error x=> .error x
    | .ok (d,r')=>rwz word most body f (L++ [d]) r')
  else .ok (L,t :: r)
def zch (word:List UInt8) (most e z:Nat) (body:List Tok→Rs):Sp:=fun c r=>match rwz word most body (r.length+1) [] r with
 | .error x=> .error x
 | .ok (L,r')=> .ok (c++ [.row e z L],r')
def rot:List D→List D
 | []=> []
 |d :: ds=>ds++ [d]
def zci (p:List Tok→Rs):List Tok→Rs:=fun r=>match p r with
 | .error x=> .error x
 | .ok (c,r')=> .ok (rot c,r')
def zcY:Sp:=fun c r=>match c with
 | [.row _ _ []]=>bad 50 r
 | _=> .ok (c,r)
def zdG:List Tok→Rs:=zci (sq [zc1,zao,zai [118,111,108,117,109,101],zaN,zai [102,108,111,119],zaN,zai [117,115,101],zcX,zai [115,112,101,101,100],zaN,zai [103,114,97,100,101],za4,zai [119,105,100,116,104],zaN,zai [108,101,110,103,116,104],zaN,zai [103,114,101,101,110],zaN,zai [59]] [])
def zdH:List Tok→Rs:=zci (sq [zc1,zao,zai [119,105,116,104],zao,zai [108,111,110,103],zaN,zai [112,97,99,101],zaN,zai [108,101,97,115,116],zaN,zai [59]] [])
def zcj:List Tok→Rs:=zci (sq [zc1,zao,zai [58],zal 9 16,zai [59]] [])
def zaI:List Tok→Rs:=sq [zbb [102,114,101,101],zal 9 4,zai [59]] []
def zb3:List Tok→Rs:=sq [zai [123],zch [114,105,110,103] 2 66 2 zaI,zcY,zai [125]] []
def zjO:List Tok→Rs:=zci (sq [zc1,zao,zao,zai [59]] [])
def zdk:List Tok→Rs:=zci (sq [zc1,zao,zai [111,117,116],zao,zai [105,110],zao,zai [97,104,101,97,100],zaN,zai [98,97,99,107],zaN,zai [59]] [])
def zdI:List Tok→Rs:=zci (sq [zc1,zao,zai [123],zch [104,101,97,100] 16 84 11 zdG,zch [119,97,108,107] 8 97 6 zdH,zch [112,104,97,115,101] 16 52 3 zcj,zch [103,114,111,117,112] 4 69 1 zb3,zch [102,111,101] 64 55 3 zjO,zai [125]] [])
def ze7:Sp:=fun c r=>match zbb [97,114,116,101,114,121] [] r with
 | .error x=> .error x
 | .ok ([.val (.bool true)],r')=>sq [zai [123],zch [115,116,111,112] 12 73 6 zdk,zai [119,101,105,103,104,116,115],zaN,zaN,zai [59],zai [125]] c r'
 | .ok (_,r')=> .ok (c++ [.row 73 6 [],dI 0,dI 0],r')
def zk2:List Tok→Rs:=sq [zai [99,121,99,108,101],zaN,zai [116,111],zaN,zai [98,121],zaN,zai [59],zai [112,101,97,107],zcX,zai [59],zch [110,111,100,101] 12 47 7 zdI,ze7,zhG] []
def N (l:List UInt8):Except Er (List D):=match T l with
 | .error x=> .error (x.1,(x.2:Int))
 | .ok L=>match zk2 L with
  | .error x=> .error x
  | .ok (c,_)=> .ok c
end Go.Proofs.YtcdhdhbjnpndkaaGreat
namespace Go.Proofs.YtcdhdhbjnpndkaaGreat
set_option linter.unusedVariables false
set_option linter.unusedSimpArgs false
def Mon (p:List Tok→Rs):Prop:=∀ r c r',p r= .ok (c,r')→r'.length≤r.length
def zf6 (p:Sp):Prop:=∀ c r c' r',p c r= .ok (c',r')→r'.length≤r.length
theorem zdM {e:Int} {r:List Tok} {x:List D×List Tok} :bad e r≠ .ok x:=by cases r<;>simp[bad]
theorem zbw (s:List UInt8):zf6 (zai s):=by
 intro c r c' r' h
 cases r with
 |nil=>simp[zai,bad]at h
 |cons t r=>simp only[zai]at h;split at h;(simp at h;simp[← h.2]);exact absurd h zdM
theorem zbi:zf6 zao:=by
 intro c r c' r' h
 cases r with
 |nil=>simp[zao,bad]at h
 |cons t r=>simp only[zao]at h;split at h;(simp at h;simp[← h.2]);exact absurd h zdM
theorem zbx:zf6 zaN:=by
 intro c r c' r' h
 cases r with
 |nil=>simp[zaN,bad]at h
 |cons t r=>simp only[zaN]at h;split at h;(simp at h;simp[← h.2]);exact absurd h zdM
theorem zb7:zf6 zc1:=by
 intro c r c' r' h
 cases r with
 |nil=>simp[zc1,bad]at h
 |cons t r=>simp[zc1]at h;simp[← h.2]
theorem zcD:zf6 zhG:=by
 intro c r c' r' h
 cases r with
 |nil=>simp[zhG,bad]at h
 |cons t r=>simp only[zhG]at h;split at h;(simp at h;simp[← h.2]);exact absurd h zdM
theorem zbp (s:List UInt8):zf6 (zbb s):=by
 intro c r c' r' h
 cases r with
 |nil=>simp[zbb,bad]at h
 |cons t r=>simp only[zbb]at h;split at h<;>(simp at h;simp[← h.2])
theorem zby:zf6 zcY:=by
 intro c r c' r' h
 simp only[zcY]at h;split at h
 ·exact absurd h zdM
 ·simp at h;simp[h.2]
theorem zf7:∀(ps:List Sp),(∀ p∈ps,zf6 p)→zf6 (sq ps)
 | [],_,c,r,c',r',h=>by simp[sq]at h;simp[h.2]
 |p :: ps,hp,c,r,c',r',h=>by
  simp only[sq]at h;split at h
  ·cases h
  ·rename_i c1 r1 h1
   exact Nat.le_trans (zf7 ps (fun q hq=>hp q (List.mem_cons_of_mem _ hq)) _ _ _ _ h) (hp p List.mem_cons_self _ _ _ _ h1)
theorem zbQ:zf6 zcX:=zf7 _ (by intro p hp;simp at hp;rcases hp with rfl|rfl|rfl;exact zbx;exact zbw _;exact zbx)
theorem zbq:zf6 za4:=by
 intro c r c' r' h
 have hs:=zf7 [zbb [45],zaN] (by intro p hp;simp at hp;rcases hp with rfl|rfl;exact zbp _;exact zbx);simp only[za4]at h;split at h
 ·cases h
 ·rename_i h1;simp at h;rw[← h.2];exact hs _ _ _ _ h1
 ·cases h
theorem zcP {c c':List D} {r r':List Tok} (h:zao c r= .ok (c',r')):r'.length<r.length:=by
 cases r with
 |nil=>simp[zao,bad]at h
 |cons t r=>simp only[zao]at h;split at h;(simp at h;simp[← h.2]);exact absurd h zdM
theorem zf8 (most:Nat):∀(f g:Nat) (L:List (List D)) (r:List Tok),r.length<f→r.length<g→nmz most f L r=nmz most g L r
 |0,_,_,_,h,_=>by omega
 | _,0,_,_,_,h=>by omega
 |f+1,g+1,L,r,hf,hg=>by
  simp only[nmz];split
  ·rfl
  ·rename_i d r' h1
   have:=zcP h1;split
   ·rfl
   ·split
    ·rename_i r2 h2
     have:=zbp _ _ _ _ _ h2;exact zf8 most f g _ r2 (by omega) (by omega)
    ·rfl
    ·rfl
def nm (most:Nat) (L:List (List D)) (r:List Tok):Except Er (List (List D)×List Tok):=nmz most (r.length+1) L r
theorem zhN (most:Nat) (L:List (List D)) (t:Tok) (r:List Tok):nm most L (t :: r)=
  if t.k=1∧¬t.s∈words then
   (if L.length=most then .error (4,t.p)
    else match r with
    | []=> .error (50,0)
    |u :: r2=>if u.s= [44]then nm most (L++ [[dS t.s]]) r2 else .ok (L++ [[dS t.s]],u :: r2))
  else .error (50,t.p):=by
 unfold nm
 rw[nmz];by_cases h:t.k=1∧¬t.s∈words
 ·have e:zao [] (t :: r)= .ok ([dS t.s],r):=by simp[zao,h]
  rw[e,if_pos h];by_cases h2:L.length=most
  ·simp[h2,bad]
  ·simp only[if_neg h2];cases r with
   |nil=>simp[zbb,bad]
   |cons u r2=>
    by_cases h3:u.s= [44]
    ·simp only[zbb,if_pos h3,dB,List.nil_append];exact zf8 most _ _ _ r2 (by simp;omega) (by simp)
    ·simp[zbb,if_neg h3,dB]
 ·have e:zao [] (t :: r)= .error (50,t.p):=by simp only[zao,if_neg h,bad]
  rw[e,if_neg h]
theorem zk3 (most:Nat):∀(f:Nat) (L:List (List D)) (r:List Tok) (L':List (List D)) (r':List Tok),nmz most f L r= .ok (L',r')→r'.length≤r.length
 |0,_,_,_,_,h=>by simp[nmz]at h
 |f+1,L,r,L',r',h=>by
  simp only[nmz]at h;split at h
  ·cases h
  ·rename_i d r1 h1
   have:=zcP h1;split at h
   ·split at h<;>cases h
   ·split at h
    ·rename_i r2 h2
     have:=zbp _ _ _ _ _ h2;have:=zk3 most f _ r2 _ _ h;omega
    ·rename_i r2 _ h2
     have:=zbp _ _ _ _ _ h2;simp at h;rw[← h.2];omega
    ·cases h
theorem zbr (e most:Nat):zf6 (zal e most):=by
 intro c r c' r' h
 simp only[zal]at h;split at h
 ·cases h
 ·rename_i L r1 h1;simp at h;rw[← h.2];exact zk3 _ _ _ _ _ _ h1
theorem zf9 (word:List UInt8) (most:Nat) (body:List Tok→Rs) (hm:Mon body):∀(f g:Nat) (L:List (List D)) (r:List Tok),r.length<f→r.length<g→rwz word most body f L r=rwz word most body g L r
 |0,_,_,_,h,_=>by omega
 | _,0,_,_,_,h=>by omega
 |f+1,g+1,L,[],hf,hg=>by simp[rwz]
 |f+1,g+1,L,t :: r,hf,hg=>by
  simp only[rwz];split
  ·split
   ·rfl
   ·split
    ·rfl
    ·rename_i d r' h1
     have:=hm _ _ _ h1;simp at hf hg;exact zf9 word most body hm f g _ r' (by omega) (by omega)
  ·rfl
def rw_ (word:List UInt8) (most:Nat) (body:List Tok→Rs) (L:List (List D)) (r:List Tok):Except Er (List (List D)×List Tok):=rwz word most body (r.length+1) L r
theorem zd9 (word:List UInt8) (most:Nat) (body:List Tok→Rs) (hm:Mon body) (L:List (List D)) (t:Tok) (r:List Tok):rw_ word most body L (t :: r)=
  if t.s=word then
   (if L.length=most then .error (4,t.p)
    else match body r with
    | .error x=> .error x
    | .ok (d,r')=>rw_ word most body (L++ [d]) r')
  else .ok (L,t :: r):=by
 unfold rw_
 rw[rwz];by_cases h:t.s=word
 ·simp only[if_pos h];by_cases h2:L.length=most
  ·simp only[if_pos h2]
  ·simp only[if_neg h2];cases h1:body r with
   |error x=>rfl
   |ok q=>
    obtain⟨d,r'⟩:=q;have:=hm _ _ _ h1;simp only[List.length_cons];exact zf9 word most body hm _ _ _ r' (by omega) (by omega)
 ·simp only[if_neg h]
theorem zhO (word:List UInt8) (most:Nat) (body:List Tok→Rs) (hm:Mon body):∀(f:Nat) (L:List (List D)) (r:List Tok) (L':List (List D)) (r':List Tok),rwz word most body f L r= .ok (L',r')→r'.length≤r.length
 |0,_,_,_,_,h=>by simp[rwz]at h
 |f+1,L,[],L',r',h=>by simp[rwz]at h
 |f+1,L,t :: r,L',r',h=>by
  simp only[rwz]at h;split at h
  ·split at h
   ·cases h
   ·split at h
    ·cases h
    ·rename_i d r1 h1
     have:=hm _ _ _ h1;have:=zhO word most body hm f _ r1 _ _ h;simp;omega
  ·simp at h;simp[← h.2]
theorem zcE (word:List UInt8) (most e z:Nat) (body:List Tok→Rs) (hm:Mon body):zf6 (zch word most e z body):=by
 intro c r c' r' h
 simp only[zch]at h;split at h
 ·cases h
 ·rename_i L r1 h1;simp at h;rw[← h.2];exact zhO _ _ _ hm _ _ _ _ _ h1
theorem zbR {p:List Tok→Rs} (h:Mon p):Mon (zci p):=by
 intro r c r' e
 simp only[zci]at e;split at e
 ·cases e
 ·rename_i c1 r1 h1;simp at e;rw[← e.2];exact h _ _ _ h1
theorem zcQ {ps:List Sp} (h:∀ p∈ps,zf6 p):Mon (sq ps []):=fun r c r' e=>zf7 ps h _ _ _ _ e
theorem zbG {α:Type} {Q:α→Prop} :∀ p∈([]:List α),Q p:=fun p h=>by cases h
theorem zbj {α:Type} {Q:α→Prop} {a:α} {l:List α} (h:Q a) (t:∀ p∈l,Q p):∀ p∈a :: l,Q p:=fun p hp=>by
 rcases List.mem_cons.1 hp with rfl|hp
 ·exact h
 ·exact t p hp
theorem zea:Mon zjO:=zbR (zcQ (by repeat(first|exact zbG|(refine zbj ?_ ?_;first|exact zb7|exact zbi|exact zbx|exact zbw _|exact zbQ|exact zbq|exact zbp _|exact zbr _ _|exact zby|exact zcD))))
theorem zbk:Mon zdH:=zbR (zcQ (by repeat(first|exact zbG|(refine zbj ?_ ?_;first|exact zb7|exact zbi|exact zbx|exact zbw _|exact zbQ|exact zbq|exact zbp _|exact zbr _ _|exact zby|exact zcD))))
theorem zeb:Mon zdk:=zbR (zcQ (by repeat(first|exact zbG|(refine zbj ?_ ?_;first|exact zb7|exact zbi|exact zbx|exact zbw _|exact zbQ|exact zbq|exact zbp _|exact zbr _ _|exact zby|exact zcD))))
theorem zbl:Mon zdG:=zbR (zcQ (by repeat(first|exact zbG|(refine zbj ?_ ?_;first|exact zb7|exact zbi|exact zbx|exact zbw _|exact zbQ|exact zbq|exact zbp _|exact zbr _ _|exact zby|exact zcD))))
theorem zck:Mon zcj:=zbR (zcQ (by repeat(first|exact zbG|(refine zbj ?_ ?_;first|exact zb7|exact zbi|exact zbx|exact zbw _|exact zbQ|exact zbq|exact zbp _|exact zbr _ _|exact zby|exact zcD))))
theorem zaR:Mon zaI:=zcQ (by repeat(first|exact zbG|(refine zbj ?_ ?_;first|exact zb7|exact zbi|exact zbx|exact zbw _|exact zbQ|exact zbq|exact zbp _|exact zbr _ _|exact zby|exact zcD)))
theorem za5:Mon zb3:=zcQ (by repeat(first|exact zbG|(refine zbj ?_ ?_;first|exact zbw _|exact zcE _ _ _ _ _ zaR|exact zby)))
theorem zbz:Mon zdI:=zbR (zcQ (by repeat(first|exact zbG|(refine zbj ?_ ?_;first|exact zb7|exact zbi|exact zbw _|exact zcE _ _ _ _ _ zbl|exact zcE _ _ _ _ _ zbk|exact zcE _ _ _ _ _ zck|exact zcE _ _ _ _ _ za5|exact zcE _ _ _ _ _ zea))))
def W (r:List Tok):Prop:=∃ m e,r=m++ [e]∧e.k=0∧e.s= []
theorem W.ne {r:List Tok} (h:W r):r≠ []:=by obtain⟨m,e,rfl,_⟩:=h;simp
def zpe:List Sp:= [zai [123],zch [115,116,111,112] 12 73 6 zdk,zai [119,101,105,103,104,116,115],zaN,zaN,zai [59],zai [125]]
theorem zhP {c:List D} {t:Tok} {r:List Tok} (h:t.s= [97,114,116,101,114,121]):ze7 c (t :: r)=sq zpe c r:=by simp[ze7,zbb,h,dB,zpe]
theorem zk4 {c:List D} {t:Tok} {r:List Tok} (h:¬t.s= [97,114,116,101,114,121]):ze7 c (t :: r)= .ok (c++ [.row 73 6 [],dI 0,dI 0],t :: r):=by simp[ze7,zbb,h,dB]
def q0 (t:Tok):Tok:=⟨t.k,t.s,t.n,0⟩
def plc (z:Nat):Bool:=z==3 || z==6 || z==7 || z==11
mutual
def Z:D→D
 | .val v=> .val v
 | .row e z L=> .row e z (Zss (plc z) L)
def Zl:Bool→List D→List D
 | _,[]=> []
 |b,d :: ds=>(if b&&ds.isEmpty then dI 0 else Z d) :: Zl b ds
def Zss:Bool→List (List D)→List (List D)
 | _,[]=> []
 |b,ds :: L=>Zl b ds :: Zss b L
end
end Go.Proofs.YtcdhdhbjnpndkaaGreat
namespace Go.Proofs.YtcdhdhbjnpndkaaGreat
set_option linter.unusedVariables false
theorem zpf {acc L:List Tok} {x:Except (Int×Nat) (List Tok)} (h:pre acc x= .ok L):∃ M,x= .ok M∧L=acc++M:=by
 cases x with
 |error z=>cases h
 |ok l=>simp only[pre,Except.ok.injEq]at h;exact⟨l,rfl,h.symm⟩
theorem ze8 {r:List UInt8} {p:Nat} {L:List Tok} (h:tk r p= .ok L):
  (L= [⟨0,[],0,((p+r.length:Nat):Int)⟩]∧skp false r=r.length)∨
  (∃ t M,L=t :: M∧one (r.drop (skp false r)) (p+skp false r)= .ok t∧t.k≠0∧t.p=((p+skp false r:Nat):Int)∧t.s=(r.drop (skp false r)).take t.s.length∧1≤t.s.length∧skp false r+t.s.length≤r.length∧tk (r.drop (skp false r+t.s.length)) (p+skp false r+t.s.length)= .ok M):=by
 rw[zpb]at h;have hs:=zeA false r;split at h
 ·cases h
 ·rename_i t ht
  have h0:=zcg ht;split at h
  ·rename_i hk
   left;rcases h0.2 with ⟨h1,h2⟩|⟨h1,_⟩
   ·have:r.length≤skp false r:=by have:=congrArg List.length h1;simp at this;omega
    have e:skp false r=r.length:=by omega
    rw[e]at h2;simp only[Except.ok.injEq]at h;rw[h2]at h;exact⟨h.symm,e⟩
   ·exact absurd hk h1
  ·rename_i hk
   right;obtain⟨M,hM,rfl⟩:=zpf h;rcases h0.2 with ⟨_,h2⟩|⟨_,_,h3,h4,h5,_⟩
   ·rw[h2]at hk;exact absurd rfl hk
   ·have hl:=zgN (r.drop (skp false r));refine⟨t,M,rfl,ht,hk,h0.1,by rw[h4];exact h3,by omega,by simp only[List.length_drop]at hl;omega,?_⟩;rw[List.drop_drop]at hM;exact hM
theorem zqS {l:List UInt8} {L:List Tok} (h:T l= .ok L):l.length≤65536∧tk l 0= .ok L:=by
 unfold T at h
 split at h
 ·cases h
 ·exact⟨by omega,h⟩
theorem zk5:∀(n:Nat) (r:List UInt8) (p:Nat) (L:List Tok),r.length≤n→tk r p= .ok L→1≤L.length∧L.length≤r.length+1
 |n,r,p,L,hn,h=>by
  rcases ze8 h with ⟨rfl,_⟩|⟨t,M,rfl,_,_,_,_,h5,h6,h7⟩
  ·simp
  ·cases n with
   |zero=>omega
   |succ n=>
    have:=zk5 n _ _ M (by rw[List.length_drop];omega) h7;rw[List.length_drop]at this;simp only[List.length_cons];omega
theorem zqT {l:List UInt8} {L:List Tok} (h:T l= .ok L):1≤L.length∧L.length≤l.length+1:=zk5 l.length l 0 L (Nat.le_refl _) (zqS h).2
end Go.Proofs.YtcdhdhbjnpndkaaGreat
namespace Go.Proofs.YtcdhdhbjnpndkaaGreat
open Go.RowKit
set_option linter.unusedVariables false
set_option linter.unusedSimpArgs false
def bnd (X:Rs) (p:Sp):Rs:=match X with
 | .error x=> .error x
 | .ok (c,r)=>p c r
def bnb (X:Rs) (p:List Tok→Rs):Rs:=match X with
 | .error x=> .error x
 | .ok (_,r)=>p r
def zad:Rs→Except Er (List Tok)
 | .error x=> .error x
 | .ok (_,r)=> .ok r
def za9:Rs→Rs
 | .error x=> .error x
 | .ok (_,r)=> .ok ([],r)
theorem za0 (X:Rs):zad (za9 X)=zad X:=by rcases X with x|⟨c,r⟩<;>rfl
theorem zdl (X:Rs) (p:Sp):bnd (za9 X) p=bnb X (p []):=by rcases X with x|⟨c,r⟩<;>rfl
theorem zat (X:Rs):bnd X (sq [])=X:=by rcases X with x|⟨c,r⟩<;>rfl
theorem zac (X:Rs) (p:Sp) (ps:List Sp):bnd X (sq (p :: ps))=bnd (bnd X p) (sq ps):=by
 rcases X with x|⟨c,r⟩
 ·rfl
 ·show sq (p :: ps) c r=bnd (p c r) (sq ps);simp only[sq];cases p c r<;>rfl
theorem zjP (X:Rs) (p:List Tok→Rs):zad (bnb X (zci p))=zad (bnb X p):=by
 rcases X with x|⟨c,r⟩
 ·rfl
 ·show zad (zci p r)=zad (p r);simp only[zci];rcases p r with x|⟨c,r'⟩<;>rfl
def Got (X Y:Rs) (ds:List D):Prop:=∀ c r,Y= .ok (c,r)→∃ c0 r0,X= .ok (c0,r0)∧c=c0++ds
theorem Got.refl (X:Rs):Got X X []:=fun c r h=>⟨c,r,h,by simp⟩
theorem Got.trans {X Y Z:Rs} {a b:List D} (h:Got X Y a) (k:Got Y Z b):Got X Z (a++b):=fun c r e=>by
 obtain⟨c1,r1,h1,rfl⟩:=k c r e;obtain⟨c0,r0,h0,rfl⟩:=h c1 r1 h1;exact⟨c0,r0,h0,by simp⟩
theorem Got.all {X:Rs} {p:Sp} {ds:List D} (h:Got (za9 X) (bnd (za9 X) p) ds):∀ c r,bnb X (p [])= .ok (c,r)→c=ds:=fun c r e=>by
 rw[← zdl]at e;obtain⟨c0,r0,h0,rfl⟩:=h c r e;rcases X with x|⟨c1,r1⟩
 ·cases h0
 ·simp only[za9,Except.ok.injEq,Prod.mk.injEq]at h0;rw[← h0.1];rfl
theorem Got.rot {X:Rs} {p:Sp} {d:D} {ds:List D} (h:Got (za9 X) (bnd (za9 X) p) (d :: ds)):∀ c r,bnb X (zci (p []))= .ok (c,r)→c=ds++ [d]:=fun c r e=>by
 rcases X with x|⟨c1,r1⟩
 ·cases e
 ·simp only[bnb,zci]at e;cases hp:p [] r1 with
  |error x=>rw[hp]at e;cases e
  |ok q=>
   rw[hp]at e;simp only[Except.ok.injEq,Prod.mk.injEq]at e;have:=h.all q.1 q.2 hp;rw[← e.1,this];rfl
def Kf (t:Tok):Prop:=(t.k=0→t.s= [])∧(t.k=2→∃ c s,t.s=c :: s∧48≤c.toNat∧c.toNat≤57)
def wrd:List UInt8→Bool
 | []=>false
 |c :: _=> !(decide (48≤c.toNat)&&decide (c.toNat≤57))
theorem Kf.word {t:Tok} (h:Kf t) {s:List UInt8} (hs:wrd s=true) (e:t.s=s):t.k≠0∧t.k≠2:=by
 refine⟨fun k=>?_,fun k=>?_⟩
 ·rw[h.1 k]at e;subst e;cases hs
 ·obtain⟨c,s',e',h1,h2⟩:=h.2 k;rw[e']at e;subst e;simp[wrd,h1,h2]at hs
theorem zpg {r:List UInt8} {p:Nat} {t:Tok} (h:one r p= .ok t):Kf t:=by
 cases r with
 |nil=>simp only[one,Except.ok.injEq]at h;subst h;exact⟨fun _=>rfl,fun e=>by simp at e⟩
 |cons c r=>
  simp only[one]at h;split at h
  ·split at h
   ·cases h
   ·simp only[Except.ok.injEq]at h;subst h;exact⟨fun e=>by simp at e,fun e=>by simp at e⟩
  ·split at h
   ·rename_i h5
    split at h
    ·cases h
    ·simp only[Except.ok.injEq]at h;subst h;refine⟨fun e=>by simp at e,fun _=>?_⟩;refine⟨c,r.take (tw (zez c) r),?_,?_⟩
     ·show(c :: r).take (en (c :: r))=_;rw[en,Nat.add_comm 1,List.take_succ_cons]
     ·unfold kd at h5
      (repeat' split at h5)<;>omega
   ·split at h
    ·simp only[Except.ok.injEq]at h;subst h;exact⟨fun e=>by simp at e,fun e=>by simp at e⟩
    ·cases h
theorem zph:∀(n:Nat) (r:List UInt8) (p:Nat) (L:List Tok),r.length≤n→tk r p= .ok L→∀ t∈L,Kf t
 |n,r,p,L,hn,h=>by
  rcases ze8 h with ⟨rfl,_⟩|⟨t,M,rfl,h1,h2,_,_,h5,h6,h7⟩
  ·exact fun t ht=>by simp at ht;subst ht;exact⟨fun _=>rfl,fun e=>by simp at e⟩
  ·cases n with
   |zero=>omega
   |succ n=>
    have hM:=zph n _ _ M (by rw[List.length_drop];omega) h7;intro x hx
    rcases List.mem_cons.1 hx with rfl|hx
    ·exact zpg h1
    ·exact hM x hx
theorem zrW {l:List UInt8} {L:List Tok} (h:T l= .ok L):∀ t∈L,Kf t:=zph l.length l 0 L (Nat.le_refl _) (zqS h).2
def bgn (word:List UInt8) (n most:Nat):Except Er (List Tok)→Bool×Except Er (List Tok)
 | .error x=>(false,.error x)
 | .ok []=>(false,.ok [])
 | .ok (t :: r)=>if t.s=word then(if n=most then(false,.error (4,t.p))else(true,.ok r))else(false,.ok (t :: r))
def rwF (L:List (List D)):Except Er (List Tok)→Except Er (List (List D)×List Tok)
 | .error x=> .error x
 | .ok r=> .ok (L,r)
def rwY (word:List UInt8) (most:Nat) (body:List Tok→Rs) (Y:Except Er (List Tok)) (L:List (List D)):Except Er (List (List D)×List Tok):=match Y with
 | .error x=> .error x
 | .ok r=>rw_ word most body L r
theorem zcl {word:List UInt8} {most:Nat} {body:List Tok→Rs} (hm:Mon body) {Y Y':Except Er (List Tok)} {L:List (List D)} (hne:Y≠ .ok []) (h:bgn word L.length most Y=(false,Y')):rwY word most body Y L=rwF L Y':=by
 match Y,h with
 | .error x,h=>simp only[bgn,Prod.mk.injEq]at h;rw[← h.2];rfl
 | .ok [],h=>exact absurd rfl hne
 | .ok (t :: r),h=>
  simp only[bgn]at h;show rw_ word most body L (t :: r)=_;rw[zd9 _ _ _ hm];by_cases h1:t.s=word
  ·rw[if_pos h1]at h ⊢;by_cases h2:L.length=most
   ·rw[if_pos h2]at h ⊢;simp only[Prod.mk.injEq]at h;rw[← h.2];rfl
   ·rw[if_neg h2]at h;simp at h
  ·rw[if_neg h1]at h ⊢;simp only[Prod.mk.injEq]at h;rw[← h.2];rfl
theorem zbA {word:List UInt8} {n most:Nat} {Y Y':Except Er (List Tok)} (h:bgn word n most Y=(true,Y')):∃ t r,Y= .ok (t :: r)∧Y'= .ok r∧t.s=word∧n≠most:=by
 match Y,h with
 | .error x,h=>simp[bgn]at h
 | .ok [],h=>simp[bgn]at h
 | .ok (t :: r),h=>
  simp only[bgn]at h;by_cases h1:t.s=word
  ·rw[if_pos h1]at h;by_cases h2:n=most
   ·rw[if_pos h2]at h;simp at h
   ·rw[if_neg h2]at h;simp only[Prod.mk.injEq]at h;exact⟨t,r,rfl,h.2.symm,h1,h2⟩
  ·rw[if_neg h1]at h;simp at h
theorem zaJ {word:List UInt8} {most:Nat} {body:List Tok→Rs} (hm:Mon body) {t:Tok} {r:List Tok} {L:List (List D)} {cs:List D} (h1:t.s=word) (h2:L.length≠most) (hc:∀ c r',body r= .ok (c,r')→cs=c):rwY word most body (.ok (t :: r)) L=rwY word most body (zad (body r)) (L++ [cs]):=by
 show rw_ word most body L (t :: r)=_;rw[zd9 _ _ _ hm,if_pos h1,if_neg h2];cases hb:body r with
 |error x=>rfl
 |ok q=>obtain⟨c,r'⟩:=q;rw[hc c r' hb];rfl
theorem zb8 {word:List UInt8} {most e z:Nat} {body:List Tok→Rs} {X:Rs} {Y':Except Er (List Tok)} {L:List (List D)} (h:rwY word most body (zad X) []=rwF L Y'):zad (bnd X (zch word most e z body))=Y'∧Got X (bnd X (zch word most e z body)) [.row e z L]:=by
 rcases X with x|⟨c,r⟩
 ·cases Y' with
  |error y=>simp only[zad,rwY,rwF,Except.error.injEq]at h;subst h;exact⟨rfl,fun c r e=>by cases e⟩
  |ok r=>cases h
 ·have e0:bnd (.ok (c,r)) (zch word most e z body)=match rw_ word most body [] r with| .error x=> .error x| .ok (L,r')=> .ok (c++ [.row e z L],r'):=rfl
  have h':rw_ word most body [] r=rwF L Y':=h;rw[e0,h'];cases Y' with
  |error y=>exact⟨rfl,fun c r e=>by cases e⟩
  |ok r1=>exact⟨rfl,fun c2 r2 e2=>by simp only[rwF,Except.ok.injEq,Prod.mk.injEq]at e2;exact⟨c,r,rfl,e2.1.symm⟩⟩
def nmA (most:Nat) (L:List (List D)):Except Er (List Tok)→Except Er (List (List D)×List Tok)
 | .error x=> .error x
 | .ok []=> .error (50,0)
 | .ok (u :: r)=>if u.s= [44]then nm most L r else .ok (L,u :: r)
theorem zhQ {most:Nat} (hm:most≠0) {c:List D} {t:Tok} {r:List Tok} {s:List UInt8} (h:Got (.ok (c,t :: r)) (bnd (.ok (c,t :: r)) zao) [dS s]):nm most [] (t :: r)=nmA most [[dS s]] (zad (bnd (.ok (c,t :: r)) zao)):=by
 rw[zhN];simp only[bnd,zao]at h ⊢;by_cases hn:t.k=1∧¬t.s∈words
 ·rw[if_pos hn]at h ⊢;obtain⟨c0,r0,h0,h1⟩:=h _ _ rfl;simp only[Except.ok.injEq,Prod.mk.injEq]at h0;obtain⟨rfl,_⟩:=h0;have hd:dS t.s=dS s:=by have:=List.append_cancel_left h1;simpa using this
  rw[if_neg (by simp;omega),if_pos hn,hd];cases r with
  |nil=>rfl
  |cons u r2=>rfl
 ·rw[if_neg hn,if_neg hn];rfl
theorem zm5 {most:Nat} {L:List (List D)} {u t:Tok} {r:List Tok} (h:u.s= [44]):nmA most L (.ok (u :: t :: r))=if t.k=1∧¬t.s∈words then(if L.length=most then .error (4,t.p)else nmA most (L++ [[dS t.s]]) (.ok r))else .error (50,t.p):=by
 show(if u.s= [44]then nm most L (t :: r)else _)=_;rw[if_pos h,zhN];by_cases hn:t.k=1∧¬t.s∈words
 ·rw[if_pos hn,if_pos hn];by_cases h2:L.length=most
  ·rw[if_pos h2,if_pos h2]
  ·rw[if_neg h2,if_neg h2];cases r<;>rfl
 ·rw[if_neg hn,if_neg hn]
theorem zpi {most:Nat} {L:List (List D)} {Y:Except Er (List Tok)} (hne:Y≠ .ok []) (h:∀ t r,Y= .ok (t :: r)→t.s≠ [44]):nmA most L Y=rwF L Y:=by
 match Y with
 | .error x=>rfl
 | .ok []=>exact absurd rfl hne
 | .ok (u :: r)=>show(if u.s= [44]then _ else _)=_;rw[if_neg (h u r rfl)];rfl
theorem zhR {e most:Nat} {X:Rs} {Y':Except Er (List Tok)} {L:List (List D)} (hX:∀ c r,X= .ok (c,r)→nm most [] r=rwF L Y') (hE:∀ x,X= .error x→Y'= .error x):zad (bnd X (zal e most))=Y'∧Got X (bnd X (zal e most)) [.row e 1 L]:=by
 rcases X with x|⟨c,r⟩
 ·rw[hE x rfl];exact⟨rfl,fun c r e=>by cases e⟩
 ·have e0:bnd (.ok (c,r)) (zal e most)=match nm most [] r with| .error x=> .error x| .ok (L,r')=> .ok (c++ [.row e 1 L],r'):=rfl
  rw[e0,hX c r rfl];cases Y' with
  |error y=>exact⟨rfl,fun c r e=>by cases e⟩
  |ok r1=>exact⟨rfl,fun c2 r2 e2=>by simp only[rwF,Except.ok.injEq,Prod.mk.injEq]at e2;exact⟨c,r,rfl,e2.1.symm⟩⟩
theorem zhS (word:List UInt8) (most:Nat) (body:List Tok→Rs):∀(f:Nat) (L:List (List D)) (r:List Tok) (L':List (List D)) (r':List Tok),rwz word most body f L r= .ok (L',r')→L.length≤L'.length
 |0,_,_,_,_,h=>by simp[rwz]at h
 |f+1,L,[],L',r',h=>by simp[rwz]at h
 |f+1,L,t :: r,L',r',h=>by
  simp only[rwz]at h;split at h
  ·split at h
   ·cases h
   ·split at h
    ·cases h
    ·rename_i d r1 h1
     have:=zhS word most body f _ r1 _ _ h;simp at this;omega
  ·simp at h;simp[← h.1]
end Go.Proofs.YtcdhdhbjnpndkaaGreat
namespace Go.Proofs.YtcdhdhbjnpndkaaGreat
open Go.RowKit
attribute [local go_sem ↓] Go.wp_at_zero Go.wp_at_succ
set_option linter.unusedVariables false
set_option linter.unusedSimpArgs false
set_option maxRecDepth 10000
theorem zga (m:List UInt8) (c:UInt8):num (m++ [c])=num m * 10+((c.toNat:Int) - 48):=by unfold num;rw[List.foldl_append];rfl
theorem zgb (l:List UInt8) (k:Nat) (h:k<l.length):l.take (k+1)=l.take k++ [l.getD k 0]:=by
 rw[List.take_add_one,List.getElem?_eq_getElem h,List.getD_eq_getElem?_getD,List.getElem?_eq_getElem h];rfl
theorem zhT (l:List UInt8) (hd:∀ c,c∈l→kd c.toNat=5):∀ k,k≤l.length→0≤num (l.take k)∧num (l.take k)<10 ^ k
 |0,_=>by simp[num]
 |k+1,h=>by
  have ih:=zhT l hd k (by omega);have hc:=(zoa _).1 (hd (l.getD k 0) (by rw[List.getD_eq_getElem?_getD,List.getElem?_eq_getElem (by omega)];exact List.getElem_mem _));rw[zgb l k (by omega),zga,Int.pow_succ];generalize num (l.take k)=x at *;generalize (10:Int) ^ k=y at *;omega
end Go.Proofs.YtcdhdhbjnpndkaaGreat
namespace Go.Proofs.YtcdhdhbjnpndkaaGreat
open Go.RowKit
set_option linter.unusedVariables false
set_option linter.unusedSimpArgs false
set_option maxRecDepth 10000
theorem zm6 (P:UInt8→Bool) (r:List UInt8):r.take (tw P r)=r.takeWhile P:=(List.prefix_iff_eq_take.1 (List.takeWhile_prefix P)).symm
theorem zm7 (c:UInt8) (r:List UInt8):(c :: r).take (en (c :: r))=c :: r.takeWhile (zez c):=by
 rw[en,Nat.add_comm,List.take_succ_cons,zm6]
theorem zpj {c:UInt8} {r:List UInt8} {x:UInt8} (h:x∈(c :: r).take (en (c :: r))):x=c∨zez c x=true:=by
 rw[zm7,List.mem_cons]at h;rcases h with h|h
 ·exact .inl h
 ·right;have:=List.all_takeWhile (l:=r) (p:=zez c);rw[List.all_eq_true]at this;exact this x h
theorem zeC {c:UInt8} {r:List UInt8} (h5:kd c.toNat=5):∀ x,x∈(c :: r).take (en (c :: r))→kd x.toNat=5:=by
 intro x h
 rcases zpj h with rfl|h
 ·exact h5
 ·unfold zez at h
  rw[zdL]at h;omega
theorem zgO {w:World} {ad:Addr} {l:List UInt8} {i N:Nat} (C:Cy w (some ad) l.length (fun k=>((l.getD k 0).toNat:Int))) (hi:i≤N) (hN:N≤l.length) {t u:TypeId} (hs:Tryz.prog.underlying t=some (.slice 5)) (hu:Tryz.prog.underlying u=some .string) (c:Nat):
  (convert t u (.slice (some (ad.add i)) (N - i) c)).run Tryz.prog w= .ok (.string (sv ((l.drop i).take (N - i)))) w:=by
 have hl:((l.drop i).take (N - i)).length=N - i:=by rw[List.length_take,List.length_drop];omega
 have h:=run_convert_bytes_back (P:=Tryz.prog) w t u 5 (ad.add i) c ((l.drop i).take (N - i)) hs Tryz.underlying5 hu (fun j hj=>?_)
 ·rw[hl]at h;exact h
 ·rw[hl]at hj;obtain⟨ad',e,_,hc⟩:=C (i+j) (by omega);injection e with e
  subst e;rw[Addr.add_add,hc];congr 2;show((l.getD (i+j) 0).toNat:Int)=_;rw[List.getD_eq_getElem?_getD,List.getElem?_eq_getElem (by omega)];simp
def rtk:Except Int Tok→Tok
 | .ok t=>t
 | .error _=>t0
def re:Except Int Tok→Int
 | .ok _=>0
 | .error e=>e
end Go.Proofs.YtcdhdhbjnpndkaaGreat
