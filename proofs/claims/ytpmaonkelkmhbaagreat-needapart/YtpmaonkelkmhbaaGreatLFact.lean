/- Tokens in plain words: one token, all tokens of bytes; tokens in memory. -/
import Derived.Test.YtpmaonkelkmhbaaGreatLSkip
namespace Go.Proofs.YtpmaonkelkmhbaaGreat
open Go.RowKit
set_option linter.unusedVariables false
set_option linter.unusedSimpArgs false
structure Tok where
 k:Int
 s:List UInt8
 n:Int
 p:Int
deriving DecidableEq
def num (l:List UInt8):Int:=l.foldl (fun v c=>v * 10+((c.toNat:Int) - 48)) 0
def one (r:List UInt8) (p:Nat):Except Int Tok:=
 match r with
 | []=> .ok ⟨0,[],0,p⟩
 |c :: _=>
  if kd c.toNat=4 then(if 24<en r then .error 4 else .ok ⟨1,r.take (en r),0,p⟩)
  else if kd c.toNat=5 then(if 18<en r then .error 4 else .ok ⟨2,r.take (en r),num (r.take (en r)),p⟩)
  else if kd c.toNat=7 then .ok ⟨3,r.take (en r),0,p⟩
  else .error 40
def pre (acc:List Tok):Except (Int×Nat) (List Tok)→Except (Int×Nat) (List Tok)
 | .error x=> .error x
 | .ok r=> .ok (acc++r)
theorem zkK (x:Except (Int×Nat) (List Tok)):pre [] x=x:=by cases x<;>rfl
theorem zkL (a b:List Tok) (x:Except (Int×Nat) (List Tok)):pre a (pre b x)=pre (a++b) x:=by cases x<;>simp[pre]
def tkz:Nat→List UInt8→Nat→Except (Int×Nat) (List Tok)
 |0,_,_=> .ok []
 |f+1,r,p=>
  match one (r.drop (skp false r)) (p+skp false r)with
  | .error e=> .error (e,p+skp false r)
  | .ok t=>if t.k=0 then .ok [t]else pre [t] (tkz f ((r.drop (skp false r)).drop t.s.length) (p+skp false r+t.s.length))
theorem ziJ (c:UInt8) (r:List UInt8):1≤en (c :: r):=by simp[en]
theorem zbS {r:List UInt8} {p:Nat} {t:Tok} (h:one r p= .ok t):t.p=p∧((r= []∧t=⟨0,[],0,p⟩)∨(t.k≠0∧r≠ []∧t.s=r.take (en r)∧t.s.length=en r∧1≤en r∧en r≤24)):=by
 cases r with
 |nil=>simp only[one,Except.ok.injEq]at h;subst h;exact⟨rfl,.inl ⟨rfl,rfl⟩⟩
 |cons c r=>
  have h1:=ziJ c r;have h2:=zfk (c :: r);have h3:((c :: r).take (en (c :: r))).length=en (c :: r):=by rw[List.length_take];omega
  simp only[one]at h;split at h
  ·split at h
   ·cases h
   ·simp only[Except.ok.injEq]at h;subst h;exact⟨rfl,.inr ⟨by simp,by simp,rfl,h3,h1,by omega⟩⟩
  ·split at h
   ·split at h
    ·cases h
    ·simp only[Except.ok.injEq]at h;subst h;exact⟨rfl,.inr ⟨by simp,by simp,rfl,h3,h1,by omega⟩⟩
   ·split at h
    ·rename_i h7
     have e:en (c :: r)=1:=by
      have:tw (zdJ c) r=0:=zf6 fun x=>by unfold zdJ;rw[h7];unfold on;simp
      simp[en,this]
     simp only[Except.ok.injEq]at h;subst h;exact⟨rfl,.inr ⟨by simp,by simp,rfl,h3,h1,by omega⟩⟩
    ·cases h
theorem zeL:∀(f g:Nat) (r:List UInt8) (p:Nat),r.length<f→r.length<g→tkz f r p=tkz g r p
 |0,_,_,_,h,_=>by omega
 | _,0,_,_,_,h=>by omega
 |f+1,g+1,r,p,hf,hg=>by
  simp only[tkz];split
  ·rfl
  ·rename_i t ht
   split
   ·rfl
   ·rename_i hk
    rcases(zbS ht).2 with ⟨_,h⟩|⟨_,_,_,h1,h2,_⟩
    ·rw[h]at hk;exact absurd rfl hk
    ·have:=zfk (r.drop (skp false r));rw[zeL f g _ _ (by simp only[List.length_drop]at *;omega) (by simp only[List.length_drop]at *;omega)]
def tk (r:List UInt8) (p:Nat):Except (Int×Nat) (List Tok):=tkz (r.length+1) r p
theorem zmT (r:List UInt8) (p:Nat):tk r p=match one (r.drop (skp false r)) (p+skp false r)with
  | .error e=> .error (e,p+skp false r)
  | .ok t=>if t.k=0 then .ok [t]else pre [t] (tk ((r.drop (skp false r)).drop t.s.length) (p+skp false r+t.s.length)):=by
 unfold tk
 rw[tkz];split
 ·rfl
 ·rename_i t ht
  split
  ·rfl
  ·rename_i hk
   rcases(zbS ht).2 with ⟨_,h⟩|⟨_,_,_,h1,h2,_⟩
   ·rw[h]at hk;exact absurd rfl hk
   ·have:=zfk (r.drop (skp false r));rw[zeL _ _ _ _ (by simp only[List.length_drop]at *;omega) (Nat.lt_succ_self _)]
def T (l:List UInt8):Except (Int×Nat) (List Tok):=if 65536<l.length then .error (4,65536)else tk l 0
def tl:Except (Int×Nat) (List Tok)→List Tok
 | .ok l=>l
 | .error _=> []
def te:Except (Int×Nat) (List Tok)→Int
 | .ok _=>0
 | .error x=>x.1
def tn:Except (Int×Nat) (List Tok)→Nat
 | .ok _=>0
 | .error x=>x.2
def sv (l:List UInt8):ByteArray:=⟨l.toArray⟩
theorem zf8 (l:List UInt8):(sv l).size=l.length:=by simp[sv,ByteArray.size]
def tv (t:Tok):Value:= .agg #[.int .i64 t.k,.string (sv t.s),.int .i64 t.n,.int .i64 t.p]
def tc:List Tok→List Value
 | []=> []
 |t :: l=> .int .i64 t.k :: .string (sv t.s) :: .int .i64 t.n :: .int .i64 t.p :: tc l
theorem zcH:∀ l m:List Tok,tc (l++m)=tc l++tc m
 | [],m=>rfl
 |p :: l,m=>by simp only[List.cons_append,tc,zcH l m]
def t0:Tok:=⟨0,[],0,0⟩
theorem zmU:∀(l:List Tok) (k:Nat),k<l.length→(tc l)[k * 4]? =some (.int .i64 (l.getD k t0).k)∧(tc l)[k * 4+1]? =some (.string (sv (l.getD k t0).s))∧(tc l)[k * 4+2]? =some (.int .i64 (l.getD k t0).n)∧(tc l)[k * 4+3]? =some (.int .i64 (l.getD k t0).p)
 | [],k,h=>by simp at h
 |p :: l,0,h=>by simp[tc]
 |p :: l,k+1,h=>by
  have:=zmU l k (by simpa using h);rw[show(k+1) * 4=k * 4+1+1+1+1 by omega];simpa [tc]using this
def Tc (w:World) (ad:Addr) (t:Tok):Prop:=w.cell? ad=some (.int .i64 t.k)∧w.cell? ⟨ad.block,ad.off+1,none⟩=some (.string (sv t.s))∧w.cell? ⟨ad.block,ad.off+2,none⟩=some (.int .i64 t.n)∧w.cell? ⟨ad.block,ad.off+3,none⟩=some (.int .i64 t.p)
theorem Tc.keep {w w':World} {ad:Addr} {t:Tok} (h:Tc w ad t) (hb:ad.block<w.heap.size) (hk:Keep w w'):Tc w' ad t:=by
 obtain⟨h0,h1,h2,h3⟩:=h;refine⟨?_,?_,?_,?_⟩
 ·rw[Below.cell hk hb];exact h0
 ·rw[Below.cell (p:=⟨ad.block,ad.off+1,none⟩) hk hb];exact h1
 ·rw[Below.cell (p:=⟨ad.block,ad.off+2,none⟩) hk hb];exact h2
 ·rw[Below.cell (p:=⟨ad.block,ad.off+3,none⟩) hk hb];exact h3
def Ts (w:World) (v:Value) (L:List Tok):Prop:=∃ a cap,v= .slice a L.length cap∧L.length≤cap∧∀ k,k<L.length→∃ ad,a=some ad∧ad.block<w.heap.size∧Tc w (ad.add (k * 4)) (L.getD k t0)
theorem Ts.keep {w w':World} {v:Value} {L:List Tok} (h:Ts w v L) (hk:Keep w w'):Ts w' v L:=by
 obtain⟨a,cap,rfl,hc,h⟩:=h;refine⟨a,cap,rfl,hc,fun k hlt=>?_⟩;obtain⟨ad,h0,h1,h2⟩:=h k hlt;exact⟨ad,h0,Nat.lt_of_lt_of_le h1 (Below.size hk),h2.keep (by rw[zaH];exact h1) hk⟩
theorem Ts.shape {w:World} {v:Value} {L:List Tok} (h:Ts w v L):∃ a cap,v= .slice a L.length cap:=by obtain⟨a,cap,rfl,_⟩:=h;exact⟨a,cap,rfl⟩
theorem zf9 (w:World):Ts w (.slice none 0 0) []:=⟨none,0,rfl,Nat.le_refl _,fun k h=>by simp at h⟩
theorem zmV {w:World} {base:Nat} {e:TypeId} {v:Value} {L:List Tok} (h:w.ownsRow base e 4 v L.length (tc L)):Ts w v L:=by
 obtain⟨_,h⟩:=h;rcases h with ⟨rfl,h0⟩|⟨g,cap,cur,rfl,hb,hg,hc,hm,hs,ht⟩
 ·have:L= []:=List.eq_nil_of_length_eq_zero h0;subst this;exact zf9 w
 ·refine⟨_,cap,rfl,hc,fun k hk=>⟨_,rfl,(Array.getElem?_eq_some_iff.1 hg).1,?_⟩⟩;have hh:=zmU L k hk;rw[← ht,List.getElem?_take_of_lt (by omega),List.getElem?_take_of_lt (by omega),List.getElem?_take_of_lt (by omega),List.getElem?_take_of_lt (by omega)]at hh;rw[zaP,Nat.zero_add];unfold Tc
  simp only[World.cell?,hg];simpa using hh
end Go.Proofs.YtpmaonkelkmhbaaGreat
namespace Go.Proofs.YtpmaonkelkmhbaaGreat
open Go.RowKit
attribute [local go_sem ↓] Go.wp_at_zero Go.wp_at_succ
set_option linter.unusedVariables false
set_option linter.unusedSimpArgs false
set_option maxRecDepth 10000
def words:List (List UInt8):= [[99,121,99,108,101],[116,111],[98,121],[112,101,97,107],[110,111,100,101],[104,101,97,100],[118,111,108,117,109,101],[102,108,111,119],[117,115,101],[115,112,101,101,100],[103,114,97,100,101],[119,105,100,116,104],[108,101,110,103,116,104],[103,114,101,101,110],[119,97,108,107],[119,105,116,104],[108,111,110,103],[112,97,99,101],[108,101,97,115,116],[112,104,97,115,101],[103,114,111,117,112],[114,105,110,103],[102,114,101,101],[102,111,101],[97,114,116,101,114,121],[115,116,111,112],[111,117,116],[105,110],[97,104,101,97,100],[98,97,99,107],[119,101,105,103,104,116,115],[112,108,97,110],[111,102,102,115,101,116],[115,117,109],[115,112,108,105,116],[121,101,108,108,111,119],[114,101,100],[102,108,97,115,104],[98,101,115,116],[121,101,115],[110,111],[115,112,101,110,116]]
end Go.Proofs.YtpmaonkelkmhbaaGreat
namespace Go.Proofs.YtpmaonkelkmhbaaGreat
open Go.RowKit
set_option linter.unusedVariables false
set_option linter.unusedSimpArgs false
inductive D where
 |val (v:Value)
 |row (e z:Nat) (L:List (List D))
abbrev Er:=Int×Int
abbrev Rs:=Except Er (List D×List Tok)
abbrev Sp:=List D→List Tok→Rs
def dS (s:List UInt8):D:= .val (.string (sv s))
def dI (n:Int):D:= .val (.int .i64 n)
def dB (b:Bool):D:= .val (.bool b)
def bad (e:Int):List Tok→Rs
 | []=> .error (e,0)
 |t :: _=> .error (e,t.p)
def zah (s:List UInt8):Sp
 |c,[]=>bad 50 []
 |c,t :: r=>if t.s=s then .ok (c,r)else bad 50 (t :: r)
def zam:Sp
 |c,[]=>bad 50 []
 |c,t :: r=>if t.k=1∧¬t.s∈words then .ok (c++ [dS t.s],r)else bad 50 (t :: r)
def zct:Sp
 |c,[]=>bad 50 []
 |c,t :: r=> .ok (c++ [dI t.p],t :: r)
def zaG:Sp
 |c,[]=>bad 50 []
 |c,t :: r=>if t.k=2 then .ok (c++ [dI t.n],r)else bad 50 (t :: r)
def zf4:Sp
 |c,[]=>bad 50 []
 |c,t :: r=>if t.k=0 then .ok (c,t :: r)else bad 50 (t :: r)
def za0 (s:List UInt8):Sp
 |c,[]=>bad 50 []
 |c,t :: r=>if t.s=s then .ok (c++ [dB true],r)else .ok (c++ [dB false],t :: r)
def sq:List Sp→Sp
 | [],c,r=> .ok (c,r)
 |p :: ps,c,r=>match p c r with
  | .error x=> .error x
  | .ok (c',r')=>sq ps c' r'
def zcq:Sp:=sq [zaG,zah [47],zaG]
def zaW:Sp:=fun c r=>match sq [za0 [45],zaG] [] r with
 | .error x=> .error x
 | .ok ([.val (.bool b),.val (.int .i64 n)],r')=> .ok (c++ [dI (if b then -n else n)],r')
 | .ok _=> .error (0,0)
def nmz (most:Nat):Nat→List (List D)→List Tok→Except Er (List (List D)×List Tok)
 |0,_,_=> .error (0,0)
 |f+1,L,r=>match zam [] r with
  | .error x=> .error x
  | .ok (d,r')=>
   if L.length=most then(match bad 4 r with| .error x=> .error x| .ok _=> .error (0,0))
   else match za0 [44] [] r' with
    | .ok ([.val (.bool true)],r2)=>nmz most f (L++ [d]) r2
    | .ok (_,r2)=> .ok (L++ [d],r2)
    | .error x=> .error x
def zaj (e most:Nat):Sp:=fun c r=>match nmz most (r.length+1) [] r with
 | .error x=> .error x
 | .ok (L,r')=> .ok (c++ [.row e 1 L],r')
def rwz (word:List UInt8) (most:Nat) (body:List Tok→Rs):Nat→List (List D)→List Tok→Except Er (List (List D)×List Tok)
 |0,_,_=> .error (0,0)
 | _+1,_,[]=> .error (50,0)
 |f+1,L,t :: r=>
  if t.s=word then
   (if L.length=most then .error (4,t.p)
    else match body r with
    | .error x=> .error x
    | .ok (d,r')=>rwz word most body f (L++ [d]) r')
  else .ok (L,t :: r)
def zbT (word:List UInt8) (most e z:Nat) (body:List Tok→Rs):Sp:=fun c r=>match rwz word most body (r.length+1) [] r with
 | .error x=> .error x
 | .ok (L,r')=> .ok (c++ [.row e z L],r')
def rot:List D→List D
 | []=> []
 |d :: ds=>ds++ [d]
def zbU (p:List Tok→Rs):List Tok→Rs:=fun r=>match p r with
 | .error x=> .error x
 | .ok (c,r')=> .ok (rot c,r')
def zcr:Sp:=fun c r=>match c with
 | [.row _ _ []]=>bad 50 r
 | _=> .ok (c,r)
def zcZ:List Tok→Rs:=zbU (sq [zct,zam,zah [118,111,108,117,109,101],zaG,zah [102,108,111,119],zaG,zah [117,115,101],zcq,zah [115,112,101,101,100],zaG,zah [103,114,97,100,101],zaW,zah [119,105,100,116,104],zaG,zah [108,101,110,103,116,104],zaG,zah [103,114,101,101,110],zaG,zah [59]] [])
def zc0:List Tok→Rs:=zbU (sq [zct,zam,zah [119,105,116,104],zam,zah [108,111,110,103],zaG,zah [112,97,99,101],zaG,zah [108,101,97,115,116],zaG,zah [59]] [])
def zbV:List Tok→Rs:=zbU (sq [zct,zam,zah [58],zaj 9 16,zah [59]] [])
def zaC:List Tok→Rs:=sq [za0 [102,114,101,101],zaj 9 4,zah [59]] []
def zbG:List Tok→Rs:=sq [zah [123],zbT [114,105,110,103] 2 59 2 zaC,zcr,zah [125]] []
def zhP:List Tok→Rs:=zbU (sq [zct,zam,zam,zah [59]] [])
def zcI:List Tok→Rs:=zbU (sq [zct,zam,zah [111,117,116],zam,zah [105,110],zam,zah [97,104,101,97,100],zaG,zah [98,97,99,107],zaG,zah [59]] [])
def zc1:List Tok→Rs:=zbU (sq [zct,zam,zah [123],zbT [104,101,97,100] 16 84 11 zcZ,zbT [119,97,108,107] 8 86 6 zc0,zbT [112,104,97,115,101] 16 45 3 zbV,zbT [103,114,111,117,112] 4 62 1 zbG,zbT [102,111,101] 64 48 3 zhP,zah [125]] [])
def zd8:Sp:=fun c r=>match za0 [97,114,116,101,114,121] [] r with
 | .error x=> .error x
 | .ok ([.val (.bool true)],r')=>sq [zah [123],zbT [115,116,111,112] 12 70 6 zcI,zah [119,101,105,103,104,116,115],zaG,zaG,zah [59],zah [125]] c r'
 | .ok (_,r')=> .ok (c++ [.row 70 6 [],dI 0,dI 0],r')
def ziK:List Tok→Rs:=sq [zah [99,121,99,108,101],zaG,zah [116,111],zaG,zah [98,121],zaG,zah [59],zah [112,101,97,107],zcq,zah [59],zbT [110,111,100,101] 12 39 7 zc1,zd8,zf4] []
def N (l:List UInt8):Except Er (List D):=match T l with
 | .error x=> .error (x.1,(x.2:Int))
 | .ok L=>match ziK L with
  | .error x=> .error x
  | .ok (c,_)=> .ok c
end Go.Proofs.YtpmaonkelkmhbaaGreat
namespace Go.Proofs.YtpmaonkelkmhbaaGreat
set_option linter.unusedVariables false
set_option linter.unusedSimpArgs false
def Mon (p:List Tok→Rs):Prop:=∀ r c r',p r= .ok (c,r')→r'.length≤r.length
def zeM (p:Sp):Prop:=∀ c r c' r',p c r= .ok (c',r')→r'.length≤r.length
theorem zc5 {e:Int} {r:List Tok} {x:List D×List Tok} :bad e r≠ .ok x:=by cases r<;>simp[bad]
theorem zbm (s:List UInt8):zeM (zah s):=by
 intro c r c' r' h
 cases r with
 |nil=>simp[zah,bad]at h
 |cons t r=>simp only[zah]at h;split at h;(simp at h;simp[← h.2]);exact absurd h zc5
theorem za6:zeM zam:=by
 intro c r c' r' h
 cases r with
 |nil=>simp[zam,bad]at h
 |cons t r=>simp only[zam]at h;split at h;(simp at h;simp[← h.2]);exact absurd h zc5
theorem zbn:zeM zaG:=by
 intro c r c' r' h
 cases r with
 |nil=>simp[zaG,bad]at h
 |cons t r=>simp only[zaG]at h;split at h;(simp at h;simp[← h.2]);exact absurd h zc5
theorem zbK:zeM zct:=by
 intro c r c' r' h
 cases r with
 |nil=>simp[zct,bad]at h
 |cons t r=>simp[zct]at h;simp[← h.2]
theorem zca:zeM zf4:=by
 intro c r c' r' h
 cases r with
 |nil=>simp[zf4,bad]at h
 |cons t r=>simp only[zf4]at h;split at h;(simp at h;simp[← h.2]);exact absurd h zc5
theorem zbe (s:List UInt8):zeM (za0 s):=by
 intro c r c' r' h
 cases r with
 |nil=>simp[za0,bad]at h
 |cons t r=>simp only[za0]at h;split at h<;>(simp at h;simp[← h.2])
theorem zbo:zeM zcr:=by
 intro c r c' r' h
 simp only[zcr]at h;split at h
 ·exact absurd h zc5
 ·simp at h;simp[h.2]
theorem zeN:∀(ps:List Sp),(∀ p∈ps,zeM p)→zeM (sq ps)
 | [],_,c,r,c',r',h=>by simp[sq]at h;simp[h.2]
 |p :: ps,hp,c,r,c',r',h=>by
  simp only[sq]at h;split at h
  ·cases h
  ·rename_i c1 r1 h1
   exact Nat.le_trans (zeN ps (fun q hq=>hp q (List.mem_cons_of_mem _ hq)) _ _ _ _ h) (hp p List.mem_cons_self _ _ _ _ h1)
theorem zbB:zeM zcq:=zeN _ (by intro p hp;simp at hp;rcases hp with rfl|rfl|rfl;exact zbn;exact zbm _;exact zbn)
theorem zbg:zeM zaW:=by
 intro c r c' r' h
 have hs:=zeN [za0 [45],zaG] (by intro p hp;simp at hp;rcases hp with rfl|rfl;exact zbe _;exact zbn);simp only[zaW]at h;split at h
 ·cases h
 ·rename_i h1;simp at h;rw[← h.2];exact hs _ _ _ _ h1
 ·cases h
theorem zck {c c':List D} {r r':List Tok} (h:zam c r= .ok (c',r')):r'.length<r.length:=by
 cases r with
 |nil=>simp[zam,bad]at h
 |cons t r=>simp only[zam]at h;split at h;(simp at h;simp[← h.2]);exact absurd h zc5
theorem zeO (most:Nat):∀(f g:Nat) (L:List (List D)) (r:List Tok),r.length<f→r.length<g→nmz most f L r=nmz most g L r
 |0,_,_,_,h,_=>by omega
 | _,0,_,_,_,h=>by omega
 |f+1,g+1,L,r,hf,hg=>by
  simp only[nmz];split
  ·rfl
  ·rename_i d r' h1
   have:=zck h1;split
   ·rfl
   ·split
    ·rename_i r2 h2
     have:=zbe _ _ _ _ _ h2;exact zeO most f g _ r2 (by omega) (by omega)
    ·rfl
    ·rfl
def nm (most:Nat) (L:List (List D)) (r:List Tok):Except Er (List (List D)×List Tok):=nmz most (r.length+1) L r
theorem zga (most:Nat) (L:List (List D)) (t:Tok) (r:List Tok):nm most L (t :: r)=
  if t.k=1∧¬t.s∈words then
   (if L.length=most then .error (4,t.p)
    else match r with
    | []=> .error (50,0)
    |u :: r2=>if u.s= [44]then nm most (L++ [[dS t.s]]) r2 else .ok (L++ [[dS t.s]],u :: r2))
  else .error (50,t.p):=by
 unfold nm
 rw[nmz];by_cases h:t.k=1∧¬t.s∈words
 ·have e:zam [] (t :: r)= .ok ([dS t.s],r):=by simp[zam,h]
  rw[e,if_pos h];by_cases h2:L.length=most
  ·simp[h2,bad]
  ·simp only[if_neg h2];cases r with
   |nil=>simp[za0,bad]
   |cons u r2=>
    by_cases h3:u.s= [44]
    ·simp only[za0,if_pos h3,dB,List.nil_append];exact zeO most _ _ _ r2 (by simp;omega) (by simp)
    ·simp[za0,if_neg h3,dB]
 ·have e:zam [] (t :: r)= .error (50,t.p):=by simp only[zam,if_neg h,bad]
  rw[e,if_neg h]
theorem ziL (most:Nat):∀(f:Nat) (L:List (List D)) (r:List Tok) (L':List (List D)) (r':List Tok),nmz most f L r= .ok (L',r')→r'.length≤r.length
 |0,_,_,_,_,h=>by simp[nmz]at h
 |f+1,L,r,L',r',h=>by
  simp only[nmz]at h;split at h
  ·cases h
  ·rename_i d r1 h1
   have:=zck h1;split at h
   ·split at h<;>cases h
   ·split at h
    ·rename_i r2 h2
     have:=zbe _ _ _ _ _ h2;have:=ziL most f _ r2 _ _ h;omega
    ·rename_i r2 _ h2
     have:=zbe _ _ _ _ _ h2;simp at h;rw[← h.2];omega
    ·cases h
theorem zbh (e most:Nat):zeM (zaj e most):=by
 intro c r c' r' h
 simp only[zaj]at h;split at h
 ·cases h
 ·rename_i L r1 h1;simp at h;rw[← h.2];exact ziL _ _ _ _ _ _ h1
theorem zeP (word:List UInt8) (most:Nat) (body:List Tok→Rs) (hm:Mon body):∀(f g:Nat) (L:List (List D)) (r:List Tok),r.length<f→r.length<g→rwz word most body f L r=rwz word most body g L r
 |0,_,_,_,h,_=>by omega
 | _,0,_,_,_,h=>by omega
 |f+1,g+1,L,[],hf,hg=>by simp[rwz]
 |f+1,g+1,L,t :: r,hf,hg=>by
  simp only[rwz];split
  ·split
   ·rfl
   ·split
    ·rfl
    ·rename_i d r' h1
     have:=hm _ _ _ h1;simp at hf hg;exact zeP word most body hm f g _ r' (by omega) (by omega)
  ·rfl
def rw_ (word:List UInt8) (most:Nat) (body:List Tok→Rs) (L:List (List D)) (r:List Tok):Except Er (List (List D)×List Tok):=rwz word most body (r.length+1) L r
theorem zdk (word:List UInt8) (most:Nat) (body:List Tok→Rs) (hm:Mon body) (L:List (List D)) (t:Tok) (r:List Tok):rw_ word most body L (t :: r)=
  if t.s=word then
   (if L.length=most then .error (4,t.p)
    else match body r with
    | .error x=> .error x
    | .ok (d,r')=>rw_ word most body (L++ [d]) r')
  else .ok (L,t :: r):=by
 unfold rw_
 rw[rwz];by_cases h:t.s=word
 ·simp only[if_pos h];by_cases h2:L.length=most
  ·simp only[if_pos h2]
  ·simp only[if_neg h2];cases h1:body r with
   |error x=>rfl
   |ok q=>
    obtain⟨d,r'⟩:=q;have:=hm _ _ _ h1;simp only[List.length_cons];exact zeP word most body hm _ _ _ r' (by omega) (by omega)
 ·simp only[if_neg h]
theorem zgb (word:List UInt8) (most:Nat) (body:List Tok→Rs) (hm:Mon body):∀(f:Nat) (L:List (List D)) (r:List Tok) (L':List (List D)) (r':List Tok),rwz word most body f L r= .ok (L',r')→r'.length≤r.length
 |0,_,_,_,_,h=>by simp[rwz]at h
 |f+1,L,[],L',r',h=>by simp[rwz]at h
 |f+1,L,t :: r,L',r',h=>by
  simp only[rwz]at h;split at h
  ·split at h
   ·cases h
   ·split at h
    ·cases h
    ·rename_i d r1 h1
     have:=hm _ _ _ h1;have:=zgb word most body hm f _ r1 _ _ h;simp;omega
  ·simp at h;simp[← h.2]
theorem zcb (word:List UInt8) (most e z:Nat) (body:List Tok→Rs) (hm:Mon body):zeM (zbT word most e z body):=by
 intro c r c' r' h
 simp only[zbT]at h;split at h
 ·cases h
 ·rename_i L r1 h1;simp at h;rw[← h.2];exact zgb _ _ _ hm _ _ _ _ _ h1
theorem zbC {p:List Tok→Rs} (h:Mon p):Mon (zbU p):=by
 intro r c r' e
 simp only[zbU]at e;split at e
 ·cases e
 ·rename_i c1 r1 h1;simp at e;rw[← e.2];exact h _ _ _ h1
theorem zcl {ps:List Sp} (h:∀ p∈ps,zeM p):Mon (sq ps []):=fun r c r' e=>zeN ps h _ _ _ _ e
theorem zbu {α:Type} {Q:α→Prop} :∀ p∈([]:List α),Q p:=fun p h=>by cases h
theorem za7 {α:Type} {Q:α→Prop} {a:α} {l:List α} (h:Q a) (t:∀ p∈l,Q p):∀ p∈a :: l,Q p:=fun p hp=>by
 rcases List.mem_cons.1 hp with rfl|hp
 ·exact h
 ·exact t p hp
theorem zdl:Mon zhP:=zbC (zcl (by repeat(first|exact zbu|(refine za7 ?_ ?_;first|exact zbK|exact za6|exact zbn|exact zbm _|exact zbB|exact zbg|exact zbe _|exact zbh _ _|exact zbo|exact zca))))
theorem za8:Mon zc0:=zbC (zcl (by repeat(first|exact zbu|(refine za7 ?_ ?_;first|exact zbK|exact za6|exact zbn|exact zbm _|exact zbB|exact zbg|exact zbe _|exact zbh _ _|exact zbo|exact zca))))
theorem zdm:Mon zcI:=zbC (zcl (by repeat(first|exact zbu|(refine za7 ?_ ?_;first|exact zbK|exact za6|exact zbn|exact zbm _|exact zbB|exact zbg|exact zbe _|exact zbh _ _|exact zbo|exact zca))))
theorem za9:Mon zcZ:=zbC (zcl (by repeat(first|exact zbu|(refine za7 ?_ ?_;first|exact zbK|exact za6|exact zbn|exact zbm _|exact zbB|exact zbg|exact zbe _|exact zbh _ _|exact zbo|exact zca))))
theorem zbW:Mon zbV:=zbC (zcl (by repeat(first|exact zbu|(refine za7 ?_ ?_;first|exact zbK|exact za6|exact zbn|exact zbm _|exact zbB|exact zbg|exact zbe _|exact zbh _ _|exact zbo|exact zca))))
theorem zaK:Mon zaC:=zcl (by repeat(first|exact zbu|(refine za7 ?_ ?_;first|exact zbK|exact za6|exact zbn|exact zbm _|exact zbB|exact zbg|exact zbe _|exact zbh _ _|exact zbo|exact zca)))
theorem zaX:Mon zbG:=zcl (by repeat(first|exact zbu|(refine za7 ?_ ?_;first|exact zbm _|exact zcb _ _ _ _ _ zaK|exact zbo)))
theorem zbp:Mon zc1:=zbC (zcl (by repeat(first|exact zbu|(refine za7 ?_ ?_;first|exact zbK|exact za6|exact zbm _|exact zcb _ _ _ _ _ za9|exact zcb _ _ _ _ _ za8|exact zcb _ _ _ _ _ zbW|exact zcb _ _ _ _ _ zaX|exact zcb _ _ _ _ _ zdl))))
def W (r:List Tok):Prop:=∃ m e,r=m++ [e]∧e.k=0∧e.s= []
theorem W.ne {r:List Tok} (h:W r):r≠ []:=by obtain⟨m,e,rfl,_⟩:=h;simp
def zmW:List Sp:= [zah [123],zbT [115,116,111,112] 12 70 6 zcI,zah [119,101,105,103,104,116,115],zaG,zaG,zah [59],zah [125]]
theorem zgc {c:List D} {t:Tok} {r:List Tok} (h:t.s= [97,114,116,101,114,121]):zd8 c (t :: r)=sq zmW c r:=by simp[zd8,za0,h,dB,zmW]
theorem ziM {c:List D} {t:Tok} {r:List Tok} (h:¬t.s= [97,114,116,101,114,121]):zd8 c (t :: r)= .ok (c++ [.row 70 6 [],dI 0,dI 0],t :: r):=by simp[zd8,za0,h,dB]
def q0 (t:Tok):Tok:=⟨t.k,t.s,t.n,0⟩
def plc (z:Nat):Bool:=z==3 || z==6 || z==7 || z==11
mutual
def Z:D→D
 | .val v=> .val v
 | .row e z L=> .row e z (Zss (plc z) L)
def Zl:Bool→List D→List D
 | _,[]=> []
 |b,d :: ds=>(if b&&ds.isEmpty then dI 0 else Z d) :: Zl b ds
def Zss:Bool→List (List D)→List (List D)
 | _,[]=> []
 |b,ds :: L=>Zl b ds :: Zss b L
end
end Go.Proofs.YtpmaonkelkmhbaaGreat
namespace Go.Proofs.YtpmaonkelkmhbaaGreat
set_option linter.unusedVariables false
theorem zmX {acc L:List Tok} {x:Except (Int×Nat) (List Tok)} (h:pre acc x= .ok L):∃ M,x= .ok M∧L=acc++M:=by
 cases x with
 |error z=>cases h
 |ok l=>simp only[pre,Except.ok.injEq]at h;exact⟨l,rfl,h.symm⟩
theorem zd9 {r:List UInt8} {p:Nat} {L:List Tok} (h:tk r p= .ok L):
  (L= [⟨0,[],0,((p+r.length:Nat):Int)⟩]∧skp false r=r.length)∨
  (∃ t M,L=t :: M∧one (r.drop (skp false r)) (p+skp false r)= .ok t∧t.k≠0∧t.p=((p+skp false r:Nat):Int)∧t.s=(r.drop (skp false r)).take t.s.length∧1≤t.s.length∧skp false r+t.s.length≤r.length∧tk (r.drop (skp false r+t.s.length)) (p+skp false r+t.s.length)= .ok M):=by
 rw[zmT]at h;have hs:=zdK false r;split at h
 ·cases h
 ·rename_i t ht
  have h0:=zbS ht;split at h
  ·rename_i hk
   left;rcases h0.2 with ⟨h1,h2⟩|⟨h1,_⟩
   ·have:r.length≤skp false r:=by have:=congrArg List.length h1;simp at this;omega
    have e:skp false r=r.length:=by omega
    rw[e]at h2;simp only[Except.ok.injEq]at h;rw[h2]at h;exact⟨h.symm,e⟩
   ·exact absurd hk h1
  ·rename_i hk
   right;obtain⟨M,hM,rfl⟩:=zmX h;rcases h0.2 with ⟨_,h2⟩|⟨_,_,h3,h4,h5,_⟩
   ·rw[h2]at hk;exact absurd rfl hk
   ·have hl:=zfk (r.drop (skp false r));refine⟨t,M,rfl,ht,hk,h0.1,by rw[h4];exact h3,by omega,by simp only[List.length_drop]at hl;omega,?_⟩;rw[List.drop_drop]at hM;exact hM
theorem zor {l:List UInt8} {L:List Tok} (h:T l= .ok L):l.length≤65536∧tk l 0= .ok L:=by
 unfold T at h
 split at h
 ·cases h
 ·exact⟨by omega,h⟩
theorem ziN:∀(n:Nat) (r:List UInt8) (p:Nat) (L:List Tok),r.length≤n→tk r p= .ok L→1≤L.length∧L.length≤r.length+1
 |n,r,p,L,hn,h=>by
  rcases zd9 h with ⟨rfl,_⟩|⟨t,M,rfl,_,_,_,_,h5,h6,h7⟩
  ·simp
  ·cases n with
   |zero=>omega
   |succ n=>
    have:=ziN n _ _ M (by rw[List.length_drop];omega) h7;rw[List.length_drop]at this;simp only[List.length_cons];omega
theorem zos {l:List UInt8} {L:List Tok} (h:T l= .ok L):1≤L.length∧L.length≤l.length+1:=ziN l.length l 0 L (Nat.le_refl _) (zor h).2
end Go.Proofs.YtpmaonkelkmhbaaGreat
