/- Networks in plain words: what is read, as a tree; the grammar over tokens. No program is met here. -/
import Derived.Test.YtpdcabfabghbkaaLRes
namespace Go.Proofs.Ytpdcabfabghbkaa
open Go.RowKit
set_option linter.unusedVariables false
set_option linter.unusedSimpArgs false
inductive D where
 |val (v:Value)
 |row (e z:Nat) (L:List (List D))
abbrev Er:=Int×Int
abbrev Rs:=Except Er (List D×List Tok)
abbrev Sp:=List D→List Tok→Rs
def dS (s:List UInt8):D:= .val (.string (sv s))
def dI (n:Int):D:= .val (.int .i64 n)
def dB (b:Bool):D:= .val (.bool b)
def bad (e:Int):List Tok→Rs
 | []=> .error (e,0)
 |t :: _=> .error (e,t.p)
def zag (s:List UInt8):Sp
 |c,[]=>bad 50 []
 |c,t :: r=>if t.s=s then .ok (c,r)else bad 50 (t :: r)
def zak:Sp
 |c,[]=>bad 50 []
 |c,t :: r=>if t.k=1∧¬t.s∈words then .ok (c++ [dS t.s],r)else bad 50 (t :: r)
def zb1:Sp
 |c,[]=>bad 50 []
 |c,t :: r=> .ok (c++ [dI t.p],t :: r)
def zaF:Sp
 |c,[]=>bad 50 []
 |c,t :: r=>if t.k=2 then .ok (c++ [dI t.n],r)else bad 50 (t :: r)
def zea:Sp
 |c,[]=>bad 50 []
 |c,t :: r=>if t.k=0 then .ok (c,t :: r)else bad 50 (t :: r)
def zaV (s:List UInt8):Sp
 |c,[]=>bad 50 []
 |c,t :: r=>if t.s=s then .ok (c++ [dB true],r)else .ok (c++ [dB false],t :: r)
def sq:List Sp→Sp
 | [],c,r=> .ok (c,r)
 |p :: ps,c,r=>match p c r with
  | .error x=> .error x
  | .ok (c',r')=>sq ps c' r'
def zbZ:Sp:=sq [zaF,zag [47],zaF]
def zaS:Sp:=fun c r=>match sq [zaV [45],zaF] [] r with
 | .error x=> .error x
 | .ok ([.val (.bool b),.val (.int .i64 n)],r')=> .ok (c++ [dI (if b then -n else n)],r')
 | .ok _=> .error (0,0)
def nmz (most:Nat):Nat→List (List D)→List Tok→Except Er (List (List D)×List Tok)
 |0,_,_=> .error (0,0)
 |f+1,L,r=>match zak [] r with
  | .error x=> .error x
  | .ok (d,r')=>
   if L.length=most then(match bad 4 r with| .error x=> .error x| .ok _=> .error (0,0))
   else match zaV [44] [] r' with
    | .ok ([.val (.bool true)],r2)=>nmz most f (L++ [d]) r2
    | .ok (_,r2)=> .ok (L++ [d],r2)
    | .error x=> .error x
def zai (e most:Nat):Sp:=fun c r=>match nmz most (r.length+1) [] r with
 | .error x=> .error x
 | .ok (L,r')=> .ok (c++ [.row e 1 L],r')
def rwz (word:List UInt8) (most:Nat) (body:List Tok→Rs):Nat→List (List D)→List Tok→Except Er (List (List D)×List Tok)
 |0,_,_=> .error (0,0)
 | _+1,_,[]=> .error (50,0)
 |f+1,L,t :: r=>
  if t.s=word then
   (if L.length=most then .error (4,t.p)
    else match body r with
    | .error x=> .error x
    | .ok (d,r')=>rwz word most body f (L++ [d]) r')
  else .ok (L,t :: r)
def zbz (word:List UInt8) (most e z:Nat) (body:List Tok→Rs):Sp:=fun c r=>match rwz word most body (r.length+1) [] r with
 | .error x=> .error x
 | .ok (L,r')=> .ok (c++ [.row e z L],r')
def rot:List D→List D
 | []=> []
 |d :: ds=>ds++ [d]
def zbA (p:List Tok→Rs):List Tok→Rs:=fun r=>match p r with
 | .error x=> .error x
 | .ok (c,r')=> .ok (rot c,r')
def zb0:Sp:=fun c r=>match c with
 | [.row _ _ []]=>bad 50 r
 | _=> .ok (c,r)
def zco:List Tok→Rs:=zbA (sq [zb1,zak,zag [118,111,108,117,109,101],zaF,zag [102,108,111,119],zaF,zag [117,115,101],zbZ,zag [115,112,101,101,100],zaF,zag [103,114,97,100,101],zaS,zag [119,105,100,116,104],zaF,zag [108,101,110,103,116,104],zaF,zag [103,114,101,101,110],zaF,zag [59]] [])
def zcp:List Tok→Rs:=zbA (sq [zb1,zak,zag [119,105,116,104],zak,zag [108,111,110,103],zaF,zag [112,97,99,101],zaF,zag [108,101,97,115,116],zaF,zag [59]] [])
def zbB:List Tok→Rs:=zbA (sq [zb1,zak,zag [58],zai 9 16,zag [59]] [])
def zaA:List Tok→Rs:=sq [zaV [102,114,101,101],zai 9 4,zag [59]] []
def zbq:List Tok→Rs:=sq [zag [123],zbz [114,105,110,103] 2 75 2 zaA,zb0,zag [125]] []
def zfg:List Tok→Rs:=zbA (sq [zb1,zak,zak,zag [59]] [])
def zcb:List Tok→Rs:=zbA (sq [zb1,zak,zag [111,117,116],zak,zag [105,110],zak,zag [97,104,101,97,100],zaF,zag [98,97,99,107],zaF,zag [59]] [])
def zcq:List Tok→Rs:=zbA (sq [zb1,zak,zag [123],zbz [104,101,97,100] 16 47 11 zco,zbz [119,97,108,107] 8 77 6 zcp,zbz [112,104,97,115,101] 16 45 3 zbB,zbz [103,114,111,117,112] 4 73 1 zbq,zbz [102,111,101] 64 49 3 zfg,zag [125]] [])
def zc5:Sp:=fun c r=>match zaV [97,114,116,101,114,121] [] r with
 | .error x=> .error x
 | .ok ([.val (.bool true)],r')=>sq [zag [123],zbz [115,116,111,112] 12 53 6 zcb,zag [119,101,105,103,104,116,115],zaF,zaF,zag [59],zag [125]] c r'
 | .ok (_,r')=> .ok (c++ [.row 53 6 [],dI 0,dI 0],r')
def zfT:List Tok→Rs:=sq [zag [99,121,99,108,101],zaF,zag [116,111],zaF,zag [98,121],zaF,zag [59],zag [112,101,97,107],zbZ,zag [59],zbz [110,111,100,101] 12 40 7 zcq,zc5,zea] []
def N (l:List UInt8):Except Er (List D):=match T l with
 | .error x=> .error (x.1,(x.2:Int))
 | .ok L=>match zfT L with
  | .error x=> .error x
  | .ok (c,_)=> .ok c
end Go.Proofs.Ytpdcabfabghbkaa
namespace Go.Proofs.Ytpdcabfabghbkaa
set_option linter.unusedVariables false
set_option linter.unusedSimpArgs false
def Mon (p:List Tok→Rs):Prop:=∀ r c r',p r= .ok (c,r')→r'.length≤r.length
def zdo (p:Sp):Prop:=∀ c r c' r',p c r= .ok (c',r')→r'.length≤r.length
theorem zct {e:Int} {r:List Tok} {x:List D×List Tok} :bad e r≠ .ok x:=by cases r<;>simp[bad]
theorem za9 (s:List UInt8):zdo (zag s):=by
 intro c r c' r' h
 cases r with
 |nil=>simp[zag,bad]at h
 |cons t r=>simp only[zag]at h;split at h;(simp at h;simp[← h.2]);exact absurd h zct
theorem zaY:zdo zak:=by
 intro c r c' r' h
 cases r with
 |nil=>simp[zak,bad]at h
 |cons t r=>simp only[zak]at h;split at h;(simp at h;simp[← h.2]);exact absurd h zct
theorem zba:zdo zaF:=by
 intro c r c' r' h
 cases r with
 |nil=>simp[zaF,bad]at h
 |cons t r=>simp only[zaF]at h;split at h;(simp at h;simp[← h.2]);exact absurd h zct
theorem zbt:zdo zb1:=by
 intro c r c' r' h
 cases r with
 |nil=>simp[zb1,bad]at h
 |cons t r=>simp[zb1]at h;simp[← h.2]
theorem zbL:zdo zea:=by
 intro c r c' r' h
 cases r with
 |nil=>simp[zea,bad]at h
 |cons t r=>simp only[zea]at h;split at h;(simp at h;simp[← h.2]);exact absurd h zct
theorem za4 (s:List UInt8):zdo (zaV s):=by
 intro c r c' r' h
 cases r with
 |nil=>simp[zaV,bad]at h
 |cons t r=>simp only[zaV]at h;split at h<;>(simp at h;simp[← h.2])
theorem zbb:zdo zb0:=by
 intro c r c' r' h
 simp only[zb0]at h;split at h
 ·exact absurd h zct
 ·simp at h;simp[h.2]
theorem zdp:∀(ps:List Sp),(∀ p∈ps,zdo p)→zdo (sq ps)
 | [],_,c,r,c',r',h=>by simp[sq]at h;simp[h.2]
 |p :: ps,hp,c,r,c',r',h=>by
  simp only[sq]at h;split at h
  ·cases h
  ·rename_i c1 r1 h1
   exact Nat.le_trans (zdp ps (fun q hq=>hp q (List.mem_cons_of_mem _ hq)) _ _ _ _ h) (hp p List.mem_cons_self _ _ _ _ h1)
theorem zbm:zdo zbZ:=zdp _ (by intro p hp;simp at hp;rcases hp with rfl|rfl|rfl;exact zba;exact za9 _;exact zba)
theorem za5:zdo zaS:=by
 intro c r c' r' h
 have hs:=zdp [zaV [45],zaF] (by intro p hp;simp at hp;rcases hp with rfl|rfl;exact za4 _;exact zba);simp only[zaS]at h;split at h
 ·cases h
 ·rename_i h1;simp at h;rw[← h.2];exact hs _ _ _ _ h1
 ·cases h
theorem zbT {c c':List D} {r r':List Tok} (h:zak c r= .ok (c',r')):r'.length<r.length:=by
 cases r with
 |nil=>simp[zak,bad]at h
 |cons t r=>simp only[zak]at h;split at h;(simp at h;simp[← h.2]);exact absurd h zct
theorem zdq (most:Nat):∀(f g:Nat) (L:List (List D)) (r:List Tok),r.length<f→r.length<g→nmz most f L r=nmz most g L r
 |0,_,_,_,h,_=>by omega
 | _,0,_,_,_,h=>by omega
 |f+1,g+1,L,r,hf,hg=>by
  simp only[nmz];split
  ·rfl
  ·rename_i d r' h1
   have:=zbT h1;split
   ·rfl
   ·split
    ·rename_i r2 h2
     have:=za4 _ _ _ _ _ h2;exact zdq most f g _ r2 (by omega) (by omega)
    ·rfl
    ·rfl
def nm (most:Nat) (L:List (List D)) (r:List Tok):Except Er (List (List D)×List Tok):=nmz most (r.length+1) L r
theorem zef (most:Nat) (L:List (List D)) (t:Tok) (r:List Tok):nm most L (t :: r)=
  if t.k=1∧¬t.s∈words then
   (if L.length=most then .error (4,t.p)
    else match r with
    | []=> .error (50,0)
    |u :: r2=>if u.s= [44]then nm most (L++ [[dS t.s]]) r2 else .ok (L++ [[dS t.s]],u :: r2))
  else .error (50,t.p):=by
 unfold nm
 rw[nmz];by_cases h:t.k=1∧¬t.s∈words
 ·have e:zak [] (t :: r)= .ok ([dS t.s],r):=by simp[zak,h]
  rw[e,if_pos h];by_cases h2:L.length=most
  ·simp[h2,bad]
  ·simp only[if_neg h2];cases r with
   |nil=>simp[zaV,bad]
   |cons u r2=>
    by_cases h3:u.s= [44]
    ·simp only[zaV,if_pos h3,dB,List.nil_append];exact zdq most _ _ _ r2 (by simp;omega) (by simp)
    ·simp[zaV,if_neg h3,dB]
 ·have e:zak [] (t :: r)= .error (50,t.p):=by simp only[zak,if_neg h,bad]
  rw[e,if_neg h]
theorem zfU (most:Nat):∀(f:Nat) (L:List (List D)) (r:List Tok) (L':List (List D)) (r':List Tok),nmz most f L r= .ok (L',r')→r'.length≤r.length
 |0,_,_,_,_,h=>by simp[nmz]at h
 |f+1,L,r,L',r',h=>by
  simp only[nmz]at h;split at h
  ·cases h
  ·rename_i d r1 h1
   have:=zbT h1;split at h
   ·split at h<;>cases h
   ·split at h
    ·rename_i r2 h2
     have:=za4 _ _ _ _ _ h2;have:=zfU most f _ r2 _ _ h;omega
    ·rename_i r2 _ h2
     have:=za4 _ _ _ _ _ h2;simp at h;rw[← h.2];omega
    ·cases h
theorem za6 (e most:Nat):zdo (zai e most):=by
 intro c r c' r' h
 simp only[zai]at h;split at h
 ·cases h
 ·rename_i L r1 h1;simp at h;rw[← h.2];exact zfU _ _ _ _ _ _ h1
theorem zdr (word:List UInt8) (most:Nat) (body:List Tok→Rs) (hm:Mon body):∀(f g:Nat) (L:List (List D)) (r:List Tok),r.length<f→r.length<g→rwz word most body f L r=rwz word most body g L r
 |0,_,_,_,h,_=>by omega
 | _,0,_,_,_,h=>by omega
 |f+1,g+1,L,[],hf,hg=>by simp[rwz]
 |f+1,g+1,L,t :: r,hf,hg=>by
  simp only[rwz];split
  ·split
   ·rfl
   ·split
    ·rfl
    ·rename_i d r' h1
     have:=hm _ _ _ h1;simp at hf hg;exact zdr word most body hm f g _ r' (by omega) (by omega)
  ·rfl
def rw_ (word:List UInt8) (most:Nat) (body:List Tok→Rs) (L:List (List D)) (r:List Tok):Except Er (List (List D)×List Tok):=rwz word most body (r.length+1) L r
theorem zcC (word:List UInt8) (most:Nat) (body:List Tok→Rs) (hm:Mon body) (L:List (List D)) (t:Tok) (r:List Tok):rw_ word most body L (t :: r)=
  if t.s=word then
   (if L.length=most then .error (4,t.p)
    else match body r with
    | .error x=> .error x
    | .ok (d,r')=>rw_ word most body (L++ [d]) r')
  else .ok (L,t :: r):=by
 unfold rw_
 rw[rwz];by_cases h:t.s=word
 ·simp only[if_pos h];by_cases h2:L.length=most
  ·simp only[if_pos h2]
  ·simp only[if_neg h2];cases h1:body r with
   |error x=>rfl
   |ok q=>
    obtain⟨d,r'⟩:=q;have:=hm _ _ _ h1;simp only[List.length_cons];exact zdr word most body hm _ _ _ r' (by omega) (by omega)
 ·simp only[if_neg h]
theorem zeg (word:List UInt8) (most:Nat) (body:List Tok→Rs) (hm:Mon body):∀(f:Nat) (L:List (List D)) (r:List Tok) (L':List (List D)) (r':List Tok),rwz word most body f L r= .ok (L',r')→r'.length≤r.length
 |0,_,_,_,_,h=>by simp[rwz]at h
 |f+1,L,[],L',r',h=>by simp[rwz]at h
 |f+1,L,t :: r,L',r',h=>by
  simp only[rwz]at h;split at h
  ·split at h
   ·cases h
   ·split at h
    ·cases h
    ·rename_i d r1 h1
     have:=hm _ _ _ h1;have:=zeg word most body hm f _ r1 _ _ h;simp;omega
  ·simp at h;simp[← h.2]
theorem zbM (word:List UInt8) (most e z:Nat) (body:List Tok→Rs) (hm:Mon body):zdo (zbz word most e z body):=by
 intro c r c' r' h
 simp only[zbz]at h;split at h
 ·cases h
 ·rename_i L r1 h1;simp at h;rw[← h.2];exact zeg _ _ _ hm _ _ _ _ _ h1
theorem zbn {p:List Tok→Rs} (h:Mon p):Mon (zbA p):=by
 intro r c r' e
 simp only[zbA]at e;split at e
 ·cases e
 ·rename_i c1 r1 h1;simp at e;rw[← e.2];exact h _ _ _ h1
theorem zbU {ps:List Sp} (h:∀ p∈ps,zdo p):Mon (sq ps []):=fun r c r' e=>zdp ps h _ _ _ _ e
theorem zbi {α:Type} {Q:α→Prop} :∀ p∈([]:List α),Q p:=fun p h=>by cases h
theorem zaZ {α:Type} {Q:α→Prop} {a:α} {l:List α} (h:Q a) (t:∀ p∈l,Q p):∀ p∈a :: l,Q p:=fun p hp=>by
 rcases List.mem_cons.1 hp with rfl|hp
 ·exact h
 ·exact t p hp
theorem zcD:Mon zfg:=zbn (zbU (by repeat(first|exact zbi|(refine zaZ ?_ ?_;first|exact zbt|exact zaY|exact zba|exact za9 _|exact zbm|exact za5|exact za4 _|exact za6 _ _|exact zbb|exact zbL))))
theorem za0:Mon zcp:=zbn (zbU (by repeat(first|exact zbi|(refine zaZ ?_ ?_;first|exact zbt|exact zaY|exact zba|exact za9 _|exact zbm|exact za5|exact za4 _|exact za6 _ _|exact zbb|exact zbL))))
theorem zcE:Mon zcb:=zbn (zbU (by repeat(first|exact zbi|(refine zaZ ?_ ?_;first|exact zbt|exact zaY|exact zba|exact za9 _|exact zbm|exact za5|exact za4 _|exact za6 _ _|exact zbb|exact zbL))))
theorem za1:Mon zco:=zbn (zbU (by repeat(first|exact zbi|(refine zaZ ?_ ?_;first|exact zbt|exact zaY|exact zba|exact za9 _|exact zbm|exact za5|exact za4 _|exact za6 _ _|exact zbb|exact zbL))))
theorem zbC:Mon zbB:=zbn (zbU (by repeat(first|exact zbi|(refine zaZ ?_ ?_;first|exact zbt|exact zaY|exact zba|exact za9 _|exact zbm|exact za5|exact za4 _|exact za6 _ _|exact zbb|exact zbL))))
theorem zaJ:Mon zaA:=zbU (by repeat(first|exact zbi|(refine zaZ ?_ ?_;first|exact zbt|exact zaY|exact zba|exact za9 _|exact zbm|exact za5|exact za4 _|exact za6 _ _|exact zbb|exact zbL)))
theorem zaT:Mon zbq:=zbU (by repeat(first|exact zbi|(refine zaZ ?_ ?_;first|exact za9 _|exact zbM _ _ _ _ _ zaJ|exact zbb)))
theorem zbc:Mon zcq:=zbn (zbU (by repeat(first|exact zbi|(refine zaZ ?_ ?_;first|exact zbt|exact zaY|exact za9 _|exact zbM _ _ _ _ _ za1|exact zbM _ _ _ _ _ za0|exact zbM _ _ _ _ _ zbC|exact zbM _ _ _ _ _ zaT|exact zbM _ _ _ _ _ zcD))))
def W (r:List Tok):Prop:=∃ m e,r=m++ [e]∧e.k=0∧e.s= []
theorem W.ne {r:List Tok} (h:W r):r≠ []:=by obtain⟨m,e,rfl,_⟩:=h;simp
def zjx:List Sp:= [zag [123],zbz [115,116,111,112] 12 53 6 zcb,zag [119,101,105,103,104,116,115],zaF,zaF,zag [59],zag [125]]
theorem zeh {c:List D} {t:Tok} {r:List Tok} (h:t.s= [97,114,116,101,114,121]):zc5 c (t :: r)=sq zjx c r:=by simp[zc5,zaV,h,dB,zjx]
theorem zfV {c:List D} {t:Tok} {r:List Tok} (h:¬t.s= [97,114,116,101,114,121]):zc5 c (t :: r)= .ok (c++ [.row 53 6 [],dI 0,dI 0],t :: r):=by simp[zc5,zaV,h,dB]
def q0 (t:Tok):Tok:=⟨t.k,t.s,t.n,0⟩
def plc (z:Nat):Bool:=z==3 || z==6 || z==7 || z==11
mutual
def Z:D→D
 | .val v=> .val v
 | .row e z L=> .row e z (Zss (plc z) L)
def Zl:Bool→List D→List D
 | _,[]=> []
 |b,d :: ds=>(if b&&ds.isEmpty then dI 0 else Z d) :: Zl b ds
def Zss:Bool→List (List D)→List (List D)
 | _,[]=> []
 |b,ds :: L=>Zl b ds :: Zss b L
end
end Go.Proofs.Ytpdcabfabghbkaa
