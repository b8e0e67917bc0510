/- The document's reader in plain words: steps over what was read so far, or over what was wrong. No program is met here. -/
import Derived.Test.YthceiikgecoimaaGreatDoorNCut
import Derived.Test.YthceiikgecoimaaGreatDoorLFact
namespace Go.Proofs.YthceiikgecoimaaGreatDoor
open Go.RowKit
set_option linter.unusedVariables false
set_option linter.unusedSimpArgs false
def bnd (X:Rs) (p:Sp):Rs:=match X with
 | .error x=> .error x
 | .ok (c,r)=>p c r
def bnb (X:Rs) (p:List Tok->Rs):Rs:=match X with
 | .error x=> .error x
 | .ok (_,r)=>p r
def zaz:Rs->Except Er (List Tok)
 | .error x=> .error x
 | .ok (_,r)=> .ok r
def zb1:Rs->Rs
 | .error x=> .error x
 | .ok (_,r)=> .ok ([],r)
theorem zbO (X:Rs):zaz (zb1 X)=zaz X:=by rcases X with x|⟨c,r⟩<;>rfl
theorem zeE (X:Rs) (p:Sp):bnd (zb1 X) p=bnb X (p []):=by rcases X with x|⟨c,r⟩<;>rfl
theorem zaY (X:Rs):bnd X (sq [])=X:=by rcases X with x|⟨c,r⟩<;>rfl
theorem zav (X:Rs) (p:Sp) (ps:List Sp):bnd X (sq (p :: ps))=bnd (bnd X p) (sq ps):=by
 rcases X with x|⟨c,r⟩
 ·rfl
 ·show sq (p :: ps) c r=bnd (p c r) (sq ps);simp only[sq];cases p c r<;>rfl
theorem zkO (X:Rs) (p:List Tok->Rs):zaz (bnb X (zcc p))=zaz (bnb X p):=by
 rcases X with x|⟨c,r⟩
 ·rfl
 ·show zaz (zcc p r)=zaz (p r);simp only[zcc];rcases p r with x|⟨c,r'⟩<;>rfl
def Got (X Y:Rs) (ds:List D):Prop:=∀ c r,Y= .ok (c,r)->∃ c0 r0,X= .ok (c0,r0)/\c=c0++ds
theorem Got.refl (X:Rs):Got X X []:=λc r h=>⟨c,r,h,by simp⟩
theorem Got.trans {X Y Z:Rs} {a b:List D} (h:Got X Y a) (k:Got Y Z b):Got X Z (a++b):=λc r e=>by
 obtain⟨c1,r1,h1,rfl⟩:=k c r e;obtain⟨c0,r0,h0,rfl⟩:=h c1 r1 h1;exact⟨c0,r0,h0,by simp⟩
theorem Got.all {X:Rs} {p:Sp} {ds:List D} (h:Got (zb1 X) (bnd (zb1 X) p) ds):∀ c r,bnb X (p [])= .ok (c,r)->c=ds:=λc r e=>by
 rw[<- zeE]at e;obtain⟨c0,r0,h0,rfl⟩:=h c r e;rcases X with x|⟨c1,r1⟩
 ·cases h0
 ·simp only[zb1,Except.ok.injEq,Prod.mk.injEq]at h0;rw[<- h0.1];rfl
theorem Got.rot {X:Rs} {p:Sp} {d:D} {ds:List D} (h:Got (zb1 X) (bnd (zb1 X) p) (d :: ds)):∀ c r,bnb X (zcc (p []))= .ok (c,r)->c=ds++ [d]:=λc r e=>by
 rcases X with x|⟨c1,r1⟩
 ·cases e
 ·simp only[bnb,zcc]at e;cases hp:p [] r1 with
  |error x=>rw[hp]at e;cases e
  |ok q=>
   rw[hp]at e;simp only[Except.ok.injEq,Prod.mk.injEq]at e;have:=h.all q.1 q.2 hp;rw[<- e.1,this];rfl
def Kf (t:Tok):Prop:=(t.k=0->t.s= [])/\(t.k=2->∃ c s,t.s=c :: s/\48<=c.toNat/\c.toNat<=57)
def wrd:List UInt8->Bool
 | []=>false
 |c :: _=> !(decide (48<=c.toNat)&&decide (c.toNat<=57))
theorem Kf.word {t:Tok} (h:Kf t) {s:List UInt8} (hs:wrd s=true) (e:t.s=s):t.k≠0/\t.k≠2:=by
 refine⟨λk=>?_,λk=>?_⟩
 ·rw[h.1 k]at e;subst e;cases hs
 ·obtain⟨c,s',e',h1,h2⟩:=h.2 k;rw[e']at e;subst e;simp[wrd,h1,h2]at hs
theorem zqS {r:List UInt8} {p:Nat} {t:Tok} (h:one r p= .ok t):Kf t:=by
 cases r with
 |nil=>simp only[one,Except.ok.injEq]at h;subst h;exact⟨λ_=>rfl,λe=>by simp at e⟩
 |cons c r=>
  simp only[one]at h;split at h
  ·split at h
   ·cases h
   ·simp only[Except.ok.injEq]at h;subst h;exact⟨λe=>by simp at e,λe=>by simp at e⟩
  ·split at h
   ·rename_i h5
    split at h
    ·cases h
    ·simp only[Except.ok.injEq]at h;subst h;refine⟨λe=>by simp at e,λ_=>?_⟩;refine⟨c,r.take (tw (zcu c) r),?_,?_⟩
     ·show(c :: r).take (en (c :: r))=_;rw[en,Nat.add_comm 1,List.take_succ_cons]
     ·unfold kd at h5
      (repeat' split at h5)<;>omega
   ·split at h
    ·simp only[Except.ok.injEq]at h;subst h;exact⟨λe=>by simp at e,λe=>by simp at e⟩
    ·cases h
theorem zqT:∀(n:Nat) (r:List UInt8) (p:Nat) (L:List Tok),r.length<=n->tk r p= .ok L->∀ t∈L,Kf t
 |n,r,p,L,hn,h=>by
  rcases zdr h with ⟨rfl,_⟩|⟨t,M,rfl,h1,h2,_,_,h5,h6,h7⟩
  ·exact λt ht=>by simp at ht;subst ht;exact⟨λ_=>rfl,λe=>by simp at e⟩
  ·cases n with
   |zero=>omega
   |succ n=>
    have hM:=zqT n _ _ M (by rw[List.length_drop];omega) h7;intro x hx
    rcases List.mem_cons.1 hx with rfl|hx
    ·exact zqS h1
    ·exact hM x hx
theorem zsV {l:List UInt8} {L:List Tok} (h:T l= .ok L):∀ t∈L,Kf t:=zqT l.length l 0 L (Nat.le_refl _) (zl0 h).2
def bgn (word:List UInt8) (n most:Nat):Except Er (List Tok)->Bool×Except Er (List Tok)
 | .error x=>(false,.error x)
 | .ok []=>(false,.ok [])
 | .ok (t :: r)=>if t.s=word then(if n=most then(false,.error (4,t.p))else(true,.ok r))else(false,.ok (t :: r))
def rwF (L:List (List D)):Except Er (List Tok)->Except Er (List (List D)×List Tok)
 | .error x=> .error x
 | .ok r=> .ok (L,r)
def rwY (word:List UInt8) (most:Nat) (body:List Tok->Rs) (Y:Except Er (List Tok)) (L:List (List D)):Except Er (List (List D)×List Tok):=match Y with
 | .error x=> .error x
 | .ok r=>rw_ word most body L r
theorem zdA {word:List UInt8} {most:Nat} {body:List Tok->Rs} (hm:Mon body) {Y Y':Except Er (List Tok)} {L:List (List D)} (hne:Y≠ .ok []) (h:bgn word L.length most Y=(false,Y')):rwY word most body Y L=rwF L Y':=by
 match Y,h with
 | .error x,h=>simp only[bgn,Prod.mk.injEq]at h;rw[<- h.2];rfl
 | .ok [],h=>exact absurd rfl hne
 | .ok (t :: r),h=>
  simp only[bgn]at h;show rw_ word most body L (t :: r)=_;rw[zcn _ _ _ hm];by_cases h1:t.s=word
  ·rw[if_pos h1]at h |-;by_cases h2:L.length=most
   ·rw[if_pos h2]at h |-;simp only[Prod.mk.injEq]at h;rw[<- h.2];rfl
   ·rw[if_neg h2]at h;simp at h
  ·rw[if_neg h1]at h |-;simp only[Prod.mk.injEq]at h;rw[<- h.2];rfl
theorem zcK {word:List UInt8} {n most:Nat} {Y Y':Except Er (List Tok)} (h:bgn word n most Y=(true,Y')):∃ t r,Y= .ok (t :: r)/\Y'= .ok r/\t.s=word/\n≠most:=by
 match Y,h with
 | .error x,h=>simp[bgn]at h
 | .ok [],h=>simp[bgn]at h
 | .ok (t :: r),h=>
  simp only[bgn]at h;by_cases h1:t.s=word
  ·rw[if_pos h1]at h;by_cases h2:n=most
   ·rw[if_pos h2]at h;simp at h
   ·rw[if_neg h2]at h;simp only[Prod.mk.injEq]at h;exact⟨t,r,rfl,h.2.symm,h1,h2⟩
  ·rw[if_neg h1]at h;simp at h
theorem zbD {word:List UInt8} {most:Nat} {body:List Tok->Rs} (hm:Mon body) {t:Tok} {r:List Tok} {L:List (List D)} {cs:List D} (h1:t.s=word) (h2:L.length≠most) (hc:∀ c r',body r= .ok (c,r')->cs=c):rwY word most body (.ok (t :: r)) L=rwY word most body (zaz (body r)) (L++ [cs]):=by
 show rw_ word most body L (t :: r)=_;rw[zcn _ _ _ hm,if_pos h1,if_neg h2];cases hb:body r with
 |error x=>rfl
 |ok q=>obtain⟨c,r'⟩:=q;rw[hc c r' hb];rfl
theorem zds {word:List UInt8} {most e z:Nat} {body:List Tok->Rs} {X:Rs} {Y':Except Er (List Tok)} {L:List (List D)} (h:rwY word most body (zaz X) []=rwF L Y'):zaz (bnd X (zaL word most e z body))=Y'/\Got X (bnd X (zaL word most e z body)) [.row e z L]:=by
 rcases X with x|⟨c,r⟩
 ·cases Y' with
  |error y=>simp only[zaz,rwY,rwF,Except.error.injEq]at h;subst h;exact⟨rfl,λc r e=>by cases e⟩
  |ok r=>cases h
 ·have e0:bnd (.ok (c,r)) (zaL word most e z body)=match rw_ word most body [] r with| .error x=> .error x| .ok (L,r')=> .ok (c++ [.row e z L],r'):=rfl
  have h':rw_ word most body [] r=rwF L Y':=h;rw[e0,h'];cases Y' with
  |error y=>exact⟨rfl,λc r e=>by cases e⟩
  |ok r1=>exact⟨rfl,λc2 r2 e2=>by simp only[rwF,Except.ok.injEq,Prod.mk.injEq]at e2;exact⟨c,r,rfl,e2.1.symm⟩⟩
def nmA (most:Nat) (L:List (List D)):Except Er (List Tok)->Except Er (List (List D)×List Tok)
 | .error x=> .error x
 | .ok []=> .error (50,0)
 | .ok (u :: r)=>if u.s= [44]then nm most L r else .ok (L,u :: r)
theorem ziR {most:Nat} (hm:most≠0) {c:List D} {t:Tok} {r:List Tok} {s:List UInt8} (h:Got (.ok (c,t :: r)) (bnd (.ok (c,t :: r)) zai) [dS s]):nm most [] (t :: r)=nmA most [[dS s]] (zaz (bnd (.ok (c,t :: r)) zai)):=by
 rw[zcV];simp only[bnd,zai]at h |-;by_cases hn:t.k=1/\¬t.s∈words
 ·rw[if_pos hn]at h |-;obtain⟨c0,r0,h0,h1⟩:=h _ _ rfl;simp only[Except.ok.injEq,Prod.mk.injEq]at h0;obtain⟨rfl,_⟩:=h0;have hd:dS t.s=dS s:=by have:=List.append_cancel_left h1;simpa using this
  rw[if_neg (by simp;omega),if_pos hn,hd];cases r with
  |nil=>rfl
  |cons u r2=>rfl
 ·rw[if_neg hn,if_neg hn];rfl
theorem zoc {most:Nat} {L:List (List D)} {u t:Tok} {r:List Tok} (h:u.s= [44]):nmA most L (.ok (u :: t :: r))=if t.k=1/\¬t.s∈words then(if L.length=most then .error (4,t.p)else nmA most (L++ [[dS t.s]]) (.ok r))else .error (50,t.p):=by
 show(if u.s= [44]then nm most L (t :: r)else _)=_;rw[if_pos h,zcV];by_cases hn:t.k=1/\¬t.s∈words
 ·rw[if_pos hn,if_pos hn];by_cases h2:L.length=most
  ·rw[if_pos h2,if_pos h2]
  ·rw[if_neg h2,if_neg h2];cases r<;>rfl
 ·rw[if_neg hn,if_neg hn]
theorem zqU {most:Nat} {L:List (List D)} {Y:Except Er (List Tok)} (hne:Y≠ .ok []) (h:∀ t r,Y= .ok (t :: r)->t.s≠ [44]):nmA most L Y=rwF L Y:=by
 match Y with
 | .error x=>rfl
 | .ok []=>exact absurd rfl hne
 | .ok (u :: r)=>show(if u.s= [44]then _ else _)=_;rw[if_neg (h u r rfl)];rfl
theorem ziS {e most:Nat} {X:Rs} {Y':Except Er (List Tok)} {L:List (List D)} (hX:∀ c r,X= .ok (c,r)->nm most [] r=rwF L Y') (hE:∀ x,X= .error x->Y'= .error x):zaz (bnd X (zar e most))=Y'/\Got X (bnd X (zar e most)) [.row e 1 L]:=by
 rcases X with x|⟨c,r⟩
 ·rw[hE x rfl];exact⟨rfl,λc r e=>by cases e⟩
 ·have e0:bnd (.ok (c,r)) (zar e most)=match nm most [] r with| .error x=> .error x| .ok (L,r')=> .ok (c++ [.row e 1 L],r'):=rfl
  rw[e0,hX c r rfl];cases Y' with
  |error y=>exact⟨rfl,λc r e=>by cases e⟩
  |ok r1=>exact⟨rfl,λc2 r2 e2=>by simp only[rwF,Except.ok.injEq,Prod.mk.injEq]at e2;exact⟨c,r,rfl,e2.1.symm⟩⟩
theorem ziT (word:List UInt8) (most:Nat) (body:List Tok->Rs):∀(f:Nat) (L:List (List D)) (r:List Tok) (L':List (List D)) (r':List Tok),rwz word most body f L r= .ok (L',r')->L.length<=L'.length
 |0,_,_,_,_,h=>by simp[rwz]at h
 |f+1,L,[],L',r',h=>by simp[rwz]at h
 |f+1,L,t :: r,L',r',h=>by
  simp only[rwz]at h;split at h
  ·split at h
   ·cases h
   ·split at h
    ·cases h
    ·rename_i d r1 h1
     have:=ziT word most body f _ r1 _ _ h;simp at this;omega
  ·simp at h;simp[<- h.1]
end Go.Proofs.YthceiikgecoimaaGreatDoor
namespace Go.Proofs.YthceiikgecoimaaGreatDoor
open Go.RowKit
attribute [local go_sem ↓] Go.wp_at_zero Go.wp_at_succ
set_option linter.unusedVariables false
set_option linter.unusedSimpArgs false
set_option maxRecDepth 10000
set_option maxHeartbeats 2000000 in
theorem zkP (a:Option Addr) (n cap:Nat) (w:World) (hn:n<=70000):
  Calls Tryz.prog 83 #[.slice a n cap,.int .i64 (n:Int)] w λe w'=>e= .returned (.tuple #[.agg #[.int .i64 0,.string ⟨#[]⟩,.int .i64 0,.int .i64 (n:Int)],.int .i64 0])/\Keep w w':=by
 go_enter Tryz.func83,Tryz.ntmps83;go_wp2_with fail
 exact bodyPost_ret (v:= .tuple #[.agg #[.int .i64 0,.string ⟨#[]⟩,.int .i64 0,.int .i64 (n:Int)],.int .i64 0]) (by simp[results,Tryz.results83,go_sem]) rfl ⟨rfl,by repeat(first|apply zaa|apply Keep.alloc|apply Keep.drew|exact zk _)⟩
set_option maxHeartbeats 2000000 in
theorem ziU (ad:Addr) (n cap i N:Nat) (c:Int) (s:ByteArray) (w:World) (hn:n<=70000) (hi:i<n) (hN:i<N) (hNn:N<=n) (hnc:n<=cap) (hm:N - i<=24) (hb:ad.block<w.heap.size)
  (HC:Hid (∀ W,Keep w W->W.cell? (ad.add i)=some (.int .u8 c)))
  (T1:Hid (∀ w,Calls Tryz.prog 103 #[.int .u8 c] w λe w'=>e= .returned (.int .i64 4)/\w'=w))
  (T2:Hid (∀ w',Keep w w'->Calls Tryz.prog 104 #[.slice (some ad) n cap,.int .i64 (i:Int)] w' λe w''=>e= .returned (.int .i64 (N:Int))/\Keep w' w''))
  (HV:Hid (∀ W,Keep w W->(convert 29 9 (.slice (some (ad.add i)) (N - i) (cap - i))).run Tryz.prog W= .ok (.string s) W)):
  Calls Tryz.prog 83 #[.slice (some ad) n cap,.int .i64 (i:Int)] w λe w'=>e= .returned (.tuple #[.agg #[.int .i64 1,.string s,.int .i64 0,.int .i64 (i:Int)],.int .i64 0])/\Keep w w':=by
 have hin:(i:Int)<(n:Int):=by omega
 have hne:((i:Int)==(n:Int))=false:=by simp;omega
 have k0:=(show ∀ o1 o2,((w.alloc o1).alloc o2).cell? (ad.add i)=some (.int .u8 c)from λo1 o2=>(uq HC) _ (((zk w).alloc _).alloc _));have kv:=(show ∀ o1 o2 os k,(convert 29 9 (.slice (some (ad.add i)) (N - i) (cap - i))).run Tryz.prog (ext ((w.alloc o1).alloc o2) os k)= .ok (.string s) (ext ((w.alloc o1).alloc o2) os k)from λo1 o2 os k=>(uq HV) _ (zaa (((zk w).alloc _).alloc _) _ _));go_enter Tryz.func83,Tryz.ntmps83;go_wp2_with fail
 (refine((uq T1) _).mono ?_;rintro e w2 ⟨rfl,rfl⟩);clear k0;go_wp2_with fail
 (refine((uq T2) _ (((zk w).alloc _).alloc _)).mono ?_;rintro e w3 ⟨rfl,hkk⟩;obtain⟨o1,k1,rfl⟩:=hkk.ext;clear hkk);go_wp2_with fail
 exact bodyPost_ret (v:= .tuple #[.agg #[.int .i64 1,.string s,.int .i64 0,.int .i64 (i:Int)],.int .i64 0]) (by simp[results,Tryz.results83,go_sem]) rfl ⟨rfl,by repeat(first|apply zaa|apply Keep.alloc|apply Keep.drew|exact zk _)⟩
set_option maxHeartbeats 2000000 in
theorem zkQ (ad:Addr) (n cap i N:Nat) (c m:Int) (s:ByteArray) (w:World) (hn:n<=70000) (hi:i<n) (hN:i<N) (hNn:N<=n) (hnc:n<=cap) (hm:N - i<=18) (hb:ad.block<w.heap.size)
  (HC:Hid (∀ W,Keep w W->W.cell? (ad.add i)=some (.int .u8 c)))
  (T1:Hid (∀ w,Calls Tryz.prog 103 #[.int .u8 c] w λe w'=>e= .returned (.int .i64 5)/\w'=w))
  (T2:Hid (∀ w',Keep w w'->Calls Tryz.prog 104 #[.slice (some ad) n cap,.int .i64 (i:Int)] w' λe w''=>e= .returned (.int .i64 (N:Int))/\Keep w' w''))
  (HV:Hid (∀ W,Keep w W->(convert 29 9 (.slice (some (ad.add i)) (N - i) (cap - i))).run Tryz.prog W= .ok (.string s) W))
  (T3:Hid (∀ w,Calls Tryz.prog 105 #[.string s] w λe w'=>e= .returned (.int .i64 m)/\w'=w)):
  Calls Tryz.prog 83 #[.slice (some ad) n cap,.int .i64 (i:Int)] w λe w'=>e= .returned (.tuple #[.agg #[.int .i64 2,.string s,.int .i64 m,.int .i64 (i:Int)],.int .i64 0])/\Keep w w':=by
 have hin:(i:Int)<(n:Int):=by omega
 have hne:((i:Int)==(n:Int))=false:=by simp;omega
 have k0:=(show ∀ o1 o2,((w.alloc o1).alloc o2).cell? (ad.add i)=some (.int .u8 c)from λo1 o2=>(uq HC) _ (((zk w).alloc _).alloc _));have kv:=(show ∀ o1 o2 os k,(convert 29 9 (.slice (some (ad.add i)) (N - i) (cap - i))).run Tryz.prog (ext ((w.alloc o1).alloc o2) os k)= .ok (.string s) (ext ((w.alloc o1).alloc o2) os k)from λo1 o2 os k=>(uq HV) _ (zaa (((zk w).alloc _).alloc _) _ _));go_enter Tryz.func83,Tryz.ntmps83;go_wp2_with fail
 (refine((uq T1) _).mono ?_;rintro e w2 ⟨rfl,rfl⟩);clear k0;go_wp2_with fail
 (refine((uq T2) _ (((zk w).alloc _).alloc _)).mono ?_;rintro e w3 ⟨rfl,hkk⟩;obtain⟨o1,k1,rfl⟩:=hkk.ext;clear hkk);go_wp2_with fail
 (refine((uq T3) _).mono ?_;rintro e w4 ⟨rfl,rfl⟩);go_wp2_with fail
 exact bodyPost_ret (v:= .tuple #[.agg #[.int .i64 2,.string s,.int .i64 m,.int .i64 (i:Int)],.int .i64 0]) (by simp[results,Tryz.results83,go_sem]) rfl ⟨rfl,by repeat(first|apply zaa|apply Keep.alloc|apply Keep.drew|exact zk _)⟩
set_option maxHeartbeats 2000000 in
theorem ziV (ad:Addr) (n cap i N:Nat) (c:Int) (s:ByteArray) (w:World) (hn:n<=70000) (hi:i<n) (hN:i<N) (hNn:N<=n) (hnc:n<=cap) (hm:N - i<=1) (hb:ad.block<w.heap.size)
  (HC:Hid (∀ W,Keep w W->W.cell? (ad.add i)=some (.int .u8 c)))
  (T1:Hid (∀ w,Calls Tryz.prog 103 #[.int .u8 c] w λe w'=>e= .returned (.int .i64 7)/\w'=w))
  (T2:Hid (∀ w',Keep w w'->Calls Tryz.prog 104 #[.slice (some ad) n cap,.int .i64 (i:Int)] w' λe w''=>e= .returned (.int .i64 (N:Int))/\Keep w' w''))
  (HV:Hid (∀ W,Keep w W->(convert 29 9 (.slice (some (ad.add i)) (N - i) (cap - i))).run Tryz.prog W= .ok (.string s) W)):
  Calls Tryz.prog 83 #[.slice (some ad) n cap,.int .i64 (i:Int)] w λe w'=>e= .returned (.tuple #[.agg #[.int .i64 3,.string s,.int .i64 0,.int .i64 (i:Int)],.int .i64 0])/\Keep w w':=by
 have hin:(i:Int)<(n:Int):=by omega
 have hne:((i:Int)==(n:Int))=false:=by simp;omega
 have k0:=(show ∀ o1 o2,((w.alloc o1).alloc o2).cell? (ad.add i)=some (.int .u8 c)from λo1 o2=>(uq HC) _ (((zk w).alloc _).alloc _));have kv:=(show ∀ o1 o2 os k,(convert 29 9 (.slice (some (ad.add i)) (N - i) (cap - i))).run Tryz.prog (ext ((w.alloc o1).alloc o2) os k)= .ok (.string s) (ext ((w.alloc o1).alloc o2) os k)from λo1 o2 os k=>(uq HV) _ (zaa (((zk w).alloc _).alloc _) _ _));go_enter Tryz.func83,Tryz.ntmps83;go_wp2_with fail
 (refine((uq T1) _).mono ?_;rintro e w2 ⟨rfl,rfl⟩);clear k0;go_wp2_with fail
 (refine((uq T2) _ (((zk w).alloc _).alloc _)).mono ?_;rintro e w3 ⟨rfl,hkk⟩;obtain⟨o1,k1,rfl⟩:=hkk.ext;clear hkk);go_wp2_with fail
 exact bodyPost_ret (v:= .tuple #[.agg #[.int .i64 3,.string s,.int .i64 0,.int .i64 (i:Int)],.int .i64 0]) (by simp[results,Tryz.results83,go_sem]) rfl ⟨rfl,by repeat(first|apply zaa|apply Keep.alloc|apply Keep.drew|exact zk _)⟩
set_option maxHeartbeats 2000000 in
theorem zhF (ad:Addr) (n cap i N:Nat) (c:Int) (s:ByteArray) (w:World) (hn:n<=70000) (hi:i<n) (hN:i<N) (hNn:N<=n) (hnc:n<=cap) (hm:24<N - i) (hb:ad.block<w.heap.size)
  (HC:Hid (∀ W,Keep w W->W.cell? (ad.add i)=some (.int .u8 c)))
  (T1:Hid (∀ w,Calls Tryz.prog 103 #[.int .u8 c] w λe w'=>e= .returned (.int .i64 4)/\w'=w))
  (T2:Hid (∀ w',Keep w w'->Calls Tryz.prog 104 #[.slice (some ad) n cap,.int .i64 (i:Int)] w' λe w''=>e= .returned (.int .i64 (N:Int))/\Keep w' w''))
  (HV:Hid (∀ W,Keep w W->(convert 29 9 (.slice (some (ad.add i)) (N - i) (cap - i))).run Tryz.prog W= .ok (.string s) W)):
  Calls Tryz.prog 83 #[.slice (some ad) n cap,.int .i64 (i:Int)] w λe w'=>e= .returned (.tuple #[.agg #[.int .i64 0,.string ⟨#[]⟩,.int .i64 0,.int .i64 0],.int .i64 4])/\Keep w w':=by
 have hin:(i:Int)<(n:Int):=by omega
 have hne:((i:Int)==(n:Int))=false:=by simp;omega
 have k0:=(show ∀ o1 o2,((w.alloc o1).alloc o2).cell? (ad.add i)=some (.int .u8 c)from λo1 o2=>(uq HC) _ (((zk w).alloc _).alloc _));have kv:=(show ∀ o1 o2 os k,(convert 29 9 (.slice (some (ad.add i)) (N - i) (cap - i))).run Tryz.prog (ext ((w.alloc o1).alloc o2) os k)= .ok (.string s) (ext ((w.alloc o1).alloc o2) os k)from λo1 o2 os k=>(uq HV) _ (zaa (((zk w).alloc _).alloc _) _ _));go_enter Tryz.func83,Tryz.ntmps83;go_wp2_with fail
 (refine((uq T1) _).mono ?_;rintro e w2 ⟨rfl,rfl⟩);clear k0;go_wp2_with fail
 (refine((uq T2) _ (((zk w).alloc _).alloc _)).mono ?_;rintro e w3 ⟨rfl,hkk⟩;obtain⟨o1,k1,rfl⟩:=hkk.ext;clear hkk);go_wp2_with fail
 exact bodyPost_ret (v:= .tuple #[.agg #[.int .i64 0,.string ⟨#[]⟩,.int .i64 0,.int .i64 0],.int .i64 4]) (by simp[results,Tryz.results83,go_sem]) rfl ⟨rfl,by repeat(first|apply zaa|apply Keep.alloc|apply Keep.drew|exact zk _)⟩
set_option maxHeartbeats 2000000 in
theorem zhG (ad:Addr) (n cap i N:Nat) (c:Int) (s:ByteArray) (w:World) (hn:n<=70000) (hi:i<n) (hN:i<N) (hNn:N<=n) (hnc:n<=cap) (hm:18<N - i) (hb:ad.block<w.heap.size)
  (HC:Hid (∀ W,Keep w W->W.cell? (ad.add i)=some (.int .u8 c)))
  (T1:Hid (∀ w,Calls Tryz.prog 103 #[.int .u8 c] w λe w'=>e= .returned (.int .i64 5)/\w'=w))
  (T2:Hid (∀ w',Keep w w'->Calls Tryz.prog 104 #[.slice (some ad) n cap,.int .i64 (i:Int)] w' λe w''=>e= .returned (.int .i64 (N:Int))/\Keep w' w''))
  (HV:Hid (∀ W,Keep w W->(convert 29 9 (.slice (some (ad.add i)) (N - i) (cap - i))).run Tryz.prog W= .ok (.string s) W)):
  Calls Tryz.prog 83 #[.slice (some ad) n cap,.int .i64 (i:Int)] w λe w'=>e= .returned (.tuple #[.agg #[.int .i64 0,.string ⟨#[]⟩,.int .i64 0,.int .i64 0],.int .i64 4])/\Keep w w':=by
 have hin:(i:Int)<(n:Int):=by omega
 have hne:((i:Int)==(n:Int))=false:=by simp;omega
 have k0:=(show ∀ o1 o2,((w.alloc o1).alloc o2).cell? (ad.add i)=some (.int .u8 c)from λo1 o2=>(uq HC) _ (((zk w).alloc _).alloc _));have kv:=(show ∀ o1 o2 os k,(convert 29 9 (.slice (some (ad.add i)) (N - i) (cap - i))).run Tryz.prog (ext ((w.alloc o1).alloc o2) os k)= .ok (.string s) (ext ((w.alloc o1).alloc o2) os k)from λo1 o2 os k=>(uq HV) _ (zaa (((zk w).alloc _).alloc _) _ _));go_enter Tryz.func83,Tryz.ntmps83;go_wp2_with fail
 (refine((uq T1) _).mono ?_;rintro e w2 ⟨rfl,rfl⟩);clear k0;go_wp2_with fail
 (refine((uq T2) _ (((zk w).alloc _).alloc _)).mono ?_;rintro e w3 ⟨rfl,hkk⟩;obtain⟨o1,k1,rfl⟩:=hkk.ext;clear hkk);go_wp2_with fail
 exact bodyPost_ret (v:= .tuple #[.agg #[.int .i64 0,.string ⟨#[]⟩,.int .i64 0,.int .i64 0],.int .i64 4]) (by simp[results,Tryz.results83,go_sem]) rfl ⟨rfl,by repeat(first|apply zaa|apply Keep.alloc|apply Keep.drew|exact zk _)⟩
set_option maxHeartbeats 2000000 in
theorem ziW (ad:Addr) (n cap i N:Nat) (c q:Int) (s:ByteArray) (w:World) (hn:n<=70000) (hi:i<n) (hN:i<N) (hNn:N<=n) (hnc:n<=cap) (q4:(q==4)=false) (q5:(q==5)=false) (q7:(q==7)=false) (hb:ad.block<w.heap.size)
  (HC:Hid (∀ W,Keep w W->W.cell? (ad.add i)=some (.int .u8 c)))
  (T1:Hid (∀ w,Calls Tryz.prog 103 #[.int .u8 c] w λe w'=>e= .returned (.int .i64 q)/\w'=w))
  (T2:Hid (∀ w',Keep w w'->Calls Tryz.prog 104 #[.slice (some ad) n cap,.int .i64 (i:Int)] w' λe w''=>e= .returned (.int .i64 (N:Int))/\Keep w' w''))
  (HV:Hid (∀ W,Keep w W->(convert 29 9 (.slice (some (ad.add i)) (N - i) (cap - i))).run Tryz.prog W= .ok (.string s) W)):
  Calls Tryz.prog 83 #[.slice (some ad) n cap,.int .i64 (i:Int)] w λe w'=>e= .returned (.tuple #[.agg #[.int .i64 0,.string ⟨#[]⟩,.int .i64 0,.int .i64 0],.int .i64 40])/\Keep w w':=by
 have hin:(i:Int)<(n:Int):=by omega
 have hne:((i:Int)==(n:Int))=false:=by simp;omega
 have k0:=(show ∀ o1 o2,((w.alloc o1).alloc o2).cell? (ad.add i)=some (.int .u8 c)from λo1 o2=>(uq HC) _ (((zk w).alloc _).alloc _));have kv:=(show ∀ o1 o2 os k,(convert 29 9 (.slice (some (ad.add i)) (N - i) (cap - i))).run Tryz.prog (ext ((w.alloc o1).alloc o2) os k)= .ok (.string s) (ext ((w.alloc o1).alloc o2) os k)from λo1 o2 os k=>(uq HV) _ (zaa (((zk w).alloc _).alloc _) _ _));go_enter Tryz.func83,Tryz.ntmps83;go_wp2_with fail
 (refine((uq T1) _).mono ?_;rintro e w2 ⟨rfl,rfl⟩);clear k0;go_wp2_with fail
 exact bodyPost_ret (v:= .tuple #[.agg #[.int .i64 0,.string ⟨#[]⟩,.int .i64 0,.int .i64 0],.int .i64 40]) (by simp[results,Tryz.results83,go_sem]) rfl ⟨rfl,by repeat(first|apply zaa|apply Keep.alloc|apply Keep.drew|exact zk _)⟩
set_option maxHeartbeats 2000000 in
theorem zgy (s:ByteArray) (D V:Nat->Int) (w:World) (hn:s.size<=18)
  (HD:Hid (∀ k (h:k<s.size),((s[k]'h).toNat:Int)=D k+48/\0<=D k/\D k<=9))
  (H0:Hid (V 0=0))
  (HV:Hid (∀ k,k<s.size->V (k+1)=V k * 10+D k/\0<=V k/\V k<=100000000000000000)):
  Calls Tryz.prog 105 #[.string s] w λe w'=>e= .returned (.int .i64 (V s.size))/\w'=w:=by
 go_enter Tryz.func105,Tryz.ntmps105;go_wp2_with fail
 go_loop [3,7] (λvn vi=>∃ k:Nat,k<=s.size/\vi= .int .i64 (k:Int)/\vn= .int .i64 (V k)) (λvn vi=>s.size - (intOf vi).toNat)
 case atStart=>exact⟨0,Nat.zero_le _,rfl,by rw[uq H0]⟩
 case round=>
  obtain⟨k,hk,rfl,rfl⟩:=hrel;by_cases hlt:k<s.size
  ·have li:(k:Int)<(s.size:Int):=by omega
   obtain⟨h1,h2,h3⟩:=(uq HD) k hlt;obtain⟨h4,h5,h6⟩:=(uq HV) k hlt;have H4:=zh h4;clear h4;go_wp2_with fail
   exact⟨⟨k+1,hlt,by go_num,by rw[uq H4]⟩,by simp[intOf];omega⟩
  ·have e:k=s.size:=by omega
   subst e;go_wp2_with fail
   go_ret;exact⟨rfl,rfl⟩
theorem zdb (m:List UInt8) (c:UInt8):num (m++ [c])=num m * 10+((c.toNat:Int) - 48):=by unfold num;rw[List.foldl_append];rfl
theorem zfr (l:List UInt8) (k:Nat) (h:k<l.length):l.take (k+1)=l.take k++ [l.getD k 0]:=by
 rw[List.take_add_one,List.getElem?_eq_getElem h,List.getD_eq_getElem?_getD,List.getElem?_eq_getElem h];rfl
theorem zed (l:List UInt8) (hd:∀ c,c∈l->kd c.toNat=5):∀ k,k<=l.length->0<=num (l.take k)/\num (l.take k)<10 ^ k
 |0,_=>by simp[num]
 |k+1,h=>by
  have ih:=zed l hd k (by omega);have hc:=(zlU _).1 (hd (l.getD k 0) (by rw[List.getD_eq_getElem?_getD,List.getElem?_eq_getElem (by omega)];exact List.getElem_mem _));rw[zfr l k (by omega),zdb,Int.pow_succ];generalize num (l.take k)=x at *;generalize (10:Int) ^ k=y at *;omega
theorem zsh (l:List UInt8) (k:Nat) (h:k<(sv l).size):(sv l)[k]'h=l.getD k 0:=by
 rw[zbB]at h;rw[List.getD_eq_getElem?_getD,List.getElem?_eq_getElem h]
 rfl
theorem zdV (l:List UInt8) (hl:l.length<=18) (hd:∀ c,c∈l->kd c.toNat=5) (w:World):
  Calls Tryz.prog 105 #[.string (sv l)] w λe w'=>e= .returned (.int .i64 (num l))/\w'=w:=by
 have h:=zgy (sv l) (λk=>((l.getD k 0).toNat:Int) - 48) (λk=>num (l.take k)) w (by rw[zbB];exact hl) (zh λk hk=>?_) (zh (by simp[num])) (zh λk hk=>?_)
 ·simp only[zbB,List.take_length]at h;exact h
 ·rw[zsh];rw[zbB]at hk;have hc:=(zlU _).1 (hd (l.getD k 0) (by rw[List.getD_eq_getElem?_getD,List.getElem?_eq_getElem hk];exact List.getElem_mem _));omega
 ·rw[zbB]at hk;have hb:=zed l hd k (by omega);have hp:(10:Int) ^ k<=10 ^ 17:=by exact_mod_cast Nat.pow_le_pow_right (n:=10) (by decide) (show k<=17 by omega)
  exact⟨by rw[zfr l k hk,zdb],hb.1,by omega⟩
end Go.Proofs.YthceiikgecoimaaGreatDoor
namespace Go.Proofs.YthceiikgecoimaaGreatDoor
open Go.RowKit
set_option linter.unusedVariables false
set_option linter.unusedSimpArgs false
set_option maxRecDepth 10000
theorem zod (P:UInt8->Bool) (r:List UInt8):r.take (tw P r)=r.takeWhile P:=(List.prefix_iff_eq_take.1 (List.takeWhile_prefix P)).symm
theorem zoe (c:UInt8) (r:List UInt8):(c :: r).take (en (c :: r))=c :: r.takeWhile (zcu c):=by
 rw[en,Nat.add_comm,List.take_succ_cons,zod]
theorem zqV {c:UInt8} {r:List UInt8} {x:UInt8} (h:x∈(c :: r).take (en (c :: r))):x=c\/zcu c x=true:=by
 rw[zoe,List.mem_cons]at h;rcases h with h|h
 ·exact .inl h
 ·right;have:=List.all_takeWhile (l:=r) (p:=zcu c);rw[List.all_eq_true]at this;exact this x h
theorem zdB {c:UInt8} {r:List UInt8} (h5:kd c.toNat=5):∀ x,x∈(c :: r).take (en (c :: r))->kd x.toNat=5:=by
 intro x h
 rcases zqV h with rfl|h
 ·exact h5
 ·unfold zcu at h
  rw[zdk]at h;omega
theorem ze8 {w:World} {ad:Addr} {l:List UInt8} {i N:Nat} (C:Cy w (some ad) l.length (λk=>((l.getD k 0).toNat:Int))) (hi:i<=N) (hN:N<=l.length) {t u:TypeId} (hs:Tryz.prog.underlying t=some (.slice 5)) (hu:Tryz.prog.underlying u=some .string) (c:Nat):
  (convert t u (.slice (some (ad.add i)) (N - i) c)).run Tryz.prog w= .ok (.string (sv ((l.drop i).take (N - i)))) w:=by
 have hl:((l.drop i).take (N - i)).length=N - i:=by rw[List.length_take,List.length_drop];omega
 have h:=run_convert_bytes_back (P:=Tryz.prog) w t u 5 (ad.add i) c ((l.drop i).take (N - i)) hs Tryz.underlying5 hu (λj hj=>?_)
 ·rw[hl]at h;exact h
 ·rw[hl]at hj;obtain⟨ad',e,_,hc⟩:=C (i+j) (by omega);injection e with e
  subst e;rw[Addr.add_add,hc];congr 2;show((l.getD (i+j) 0).toNat:Int)=_;rw[List.getD_eq_getElem?_getD,List.getElem?_eq_getElem (by omega)];simp
def rtk:Except Int Tok->Tok
 | .ok t=>t
 | .error _=>t0
def re:Except Int Tok->Int
 | .ok _=>0
 | .error e=>e
theorem zkR (v:Value) (l:List UInt8) (i:Nat) (w:World) (hl:l.length<=70000) (hi:i<=l.length) (h:By w v l):
  Calls Tryz.prog 83 #[v,.int .i64 (i:Int)] w λe w'=>e= .returned (.tuple #[tv (rtk (one (l.drop i) i)),.int .i64 (re (one (l.drop i) i))])/\Keep w w':=by
 by_cases hlt:i<l.length
 ·obtain⟨a,cap,e,hcap,hc⟩:=id h;subst e;obtain⟨ad,rfl,hb,ci⟩:=hc i hlt;have hd:=zcT l i hlt;have h2:=zey (l.drop i);have h1:1<=en (l.drop i):=by rw[hd];exact ziE _ _
  rw[List.length_drop]at h2;have HC:Hid (∀ W,Keep w W->W.cell? (ad.add i)=some (.int .u8 ((l.getD i 0).toNat:Int))):=λW hk=>by
   rw[Below.cell hk (by rw[zag];exact hb)];exact ci
  have T2:=zh λw' (hk:Keep w w')=>ziA _ l i w' hl hlt (h.keep hk)
  have HV:Hid (∀ W,Keep w W->(convert 29 9 (.slice (some (ad.add i)) (i+en (l.drop i) - i) (cap - i))).run Tryz.prog W= .ok (.string (sv ((l.drop i).take (en (l.drop i))))) W):=λW hk=>by
   have:=ze8 (h.cy.keep hk) (show i<=i+en (l.drop i) by omega) (by omega) (t:=29) (u:=9) Tryz.underlying29 Tryz.underlying9 (cap - i);rw[Nat.add_sub_cancel_left]at this |-;exact this
  have K:=zfn ((l.getD i 0).toNat:Int);have hdig:kd (l.getD i 0).toNat=5->∀ x,x∈(l.drop i).take (en (l.drop i))->kd x.toNat=5:=by rw[hd];exact zdB
  have hlen:((l.drop i).take (en (l.drop i))).length=en (l.drop i):=by rw[List.length_take,List.length_drop];omega
  have h7e:kd (l.getD i 0).toNat=7->en (l.drop i)=1:=by
   rw[hd];intro h7
   have:tw (zcu (l.getD i 0)) (l.drop (i+1))=0:=zdQ λx=>by unfold zcu;rw[h7];unfold on;simp
   show 1+tw (zcu (l.getD i 0)) (l.drop (i+1))=1;rw[this]
  have e1:one (l.drop i) i=(if kd (l.getD i 0).toNat=4 then(if 24<en (l.drop i)then .error 4 else .ok ⟨1,(l.drop i).take (en (l.drop i)),0,i⟩)
   else if kd (l.getD i 0).toNat=5 then(if 18<en (l.drop i)then .error 4 else .ok ⟨2,(l.drop i).take (en (l.drop i)),num ((l.drop i).take (en (l.drop i))),i⟩)
   else if kd (l.getD i 0).toNat=7 then .ok ⟨3,(l.drop i).take (en (l.drop i)),0,i⟩
   else .error 40):=by
   conv=>lhs;rw[hd]
   simp only[one];rw[<- hd]
  rw[e1];by_cases k4:kd (l.getD i 0).toNat=4
  ·rw[if_pos k4];rw[k4]at K;by_cases hm:24<en (l.drop i)
   ·rw[if_pos hm];exact zhF ad l.length cap i (i+en (l.drop i)) _ _ w hl hlt (by omega) (by omega) hcap (by omega) hb HC (zh K) T2 HV
   ·rw[if_neg hm];exact ziU ad l.length cap i (i+en (l.drop i)) _ _ w hl hlt (by omega) (by omega) hcap (by omega) hb HC (zh K) T2 HV
  ·rw[if_neg k4];by_cases k5:kd (l.getD i 0).toNat=5
   ·rw[if_pos k5];rw[k5]at K;by_cases hm:18<en (l.drop i)
    ·rw[if_pos hm];exact zhG ad l.length cap i (i+en (l.drop i)) _ _ w hl hlt (by omega) (by omega) hcap (by omega) hb HC (zh K) T2 HV
    ·rw[if_neg hm];exact zkQ ad l.length cap i (i+en (l.drop i)) _ _ _ w hl hlt (by omega) (by omega) hcap (by omega) hb HC (zh K) T2 HV (zh (zdV ((l.drop i).take (en (l.drop i))) (by rw[hlen];omega) (hdig k5)))
   ·rw[if_neg k5];by_cases k7:kd (l.getD i 0).toNat=7
    ·rw[if_pos k7];rw[k7]at K;have:=h7e k7;exact ziV ad l.length cap i (i+en (l.drop i)) _ _ w hl hlt (by omega) (by omega) hcap (by omega) hb HC (zh K) T2 HV
    ·rw[if_neg k7];exact ziW ad l.length cap i (i+en (l.drop i)) _ _ _ w hl hlt (by omega) (by omega) hcap (by simpa using k4) (by simpa using k5) (by simpa using k7) hb HC (zh K) T2 HV
 ·have e:i=l.length:=by omega
  subst e;obtain⟨a,cap,rfl⟩:=h.shape;have:=zkP a l.length cap w hl;rw[List.drop_length];exact this
end Go.Proofs.YthceiikgecoimaaGreatDoor
