/- Two texts with a line between: their tokens, in plain words. -/
import Derived.Test.YthceiikgecoimaaGreatDoorLFact
import Derived.Test.YthceiikgecoimaaGreatDoorSGrp
import Derived.Lib.ItoaMem
import Derived.Test.YthceiikgecoimaaGreatDoorSArt
import Derived.Test.YthceiikgecoimaaGreatDoorSNode
import Derived.Test.YthceiikgecoimaaGreatDoorQOne
namespace Go.Proofs.YthceiikgecoimaaGreatDoor
set_option linter.unusedVariables false
theorem zeu (x:List UInt8):∀(b0:Bool) (r:List UInt8),skp b0 r<r.length->skp b0 (r++x)=skp b0 r
 |b0,[],h=>by cases b0<;>simp at h
 |true,c :: r,h=>by
  simp only[skp,List.length_cons]at h;have:=zeu x (decide (kd c.toNat≠2)) r (by omega);simp only[List.cons_append,skp];omega
 |false,c :: r,h=>by
  simp only[skp,List.length_cons]at h;simp only[List.cons_append,skp];by_cases k3:kd c.toNat=3
  ·rw[if_pos k3]at h |-;rw[if_pos k3];have:=zeu x true r (by omega);omega
  ·rw[if_neg k3]at h |-;rw[if_neg k3];by_cases k12:kd c.toNat=1\/kd c.toNat=2
   ·rw[if_pos k12]at h |-;rw[if_pos k12];have:=zeu x false r (by omega);omega
   ·rw[if_neg k12,if_neg k12]
theorem zl5 (P:UInt8->Bool) (y:UInt8) (hy:P y=false) (b:List UInt8):∀ s:List UInt8,tw P (s++y :: b)=tw P s
 | []=>by unfold tw;rw[List.nil_append,List.takeWhile_cons];simp[hy]
 |c :: s=>by
  have ih:=zl5 P y hy b s;unfold tw at *
  rw[List.cons_append,List.takeWhile_cons,List.takeWhile_cons];split
  ·simp only[List.length_cons,ih]
  ·rfl
theorem zoy {r:List UInt8} {p:Nat} {t:Tok} (y:UInt8) (hy:¬(kd y.toNat=4\/kd y.toNat=5\/kd y.toNat=6)) (b:List UInt8) (h:one r p= .ok t) (hk:t.k≠0):one (r++y :: b) p= .ok t:=by
 cases r with
 |nil=>simp only[one,Except.ok.injEq]at h;rw[<- h]at hk;exact absurd rfl hk
 |cons c r=>
  have hle:=zey (c :: r);simp only[one]at h;have hg:kd c.toNat=4\/kd c.toNat=5\/kd c.toNat=7:=by
   by_cases h4:kd c.toNat=4
   ·exact .inl h4
   ·rw[if_neg h4]at h;by_cases h5:kd c.toNat=5
    ·exact .inr (.inl h5)
    ·rw[if_neg h5]at h;by_cases h7:kd c.toNat=7
     ·exact .inr (.inr h7)
     ·rw[if_neg h7]at h;cases h
  have hf:zcu c y=false:=by
   unfold zcu
   rw[Bool.eq_false_iff];intro h
   rw[zdk]at h;omega
  have e:en (c :: r++y :: b)=en (c :: r):=by
   show 1+tw (zcu c) (r++y :: b)=1+tw (zcu c) r;rw[zl5 _ _ hf]
  have e2:(c :: r++y :: b).take (en (c :: r))=(c :: r).take (en (c :: r)):=List.take_append_of_le_length hle;rw[List.cons_append]at e e2 |-;simp only[one,e,e2];exact h
theorem ten:¬(kd (10:UInt8).toNat=4\/kd (10:UInt8).toNat=5\/kd (10:UInt8).toNat=6):=by decide
def sh (k:Nat) (t:Tok):Tok:=⟨t.k,t.s,t.n,t.p+k⟩
theorem zq5 (r:List UInt8) (p k:Nat):one r (p+k)=match one r p with
  | .ok t=> .ok (sh k t)
  | .error e=> .error e:=by
 cases r with
 |nil=>simp[one,sh]
 |cons c r=>
  simp only[one];by_cases h4:kd c.toNat=4
  ·simp only[if_pos h4];split<;>simp[sh]
  ·simp only[if_neg h4];by_cases h5:kd c.toNat=5
   ·simp only[if_pos h5];split<;>simp[sh]
   ·simp only[if_neg h5];by_cases h7:kd c.toNat=7
    ·simp[if_pos h7,sh]
    ·simp[if_neg h7]
end Go.Proofs.YthceiikgecoimaaGreatDoor
namespace Go.Proofs.YthceiikgecoimaaGreatDoor
open Go.RowKit
set_option linter.unusedVariables false
set_option linter.unusedSimpArgs false
set_option maxRecDepth 10000
namespace S
def rst:Int->List UInt8->List (List UInt8)->List UInt8
 | _,_,[]=> []
 |op,la,wd :: ws=>gp (op1 op wd) la wd++(wd++(if wd= [123]then 10 :: rst (op1 op wd+1) [] ws else if wd= [125]\/wd= [59]then 10 :: rst (op1 op wd) [] ws else rst (op1 op wd) wd ws))
theorem zji:∀(ws:List (List UInt8)) (st:St),(pss st ws).out=st.out++rst st.op st.la ws
 | [],st=>by simp[pss,rst]
 |wd :: ws,st=>by
  have ih:=zji ws (ps st wd);have e:pss st (wd :: ws)=pss (ps st wd) ws:=rfl;rw[e,ih];simp only[rst,ps];by_cases h1:wd= [123]
  ·simp only[if_pos h1];simp
  ·simp only[if_neg h1];by_cases h2:wd= [125]\/wd= [59]
   ·simp only[if_pos h2];simp
   ·simp only[if_neg h2];simp
theorem zgD (c:UInt8) (hc:kd c.toNat=1\/kd c.toNat=2) (R:List UInt8) (q:Nat):tk (c :: R) q=tk R (q+1):=by
 have es:skp false (c :: R)=1+skp false R:=by
  simp only[skp];rw[if_neg (by omega),if_pos hc]
 have ed:(c :: R).drop (1+skp false R)=R.drop (skp false R):=by rw[Nat.add_comm,List.drop_succ_cons]
 rw[zeY (c :: R),zeY R,es,ed,show q+(1+skp false R)=q+1+skp false R by omega]
theorem zl6:∀(n:Nat) (R:List UInt8) (q:Nat),tk (List.replicate n 32++R) q=tk R (q+n)
 |0,R,q=>rfl
 |n+1,R,q=>by rw[List.replicate_succ,List.cons_append,zgD 32 (by decide),zl6 n R (q+1)];congr 1;omega
theorem zq6 (op:Int) (la wd:List UInt8):∃ n,gp op la wd=List.replicate n 32:=by
 unfold gp
 split
 ·exact⟨_,rfl⟩
 ·split
  ·exact⟨0,rfl⟩
  ·split
   ·exact⟨0,rfl⟩
   ·exact⟨1,rfl⟩
theorem zl7 (p:Nat):tk [] p= .ok [⟨0,[],0,(p:Int)⟩]:=by
 rw[zeY]
 rfl
def nw (R:List UInt8):Prop:=∀ y b,R=y :: b->¬(kd y.toNat=4\/kd y.toNat=5\/kd y.toNat=6)
theorem zl8:nw []:=λy b h=>by cases h
theorem zfL {y:UInt8} {b:List UInt8} (h:¬(kd y.toNat=4\/kd y.toNat=5\/kd y.toNat=6)):nw (y :: b):=λy' b' e=>by cases e;exact h
def Wk (w:List UInt8) (ts:List Tok):Prop:=w≠ []/\∀ R p,(w= [47]\/nw R)->∃ ts',tk (w++R) p=pre ts' (tk R (p+w.length))/\ts'.map q0=ts
inductive Wks:List (List UInt8)->List Tok->Prop where
 |nil:Wks [] []
 |cons {w:List UInt8} {ws:List (List UInt8)} {ts tss:List Tok} :Wk w ts->Wks ws tss->Wks (w :: ws) (ts++tss)
theorem Wks.append {a b:List (List UInt8)} {x y:List Tok} (h:Wks a x) (k:Wks b y):Wks (a++b) (x++y):=by
 induction h with
 |nil=>exact k
 |cons h1 _ ih=>rw[List.cons_append,List.append_assoc];exact .cons h1 ih
theorem Wks.one {w:List UInt8} {t:Tok} {ws:List (List UInt8)} {tss:List Tok} (h:Wk w [t]) (k:Wks ws tss):Wks (w :: ws) (t :: tss):= .cons h k
theorem Wks.flat {α:Type} {f:α->List (List UInt8)} {g:α->List Tok} :∀(l:List α),(∀ a∈l,Wks (f a) (g a))->Wks (l.flatMap f) (l.flatMap g)
 | [],_=> .nil
 |a :: l,h=>by
  rw[List.flatMap_cons,List.flatMap_cons];exact(h a List.mem_cons_self).append (Wks.flat l (λb hb=>h b (List.mem_cons_of_mem _ hb)))
theorem zq7:∀(ws:List (List UInt8)) (ts:List Tok),Wks ws ts->∀(op:Int) (la:List UInt8) (p:Nat),∃(L:List Tok) (e:Int),tk (rst op la ws) p= .ok (L++ [⟨0,[],0,e⟩])/\L.map q0=ts:=by
 intro ws ts h
 induction h with
 |nil=>intro op la p;exact⟨[],p,by rw[rst,zl7];rfl,rfl⟩
 |@cons w ws ts tss hw _ ih=>
  intro op la p
  obtain⟨n,hn⟩:=zq6 (op1 op w) la w;simp only[rst];rw[hn,zl6];by_cases h1:w= [123]
  ·simp only[if_pos h1];obtain⟨ts',e1,e2⟩:=hw.2 (10 :: rst (op1 op w+1) [] ws) (p+n) (.inr (zfL (by decide)));obtain⟨L,e,i1,i2⟩:=ih (op1 op w+1) [] (p+n+w.length+1);rw[e1,zgD 10 (by decide),i1];exact⟨ts'++L,e,by simp[pre],by rw[List.map_append,e2,i2]⟩
  ·simp only[if_neg h1];by_cases h2:w= [125]\/w= [59]
   ·simp only[if_pos h2];obtain⟨ts',e1,e2⟩:=hw.2 (10 :: rst (op1 op w) [] ws) (p+n) (.inr (zfL (by decide)));obtain⟨L,e,i1,i2⟩:=ih (op1 op w) [] (p+n+w.length+1);rw[e1,zgD 10 (by decide),i1];exact⟨ts'++L,e,by simp[pre],by rw[List.map_append,e2,i2]⟩
   ·simp only[if_neg h2];have hnw:w= [47]\/nw (rst (op1 op w) w ws):=by
     by_cases h3:w= [47]
     ·exact .inl h3
     ·right;cases ws with
      |nil=>exact zl8
      |cons x xs=>
       simp only[rst,gp,if_neg hw.1,if_neg h3];by_cases h4:x= [44]\/x= [59]\/x= [58]\/x= [47]
       ·simp only[if_pos h4,List.nil_append];rcases h4 with rfl|rfl|rfl|rfl<;>exact zfL (by decide)
       ·simp only[if_neg h4];exact zfL (by decide)
    obtain⟨ts',e1,e2⟩:=hw.2 (rst (op1 op w) w ws) (p+n) hnw;obtain⟨L,e,i1,i2⟩:=ih (op1 op w) w (p+n+w.length);rw[e1,i1];exact⟨ts'++L,e,by simp[pre],by rw[List.map_append,e2,i2]⟩
def Gs (s:List UInt8) (k n:Int):Prop:=k≠0/\one s 0= .ok ⟨k,s,n,0⟩/\skp false s=0
theorem zoz {s:List UInt8} {k n:Int} (h:Gs s k n) (R:List UInt8) (p:Nat) (hR:nw R):tk (s++R) p=pre [⟨k,s,n,p⟩] (tk R (p+s.length)):=by
 obtain⟨h0,h1,h2⟩:=h;have hne:s≠ []:=by
  rintro rfl;simp only[one,Except.ok.injEq,Tok.mk.injEq]at h1;exact h0 h1.1.symm
 have e1:one s (p+0)= .ok ⟨k,s,n,p⟩:=by rw[Nat.add_comm,zq5,h1];simp[sh]
 have es:skp false (s++R)=0:=by rw[zeu _ false s (by rw[h2];exact List.length_pos_iff.2 hne),h2]
 have e2:one (s++R) (p+0)= .ok ⟨k,s,n,p⟩:=by
  cases R with
  |nil=>rw[List.append_nil];exact e1
  |cons y b=>exact zoy y (hR y b rfl) b e1 h0
 rw[zeY,es,List.drop_zero,e2];simp only;rw[if_neg h0,List.drop_append_of_le_length (Nat.le_refl _),List.drop_length,List.nil_append,Nat.add_zero]
theorem zoA {s:List UInt8} {k n:Int} (h:Gs s k n) (h47:s≠ [47]):Wk s [⟨k,s,n,0⟩]:=by
 refine⟨?_,λR p hR=>?_⟩
 ·rintro rfl;have:=h.2.1;simp only[one,Except.ok.injEq,Tok.mk.injEq]at this;exact h.1 this.1.symm
 ·exact⟨_,zoz h R p (hR.resolve_left h47),by simp[q0]⟩
theorem zjj (c:UInt8) (hc:kd c.toNat=7) (R:List UInt8) (p:Nat):tk (c :: R) p=pre [⟨3,[c],0,p⟩] (tk R (p+1)):=by
 have es:skp false (c :: R)=0:=by simp only[skp];rw[if_neg (by omega),if_neg (by omega)]
 have ee:en (c :: R)=1:=by
  have:tw (zcu c) R=0:=zdQ λx=>by unfold zcu;rw[hc];unfold on;simp
  simp[en,this]
 have e2:one (c :: R) (p+0)= .ok ⟨3,[c],0,p⟩:=by
  simp only[one];rw[if_neg (by omega),if_neg (by omega),if_pos hc,ee];simp
 rw[zeY,es,List.drop_zero,e2];simp
theorem zbm (c:UInt8) (hc:kd c.toNat=7):Wk [c] [⟨3,[c],0,0⟩]:=⟨by simp,λR p _=>⟨_,zjj c hc R p,by simp[q0]⟩⟩
abbrev kS (s:List UInt8):Tok:=⟨1,s,0,0⟩
abbrev kN (n:Int):Tok:=⟨2,dg n,n,0⟩
abbrev kC (c:UInt8):Tok:=⟨3,[c],0,0⟩
def kG (n:Int):List Tok:=if n<0 then [kC 45,kN (-n)]else [kN n]
theorem zk5 {s:List UInt8} (h:rg ⟨1,s,0,0⟩=true):Gs s 1 0:=by
 unfold rg at h
 split at h
 ·rename_i x y hT
  simp only[Bool.and_eq_true,decide_eq_true_eq]at h;obtain⟨⟨hk,hn⟩,hs⟩:=h;rcases zdr (zl0 hT).2 with ⟨h1,_⟩|⟨t',M,h0,h1,h2,h3,h4,h5,h6,_⟩
  ·simp at h1
  ·simp only[List.cons.injEq]at h0;obtain⟨rfl,_⟩:=h0;rw[hs]at h6;have h6':skp false s+s.length<=s.length:=h6;have ha:skp false s=0:=by omega
   have h1':one (s.drop (skp false s)) (0+skp false s)= .ok x:=h1;rw[ha,List.drop_zero]at h1';have hp:=(zcU h1').1;refine⟨by decide,?_,ha⟩;rw[h1'];congr 1;cases x
   simp only at hk hn hs hp;subst hk;subst hn;subst hs;rw[hp];rfl
 ·cases h
theorem zfc {s:List UInt8} (h:nmB s=true):rg ⟨1,s,0,0⟩=true/\¬s∈words:=by
 unfold nmB at h
 simp only[Bool.and_eq_true,Bool.not_eq_true',decide_eq_false_iff_not]at h;exact h
theorem zsk {s:List UInt8} {k n:Int} (h:Gs s k n) (hk:k≠3):s≠ [47]:=by
 rintro rfl;have h1:=h.2.1;have e:one [47] 0= .ok ⟨3,[47],0,0⟩:=rfl;rw[e]at h1;simp only[Except.ok.injEq,Tok.mk.injEq]at h1;exact hk h1.1.symm
theorem zb2 {s:List UInt8} (h:nmB s=true):Wk s [kS s]:=by
 have g:=zk5 (zfc h).1;exact zoA g (zsk g (by decide))
theorem zhp (x:Nat) (h:x<10):kd (UInt8.ofNat (48+x)).toNat=5/\((UInt8.ofNat (48+x)).toNat:Int) - 48=x:=by
 have e:(UInt8.ofNat (48+x)).toNat=48+x:=by rw[UInt8.toNat_ofNat'];omega
 rw[e];refine⟨?_,by omega⟩;rw[zlU];omega
theorem zoB (u:Nat):∀ c∈Lib.decDigits u,kd c.toNat=5:=by
 induction u using Nat.strongRecOn with
 | _ u ih=>
  intro c hc
  rw[Lib.decDigits]at hc;split at hc
  ·rename_i h
   simp only[List.mem_singleton]at hc;subst hc;exact(zhp u h).1
  ·rename_i h
   rcases List.mem_append.1 hc with hc|hc
   ·exact ih (u / 10) (by omega) c hc
   ·simp only[List.mem_singleton]at hc;subst hc;exact(zhp (u % 10) (Nat.mod_lt _ (by decide))).1
theorem zdb (l:List UInt8) (c:UInt8):num (l++ [c])=num l * 10+((c.toNat:Int) - 48):=by simp[num,List.foldl_append]
theorem zoC (u:Nat):num (Lib.decDigits u)=u:=by
 induction u using Nat.strongRecOn with
 | _ u ih=>
  rw[Lib.decDigits];split
  ·rename_i h
   have:=zdb [] (UInt8.ofNat (48+u));rw[List.nil_append,(zhp u h).2]at this;rw[this];simp[num]
  ·rename_i h
   rw[zdb,ih (u / 10) (by omega),(zhp (u % 10) (Nat.mod_lt _ (by decide))).2];omega
theorem zjk:∀(k u:Nat),1<=k->u<10 ^ k->Lib.nDigits u<=k
 |0,u,h,_=>by omega
 |k+1,u,_,h=>by
  by_cases h1:u<10
  ·rw[Lib.nDigits_small h1];omega
  ·rw[Lib.nDigits_big h1];have hk:1<=k:=by
    rcases Nat.eq_zero_or_pos k with rfl|h2
    ·rw[Nat.zero_add,Nat.pow_one]at h;omega
    ·exact h2
   have:=zjk k (u / 10) hk (by rw[Nat.pow_succ]at h;omega);omega
theorem zl9 {P:UInt8->Bool} :∀ l:List UInt8,(∀ x∈l,P x=true)->tw P l=l.length
 | [],_=>rfl
 |c :: r,h=>by
  have ih:=zl9 r (λx hx=>h x (List.mem_cons_of_mem _ hx));unfold tw at ih |-
  rw[List.takeWhile_cons,if_pos (h c List.mem_cons_self),List.length_cons,ih,List.length_cons]
theorem zq8 (u:Nat) (h:u<1000000000000000000):Gs (Lib.decDigits u) 2 u:=by
 have hl:(Lib.decDigits u).length<=18:=by rw[Lib.decDigits_length];exact zjk 18 u (by decide) (by simpa using h)
 have hp:1<=(Lib.decDigits u).length:=by rw[Lib.decDigits_length];exact Lib.nDigits_pos u
 have hd:=zoB u;have hn:=zoC u;generalize Lib.decDigits u=l at hl hp hd hn;refine⟨by decide,?_,?_⟩
 ·cases l with
  |nil=>simp at hp
  |cons c r=>
   have hc:=hd c List.mem_cons_self;have e:en (c :: r)=(c :: r).length:=by
    simp only[en,List.length_cons];rw[zl9 r (λx hx=>by unfold zcu;rw[hc,hd x (List.mem_cons_of_mem _ hx)];decide)];omega
   have et:(c :: r).take (en (c :: r))=c :: r:=by rw[e];exact List.take_length
   simp only[one];rw[if_neg (by omega),if_pos hc,if_neg (by rw[e];omega),et,hn]
   rfl
 ·cases l with
  |nil=>rfl
  |cons c r=>
   have hc:=hd c List.mem_cons_self;simp only[skp];rw[if_neg (by omega),if_neg (by omega)]
theorem zma {n:Int} (h:0<=n):dg n=Lib.decDigits n.toNat:=by unfold dg Lib.itoa;rw[if_neg (by omega)]
theorem zmb {n:Int} (h:n<0):dg n=45 :: dg (-n):=by
 rw[zma (n:= -n) (by omega)];unfold dg Lib.itoa
 rw[if_pos h,show n.natAbs=(-n).toNat by omega]
theorem zfd {n:Int} (h:nuB n=true):Gs (dg n) 2 n:=by
 unfold nuB at h
 have h:=of_decide_eq_true h;have:=zq8 n.toNat (by omega);rw[zma h.1];rwa[show((n.toNat:Nat):Int)=n by omega]at this
theorem zbv {n:Int} (h:nuB n=true):Wk (dg n) [kN n]:=zoA (zfd h) (zsk (zfd h) (by decide))
theorem zk6 {n:Int} (h:grB n=true):Wk (dg n) (kG n):=by
 unfold grB at h
 have h:=of_decide_eq_true h;unfold kG
 by_cases h0:n<0
 ·rw[if_pos h0,zmb h0];have hg:=zfd (n:= -n) (by unfold nuB;exact decide_eq_true ⟨by omega,by omega⟩);refine⟨by simp,λR p hR=>?_⟩;have hR':nw R:=hR.resolve_left (λe=>by simp at e);refine⟨_,by rw[List.cons_append,zjj 45 (by decide),zoz hg R (p+1) hR',zgt,List.length_cons,show p+1+(dg (-n)).length=p+((dg (-n)).length+1) by omega],?_⟩;simp[q0,kC,kN]
 ·rw[if_neg h0];exact zbv (by unfold nuB;exact decide_eq_true ⟨by omega,by omega⟩)
theorem zaO (s:List UInt8) (h:one s 0= .ok ⟨1,s,0,0⟩) (h2:skp false s=0):Wk s [kS s]:=zoA ⟨by decide,h,h2⟩ (zsk ⟨by decide,h,h2⟩ (by decide))
end S
namespace S
def nms (d:D):List (List UInt8):=(fL d).map (λe=>tS (gt e 0))
def lk:List (List UInt8)->List Tok
 | []=> [kC 59]
 |s :: l=>kS s :: (l.flatMap (λx=> [kC 44,kS x])++ [kC 59])
def zcP (ds:List D):List (List UInt8):=hw (tS (gt ds 0)) (fI (gt ds 1)) (fI (gt ds 2)) (fI (gt ds 3)) (fI (gt ds 4)) (fI (gt ds 5)) (fI (gt ds 6)) (fI (gt ds 7)) (fI (gt ds 8)) (fI (gt ds 9))
def zd1 (ds:List D):List (List UInt8):= [[119,97,108,107],tS (gt ds 0),[119,105,116,104],tS (gt ds 1),[108,111,110,103],dg (fI (gt ds 2)),[112,97,99,101],dg (fI (gt ds 3)),[108,101,97,115,116],dg (fI (gt ds 4)),[59]]
def zhM (ds:List D):List (List UInt8):= [[102,111,101],tS (gt ds 0),tS (gt ds 1),[59]]
def zd2 (ds:List D):List (List UInt8):= [[115,116,111,112],tS (gt ds 0),[111,117,116],tS (gt ds 1),[105,110],tS (gt ds 2),[97,104,101,97,100],dg (fI (gt ds 3)),[98,97,99,107],dg (fI (gt ds 4)),[59]]
def zcj (ds:List D):List (List UInt8):= [[112,104,97,115,101],tS (gt ds 0),[58]]++lw (nms (gt ds 1))
def zdG (ds:List D):List (List UInt8):=rw1 (fB (gt ds 0)) (nms (gt ds 1))
def zbw (ds:List D):List (List UInt8):= [[103,114,111,117,112],[123]]++((fL (gt ds 0)).flatMap zdG++ [[125]])
def zcq (ds:List D):List (List UInt8):= [[110,111,100,101],tS (gt ds 0),[123]]++((fL (gt ds 1)).flatMap zcP++((fL (gt ds 2)).flatMap zd1++((fL (gt ds 3)).flatMap zcj++((fL (gt ds 4)).flatMap zbw++((fL (gt ds 5)).flatMap zhM++ [[125]])))))
def zmc (ds:List D):List (List UInt8):= [[97,114,116,101,114,121],[123]]++((fL (gt ds 6)).flatMap zd2++([[119,101,105,103,104,116,115],dg (fI (gt ds 7)),dg (fI (gt ds 8)),[59]]++ [[125]]))
abbrev zdH (ds:List D):Prop:=0<(fL (gt ds 6)).length\/fI (gt ds 7)≠0\/fI (gt ds 8)≠0
def zeL (ds:List D):List (List UInt8):= [[99,121,99,108,101],dg (fI (gt ds 0)),[116,111],dg (fI (gt ds 1)),[98,121],dg (fI (gt ds 2)),[59]]++([[112,101,97,107],dg (fI (gt ds 3)),[47],dg (fI (gt ds 4)),[59]]++((fL (gt ds 5)).flatMap zcq++(if zdH ds then zmc ds else [])))
def zjl (ds:List D):List Tok:=kS (tS (gt ds 0)) :: kS [118,111,108,117,109,101] :: kN (fI (gt ds 1)) :: kS [102,108,111,119] :: kN (fI (gt ds 2)) :: kS [117,115,101] :: kN (fI (gt ds 3)) :: kC 47 :: kN (fI (gt ds 4)) :: kS [115,112,101,101,100] :: kN (fI (gt ds 5)) :: kS [103,114,97,100,101] :: (kG (fI (gt ds 6))++ [kS [119,105,100,116,104],kN (fI (gt ds 7)),kS [108,101,110,103,116,104],kN (fI (gt ds 8)),kS [103,114,101,101,110],kN (fI (gt ds 9)),kC 59])
def zgE (ds:List D):List Tok:= [kS (tS (gt ds 0)),kS [119,105,116,104],kS (tS (gt ds 1)),kS [108,111,110,103],kN (fI (gt ds 2)),kS [112,97,99,101],kN (fI (gt ds 3)),kS [108,101,97,115,116],kN (fI (gt ds 4)),kC 59]
def zk7 (ds:List D):List Tok:= [kS (tS (gt ds 0)),kS (tS (gt ds 1)),kC 59]
def zjm (ds:List D):List Tok:= [kS (tS (gt ds 0)),kS [111,117,116],kS (tS (gt ds 1)),kS [105,110],kS (tS (gt ds 2)),kS [97,104,101,97,100],kN (fI (gt ds 3)),kS [98,97,99,107],kN (fI (gt ds 4)),kC 59]
def zeg (ds:List D):List Tok:= [kS (tS (gt ds 0)),kC 58]++lk (nms (gt ds 1))
def zhN (ds:List D):List Tok:=(if fB (gt ds 0)then [kS [102,114,101,101]]else [])++lk (nms (gt ds 1))
def zdI (ds:List D):List Tok:= [kC 123]++((fL (gt ds 0)).flatMap (λd=>kS [114,105,110,103] :: zhN d)++ [kC 125])
def zhO (ds:List D):List Tok:= [kS (tS (gt ds 0)),kC 123]++((fL (gt ds 1)).flatMap (λd=>kS [104,101,97,100] :: zjl d)++((fL (gt ds 2)).flatMap (λd=>kS [119,97,108,107] :: zgE d)++((fL (gt ds 3)).flatMap (λd=>kS [112,104,97,115,101] :: zeg d)++((fL (gt ds 4)).flatMap (λd=>kS [103,114,111,117,112] :: zdI d)++((fL (gt ds 5)).flatMap (λd=>kS [102,111,101] :: zk7 d)++ [kC 125])))))
def zpw (ds:List D):List Tok:= [kS [97,114,116,101,114,121],kC 123]++((fL (gt ds 6)).flatMap (λd=>kS [115,116,111,112] :: zjm d)++ [kS [119,101,105,103,104,116,115],kN (fI (gt ds 7)),kN (fI (gt ds 8)),kC 59,kC 125])
def zmd (ds:List D):List Tok:= [kS [99,121,99,108,101],kN (fI (gt ds 0)),kS [116,111],kN (fI (gt ds 1)),kS [98,121],kN (fI (gt ds 2)),kC 59]++([kS [112,101,97,107],kN (fI (gt ds 3)),kC 47,kN (fI (gt ds 4)),kC 59]++((fL (gt ds 5)).flatMap (λd=>kS [110,111,100,101] :: zhO d)++(if zdH ds then zpw ds else [])))
theorem zbH {α:Type} (W:List D->List α) (L:List (List D)):(List.range L.length).flatMap (λk=>W (L.getD k []))=L.flatMap W:=by
 have e:(List.range L.length).map (λk=>L.getD k [])=L:=by
  apply List.ext_getElem
  ·simp
  ·intro i h1 h2
   simp only[List.getElem_map,List.getElem_range];rw[List.getD_eq_getElem?_getD,List.getElem?_eq_getElem h2,Option.getD_some]
 have:(List.range L.length).flatMap (λk=>W (L.getD k []))=((List.range L.length).map (λk=>L.getD k [])).flatMap W:=by rw[List.flatMap_map]
 rw[this,e]
theorem zjn {α:Type} (W:List D->α) (L:List (List D)):(List.range L.length).map (λk=>W (L.getD k []))=L.map W:=by
 apply List.ext_getElem
 ·simp
 ·intro i h1 h2
  simp only[List.getElem_map,List.getElem_range];rw[List.getD_eq_getElem?_getD,List.getElem?_eq_getElem (by simpa using h2),Option.getD_some]
theorem zas {lo hi:Nat} {B:List D->Bool} {L:List (List D)} (h:zcR lo hi B L=true):(lo<=L.length/\L.length<=hi)/\∀ ds∈L,B ds=true:=by
 unfold zcR at h
 simp only[Bool.and_eq_true,decide_eq_true_eq,List.all_eq_true]at h;exact h
theorem zaI {a b:Bool} (h:(a&&b)=true):a=true:=by simp only[Bool.and_eq_true]at h;exact h.1
theorem zam {a b:Bool} (h:(a&&b)=true):b=true:=by simp only[Bool.and_eq_true]at h;exact h.2
theorem zaf {a:Int} {l:List Int} (h:zfy (a :: l)=true):nuB a=true/\zfy l=true:=by
 unfold zfy at h |-
 simp only[List.all_cons,Bool.and_eq_true]at h;exact h
theorem zq9 {l:List (List UInt8)} (hl:l≠ []) (h:∀ s∈l,nmB s=true):Wks (lw l) (lk l):=by
 cases l with
 |nil=>exact absurd rfl hl
 |cons s l=>
  refine .one (zb2 (h s List.mem_cons_self)) (.append (.flat l λx hx=> .one (zbm 44 (by decide)) (.one (zb2 (h x (List.mem_cons_of_mem _ hx))) .nil)) (.one (zbm 59 (by decide)) .nil))
theorem zeh {lo hi:Nat} {d:D} (hlo:1<=lo) (h:zcR lo hi zf1 (fL d)=true):nms d≠ []/\(∀ s∈nms d,nmB s=true)/\(nms d).length<=hi:=by
 obtain⟨⟨h1,h2⟩,h3⟩:=zas h;unfold nms
 refine⟨?_,?_,by simpa using h2⟩
 ·intro e
  rw[List.map_eq_nil_iff]at e;rw[e]at h1;simp at h1;omega
 ·intro s hs
  obtain⟨x,hx,rfl⟩:=List.mem_map.1 hs;exact h3 x hx
theorem zoD {ds:List D} (h:zeZ ds=true):Wks (zcP ds) (kS [104,101,97,100] :: zjl ds):=by
 have n0:=zaI h;have v6:=zaI (zam h);have hv:=zam (zam h);obtain⟨v1,hv⟩:=zaf hv;obtain⟨v2,hv⟩:=zaf hv;obtain⟨v3,hv⟩:=zaf hv;obtain⟨v4,hv⟩:=zaf hv;obtain⟨v5,hv⟩:=zaf hv;obtain⟨v7,hv⟩:=zaf hv;obtain⟨v8,hv⟩:=zaf hv;obtain⟨v9,hv⟩:=zaf hv;exact .one (zaO [104,101,97,100] rfl rfl) (.one (zb2 n0) (.one (zaO [118,111,108,117,109,101] rfl rfl) (.one (zbv v1) (.one (zaO [102,108,111,119] rfl rfl) (.one (zbv v2) (.one (zaO [117,115,101] rfl rfl) (.one (zbv v3) (.one (zbm 47 (by decide)) (.one (zbv v4) (.one (zaO [115,112,101,101,100] rfl rfl) (.one (zbv v5) (.one (zaO [103,114,97,100,101] rfl rfl) (.cons (zk6 v6) (.one (zaO [119,105,100,116,104] rfl rfl) (.one (zbv v7) (.one (zaO [108,101,110,103,116,104] rfl rfl) (.one (zbv v8) (.one (zaO [103,114,101,101,110] rfl rfl) (.one (zbv v9) (.one (zbm 59 (by decide)) (.nil)))))))))))))))))))))
theorem zoE {ds:List D} (h:zfz ds=true):Wks (zd1 ds) (kS [119,97,108,107] :: zgE ds):=by
 have n0:=zaI h;have n1:=zaI (zam h);have hv:=zam (zam h);obtain⟨v2,hv⟩:=zaf hv;obtain⟨v3,hv⟩:=zaf hv;obtain⟨v4,hv⟩:=zaf hv;exact .one (zaO [119,97,108,107] rfl rfl) (.one (zb2 n0) (.one (zaO [119,105,116,104] rfl rfl) (.one (zb2 n1) (.one (zaO [108,111,110,103] rfl rfl) (.one (zbv v2) (.one (zaO [112,97,99,101] rfl rfl) (.one (zbv v3) (.one (zaO [108,101,97,115,116] rfl rfl) (.one (zbv v4) (.one (zbm 59 (by decide)) (.nil)))))))))))
theorem zra {ds:List D} (h:zkV ds=true):Wks (zhM ds) (kS [102,111,101] :: zk7 ds):=by
 have n0:=zaI h;have n1:=zam h;exact .one (zaO [102,111,101] rfl rfl) (.one (zb2 n0) (.one (zb2 n1) (.one (zbm 59 (by decide)) (.nil))))
theorem zoF {ds:List D} (h:ze1 ds=true):Wks (zd2 ds) (kS [115,116,111,112] :: zjm ds):=by
 have n0:=zaI h;have n1:=zaI (zam h);have n2:=zaI (zam (zam h));have hv:=zam (zam (zam h));obtain⟨v3,hv⟩:=zaf hv;obtain⟨v4,hv⟩:=zaf hv;exact .one (zaO [115,116,111,112] rfl rfl) (.one (zb2 n0) (.one (zaO [111,117,116] rfl rfl) (.one (zb2 n1) (.one (zaO [105,110] rfl rfl) (.one (zb2 n2) (.one (zaO [97,104,101,97,100] rfl rfl) (.one (zbv v3) (.one (zaO [98,97,99,107] rfl rfl) (.one (zbv v4) (.one (zbm 59 (by decide)) (.nil)))))))))))
theorem zk8 {ds:List D} (h:zdC ds=true):Wks (zcj ds) (kS [112,104,97,115,101] :: zeg ds):=by
 have n0:=zaI h;obtain⟨h1,h2,_⟩:=zeh (by decide) (zam h);exact .one (zaO [112,104,97,115,101] rfl rfl) (.append (.one (zb2 n0) (.one (zbm 58 (by decide)) .nil)) (zq9 h1 h2))
theorem zoG {ds:List D} (h:ze0 ds=true):Wks (zdG ds) (kS [114,105,110,103] :: zhN ds):=by
 obtain⟨h1,h2,_⟩:=zeh (by decide) h;show Wks ([114,105,110,103] :: ((if fB (gt ds 0)then [[102,114,101,101]]else [])++lw (nms (gt ds 1)))) (kS [114,105,110,103] :: ((if fB (gt ds 0)then [kS [102,114,101,101]]else [])++lk (nms (gt ds 1))));refine .one (zaO [114,105,110,103] rfl rfl) (.append ?_ (zq9 h1 h2));cases fB (gt ds 0)
 ·exact .nil
 ·exact .one (zaO [102,114,101,101] rfl rfl) .nil
theorem zk9 {ds:List D} (h:zdD ds=true):Wks (zbw ds) (kS [103,114,111,117,112] :: zdI ds):=by
 obtain⟨_,h3⟩:=zas h;exact .one (zaO [103,114,111,117,112] rfl rfl) (.append (.one (zbm 123 (by decide)) .nil) (.append (.flat _ λx hx=>zoG (h3 x hx)) (.one (zbm 125 (by decide)) .nil)))
theorem zoH {ds:List D} (h:ze2 ds=true):Wks (zcq ds) (kS [110,111,100,101] :: zhO ds):=by
 have n0:=zaI h;obtain⟨_,h1⟩:=zas (zaI (zam h));obtain⟨_,h2⟩:=zas (zaI (zam (zam h)));obtain⟨_,h3⟩:=zas (zaI (zam (zam (zam h))));obtain⟨_,h4⟩:=zas (zaI (zam (zam (zam (zam h)))));obtain⟨_,h5⟩:=zas (zam (zam (zam (zam (zam h)))));exact .one (zaO [110,111,100,101] rfl rfl) (.append (.one (zb2 n0) (.one (zbm 123 (by decide)) .nil)) (.append (.flat _ λx hx=>zoD (h1 x hx)) (.append (.flat _ λx hx=>zoE (h2 x hx)) (.append (.flat _ λx hx=>zk8 (h3 x hx)) (.append (.flat _ λx hx=>zk9 (h4 x hx)) (.append (.flat _ λx hx=>zra (h5 x hx)) (.one (zbm 125 (by decide)) .nil)))))))
theorem zrb {ds:List D} (h:ze3 ds=true):Wks (zeL ds) (zmd ds):=by
 have hv:=zaI h;obtain⟨v0,hv⟩:=zaf hv;obtain⟨v1,hv⟩:=zaf hv;obtain⟨v2,hv⟩:=zaf hv;obtain⟨v3,hv⟩:=zaf hv;obtain⟨v4,hv⟩:=zaf hv;obtain⟨v7,hv⟩:=zaf hv;obtain⟨v8,hv⟩:=zaf hv;obtain⟨_,h5⟩:=zas (zaI (zam h));obtain⟨_,h6⟩:=zas (zam (zam h));unfold zeL zmd
 refine .append (.one (zaO [99,121,99,108,101] rfl rfl) (.one (zbv v0) (.one (zaO [116,111] rfl rfl) (.one (zbv v1) (.one (zaO [98,121] rfl rfl) (.one (zbv v2) (.one (zbm 59 (by decide)) (.nil)))))))) (.append (.one (zaO [112,101,97,107] rfl rfl) (.one (zbv v3) (.one (zbm 47 (by decide)) (.one (zbv v4) (.one (zbm 59 (by decide)) (.nil)))))) (.append (.flat _ λx hx=>zoH (h5 x hx)) ?_));split
 ·unfold zmc zpw
  exact .append (.one (zaO [97,114,116,101,114,121] rfl rfl) (.one (zbm 123 (by decide)) .nil)) (.append (.flat _ λx hx=>zoF (h6 x hx)) (.one (zaO [119,101,105,103,104,116,115] rfl rfl) (.one (zbv v7) (.one (zbv v8) (.one (zbm 59 (by decide)) (.one (zbm 125 (by decide)) (.nil)))))))
 ·exact .nil
def txt (ds:List D):List UInt8:=rst 0 [] (zeL ds)
theorem zjo {ds:List D} (h:ze3 ds=true):∃(L:List Tok) (e:Int),tk (txt ds) 0= .ok (L++ [⟨0,[],0,e⟩])/\L.map q0=zmd ds:=zq7 _ _ (zrb h) 0 [] 0
end S
end Go.Proofs.YthceiikgecoimaaGreatDoor
namespace Go.Proofs.YthceiikgecoimaaGreatDoor
open Go.RowKit
attribute [local go_sem ↓] Go.wp_at_zero Go.wp_at_succ
set_option linter.unusedVariables false
set_option linter.unusedSimpArgs false
set_option maxRecDepth 10000
namespace S
theorem zhq (v:Value) (l:List UInt8) (w:World) (h:By w v l):Calls Tryz.prog 55 #[v] w (Tp (T l) w):=by
 by_cases hl:l.length<=70000
 ·exact zft v l w hl h
 ·obtain⟨a,cap,rfl⟩:=h.shape;have e:T l= .error (4,65536):=by unfold T;rw[if_pos (by omega)]
  rw[e];refine(zfZ a l.length cap w (by omega)).mono ?_;rintro e w' ⟨rfl,rfl⟩;exact⟨_,rfl,ze6 _,zf0 _,zk _⟩
set_option maxHeartbeats 2000000 in
theorem zjp (s:ByteArray) (x y:Bool) (w:World)
  (T1:Hid (Calls Tryz.prog 69 #[.agg #[.int .i64 1,.string s,.int .i64 0,.int .i64 0]] w λe w'=>e= .returned (.bool x)/\Keep w w'))
  (T2:Hid (∀ w',Calls Tryz.prog 70 #[.string s] w' λe w''=>e= .returned (.bool y)/\w''=w')):
  Calls Tryz.prog 34 #[.string s] w λe w'=>e= .returned (.bool (x&& !y))/\Keep w w':=by
 cases x with
 |false=>
  go_enter Tryz.func34,Tryz.ntmps34;go_wp2_with fail
  (refine(uq T1).mono ?_;rintro e w2 ⟨rfl,hk⟩;have HK:=zh hk;clear hk);go_wp2_with fail
  go_ret;exact⟨rfl,uq HK⟩
 |true=>
  go_enter Tryz.func34,Tryz.ntmps34;go_wp2_with fail
  (refine(uq T1).mono ?_;rintro e w2 ⟨rfl,hk⟩;have HK:=zh hk;clear hk);go_wp2_with fail
  (refine((uq T2) _).mono ?_;rintro e w3 ⟨rfl,rfl⟩);go_wp2_with fail
  go_ret;refine⟨?_,uq HK⟩;cases y<;>rfl
theorem zjq (t:Tok) (w:World):Calls Tryz.prog 69 #[tv t] w λe w'=>e= .returned (.bool (rg t))/\Keep w w':=by
 by_cases hl:t.s.length<=70000
 ·exact zi5 t w hl
 ·have e:T t.s= .error (4,65536):=by unfold T;rw[if_pos (by omega)]
  rw[zoo (λx y h=>by rw[e]at h;cases h)];refine zfx _ _ _ 4 65536 0 _ w (.inl (by simp)) (zh λw' v h=>?_);have:=zhq v t.s w' h;rw[e]at this;refine this.mono ?_;rintro _ w'' ⟨u,rfl,h1,_,h3⟩;obtain⟨b,cap,rfl⟩:=h1.shape;exact⟨b,cap,rfl,h3⟩
theorem zax (s:ByteArray) (w:World):Calls Tryz.prog 34 #[.string s] w λe w'=>e= .returned (.bool (nmB s.data.toList))/\Keep w w':=by
 refine zjp s (rg ⟨1,s.data.toList,0,0⟩) (decide (s.data.toList∈words)) w (zh ?_) (zh λw'=>?_)
 ·have:=zjq ⟨1,s.data.toList,0,0⟩ w;simp only[tv,zq0]at this;exact this
 ·have:=ziH s w';rwa[show s.toList=s.data.toList from by have h9:=zon s.data.toList;rwa[zq0]at h9]at this
set_option maxHeartbeats 2000000 in
theorem zeM (n:Int) (w:World):Calls Tryz.prog 71 #[.int .i64 n] w λe w'=>e= .returned (.bool (grB n))/\w'=w:=by
 by_cases h1: -999999999999999999<=n
 ·by_cases h2:n<=999999999999999999
  ·rw[show grB n=true by unfold grB;rw[decide_eq_true ⟨h1,h2⟩]];go_enter Tryz.func71,Tryz.ntmps71;go_wp2_with fail
   go_ret;exact⟨rfl,rfl⟩
  ·rw[show grB n=false by unfold grB;rw[decide_eq_false (λx=>h2 x.2)]];go_enter Tryz.func71,Tryz.ntmps71;go_wp2_with fail
   go_ret;exact⟨rfl,rfl⟩
 ·rw[show grB n=false by unfold grB;rw[decide_eq_false (λx=>h1 x.1)]];go_enter Tryz.func71,Tryz.ntmps71;go_wp2_with fail
  go_ret;exact⟨rfl,rfl⟩
set_option maxHeartbeats 4000000 in
theorem zjr (g n cap:Nat) (X:Nat->Int) (r:Bool) (w:World) (hn:n<=100)
  (HC:Hid (∀ k,k<n->w.cell? ⟨g,k,none⟩=some (.int .i64 (X k))))
  (H1:Hid (∀ k,k<n->nuB (X k)=false->r=false)) (H2:Hid ((∀ k,k<n->nuB (X k)=true)->r=true)):
  Calls Tryz.prog 15 #[.slice (some ⟨g,0,none⟩) n cap] w λe w'=>e= .returned (.bool r)/\w'=w:=by
 go_enter Tryz.func15,Tryz.ntmps15;go_wp2_with fail
 go_loop [7] (λvi=>∃ k:Nat,k<=n/\vi= .int .i64 (k:Int)/\Hid (∀ j,j<k->nuB (X j)=true)) (λvi=>n - (intOf vi).toNat)
 case atStart=>exact⟨0,Nat.zero_le _,rfl,zh λj hj=>by omega⟩
 case round=>
  obtain⟨k,hk,rfl,HN⟩:=hrel;by_cases hlt:k<n
  ·have li:(k:Int)<(n:Int):=by omega
   have ck:=(uq HC) k hlt;have HB:=zh ((uq H1) k hlt);have HX:Hid (∀ b,nuB (X k)=b->nuB (X k)=b):=zh λ_ h=>h
   generalize hx:X k=x at ck HB HX;by_cases h1:x<0
   ·have hr:=(uq HB) (by unfold nuB;simp;omega);subst hr;go_wp2_with fail
    go_ret;exact⟨rfl,rfl⟩
   ·by_cases h2:999999999999999999<x
    ·have hr:=(uq HB) (by unfold nuB;simp;omega);subst hr;go_wp2_with fail
     go_ret;exact⟨rfl,rfl⟩
    ·have HB2:Hid (nuB (X k)=true):=zh (by rw[hx];unfold nuB;simp;omega);clear hx HB HX;go_wp2_with fail
     exact⟨⟨k+1,hlt,by go_num,zh λj hj=>(Nat.lt_succ_iff_lt_or_eq.1 hj).elim ((uq HN) j) (λe=>e▸uq HB2)⟩,by simp[intOf];omega⟩
  ·have hr:=(uq H2) (λj hj=>(uq HN) j (by omega));subst hr;go_wp2_with fail
   go_ret;exact⟨rfl,rfl⟩
theorem zev (l:List Int) (g cap:Nat) (w:World) (hn:l.length<=100) (HC:∀ k u,(l.map (Value.int .i64))[k]? =some u->w.cell? ⟨g,k,none⟩=some u):Calls Tryz.prog 15 #[.slice (some ⟨g,0,none⟩) l.length cap] w λe w'=>e= .returned (.bool (zfy l))/\w'=w:=by
 have at_:∀ k,k<l.length->l.getD k 0∈l:=λk hk=>by rw[List.getD_eq_getElem?_getD,List.getElem?_eq_getElem hk];exact List.getElem_mem hk
 refine zjr g l.length cap (λk=>l.getD k 0) _ w hn (zh λk hk=>?_) (zh λk hk h=>?_) (zh λh=>?_)
 ·refine HC k _ ?_;rw[List.getElem?_map,List.getElem?_eq_getElem hk,List.getD_eq_getElem?_getD,List.getElem?_eq_getElem hk]
  rfl
 ·unfold zfy
  rw[List.all_eq_false];exact⟨_,at_ k hk,by rw[h];simp⟩
 ·unfold zfy
  rw[List.all_eq_true];intro x hx
  obtain⟨k,hk,rfl⟩:=List.getElem_of_mem hx;have:=h k hk;rwa[List.getD_eq_getElem?_getD,List.getElem?_eq_getElem hk]at this
end S
end Go.Proofs.YthceiikgecoimaaGreatDoor
