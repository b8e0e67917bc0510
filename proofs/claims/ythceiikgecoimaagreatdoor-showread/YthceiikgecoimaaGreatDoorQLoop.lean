/- Package show: Show of any network. -/
import Derived.Test.YthceiikgecoimaaGreatDoorSShow
import Derived.Test.YthceiikgecoimaaGreatDoorSNc
import Derived.Test.YthceiikgecoimaaGreatDoorSBack
import Derived.Test.YthceiikgecoimaaGreatDoorQNames
namespace Go.Proofs.YthceiikgecoimaaGreatDoor
open Go.RowKit
attribute [local go_sem ↓] Go.wp_at_zero Go.wp_at_succ
set_option linter.unusedVariables false
set_option linter.unusedSimpArgs false
set_option maxRecDepth 100000
namespace S
def ShP (l:List UInt8) (w:World) (e:Ending) (w':World):Prop:=∃ v,e= .returned (.tuple #[v,.int .i64 0])/\By w' v l/\Keep w w'
theorem zrm (ds:List D):txt ds≠ []:=by simp[txt,zeL,rst]
theorem zht {w:World} {ds:List D} {us:List Value} (hs:ShL zeI ds) (hB:ze3 ds=true) (hr:Rvs w ds us) (ht:Tab w):Calls Tryz.prog 6 #[.agg us.toArray] w (ShP (txt ds) w):=by
 have hs':=hs;have hr':=hr;obtain⟨op,la,hT2⟩:∃ op la,∀ w' p,Keep w w'->w.heap.size<=p->Ps w' p ⟨[],0,[]⟩->Calls Tryz.prog 13 #[.pointer (some ⟨p,0,none⟩),.agg us.toArray] w' λe w''=>e= .returned (.tuple #[])/\Pr w'' p (txt ds) op la/\Fb p w' w'':=by
  refine⟨(pss ⟨[],0,[]⟩ (zeL ds)).op,sv (pss ⟨[],0,[]⟩ (zeL ds)).la,λw' p hk hp h=>?_⟩;have:=zgI (nc (p:=p) (Nat.lt_of_lt_of_le ht.lt hp)) hp (Fb.keep hk) hs' hB hr' ⟨[],0,[]⟩ (ht.keep hk) h (zjL hB) (by have:=zhs hB;simp;omega);refine this.mono ?_;rintro e w'' ⟨rfl,h1,h2⟩;refine⟨rfl,?_,h2⟩;rw[<- zjM];exact h1
 have hT1:∀ w',Keep w w'->Calls Tryz.prog 7 #[.agg us.toArray] w' λe w''=>e= .returned (.bool true)/\Keep w' w'':=λw' hk=>by
  have:=zdK (w:=w') hs' (Rvs.keep hk _ _ hr');rw[hB]at this;exact this
 have hl:=zoP hB;have hne:=zrm ds;generalize txt ds=out at *;simp only[ShL,Sh1,zeI]at hs;obtain⟨_,_,rfl,⟨v0,rfl,_,_⟩,⟨_,_,rfl,⟨v1,rfl,_,_⟩,⟨_,_,rfl,⟨v2,rfl,_,_⟩,⟨_,_,rfl,⟨v3,rfl,_,_⟩,⟨_,_,rfl,⟨v4,rfl,_,_⟩,⟨_,_,rfl,⟨L5,rfl,_,q5⟩,⟨_,_,rfl,⟨L6,rfl,_,q6⟩,⟨_,_,rfl,⟨v7,rfl,_,_⟩,⟨_,_,rfl,⟨v8,rfl,_,_⟩,rfl⟩⟩⟩⟩⟩⟩⟩⟩⟩:=hs;simp only[Rvs,Rv,dS,dI,dB]at hr;obtain⟨_,_,rfl,rfl,⟨_,_,rfl,rfl,⟨_,_,rfl,rfl,⟨_,_,rfl,rfl,⟨_,_,rfl,rfl,⟨_,_,rfl,⟨x5,z5,rfl,y5,m5⟩,⟨_,_,rfl,⟨x6,z6,rfl,y6,m6⟩,⟨_,_,rfl,rfl,⟨_,_,rfl,rfl,rfl⟩⟩⟩⟩⟩⟩⟩⟩⟩:=hr;exact zlm v0 v1 v2 v3 v4 x5 L5.length z5 x6 L6.length z6 v7 v8 out op la w hne (by omega) (zh hT1) (zh hT2)
theorem zln {w:World} {ds:List D} {us:List Value} (hs:ShL zeI ds) (hB:ze3 ds=false) (hr:Rvs w ds us):Calls Tryz.prog 6 #[.agg us.toArray] w λe w'=>e= .returned (.tuple #[.slice none 0 0,.int .i64 1])/\Keep w w':=by
 have hs':=hs;have hr':=hr;simp only[ShL,Sh1,zeI]at hs;obtain⟨_,_,rfl,⟨v0,rfl,_,_⟩,⟨_,_,rfl,⟨v1,rfl,_,_⟩,⟨_,_,rfl,⟨v2,rfl,_,_⟩,⟨_,_,rfl,⟨v3,rfl,_,_⟩,⟨_,_,rfl,⟨v4,rfl,_,_⟩,⟨_,_,rfl,⟨L5,rfl,_,q5⟩,⟨_,_,rfl,⟨L6,rfl,_,q6⟩,⟨_,_,rfl,⟨v7,rfl,_,_⟩,⟨_,_,rfl,⟨v8,rfl,_,_⟩,rfl⟩⟩⟩⟩⟩⟩⟩⟩⟩:=hs;simp only[Rvs,Rv,dS,dI,dB]at hr;obtain⟨_,_,rfl,rfl,⟨_,_,rfl,rfl,⟨_,_,rfl,rfl,⟨_,_,rfl,rfl,⟨_,_,rfl,rfl,⟨_,_,rfl,⟨x5,z5,rfl,y5,m5⟩,⟨_,_,rfl,⟨x6,z6,rfl,y6,m6⟩,⟨_,_,rfl,rfl,⟨_,_,rfl,rfl,rfl⟩⟩⟩⟩⟩⟩⟩⟩⟩:=hr;refine zoV v0 v1 v2 v3 v4 x5 L5.length z5 x6 L6.length z6 v7 v8 w (zh λw' hk=>?_);have:=zdK (w:=w') hs' (Rvs.keep hk _ _ hr');rw[hB]at this;exact this
end S
end Go.Proofs.YthceiikgecoimaaGreatDoor
namespace Go.Proofs.YthceiikgecoimaaGreatDoor
open Go.RowKit
set_option linter.unusedVariables false
set_option linter.unusedSimpArgs false
set_option maxRecDepth 10000
namespace S
def Tg (t:Tok):Prop:=(t.k=1->rg ⟨1,t.s,0,0⟩=true)/\(0<=t.n/\t.n<=999999999999999999)/\(0<=t.p/\t.p<=70000)
theorem zsr {s:List UInt8} (h:Gs s 1 0) (hl:s.length<=65536):rg ⟨1,s,0,0⟩=true:=by
 have h1:=zoz h [] 0 zl8;rw[List.append_nil,zl7]at h1;have hT:T s= .ok [⟨1,s,0,0⟩,⟨0,[],0,((0+s.length:Nat):Int)⟩]:=by
  unfold T
  rw[if_neg (by omega),h1]
  rfl
 rw[zq1 (t:=⟨1,s,0,0⟩) hT];simp
theorem zhu (P:UInt8->Bool):∀ r:List UInt8,tw P (r.take (tw P r))=tw P r
 | []=>rfl
 |c :: r=>by
  have ih:=zhu P r;unfold tw at ih |-
  rw[List.takeWhile_cons];by_cases h:P c=true
  ·rw[if_pos h,List.length_cons,List.take_succ_cons,List.takeWhile_cons,if_pos h,List.length_cons,ih]
  ·rw[if_neg h];simp
theorem zfs {r:List UInt8} {p:Nat} {t:Tok} (h:one r p= .ok t) (hk:t.k=1):Gs t.s 1 0/\t.s.length<=24:=by
 cases r with
 |nil=>simp only[one,Except.ok.injEq]at h;subst h;simp at hk
 |cons c r=>
  have h0:=zcU h;simp only[one]at h;split at h
  ·rename_i h4
   split at h
   ·cases h
   ·rename_i h24
    simp only[Except.ok.injEq]at h;subst h;have et:(c :: r).take (en (c :: r))=c :: r.take (tw (zcu c) r):=by
     simp only[en];rw[Nat.add_comm,List.take_succ_cons]
    have hl:((c :: r).take (en (c :: r))).length<=24:=by rw[List.length_take];omega
    simp only at hl |-;rw[et]at hl |-;have en2:en (c :: r.take (tw (zcu c) r))=(c :: r.take (tw (zcu c) r)).length:=by
     simp only[en];rw[zhu,List.length_cons,List.length_take];have:=zpz (zcu c) r;omega
    refine⟨⟨by decide,?_,?_⟩,hl⟩
    ·simp only[one];rw[if_pos h4,if_neg (by rw[en2];omega),en2,List.take_length]
     rfl
    ·simp only[skp];rw[if_neg (by omega),if_neg (by omega)]
  ·split at h
   ·split at h
    ·cases h
    ·simp only[Except.ok.injEq]at h;subst h;simp at hk
   ·split at h
    ·simp only[Except.ok.injEq]at h;subst h;simp at hk
    ·cases h
theorem zed:∀(l:List UInt8) (v:Int),(∀ c∈l,kd c.toNat=5)->0<=v->0<=l.foldl (λv c=>v * 10+((c.toNat:Int) - 48)) v/\l.foldl (λv c=>v * 10+((c.toNat:Int) - 48)) v<(v+1) * (10:Int) ^ l.length
 | [],v,_,hv=>by simp only[List.foldl_nil,List.length_nil,Int.pow_zero,Int.mul_one];omega
 |c :: l,v,h,hv=>by
  have hc:=(zlU _).1 (h c List.mem_cons_self);have ih:=zed l (v * 10+((c.toNat:Int) - 48)) (λx hx=>h x (List.mem_cons_of_mem _ hx)) (by omega);rw[List.foldl_cons];refine⟨ih.1,Int.lt_of_lt_of_le ih.2 ?_⟩;rw[List.length_cons,Int.pow_succ,Int.mul_comm ((10:Int) ^ l.length) 10,<- Int.mul_assoc];refine Int.mul_le_mul_of_nonneg_right (by omega) ?_;exact Int.le_of_lt (Int.pow_pos (by decide))
theorem zmi {P:UInt8->Bool} :∀(r:List UInt8) (x:UInt8),x∈r.take (tw P r)->P x=true
 | [],x,h=>by simp at h
 |c :: r,x,h=>by
  unfold tw at h
  rw[List.takeWhile_cons]at h;by_cases hc:P c=true
  ·rw[if_pos hc,List.length_cons,List.take_succ_cons]at h;rcases List.mem_cons.1 h with rfl|h
   ·exact hc
   ·exact zmi r x h
  ·rw[if_neg hc]at h;simp at h
theorem zrn {r:List UInt8} {p:Nat} {t:Tok} (h:one r p= .ok t):0<=t.n/\t.n<=999999999999999999:=by
 cases r with
 |nil=>simp only[one,Except.ok.injEq]at h;subst h;simp
 |cons c r=>
  simp only[one]at h;split at h
  ·split at h
   ·cases h
   ·simp only[Except.ok.injEq]at h;subst h;simp
  ·split at h
   ·rename_i h4 h5
    split at h
    ·cases h
    ·rename_i h18
     simp only[Except.ok.injEq]at h;subst h;have et:(c :: r).take (en (c :: r))=c :: r.take (tw (zcu c) r):=by
      simp only[en];rw[Nat.add_comm,List.take_succ_cons]
     have hl:((c :: r).take (en (c :: r))).length<=18:=by rw[List.length_take];omega
     have hall:∀ x∈(c :: r).take (en (c :: r)),kd x.toNat=5:=by
      intro x hx
      rw[et]at hx;rcases List.mem_cons.1 hx with rfl|hx
      ·exact h5
      ·have:=zmi r x hx;unfold zcu at this
       rw[zdk]at this;omega
     have hb:=zed _ 0 hall (Int.le_refl 0);simp only;unfold num
     refine⟨hb.1,?_⟩;have h2:((10:Int) ^ ((c :: r).take (en (c :: r))).length)<=10 ^ 18:=by
      have:=Nat.pow_le_pow_right (show 0<10 by decide) hl
      exact_mod_cast this
     have:=hb.2;rw[Int.zero_add,Int.one_mul]at this;omega
   ·split at h
    ·simp only[Except.ok.injEq]at h;subst h;simp
    ·cases h
theorem zro:∀(n:Nat) (r:List UInt8) (p:Nat) (L:List Tok),r.length<=n->p+r.length<=70000->tk r p= .ok L->∀ t∈L,Tg t
 |n,r,p,L,hn,hp,h=>by
  rcases zdr h with ⟨rfl,_⟩|⟨t,M,rfl,h1,h2,h3,_,h5,h6,h7⟩
  ·intro t ht
   simp only[List.mem_singleton]at ht;subst ht;exact⟨by simp,by simp,by simp;omega⟩
  ·cases n with
   |zero=>omega
   |succ n=>
    intro u hu
    rcases List.mem_cons.1 hu with rfl|hu
    ·refine⟨λhk=>?_,zrn h1,?_⟩
     ·have:=zfs h1 hk;exact zsr this.1 (by omega)
     ·have:=(zcU h1).1;rw[this];omega
    ·exact zro n _ _ M (by rw[List.length_drop];omega) (by rw[List.length_drop];omega) h7 u hu
def RgC (p:Sp) (Q:List D->Prop):Prop:=∀ c r c' r',(∀ t∈r,Tg t)->p c r= .ok (c',r')->(∀ t∈r',Tg t)/\∃ d,c'=c++d/\Q d
theorem zgf {t:Tok} {r:List Tok} (h:∀ x∈t :: r,Tg x):Tg t/\∀ x∈r,Tg x:=⟨h t List.mem_cons_self,λx hx=>h x (List.mem_cons_of_mem _ hx)⟩
theorem zbl (s:List UInt8):RgC (zad s) (λd=>d= []):=λc r c' r' hr h=>by
 obtain⟨e,t,rfl⟩:=zdT h;exact⟨(zgf hr).2,[],by simp[e],rfl⟩
theorem zc0:RgC zai (λd=>∃ s,d= [dS s]/\nmB s=true/\s.length<=24):=λc r c' r' hr h=>by
 cases r with
 |nil=>simp[zai,bad]at h
 |cons t r=>
  simp only[zai]at h;split at h
  ·rename_i hk
   simp only[Except.ok.injEq,Prod.mk.injEq]at h;obtain⟨rfl,rfl⟩:=h;have hg:=(zgf hr).1.1 hk.1;have hB:nmB t.s=true:=by unfold nmB;rw[hg];simp[hk.2]
   exact⟨(zgf hr).2,_,rfl,t.s,rfl,hB,zbr hB⟩
  ·exact absurd h zb8
theorem zcL:RgC zao (λd=>∃ n,d= [dI n]/\nuB n=true):=λc r c' r' hr h=>by
 obtain⟨t,e,rfl⟩:=zfo h;have:=(zgf hr).1.2.1;exact⟨(zgf hr).2,_,e,t.n,rfl,by unfold nuB;exact decide_eq_true this⟩
theorem zh7:RgC zaN (λd=>∃ n,d= [dI n]/\0<=n/\n<=70000):=λc r c' r' hr h=>by
 cases r with
 |nil=>simp[zaN,bad]at h
 |cons t r=>
  simp only[zaN,Except.ok.injEq,Prod.mk.injEq]at h;obtain⟨rfl,rfl⟩:=h;exact⟨hr,_,rfl,t.p,rfl,(zgf hr).1.2.2⟩
theorem zss:RgC zcQ (λd=>d= []):=λc r c' r' hr h=>by
 cases r with
 |nil=>simp[zcQ,bad]at h
 |cons t r=>
  simp only[zcQ]at h;split at h
  ·simp only[Except.ok.injEq,Prod.mk.injEq]at h;obtain⟨rfl,rfl⟩:=h;exact⟨hr,[],by simp,rfl⟩
  ·exact absurd h zb8
theorem zh8 (s:List UInt8):RgC (zaQ s) (λd=>∃ b,d= [dB b]):=λc r c' r' hr h=>by
 cases r with
 |nil=>simp[zaQ,bad]at h
 |cons t r=>
  simp only[zaQ]at h;split at h
  ·simp only[Except.ok.injEq,Prod.mk.injEq]at h;obtain⟨rfl,rfl⟩:=h;exact⟨(zgf hr).2,_,rfl,_,rfl⟩
  ·simp only[Except.ok.injEq,Prod.mk.injEq]at h;obtain⟨rfl,rfl⟩:=h;exact⟨hr,_,rfl,_,rfl⟩
theorem zeN:RgC (sq []) (λd=>d= []):=λc r c' r' hr h=>by
 have:=zfV h;simp only[Prod.mk.injEq]at this;obtain⟨rfl,rfl⟩:=this;exact⟨hr,[],by simp,rfl⟩
theorem zap {p:Sp} {ps:List Sp} {Q R:List D->Prop} (hp:RgC p Q) (h2:RgC (sq ps) R):RgC (sq (p :: ps)) (λd=>∃ d1 d2,d=d1++d2/\Q d1/\R d2):=λc r c' r' hr h=>by
 obtain⟨c1,r1,k1,k2⟩:=zcX h;obtain⟨hr1,d1,rfl,q1⟩:=hp _ _ _ _ hr k1;obtain⟨hr2,d2,e,q2⟩:=h2 _ _ _ _ hr1 k2;exact⟨hr2,d1++d2,by rw[e,List.append_assoc],d1,d2,rfl,q1,q2⟩
theorem zmj:RgC za8 (λd=>∃ a b,d= [dI a,dI b]/\nuB a=true/\nuB b=true):=λc r c' r' hr h=>by
 obtain⟨hr',d,e,d1,d2,rfl,⟨a,rfl,ha⟩,d3,d4,rfl,rfl,d5,d6,rfl,⟨b,rfl,hb⟩,rfl⟩:=zap zcL (zap (zbl _) (zap zcL zeN)) c r c' r' hr h;exact⟨hr',_,e,a,b,rfl,ha,hb⟩
theorem zoX:RgC zaF (λd=>∃ n,d= [dI n]/\grB n=true):=λc r c' r' hr h=>by
 simp only[zaF]at h;split at h
 ·cases h
 ·rename_i b n r1 h1
  simp only[Except.ok.injEq,Prod.mk.injEq]at h;obtain⟨rfl,rfl⟩:=h;obtain⟨hr',d,e,d1,d2,rfl,⟨b',rfl⟩,d3,d4,rfl,⟨m,rfl,hm⟩,rfl⟩:=zap (zh8 _) (zap zcL zeN) [] r _ _ hr h1;simp only[List.nil_append,List.append_nil,List.cons_append,List.cons.injEq,dI,dB,D.val.injEq,Value.int.injEq,true_and,and_true]at e;obtain⟨_,rfl⟩:=e;refine⟨hr',_,rfl,_,rfl,?_⟩;unfold nuB at hm
  have:=of_decide_eq_true hm;unfold grB
  refine decide_eq_true ?_;split<;>omega
 ·cases h
theorem zrp (most:Nat):∀(f:Nat) (L:List (List D)) (r:List Tok) (L':List (List D)) (r':List Tok),(∀ t∈r,Tg t)->(∀ x∈L,∃ s,x= [dS s]/\nmB s=true/\s.length<=24)->nmz most f L r= .ok (L',r')->(∀ t∈r',Tg t)/\∀ x∈L',∃ s,x= [dS s]/\nmB s=true/\s.length<=24
 |0,_,_,_,_,_,_,h=>by simp[nmz]at h
 |f+1,L,r,L',r',hr,hL,h=>by
  simp only[nmz]at h;split at h
  ·cases h
  ·rename_i d r1 h1
   obtain⟨hr1,d',e,s,rfl,hB,hs⟩:=zc0 _ _ _ _ hr h1;have hd:∀ x∈L++ [d],∃ s,x= [dS s]/\nmB s=true/\s.length<=24:=λx hx=>by
    rcases List.mem_append.1 hx with hx|hx
    ·exact hL x hx
    ·simp only[List.mem_singleton]at hx;subst hx;exact⟨s,by simpa using e,hB,hs⟩
   split at h
   ·split at h<;>cases h
   ·split at h
    ·rename_i r2 h2
     exact zrp most f _ _ _ _ (zh8 _ _ _ _ _ hr1 h2).1 hd h
    ·rename_i r2 _ h2
     simp only[Except.ok.injEq,Prod.mk.injEq]at h;obtain⟨rfl,rfl⟩:=h;exact⟨(zh8 _ _ _ _ _ hr1 h2).1,hd⟩
    ·cases h
def NmR (most:Nat) (L:List (List D)):Prop:=zcR 1 most zf1 L=true/\∀ x∈L,ShL zcy x
theorem zrq {x:List D} (h:∃ s,x= [dS s]/\nmB s=true/\s.length<=24):zf1 x=true/\ShL zcy x:=by
 obtain⟨s,rfl,h1,h2⟩:=h;refine⟨h1,?_⟩;simp only[ShL,Sh1,zcy];exact⟨_,_,rfl,⟨s,rfl,by unfold maxLen;omega⟩,rfl⟩
theorem zjR (e most:Nat):RgC (zar e most) (λd=>∃ L,d= [.row e 1 L]/\NmR most L/\L.length<=most):=λc r c' r' hr h=>by
 obtain⟨L,e1,e2,e3⟩:=zfW h;simp only[zar]at h;split at h
 ·cases h
 ·rename_i L2 r1 h1
  simp only[Except.ok.injEq,Prod.mk.injEq]at h;have:L2=L:=by have:=h.1;rw[e1]at this;simpa using this
  subst this;obtain⟨hr1,hL⟩:=zrp most _ _ _ _ _ hr (λx hx=>by cases hx) h1;rw[h.2]at hr1;refine⟨hr1,_,e1,L2,rfl,⟨?_,λx hx=>(zrq (hL x hx)).2⟩,e3⟩;unfold zcR
  rw[decide_eq_true ⟨e2,e3⟩,Bool.true_and,List.all_eq_true];exact λx hx=>(zrq (hL x hx)).1
def RgB (body:List Tok->Rs) (Q:List D->Prop):Prop:=∀ r d r',(∀ t∈r,Tg t)->body r= .ok (d,r')->(∀ t∈r',Tg t)/\Q d
theorem zrr (word:List UInt8) (most:Nat) (body:List Tok->Rs) (Q:List D->Prop) (hQ:RgB body Q):∀(f:Nat) (L:List (List D)) (r:List Tok) (L':List (List D)) (r':List Tok),(∀ t∈r,Tg t)->L.length<=most->(∀ d∈L,Q d)->rwz word most body f L r= .ok (L',r')->(∀ t∈r',Tg t)/\L'.length<=most/\∀ d∈L',Q d
 |0,_,_,_,_,_,_,_,h=>by simp[rwz]at h
 |f+1,L,r,L',r',hr,hl,hL,h=>by
  cases r with
  |nil=>simp[rwz]at h
  |cons t r=>
   simp only[rwz]at h;split at h
   ·split at h
    ·cases h
    ·rename_i hne
     split at h
     ·cases h
     ·rename_i d r1 h1
      obtain⟨hr1,hd⟩:=hQ _ _ _ (zgf hr).2 h1;refine zrr word most body Q hQ f _ _ _ _ hr1 (by simp;omega) (λx hx=>?_) h;rcases List.mem_append.1 hx with hx|hx
      ·exact hL x hx
      ·simp only[List.mem_singleton]at hx;subst hx;exact hd
   ·simp only[Except.ok.injEq,Prod.mk.injEq]at h;obtain⟨rfl,rfl⟩:=h;exact⟨hr,hl,hL⟩
theorem zgg {word:List UInt8} {most e z:Nat} {body:List Tok->Rs} {Q:List D->Prop} (hQ:RgB body Q):RgC (zaL word most e z body) (λd=>∃ L,d= [.row e z L]/\L.length<=most/\∀ y∈L,Q y):=λc r c' r' hr h=>by
 simp only[zaL]at h;split at h
 ·cases h
 ·rename_i L r1 h1
  simp only[Except.ok.injEq,Prod.mk.injEq]at h;obtain⟨rfl,rfl⟩:=h;obtain⟨k1,k2,k3⟩:=zrr word most body Q hQ _ _ _ _ _ hr (Nat.zero_le _) (λd hd=>by cases hd) h1;exact⟨k1,_,rfl,L,rfl,k2,k3⟩
theorem zc1 {lo hi:Nat} {B:List D->Bool} {L:List (List D)} (h1:lo<=L.length) (h2:L.length<=hi) (h:∀ x∈L,B x=true):zcR lo hi B L=true:=by
 unfold zcR
 rw[decide_eq_true ⟨h1,h2⟩,Bool.true_and,List.all_eq_true];exact h
theorem zrs {n:Int} (h:nuB n=true):0<=n/\n<=999999999999999999:=by unfold nuB at h;exact of_decide_eq_true h
theorem zsP {n:Int} (h:grB n=true): -9223372036854775808<=n/\n<=9223372036854775807:=by unfold grB at h;have:=of_decide_eq_true h;omega
theorem zcE {n:Int} (h:nuB n=true): -9223372036854775808<=n/\n<=9223372036854775807:=by have:=zrs h;omega
end S
namespace S
theorem zjS (n:Int):fI (dI n)=n:=rfl
theorem zhv (e z:Nat) (L:List (List D)):fL (.row e z L)=L:=rfl
theorem zoY:RgB zbT (λd=>ShL zen d/\zeZ d=true):=λr d r' hr h=>by
 obtain⟨c1,h1,rfl⟩:=zbz h;obtain⟨hr2,dd,e,x0,y0,rfl,⟨p0,rfl,hp0,hp1⟩,x1,y1,rfl,⟨s0,rfl,n0,m0⟩,x2,y2,rfl,rfl,x3,y3,rfl,⟨u1,rfl,v1⟩,x4,y4,rfl,rfl,x5,y5,rfl,⟨u2,rfl,v2⟩,x6,y6,rfl,rfl,x7,y7,rfl,⟨u3,u4,rfl,v3,v4⟩,x8,y8,rfl,rfl,x9,y9,rfl,⟨u5,rfl,v5⟩,x10,y10,rfl,rfl,x11,y11,rfl,⟨u6,rfl,v6⟩,x12,y12,rfl,rfl,x13,y13,rfl,⟨u7,rfl,v7⟩,x14,y14,rfl,rfl,x15,y15,rfl,⟨u8,rfl,v8⟩,x16,y16,rfl,rfl,x17,y17,rfl,⟨u9,rfl,v9⟩,x18,y18,rfl,rfl,rfl⟩:=(zap zh7 (zap zc0 (zap (zbl _) (zap zcL (zap (zbl _) (zap zcL (zap (zbl _) (zap zmj (zap (zbl _) (zap zcL (zap (zbl _) (zap zoX (zap (zbl _) (zap zcL (zap (zbl _) (zap zcL (zap (zbl _) (zap zcL (zap (zbl _) zeN))))))))))))))))))) [] r _ _ hr h1;simp only[List.nil_append,List.cons_append,List.append_nil]at e;subst e;refine⟨hr2,?_,?_⟩
 ·simp only[rot,List.cons_append,List.nil_append,ShL,Sh1,zen];exact⟨_,_,rfl,⟨_,rfl,by unfold maxLen;omega⟩,⟨_,_,rfl,⟨_,rfl,(zcE v1).1,(zcE v1).2⟩,⟨_,_,rfl,⟨_,rfl,(zcE v2).1,(zcE v2).2⟩,⟨_,_,rfl,⟨_,rfl,(zcE v3).1,(zcE v3).2⟩,⟨_,_,rfl,⟨_,rfl,(zcE v4).1,(zcE v4).2⟩,⟨_,_,rfl,⟨_,rfl,(zcE v5).1,(zcE v5).2⟩,⟨_,_,rfl,⟨_,rfl,(zsP v6).1,(zsP v6).2⟩,⟨_,_,rfl,⟨_,rfl,(zcE v7).1,(zcE v7).2⟩,⟨_,_,rfl,⟨_,rfl,(zcE v8).1,(zcE v8).2⟩,⟨_,_,rfl,⟨_,rfl,(zcE v9).1,(zcE v9).2⟩,⟨_,_,rfl,⟨_,rfl,((show -9223372036854775808<=p0/\p0<=9223372036854775807 by omega)).1,((show -9223372036854775808<=p0/\p0<=9223372036854775807 by omega)).2⟩,rfl⟩⟩⟩⟩⟩⟩⟩⟩⟩⟩⟩
 ·simp[rot,zeZ,zfy,gt,zdE,zjS,n0,v1,v2,v3,v4,v5,v6,v7,v8,v9]
theorem zoZ:RgB zb0 (λd=>ShL ziu d/\zfz d=true):=λr d r' hr h=>by
 obtain⟨c1,h1,rfl⟩:=zbz h;obtain⟨hr2,dd,e,x0,y0,rfl,⟨p0,rfl,hp0,hp1⟩,x1,y1,rfl,⟨s0,rfl,n0,m0⟩,x2,y2,rfl,rfl,x3,y3,rfl,⟨s1,rfl,n1,m1⟩,x4,y4,rfl,rfl,x5,y5,rfl,⟨u2,rfl,v2⟩,x6,y6,rfl,rfl,x7,y7,rfl,⟨u3,rfl,v3⟩,x8,y8,rfl,rfl,x9,y9,rfl,⟨u4,rfl,v4⟩,x10,y10,rfl,rfl,rfl⟩:=(zap zh7 (zap zc0 (zap (zbl _) (zap zc0 (zap (zbl _) (zap zcL (zap (zbl _) (zap zcL (zap (zbl _) (zap zcL (zap (zbl _) zeN))))))))))) [] r _ _ hr h1;simp only[List.nil_append,List.cons_append,List.append_nil]at e;subst e;refine⟨hr2,?_,?_⟩
 ·simp only[rot,List.cons_append,List.nil_append,ShL,Sh1,ziu];exact⟨_,_,rfl,⟨_,rfl,by unfold maxLen;omega⟩,⟨_,_,rfl,⟨_,rfl,by unfold maxLen;omega⟩,⟨_,_,rfl,⟨_,rfl,(zcE v2).1,(zcE v2).2⟩,⟨_,_,rfl,⟨_,rfl,(zcE v3).1,(zcE v3).2⟩,⟨_,_,rfl,⟨_,rfl,(zcE v4).1,(zcE v4).2⟩,⟨_,_,rfl,⟨_,rfl,((show -9223372036854775808<=p0/\p0<=9223372036854775807 by omega)).1,((show -9223372036854775808<=p0/\p0<=9223372036854775807 by omega)).2⟩,rfl⟩⟩⟩⟩⟩⟩
 ·simp[rot,zfz,zfy,gt,zdE,zjS,n0,n1,v2,v3,v4]
theorem zrt:RgB zeX (λd=>ShL ziv d/\zkV d=true):=λr d r' hr h=>by
 obtain⟨c1,h1,rfl⟩:=zbz h;obtain⟨hr2,dd,e,x0,y0,rfl,⟨p0,rfl,hp0,hp1⟩,x1,y1,rfl,⟨s0,rfl,n0,m0⟩,x2,y2,rfl,⟨s1,rfl,n1,m1⟩,x3,y3,rfl,rfl,rfl⟩:=(zap zh7 (zap zc0 (zap zc0 (zap (zbl _) zeN)))) [] r _ _ hr h1;simp only[List.nil_append,List.cons_append,List.append_nil]at e;subst e;refine⟨hr2,?_,?_⟩
 ·simp only[rot,List.cons_append,List.nil_append,ShL,Sh1,ziv];exact⟨_,_,rfl,⟨_,rfl,by unfold maxLen;omega⟩,⟨_,_,rfl,⟨_,rfl,by unfold maxLen;omega⟩,⟨_,_,rfl,⟨_,rfl,((show -9223372036854775808<=p0/\p0<=9223372036854775807 by omega)).1,((show -9223372036854775808<=p0/\p0<=9223372036854775807 by omega)).2⟩,rfl⟩⟩⟩
 ·simp[rot,zkV,zfy,gt,zdE,zjS,n0,n1]
theorem zo0:RgB zbC (λd=>ShL zdY d/\ze1 d=true):=λr d r' hr h=>by
 obtain⟨c1,h1,rfl⟩:=zbz h;obtain⟨hr2,dd,e,x0,y0,rfl,⟨p0,rfl,hp0,hp1⟩,x1,y1,rfl,⟨s0,rfl,n0,m0⟩,x2,y2,rfl,rfl,x3,y3,rfl,⟨s1,rfl,n1,m1⟩,x4,y4,rfl,rfl,x5,y5,rfl,⟨s2,rfl,n2,m2⟩,x6,y6,rfl,rfl,x7,y7,rfl,⟨u3,rfl,v3⟩,x8,y8,rfl,rfl,x9,y9,rfl,⟨u4,rfl,v4⟩,x10,y10,rfl,rfl,rfl⟩:=(zap zh7 (zap zc0 (zap (zbl _) (zap zc0 (zap (zbl _) (zap zc0 (zap (zbl _) (zap zcL (zap (zbl _) (zap zcL (zap (zbl _) zeN))))))))))) [] r _ _ hr h1;simp only[List.nil_append,List.cons_append,List.append_nil]at e;subst e;refine⟨hr2,?_,?_⟩
 ·simp only[rot,List.cons_append,List.nil_append,ShL,Sh1,zdY];exact⟨_,_,rfl,⟨_,rfl,by unfold maxLen;omega⟩,⟨_,_,rfl,⟨_,rfl,by unfold maxLen;omega⟩,⟨_,_,rfl,⟨_,rfl,by unfold maxLen;omega⟩,⟨_,_,rfl,⟨_,rfl,(zcE v3).1,(zcE v3).2⟩,⟨_,_,rfl,⟨_,rfl,(zcE v4).1,(zcE v4).2⟩,⟨_,_,rfl,⟨_,rfl,((show -9223372036854775808<=p0/\p0<=9223372036854775807 by omega)).1,((show -9223372036854775808<=p0/\p0<=9223372036854775807 by omega)).2⟩,rfl⟩⟩⟩⟩⟩⟩
 ·simp[rot,ze1,zfy,gt,zdE,zjS,n0,n1,n2,v3,v4]
theorem zlo:RgB zbn (λd=>ShL zcf d/\zdC d=true):=λr d r' hr h=>by
 obtain⟨c1,h1,rfl⟩:=zbz h;obtain⟨hr2,dd,e,x0,y0,rfl,⟨p0,rfl,hp0,hp1⟩,x1,y1,rfl,⟨s0,rfl,n0,m0⟩,x2,y2,rfl,rfl,x3,y3,rfl,⟨L,rfl,hL,hl⟩,x4,y4,rfl,rfl,rfl⟩:=(zap zh7 (zap zc0 (zap (zbl _) (zap (zjR _ _) (zap (zbl _) zeN))))) [] r _ _ hr h1;simp only[List.nil_append,List.cons_append,List.append_nil]at e;subst e;refine⟨hr2,?_,?_⟩
 ·simp only[rot,List.cons_append,List.nil_append,ShL,Sh1,zcf];exact⟨_,_,rfl,⟨_,rfl,by unfold maxLen;omega⟩,⟨_,_,rfl,⟨_,rfl,by unfold maxLen;omega,hL.2⟩,⟨_,_,rfl,⟨_,rfl,by omega,by omega⟩,rfl⟩⟩⟩
 ·simp[rot,zdC,gt,zdE,zhv,n0,hL.1]
theorem zo1:RgB zaU (λd=>ShL zgs d/\ze0 d=true):=λr d r' hr h=>by
 obtain⟨hr2,dd,e,x0,y0,rfl,⟨f0,rfl⟩,x1,y1,rfl,⟨L,rfl,hL,hl⟩,x2,y2,rfl,rfl,rfl⟩:=(zap (zh8 _) (zap (zjR _ _) (zap (zbl _) zeN))) [] r _ _ hr h;simp only[List.nil_append,List.cons_append,List.append_nil]at e;subst e;refine⟨hr2,?_,?_⟩
 ·simp only[ShL,Sh1,zgs];exact⟨_,_,rfl,⟨_,rfl⟩,⟨_,_,rfl,⟨_,rfl,by unfold maxLen;omega,hL.2⟩,rfl⟩⟩
 ·simp[ze0,gt,zhv,hL.1]
theorem zlp:RgB zbk (λd=>ShL zcg d/\zdD d=true):=λr d r' hr h=>by
 obtain⟨c1,r1,k1,k2⟩:=zcX h;obtain⟨c2,r2,k3,k4⟩:=zcX k2;obtain⟨c3,r3,k5,k6⟩:=zcX k4;obtain⟨c4,r4,k7,k8⟩:=zcX k6;obtain⟨g1,d1,e1,rfl⟩:=zbl _ _ _ _ _ hr k1;obtain⟨g2,d2,e2,L,rfl,hl,hL⟩:=zgg zo1 _ _ _ _ g1 k3;have g3:(∀ t∈r3,Tg t)/\c3=c2/\∀ e z,c2≠ [.row e z []]:=by
  have h5:=zhc k5;have h6:r3=r2:=by
   unfold zbS at k5
   split at k5
   ·exact absurd k5 zb8
   ·simp only[Except.ok.injEq,Prod.mk.injEq]at k5;exact k5.2.symm
  rw[h6];exact⟨g2,h5.1,h5.2⟩
 obtain⟨g4,d4,e4,rfl⟩:=zbl _ _ _ _ _ g3.1 k7;have k9:=zfV k8;simp only[Prod.mk.injEq]at k9;obtain⟨rfl,rfl⟩:=k9;simp only[List.nil_append,List.append_nil]at e1 e2 e4;subst e1;simp only[List.nil_append]at e2;rw[e4,g3.2.1,e2];have hne:=g3.2.2;rw[e2]at hne;have h1:1<=L.length:=by
  cases L with
  |nil=>exact absurd rfl (hne _ _)
  |cons x xs=>simp
 refine⟨g4,?_,?_⟩
 ·simp only[ShL,Sh1,zcg];exact⟨_,_,rfl,⟨_,rfl,by unfold maxLen;omega,λx hx=>(hL x hx).1⟩,rfl⟩
 ·show zcR 1 2 ze0 L=true;exact zc1 h1 hl (λx hx=>(hL x hx).2)
theorem zo2:RgB zb4 (λd=>ShL zdj d/\ze2 d=true):=λr d r' hr h=>by
 obtain⟨c1,h1,rfl⟩:=zbz h;obtain⟨hr2,dd,e,x0,y0,rfl,⟨p0,rfl,hp0,hp1⟩,x1,y1,rfl,⟨s0,rfl,n0,m0⟩,x2,y2,rfl,rfl,x3,y3,rfl,⟨L1,rfl,l1,g1⟩,x4,y4,rfl,⟨L2,rfl,l2,g2⟩,x5,y5,rfl,⟨L3,rfl,l3,g3⟩,x6,y6,rfl,⟨L4,rfl,l4,g4⟩,x7,y7,rfl,⟨L5,rfl,l5,g5⟩,x8,y8,rfl,rfl,rfl⟩:=(zap zh7 (zap zc0 (zap (zbl _) (zap (zgg zoY) (zap (zgg zoZ) (zap (zgg zlo) (zap (zgg zlp) (zap (zgg zrt) (zap (zbl _) zeN))))))))) [] r _ _ hr h1;simp only[List.nil_append,List.cons_append,List.append_nil]at e;subst e;refine⟨hr2,?_,?_⟩
 ·simp only[rot,List.cons_append,List.nil_append,ShL,Sh1,zdj];exact⟨_,_,rfl,⟨_,rfl,by unfold maxLen;omega⟩,⟨_,_,rfl,⟨_,rfl,by unfold maxLen;omega,λx hx=>(g1 x hx).1⟩,⟨_,_,rfl,⟨_,rfl,by unfold maxLen;omega,λx hx=>(g2 x hx).1⟩,⟨_,_,rfl,⟨_,rfl,by unfold maxLen;omega,λx hx=>(g3 x hx).1⟩,⟨_,_,rfl,⟨_,rfl,by unfold maxLen;omega,λx hx=>(g4 x hx).1⟩,⟨_,_,rfl,⟨_,rfl,by unfold maxLen;omega,λx hx=>(g5 x hx).1⟩,⟨_,_,rfl,⟨_,rfl,by omega,by omega⟩,rfl⟩⟩⟩⟩⟩⟩⟩
 ·have b1:=zc1 (lo:=0) (Nat.zero_le _) l1 (λx hx=>(g1 x hx).2);have b2:=zc1 (lo:=0) (Nat.zero_le _) l2 (λx hx=>(g2 x hx).2);have b3:=zc1 (lo:=0) (Nat.zero_le _) l3 (λx hx=>(g3 x hx).2);have b4:=zc1 (lo:=0) (Nat.zero_le _) l4 (λx hx=>(g4 x hx).2);have b5:=zc1 (lo:=0) (Nat.zero_le _) l5 (λx hx=>(g5 x hx).2);simp[rot,ze2,gt,zdE,zhv,n0,b1,b2,b3,b4,b5]
theorem zst:RgC zcN (λd=>∃ L x y,d= [.row 48 6 L,dI x,dI y]/\L.length<=12/\(∀ z∈L,ShL zdY z/\ze1 z=true)/\nuB x=true/\nuB y=true):=λc r c' r' hr h=>by
 unfold zcN at h
 split at h
 ·cases h
 ·rename_i r1 h1
  have hr1:=(zh8 _ _ _ _ _ hr h1).1;obtain⟨hr2,dd,e,x0,y0,rfl,rfl,x1,y1,rfl,⟨L,rfl,l0,g0⟩,x2,y2,rfl,rfl,x3,y3,rfl,⟨u7,rfl,v7⟩,x4,y4,rfl,⟨u8,rfl,v8⟩,x5,y5,rfl,rfl,x6,y6,rfl,rfl,rfl⟩:=(zap (zbl _) (zap (zgg zo0) (zap (zbl _) (zap zcL (zap zcL (zap (zbl _) (zap (zbl _) zeN))))))) c r1 _ _ hr1 h;exact⟨hr2,_,e,L,u7,u8,rfl,l0,g0,v7,v8⟩
 ·rename_i r1 _ h1
  simp only[Except.ok.injEq,Prod.mk.injEq]at h;obtain⟨rfl,rfl⟩:=h;exact⟨(zh8 _ _ _ _ _ hr h1).1,_,rfl,[],0,0,rfl,by simp,(λz hz=>by cases hz),rfl,rfl⟩
theorem zdf {l:List UInt8} {cs:List D} (h:N l= .ok cs):ShL zeI cs/\ze3 cs=true:=by
 unfold N at h
 cases hT:T l with
 |error x=>rw[hT]at h;cases h
 |ok L=>
  rw[hT]at h;simp only at h;have hl:=(zl0 hT).1;have hr:=zro l.length l 0 L (Nat.le_refl _) (by omega) (zl0 hT).2;cases hp:zd8 L with
  |error x=>rw[hp]at h;cases h
  |ok q=>
   obtain⟨c,s⟩:=q;rw[hp]at h;simp only[Except.ok.injEq]at h;subst h;obtain⟨hr2,dd,e,x0,y0,rfl,rfl,x1,y1,rfl,⟨u0,rfl,v0⟩,x2,y2,rfl,rfl,x3,y3,rfl,⟨u1,rfl,v1⟩,x4,y4,rfl,rfl,x5,y5,rfl,⟨u2,rfl,v2⟩,x6,y6,rfl,rfl,x7,y7,rfl,rfl,x8,y8,rfl,⟨u3,u4,rfl,v3,v4⟩,x9,y9,rfl,rfl,x10,y10,rfl,⟨L5,rfl,l5,g5⟩,x11,y11,rfl,⟨L6,u7,u8,rfl,l6,g6,v7,v8⟩,x12,y12,rfl,rfl,rfl⟩:=(zap (zbl _) (zap zcL (zap (zbl _) (zap zcL (zap (zbl _) (zap zcL (zap (zbl _) (zap (zbl _) (zap zmj (zap (zbl _) (zap (zgg zo2) (zap zst (zap zss zeN))))))))))))) [] L _ _ hr hp;simp only[List.nil_append,List.cons_append,List.append_nil]at e;subst e;refine⟨?_,?_⟩
   ·simp only[ShL,Sh1,zeI];exact⟨_,_,rfl,⟨_,rfl,(zcE v0).1,(zcE v0).2⟩,⟨_,_,rfl,⟨_,rfl,(zcE v1).1,(zcE v1).2⟩,⟨_,_,rfl,⟨_,rfl,(zcE v2).1,(zcE v2).2⟩,⟨_,_,rfl,⟨_,rfl,(zcE v3).1,(zcE v3).2⟩,⟨_,_,rfl,⟨_,rfl,(zcE v4).1,(zcE v4).2⟩,⟨_,_,rfl,⟨_,rfl,by unfold maxLen;omega,λx hx=>(g5 x hx).1⟩,⟨_,_,rfl,⟨_,rfl,by unfold maxLen;omega,λx hx=>(g6 x hx).1⟩,⟨_,_,rfl,⟨_,rfl,(zcE v7).1,(zcE v7).2⟩,⟨_,_,rfl,⟨_,rfl,(zcE v8).1,(zcE v8).2⟩,rfl⟩⟩⟩⟩⟩⟩⟩⟩⟩
   ·have b5:=zc1 (lo:=0) (Nat.zero_le _) l5 (λx hx=>(g5 x hx).2);have b6:=zc1 (lo:=0) (Nat.zero_le _) l6 (λx hx=>(g6 x hx).2);simp[ze3,zfy,gt,zjS,zhv,v0,v1,v2,v3,v4,v7,v8,b5,b6]
end S
namespace Q
structure LS (b gb j:Nat) (w2:World) (e z:Nat) (us:List Value) (wr:World) (L:List (List D)) (a:Option Addr) (n cap:Nat) (Y:Except Er (List Tok)):Prop where
 ro:RO (λi=>i=b\/i=gb) w2 e z wr L (.slice a n cap)
 bx:Bxs wr gb (us.set j (.slice a n cap))
 sr:Sr wr b Y
 hn:L.length=n
 hb:b<gb
 hg:gb<w2.heap.size
 hj:j<us.length
theorem LS.start {b gb j:Nat} {w2:World} {e z:Nat} {us:List Value} {Y:Except Er (List Tok)} (hs:Sr w2 b Y) (hx:Bxs w2 gb us) (hj:us[j]? =some (.slice none 0 0)) (hb:b<gb) (hg:gb<w2.heap.size):LS b gb j w2 e z us w2 [] none 0 0 Y:=by
 have hl:j<us.length:=by
  rcases Nat.lt_or_ge j us.length with h|h
  ·exact h
  ·rw[List.getElem?_eq_none h]at hj;cases hj
 refine⟨RO.start _ _ _ _,?_,hs,rfl,hb,hg,hl⟩;have:us.set j (.slice none 0 0)=us:=by
  apply List.ext_getElem?;intro i
  by_cases e:j=i
  ·subst e;rw[List.getElem?_set_self hl,hj]
  ·rw[List.getElem?_set_ne e]
 rw[this];exact hx
theorem LS.gw {b gb j:Nat} {w2:World} {e z:Nat} {us:List Value} {wr:World} {L:List (List D)} {a:Option Addr} {n cap:Nat} {Y:Except Er (List Tok)} (h:LS b gb j w2 e z us wr L a n cap Y):gb<wr.heap.size:=Nat.lt_of_lt_of_le h.hg h.ro.fr.size
theorem LS.move {b gb j:Nat} {w2:World} {e z:Nat} {us:List Value} {wr w3:World} {L:List (List D)} {a:Option Addr} {n cap:Nat} {Y Y':Except Er (List Tok)} (h:LS b gb j w2 e z us wr L a n cap Y) (k:Fr (λi=>i=b) wr w3) (hs:Sr w3 b Y'):LS b gb j w2 e z us w3 L a n cap Y':=
 ⟨h.ro.move k (λi x=>⟨.inl x,by have:=h.hb;have:=h.hg;omega⟩),h.bx.move (k.block gb h.gw (λx=>by have:=h.hb;omega)),hs,h.hn,h.hb,h.hg,h.hj⟩
theorem LS.cell {b gb j:Nat} {w2:World} {e z:Nat} {us:List Value} {wr:World} {L:List (List D)} {a:Option Addr} {n cap:Nat} {Y:Except Er (List Tok)} (h:LS b gb j w2 e z us wr L a n cap Y):wr.cell? ⟨gb,j,none⟩=some (.slice a n cap)/\wr.frozen? ⟨gb,j,none⟩=false:=
 h.bx j _ (by rw[List.getElem?_set_self h.hj])
theorem LS.own {b gb j:Nat} {w2:World} {e z:Nat} {us:List Value} {wr W6:World} {L:List (List D)} {a:Option Addr} {n cap:Nat} {Y:Except Er (List Tok)} (h:LS b gb j w2 e z us wr L a n cap Y) (k:Fr (λi=>i=b) wr W6):∃ xs,W6.ownsRow 0 e z (.slice a n cap) n xs:=by
 obtain⟨xs,h1,_⟩:=(h.ro.move k (λi x=>⟨.inl x,by have:=h.hb;have:=h.hg;omega⟩)).shape;rw[h.hn]at h1;exact⟨xs,h1⟩
theorem LS.app {b gb j:Nat} {w2:World} {e z:Nat} {us:List Value} {wr W6 wa w8:World} {L:List (List D)} {a a':Option Addr} {n cap cap':Nat} {Y Y6:Except Er (List Tok)} {ds:List D} {xs vs:List Value} (h:LS b gb j w2 e z us wr L a n cap Y) (k:Fr (λi=>i=b) wr W6) (hs:Sr W6 b Y6) (hd:Rds W6 ds (λi=>wr.heap.size<=i) vs) (hz:ds.length=z) (hka:Keep W6 wa) (hxs:W6.ownsRow 0 e z (.slice a n cap) n xs) (hown:w8.ownsRow 0 e z (.slice a' (n+1) cap') (n+1) (xs++vs)) (hg:wa.grownBy w8 (Value.slice a n cap).ownBlock) (hat:(Value.slice a' (n+1) cap').ownBlock=(Value.slice a n cap).ownBlock\/(Value.slice a' (n+1) cap').ownBlock=some wa.heap.size):
  LS b gb j w2 e z us (w8.setCell ⟨gb,j,none⟩ (.slice a' (n+1) cap')) (L++ [ds]) a' (n+1) cap' Y6/\w8.cell? ⟨gb,j,none⟩=some (.slice a n cap)/\w8.frozen? ⟨gb,j,none⟩=false:=by
 have hro:=h.ro.move k (λi x=>⟨.inl x,by have:=h.hb;have:=h.hg;omega⟩);obtain⟨_,_,hlt⟩:=h.ro.shape;have A:=hro.app hka (λi x=>by rcases x with x|x<;>(have:=h.hb;have:=h.hg;omega)) (B:=wr.heap.size) (λg hg'=>(hlt g hg').2) h.ro.fr.size hd hz (by rw[h.hn];exact hxs) (by rw[h.hn];exact hown) hg hat;have hb6:W6.heap[gb]? =wr.heap[gb]? :=k.block gb h.gw (λx=>by have:=h.hb;omega);have hb8:w8.heap[gb]? =wr.heap[gb]? :=(A.2 gb h.hg).trans hb6;have hbx8:Bxs w8 gb (us.set j (.slice a n cap)):=h.bx.move hb8;have hc8:=hbx8 j _ (by rw[List.getElem?_set_self h.hj]);refine⟨⟨A.1.set _ _ rfl (.inr rfl) h.hg,?_,?_,by rw[List.length_append,h.hn];rfl,h.hb,h.hg,h.hj⟩,hc8⟩
 ·have:=hbx8.set j (.slice a' (n+1) cap');rwa[List.set_set]at this
 ·refine(hs.far (λi hi=>A.2 i (by have:=h.hb;have:=h.hg;omega))).set _ _ ?_;exact h.hb
theorem LS.fin {b gb j:Nat} {w2:World} {e z:Nat} {us:List Value} {wr:World} {L:List (List D)} {a:Option Addr} {n cap:Nat} {Y:Except Er (List Tok)} (h:LS b gb j w2 e z us wr L a n cap Y):Rd wr (.row e z L) (λi=>w2.heap.size<=i) (.slice a n cap)/\Fr (λi=>i=b\/i=gb) w2 wr:=⟨h.ro.row,h.ro.fr⟩
theorem zbj {word:List UInt8} {n most:Nat} {body:List Tok->Rs} (hm:Mon body) {Y:Except Er (List Tok)} {t:Tok} {r:List Tok} {w w':World} {b:Nat} (hY:Y= .ok (t :: r)) (hs:Sr w b Y) (hs':Sr w' b (zaz (body r))):rem w' b<rem w b:=by
 subst hY;rw[ze9 hs];cases hx:body r with
 |error x=>rw[hx]at hs';rw[zi1 (x:=x) hs'];simp
 |ok q=>
  obtain⟨c,r'⟩:=q;rw[hx]at hs';rw[ze9 (r:=r') hs'];have:=hm _ _ _ hx;simp;omega
end Q
end Go.Proofs.YthceiikgecoimaaGreatDoor
