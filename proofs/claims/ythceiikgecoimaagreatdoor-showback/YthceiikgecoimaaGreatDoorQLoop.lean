/- Package show: Show of any network. -/
import Derived.Test.YthceiikgecoimaaGreatDoorSShow
import Derived.Test.YthceiikgecoimaaGreatDoorSNc
import Derived.Test.YthceiikgecoimaaGreatDoorSFwT
import Derived.Test.YthceiikgecoimaaGreatDoorQNames
namespace Go.Proofs.YthceiikgecoimaaGreatDoor
open Go.RowKit
attribute [local go_sem ↓] Go.wp_at_zero Go.wp_at_succ
set_option linter.unusedVariables false
set_option linter.unusedSimpArgs false
set_option maxRecDepth 100000
namespace S
def ShP (l:List UInt8) (w:World) (e:Ending) (w':World):Prop:=∃ v,e= .returned (.tuple #[v,.int .i64 0])/\By w' v l/\Keep w w'
theorem zrq (ds:List D):txt ds≠ []:=by simp[txt,zeF,rst]
theorem zhr {w:World} {ds:List D} {us:List Value} (hs:ShL zdo ds) (hB:zei ds=true) (hr:Rvs w ds us) (ht:Tab w):Calls Tryz.prog 6 #[.agg us.toArray] w (ShP (txt ds) w):=by
 have hs':=hs;have hr':=hr;obtain⟨op,la,hT2⟩:∃ op la,∀ w' p,Keep w w'->w.heap.size<=p->Ps w' p ⟨[],0,[]⟩->Calls Tryz.prog 13 #[.pointer (some ⟨p,0,none⟩),.agg us.toArray] w' λe w''=>e= .returned (.tuple #[])/\Pr w'' p (txt ds) op la/\Fb p w' w'':=by
  refine⟨(pss ⟨[],0,[]⟩ (zeF ds)).op,sv (pss ⟨[],0,[]⟩ (zeF ds)).la,λw' p hk hp h=>?_⟩;have:=zgE (nc (p:=p) (Nat.lt_of_lt_of_le ht.lt hp)) hp (Fb.keep hk) hs' hB hr' ⟨[],0,[]⟩ (ht.keep hk) h (zjU hB) (by have:=zhp hB;simp;omega);refine this.mono ?_;rintro e w'' ⟨rfl,h1,h2⟩;refine⟨rfl,?_,h2⟩;rw[<- zjV];exact h1
 have hT1:∀ w',Keep w w'->Calls Tryz.prog 7 #[.agg us.toArray] w' λe w''=>e= .returned (.bool true)/\Keep w' w'':=λw' hk=>by
  have:=zcY (w:=w') hs' (Rvs.keep hk _ _ hr');rw[hB]at this;exact this
 have hl:=zoX hB;have hne:=zrq ds;generalize txt ds=out at *;simp only[ShL,Sh1,zdo]at hs;obtain⟨_,_,rfl,⟨v0,rfl,_,_⟩,⟨_,_,rfl,⟨v1,rfl,_,_⟩,⟨_,_,rfl,⟨v2,rfl,_,_⟩,⟨_,_,rfl,⟨v3,rfl,_,_⟩,⟨_,_,rfl,⟨v4,rfl,_,_⟩,⟨_,_,rfl,⟨L5,rfl,_,q5⟩,⟨_,_,rfl,⟨L6,rfl,_,q6⟩,⟨_,_,rfl,⟨v7,rfl,_,_⟩,⟨_,_,rfl,⟨v8,rfl,_,_⟩,rfl⟩⟩⟩⟩⟩⟩⟩⟩⟩:=hs;simp only[Rvs,Rv,dS,dI,dB]at hr;obtain⟨_,_,rfl,rfl,⟨_,_,rfl,rfl,⟨_,_,rfl,rfl,⟨_,_,rfl,rfl,⟨_,_,rfl,rfl,⟨_,_,rfl,⟨x5,z5,rfl,y5,m5⟩,⟨_,_,rfl,⟨x6,z6,rfl,y6,m6⟩,⟨_,_,rfl,rfl,⟨_,_,rfl,rfl,rfl⟩⟩⟩⟩⟩⟩⟩⟩⟩:=hr;exact zlu v0 v1 v2 v3 v4 x5 L5.length z5 x6 L6.length z6 v7 v8 out op la w hne (by omega) (zh hT1) (zh hT2)
theorem zlv {w:World} {ds:List D} {us:List Value} (hs:ShL zdo ds) (hB:zei ds=false) (hr:Rvs w ds us):Calls Tryz.prog 6 #[.agg us.toArray] w λe w'=>e= .returned (.tuple #[.slice none 0 0,.int .i64 1])/\Keep w w':=by
 have hs':=hs;have hr':=hr;simp only[ShL,Sh1,zdo]at hs;obtain⟨_,_,rfl,⟨v0,rfl,_,_⟩,⟨_,_,rfl,⟨v1,rfl,_,_⟩,⟨_,_,rfl,⟨v2,rfl,_,_⟩,⟨_,_,rfl,⟨v3,rfl,_,_⟩,⟨_,_,rfl,⟨v4,rfl,_,_⟩,⟨_,_,rfl,⟨L5,rfl,_,q5⟩,⟨_,_,rfl,⟨L6,rfl,_,q6⟩,⟨_,_,rfl,⟨v7,rfl,_,_⟩,⟨_,_,rfl,⟨v8,rfl,_,_⟩,rfl⟩⟩⟩⟩⟩⟩⟩⟩⟩:=hs;simp only[Rvs,Rv,dS,dI,dB]at hr;obtain⟨_,_,rfl,rfl,⟨_,_,rfl,rfl,⟨_,_,rfl,rfl,⟨_,_,rfl,rfl,⟨_,_,rfl,rfl,⟨_,_,rfl,⟨x5,z5,rfl,y5,m5⟩,⟨_,_,rfl,⟨x6,z6,rfl,y6,m6⟩,⟨_,_,rfl,rfl,⟨_,_,rfl,rfl,rfl⟩⟩⟩⟩⟩⟩⟩⟩⟩:=hr;refine zo5 v0 v1 v2 v3 v4 x5 L5.length z5 x6 L6.length z6 v7 v8 w (zh λw' hk=>?_);have:=zcY (w:=w') hs' (Rvs.keep hk _ _ hr');rw[hB]at this;exact this
end S
end Go.Proofs.YthceiikgecoimaaGreatDoor
namespace Go.Proofs.YthceiikgecoimaaGreatDoor
open Go.RowKit
set_option linter.unusedVariables false
set_option linter.unusedSimpArgs false
set_option maxRecDepth 10000
namespace S
def Tg (t:Tok):Prop:=(t.k=1->rg ⟨1,t.s,0,0⟩=true)/\(0<=t.n/\t.n<=999999999999999999)/\(0<=t.p/\t.p<=70000)
theorem zsn {s:List UInt8} (h:Gs s 1 0) (hl:s.length<=65536):rg ⟨1,s,0,0⟩=true:=by
 have h1:=zoJ h [] 0 zmf;rw[List.append_nil,zme]at h1;have hT:T s= .ok [⟨1,s,0,0⟩,⟨0,[],0,((0+s.length:Nat):Int)⟩]:=by
  unfold T
  rw[if_neg (by omega),h1]
  rfl
 rw[zq2 (t:=⟨1,s,0,0⟩) hT];simp
theorem zhs (P:UInt8->Bool):∀ r:List UInt8,tw P (r.take (tw P r))=tw P r
 | []=>rfl
 |c :: r=>by
  have ih:=zhs P r;unfold tw at ih |-
  rw[List.takeWhile_cons];by_cases h:P c=true
  ·rw[if_pos h,List.length_cons,List.take_succ_cons,List.takeWhile_cons,if_pos h,List.length_cons,ih]
  ·rw[if_neg h];simp
theorem zfl {r:List UInt8} {p:Nat} {t:Tok} (h:one r p= .ok t) (hk:t.k=1):Gs t.s 1 0/\t.s.length<=24:=by
 cases r with
 |nil=>simp only[one,Except.ok.injEq]at h;subst h;simp at hk
 |cons c r=>
  have h0:=zcS h;simp only[one]at h;split at h
  ·rename_i h4
   split at h
   ·cases h
   ·rename_i h24
    simp only[Except.ok.injEq]at h;subst h;have et:(c :: r).take (en (c :: r))=c :: r.take (tw (zcs c) r):=by
     simp only[en];rw[Nat.add_comm,List.take_succ_cons]
    have hl:((c :: r).take (en (c :: r))).length<=24:=by rw[List.length_take];omega
    simp only at hl |-;rw[et]at hl |-;have en2:en (c :: r.take (tw (zcs c) r))=(c :: r.take (tw (zcs c) r)).length:=by
     simp only[en];rw[zhs,List.length_cons,List.length_take];have:=zpB (zcs c) r;omega
    refine⟨⟨by decide,?_,?_⟩,hl⟩
    ·simp only[one];rw[if_pos h4,if_neg (by rw[en2];omega),en2,List.take_length]
     rfl
    ·simp only[skp];rw[if_neg (by omega),if_neg (by omega)]
  ·split at h
   ·split at h
    ·cases h
    ·simp only[Except.ok.injEq]at h;subst h;simp at hk
   ·split at h
    ·simp only[Except.ok.injEq]at h;subst h;simp at hk
    ·cases h
theorem zd6:∀(l:List UInt8) (v:Int),(∀ c∈l,kd c.toNat=5)->0<=v->0<=l.foldl (λv c=>v * 10+((c.toNat:Int) - 48)) v/\l.foldl (λv c=>v * 10+((c.toNat:Int) - 48)) v<(v+1) * (10:Int) ^ l.length
 | [],v,_,hv=>by simp only[List.foldl_nil,List.length_nil,Int.pow_zero,Int.mul_one];omega
 |c :: l,v,h,hv=>by
  have hc:=(zl0 _).1 (h c List.mem_cons_self);have ih:=zd6 l (v * 10+((c.toNat:Int) - 48)) (λx hx=>h x (List.mem_cons_of_mem _ hx)) (by omega);rw[List.foldl_cons];refine⟨ih.1,Int.lt_of_lt_of_le ih.2 ?_⟩;rw[List.length_cons,Int.pow_succ,Int.mul_comm ((10:Int) ^ l.length) 10,<- Int.mul_assoc];refine Int.mul_le_mul_of_nonneg_right (by omega) ?_;exact Int.le_of_lt (Int.pow_pos (by decide))
theorem zms {P:UInt8->Bool} :∀(r:List UInt8) (x:UInt8),x∈r.take (tw P r)->P x=true
 | [],x,h=>by simp at h
 |c :: r,x,h=>by
  unfold tw at h
  rw[List.takeWhile_cons]at h;by_cases hc:P c=true
  ·rw[if_pos hc,List.length_cons,List.take_succ_cons]at h;rcases List.mem_cons.1 h with rfl|h
   ·exact hc
   ·exact zms r x h
  ·rw[if_neg hc]at h;simp at h
theorem zrr {r:List UInt8} {p:Nat} {t:Tok} (h:one r p= .ok t):0<=t.n/\t.n<=999999999999999999:=by
 cases r with
 |nil=>simp only[one,Except.ok.injEq]at h;subst h;simp
 |cons c r=>
  simp only[one]at h;split at h
  ·split at h
   ·cases h
   ·simp only[Except.ok.injEq]at h;subst h;simp
  ·split at h
   ·rename_i h4 h5
    split at h
    ·cases h
    ·rename_i h18
     simp only[Except.ok.injEq]at h;subst h;have et:(c :: r).take (en (c :: r))=c :: r.take (tw (zcs c) r):=by
      simp only[en];rw[Nat.add_comm,List.take_succ_cons]
     have hl:((c :: r).take (en (c :: r))).length<=18:=by rw[List.length_take];omega
     have hall:∀ x∈(c :: r).take (en (c :: r)),kd x.toNat=5:=by
      intro x hx
      rw[et]at hx;rcases List.mem_cons.1 hx with rfl|hx
      ·exact h5
      ·have:=zms r x hx;unfold zcs at this
       rw[zde]at this;omega
     have hb:=zd6 _ 0 hall (Int.le_refl 0);simp only;unfold num
     refine⟨hb.1,?_⟩;have h2:((10:Int) ^ ((c :: r).take (en (c :: r))).length)<=10 ^ 18:=by
      have:=Nat.pow_le_pow_right (show 0<10 by decide) hl
      exact_mod_cast this
     have:=hb.2;rw[Int.zero_add,Int.one_mul]at this;omega
   ·split at h
    ·simp only[Except.ok.injEq]at h;subst h;simp
    ·cases h
theorem zrs:∀(n:Nat) (r:List UInt8) (p:Nat) (L:List Tok),r.length<=n->p+r.length<=70000->tk r p= .ok L->∀ t∈L,Tg t
 |n,r,p,L,hn,hp,h=>by
  rcases zdm h with ⟨rfl,_⟩|⟨t,M,rfl,h1,h2,h3,_,h5,h6,h7⟩
  ·intro t ht
   simp only[List.mem_singleton]at ht;subst ht;exact⟨by simp,by simp,by simp;omega⟩
  ·cases n with
   |zero=>omega
   |succ n=>
    intro u hu
    rcases List.mem_cons.1 hu with rfl|hu
    ·refine⟨λhk=>?_,zrr h1,?_⟩
     ·have:=zfl h1 hk;exact zsn this.1 (by omega)
     ·have:=(zcS h1).1;rw[this];omega
    ·exact zrs n _ _ M (by rw[List.length_drop];omega) (by rw[List.length_drop];omega) h7 u hu
def RgC (p:Sp) (Q:List D->Prop):Prop:=∀ c r c' r',(∀ t∈r,Tg t)->p c r= .ok (c',r')->(∀ t∈r',Tg t)/\∃ d,c'=c++d/\Q d
theorem zgb {t:Tok} {r:List Tok} (h:∀ x∈t :: r,Tg x):Tg t/\∀ x∈r,Tg x:=⟨h t List.mem_cons_self,λx hx=>h x (List.mem_cons_of_mem _ hx)⟩
theorem zbj (s:List UInt8):RgC (zad s) (λd=>d= []):=λc r c' r' hr h=>by
 obtain⟨e,t,rfl⟩:=zdO h;exact⟨(zgb hr).2,[],by simp[e],rfl⟩
theorem zcZ:RgC zai (λd=>∃ s,d= [dS s]/\nmB s=true/\s.length<=24):=λc r c' r' hr h=>by
 cases r with
 |nil=>simp[zai,bad]at h
 |cons t r=>
  simp only[zai]at h;split at h
  ·rename_i hk
   simp only[Except.ok.injEq,Prod.mk.injEq]at h;obtain⟨rfl,rfl⟩:=h;have hg:=(zgb hr).1.1 hk.1;have hB:nmB t.s=true:=by unfold nmB;rw[hg];simp[hk.2]
   exact⟨(zgb hr).2,_,rfl,t.s,rfl,hB,zbq hB⟩
  ·exact absurd h zb6
theorem zcK:RgC zar (λd=>∃ n,d= [dI n]/\nuB n=true):=λc r c' r' hr h=>by
 obtain⟨t,e,rfl⟩:=zfi h;have:=(zgb hr).1.2.1;exact⟨(zgb hr).2,_,e,t.n,rfl,by unfold nuB;exact decide_eq_true this⟩
theorem zh8:RgC zaO (λd=>∃ n,d= [dI n]/\0<=n/\n<=70000):=λc r c' r' hr h=>by
 cases r with
 |nil=>simp[zaO,bad]at h
 |cons t r=>
  simp only[zaO,Except.ok.injEq,Prod.mk.injEq]at h;obtain⟨rfl,rfl⟩:=h;exact⟨hr,_,rfl,t.p,rfl,(zgb hr).1.2.2⟩
theorem zso:RgC zc5 (λd=>d= []):=λc r c' r' hr h=>by
 cases r with
 |nil=>simp[zc5,bad]at h
 |cons t r=>
  simp only[zc5]at h;split at h
  ·simp only[Except.ok.injEq,Prod.mk.injEq]at h;obtain⟨rfl,rfl⟩:=h;exact⟨hr,[],by simp,rfl⟩
  ·exact absurd h zb6
theorem zh9 (s:List UInt8):RgC (zaX s) (λd=>∃ b,d= [dB b]):=λc r c' r' hr h=>by
 cases r with
 |nil=>simp[zaX,bad]at h
 |cons t r=>
  simp only[zaX]at h;split at h
  ·simp only[Except.ok.injEq,Prod.mk.injEq]at h;obtain⟨rfl,rfl⟩:=h;exact⟨(zgb hr).2,_,rfl,_,rfl⟩
  ·simp only[Except.ok.injEq,Prod.mk.injEq]at h;obtain⟨rfl,rfl⟩:=h;exact⟨hr,_,rfl,_,rfl⟩
theorem zeH:RgC (sq []) (λd=>d= []):=λc r c' r' hr h=>by
 have:=zfO h;simp only[Prod.mk.injEq]at this;obtain⟨rfl,rfl⟩:=this;exact⟨hr,[],by simp,rfl⟩
theorem zaq {p:Sp} {ps:List Sp} {Q R:List D->Prop} (hp:RgC p Q) (h2:RgC (sq ps) R):RgC (sq (p :: ps)) (λd=>∃ d1 d2,d=d1++d2/\Q d1/\R d2):=λc r c' r' hr h=>by
 obtain⟨c1,r1,k1,k2⟩:=zcV h;obtain⟨hr1,d1,rfl,q1⟩:=hp _ _ _ _ hr k1;obtain⟨hr2,d2,e,q2⟩:=h2 _ _ _ _ hr1 k2;exact⟨hr2,d1++d2,by rw[e,List.append_assoc],d1,d2,rfl,q1,q2⟩
theorem zmt:RgC zba (λd=>∃ a b,d= [dI a,dI b]/\nuB a=true/\nuB b=true):=λc r c' r' hr h=>by
 obtain⟨hr',d,e,d1,d2,rfl,⟨a,rfl,ha⟩,d3,d4,rfl,rfl,d5,d6,rfl,⟨b,rfl,hb⟩,rfl⟩:=zaq zcK (zaq (zbj _) (zaq zcK zeH)) c r c' r' hr h;exact⟨hr',_,e,a,b,rfl,ha,hb⟩
theorem zo7:RgC zaI (λd=>∃ n,d= [dI n]/\grB n=true):=λc r c' r' hr h=>by
 simp only[zaI]at h;split at h
 ·cases h
 ·rename_i b n r1 h1
  simp only[Except.ok.injEq,Prod.mk.injEq]at h;obtain⟨rfl,rfl⟩:=h;obtain⟨hr',d,e,d1,d2,rfl,⟨b',rfl⟩,d3,d4,rfl,⟨m,rfl,hm⟩,rfl⟩:=zaq (zh9 _) (zaq zcK zeH) [] r _ _ hr h1;simp only[List.nil_append,List.append_nil,List.cons_append,List.cons.injEq,dI,dB,D.val.injEq,Value.int.injEq,true_and,and_true]at e;obtain⟨_,rfl⟩:=e;refine⟨hr',_,rfl,_,rfl,?_⟩;unfold nuB at hm
  have:=of_decide_eq_true hm;unfold grB
  refine decide_eq_true ?_;split<;>omega
 ·cases h
theorem zrt (most:Nat):∀(f:Nat) (L:List (List D)) (r:List Tok) (L':List (List D)) (r':List Tok),(∀ t∈r,Tg t)->(∀ x∈L,∃ s,x= [dS s]/\nmB s=true/\s.length<=24)->nmz most f L r= .ok (L',r')->(∀ t∈r',Tg t)/\∀ x∈L',∃ s,x= [dS s]/\nmB s=true/\s.length<=24
 |0,_,_,_,_,_,_,h=>by simp[nmz]at h
 |f+1,L,r,L',r',hr,hL,h=>by
  simp only[nmz]at h;split at h
  ·cases h
  ·rename_i d r1 h1
   obtain⟨hr1,d',e,s,rfl,hB,hs⟩:=zcZ _ _ _ _ hr h1;have hd:∀ x∈L++ [d],∃ s,x= [dS s]/\nmB s=true/\s.length<=24:=λx hx=>by
    rcases List.mem_append.1 hx with hx|hx
    ·exact hL x hx
    ·simp only[List.mem_singleton]at hx;subst hx;exact⟨s,by simpa using e,hB,hs⟩
   split at h
   ·split at h<;>cases h
   ·split at h
    ·rename_i r2 h2
     exact zrt most f _ _ _ _ (zh9 _ _ _ _ _ hr1 h2).1 hd h
    ·rename_i r2 _ h2
     simp only[Except.ok.injEq,Prod.mk.injEq]at h;obtain⟨rfl,rfl⟩:=h;exact⟨(zh9 _ _ _ _ _ hr1 h2).1,hd⟩
    ·cases h
def NmR (most:Nat) (L:List (List D)):Prop:=zcP 1 most zfW L=true/\∀ x∈L,ShL zcd x
theorem zru {x:List D} (h:∃ s,x= [dS s]/\nmB s=true/\s.length<=24):zfW x=true/\ShL zcd x:=by
 obtain⟨s,rfl,h1,h2⟩:=h;refine⟨h1,?_⟩;simp only[ShL,Sh1,zcd];exact⟨_,_,rfl,⟨s,rfl,by unfold maxLen;omega⟩,rfl⟩
theorem zj1 (e most:Nat):RgC (zas e most) (λd=>∃ L,d= [.row e 1 L]/\NmR most L/\L.length<=most):=λc r c' r' hr h=>by
 obtain⟨L,e1,e2,e3⟩:=zfP h;simp only[zas]at h;split at h
 ·cases h
 ·rename_i L2 r1 h1
  simp only[Except.ok.injEq,Prod.mk.injEq]at h;have:L2=L:=by have:=h.1;rw[e1]at this;simpa using this
  subst this;obtain⟨hr1,hL⟩:=zrt most _ _ _ _ _ hr (λx hx=>by cases hx) h1;rw[h.2]at hr1;refine⟨hr1,_,e1,L2,rfl,⟨?_,λx hx=>(zru (hL x hx)).2⟩,e3⟩;unfold zcP
  rw[decide_eq_true ⟨e2,e3⟩,Bool.true_and,List.all_eq_true];exact λx hx=>(zru (hL x hx)).1
def RgB (body:List Tok->Rs) (Q:List D->Prop):Prop:=∀ r d r',(∀ t∈r,Tg t)->body r= .ok (d,r')->(∀ t∈r',Tg t)/\Q d
theorem zrv (word:List UInt8) (most:Nat) (body:List Tok->Rs) (Q:List D->Prop) (hQ:RgB body Q):∀(f:Nat) (L:List (List D)) (r:List Tok) (L':List (List D)) (r':List Tok),(∀ t∈r,Tg t)->L.length<=most->(∀ d∈L,Q d)->rwz word most body f L r= .ok (L',r')->(∀ t∈r',Tg t)/\L'.length<=most/\∀ d∈L',Q d
 |0,_,_,_,_,_,_,_,h=>by simp[rwz]at h
 |f+1,L,r,L',r',hr,hl,hL,h=>by
  cases r with
  |nil=>simp[rwz]at h
  |cons t r=>
   simp only[rwz]at h;split at h
   ·split at h
    ·cases h
    ·rename_i hne
     split at h
     ·cases h
     ·rename_i d r1 h1
      obtain⟨hr1,hd⟩:=hQ _ _ _ (zgb hr).2 h1;refine zrv word most body Q hQ f _ _ _ _ hr1 (by simp;omega) (λx hx=>?_) h;rcases List.mem_append.1 hx with hx|hx
      ·exact hL x hx
      ·simp only[List.mem_singleton]at hx;subst hx;exact hd
   ·simp only[Except.ok.injEq,Prod.mk.injEq]at h;obtain⟨rfl,rfl⟩:=h;exact⟨hr,hl,hL⟩
theorem zgc {word:List UInt8} {most e z:Nat} {body:List Tok->Rs} {Q:List D->Prop} (hQ:RgB body Q):RgC (zaL word most e z body) (λd=>∃ L,d= [.row e z L]/\L.length<=most/\∀ y∈L,Q y):=λc r c' r' hr h=>by
 simp only[zaL]at h;split at h
 ·cases h
 ·rename_i L r1 h1
  simp only[Except.ok.injEq,Prod.mk.injEq]at h;obtain⟨rfl,rfl⟩:=h;obtain⟨k1,k2,k3⟩:=zrv word most body Q hQ _ _ _ _ _ hr (Nat.zero_le _) (λd hd=>by cases hd) h1;exact⟨k1,_,rfl,L,rfl,k2,k3⟩
theorem zc0 {lo hi:Nat} {B:List D->Bool} {L:List (List D)} (h1:lo<=L.length) (h2:L.length<=hi) (h:∀ x∈L,B x=true):zcP lo hi B L=true:=by
 unfold zcP
 rw[decide_eq_true ⟨h1,h2⟩,Bool.true_and,List.all_eq_true];exact h
theorem zrw {n:Int} (h:nuB n=true):0<=n/\n<=999999999999999999:=by unfold nuB at h;exact of_decide_eq_true h
theorem zsM {n:Int} (h:grB n=true): -9223372036854775808<=n/\n<=9223372036854775807:=by unfold grB at h;have:=of_decide_eq_true h;omega
theorem zcD {n:Int} (h:nuB n=true): -9223372036854775808<=n/\n<=9223372036854775807:=by have:=zrw h;omega
end S
namespace S
theorem zj2 (n:Int):fI (dI n)=n:=rfl
theorem zht (e z:Nat) (L:List (List D)):fL (.row e z L)=L:=rfl
theorem zo8:RgB zbT (λd=>ShL zdT d/\zeS d=true):=λr d r' hr h=>by
 obtain⟨c1,h1,rfl⟩:=zby h;obtain⟨hr2,dd,e,x0,y0,rfl,⟨p0,rfl,hp0,hp1⟩,x1,y1,rfl,⟨s0,rfl,n0,m0⟩,x2,y2,rfl,rfl,x3,y3,rfl,⟨u1,rfl,v1⟩,x4,y4,rfl,rfl,x5,y5,rfl,⟨u2,rfl,v2⟩,x6,y6,rfl,rfl,x7,y7,rfl,⟨u3,u4,rfl,v3,v4⟩,x8,y8,rfl,rfl,x9,y9,rfl,⟨u5,rfl,v5⟩,x10,y10,rfl,rfl,x11,y11,rfl,⟨u6,rfl,v6⟩,x12,y12,rfl,rfl,x13,y13,rfl,⟨u7,rfl,v7⟩,x14,y14,rfl,rfl,x15,y15,rfl,⟨u8,rfl,v8⟩,x16,y16,rfl,rfl,x17,y17,rfl,⟨u9,rfl,v9⟩,x18,y18,rfl,rfl,rfl⟩:=(zaq zh8 (zaq zcZ (zaq (zbj _) (zaq zcK (zaq (zbj _) (zaq zcK (zaq (zbj _) (zaq zmt (zaq (zbj _) (zaq zcK (zaq (zbj _) (zaq zo7 (zaq (zbj _) (zaq zcK (zaq (zbj _) (zaq zcK (zaq (zbj _) (zaq zcK (zaq (zbj _) zeH))))))))))))))))))) [] r _ _ hr h1;simp only[List.nil_append,List.cons_append,List.append_nil]at e;subst e;refine⟨hr2,?_,?_⟩
 ·simp only[rot,List.cons_append,List.nil_append,ShL,Sh1,zdT];exact⟨_,_,rfl,⟨_,rfl,by unfold maxLen;omega⟩,⟨_,_,rfl,⟨_,rfl,(zcD v1).1,(zcD v1).2⟩,⟨_,_,rfl,⟨_,rfl,(zcD v2).1,(zcD v2).2⟩,⟨_,_,rfl,⟨_,rfl,(zcD v3).1,(zcD v3).2⟩,⟨_,_,rfl,⟨_,rfl,(zcD v4).1,(zcD v4).2⟩,⟨_,_,rfl,⟨_,rfl,(zcD v5).1,(zcD v5).2⟩,⟨_,_,rfl,⟨_,rfl,(zsM v6).1,(zsM v6).2⟩,⟨_,_,rfl,⟨_,rfl,(zcD v7).1,(zcD v7).2⟩,⟨_,_,rfl,⟨_,rfl,(zcD v8).1,(zcD v8).2⟩,⟨_,_,rfl,⟨_,rfl,(zcD v9).1,(zcD v9).2⟩,⟨_,_,rfl,⟨_,rfl,((show -9223372036854775808<=p0/\p0<=9223372036854775807 by omega)).1,((show -9223372036854775808<=p0/\p0<=9223372036854775807 by omega)).2⟩,rfl⟩⟩⟩⟩⟩⟩⟩⟩⟩⟩⟩
 ·simp[rot,zeS,zfr,gt,zdA,zj2,n0,v1,v2,v3,v4,v5,v6,v7,v8,v9]
theorem zo9:RgB zbY (λd=>ShL zhI d/\zfs d=true):=λr d r' hr h=>by
 obtain⟨c1,h1,rfl⟩:=zby h;obtain⟨hr2,dd,e,x0,y0,rfl,⟨p0,rfl,hp0,hp1⟩,x1,y1,rfl,⟨s0,rfl,n0,m0⟩,x2,y2,rfl,rfl,x3,y3,rfl,⟨s1,rfl,n1,m1⟩,x4,y4,rfl,rfl,x5,y5,rfl,⟨u2,rfl,v2⟩,x6,y6,rfl,rfl,x7,y7,rfl,⟨u3,rfl,v3⟩,x8,y8,rfl,rfl,x9,y9,rfl,⟨u4,rfl,v4⟩,x10,y10,rfl,rfl,rfl⟩:=(zaq zh8 (zaq zcZ (zaq (zbj _) (zaq zcZ (zaq (zbj _) (zaq zcK (zaq (zbj _) (zaq zcK (zaq (zbj _) (zaq zcK (zaq (zbj _) zeH))))))))))) [] r _ _ hr h1;simp only[List.nil_append,List.cons_append,List.append_nil]at e;subst e;refine⟨hr2,?_,?_⟩
 ·simp only[rot,List.cons_append,List.nil_append,ShL,Sh1,zhI];exact⟨_,_,rfl,⟨_,rfl,by unfold maxLen;omega⟩,⟨_,_,rfl,⟨_,rfl,by unfold maxLen;omega⟩,⟨_,_,rfl,⟨_,rfl,(zcD v2).1,(zcD v2).2⟩,⟨_,_,rfl,⟨_,rfl,(zcD v3).1,(zcD v3).2⟩,⟨_,_,rfl,⟨_,rfl,(zcD v4).1,(zcD v4).2⟩,⟨_,_,rfl,⟨_,rfl,((show -9223372036854775808<=p0/\p0<=9223372036854775807 by omega)).1,((show -9223372036854775808<=p0/\p0<=9223372036854775807 by omega)).2⟩,rfl⟩⟩⟩⟩⟩⟩
 ·simp[rot,zfs,zfr,gt,zdA,zj2,n0,n1,v2,v3,v4]
theorem zrx:RgB zeR (λd=>ShL zhJ d/\zk4 d=true):=λr d r' hr h=>by
 obtain⟨c1,h1,rfl⟩:=zby h;obtain⟨hr2,dd,e,x0,y0,rfl,⟨p0,rfl,hp0,hp1⟩,x1,y1,rfl,⟨s0,rfl,n0,m0⟩,x2,y2,rfl,⟨s1,rfl,n1,m1⟩,x3,y3,rfl,rfl,rfl⟩:=(zaq zh8 (zaq zcZ (zaq zcZ (zaq (zbj _) zeH)))) [] r _ _ hr h1;simp only[List.nil_append,List.cons_append,List.append_nil]at e;subst e;refine⟨hr2,?_,?_⟩
 ·simp only[rot,List.cons_append,List.nil_append,ShL,Sh1,zhJ];exact⟨_,_,rfl,⟨_,rfl,by unfold maxLen;omega⟩,⟨_,_,rfl,⟨_,rfl,by unfold maxLen;omega⟩,⟨_,_,rfl,⟨_,rfl,((show -9223372036854775808<=p0/\p0<=9223372036854775807 by omega)).1,((show -9223372036854775808<=p0/\p0<=9223372036854775807 by omega)).2⟩,rfl⟩⟩⟩
 ·simp[rot,zk4,zfr,gt,zdA,zj2,n0,n1]
theorem zpa:RgB zbH (λd=>ShL zdz d/\zeU d=true):=λr d r' hr h=>by
 obtain⟨c1,h1,rfl⟩:=zby h;obtain⟨hr2,dd,e,x0,y0,rfl,⟨p0,rfl,hp0,hp1⟩,x1,y1,rfl,⟨s0,rfl,n0,m0⟩,x2,y2,rfl,rfl,x3,y3,rfl,⟨s1,rfl,n1,m1⟩,x4,y4,rfl,rfl,x5,y5,rfl,⟨s2,rfl,n2,m2⟩,x6,y6,rfl,rfl,x7,y7,rfl,⟨u3,rfl,v3⟩,x8,y8,rfl,rfl,x9,y9,rfl,⟨u4,rfl,v4⟩,x10,y10,rfl,rfl,rfl⟩:=(zaq zh8 (zaq zcZ (zaq (zbj _) (zaq zcZ (zaq (zbj _) (zaq zcZ (zaq (zbj _) (zaq zcK (zaq (zbj _) (zaq zcK (zaq (zbj _) zeH))))))))))) [] r _ _ hr h1;simp only[List.nil_append,List.cons_append,List.append_nil]at e;subst e;refine⟨hr2,?_,?_⟩
 ·simp only[rot,List.cons_append,List.nil_append,ShL,Sh1,zdz];exact⟨_,_,rfl,⟨_,rfl,by unfold maxLen;omega⟩,⟨_,_,rfl,⟨_,rfl,by unfold maxLen;omega⟩,⟨_,_,rfl,⟨_,rfl,by unfold maxLen;omega⟩,⟨_,_,rfl,⟨_,rfl,(zcD v3).1,(zcD v3).2⟩,⟨_,_,rfl,⟨_,rfl,(zcD v4).1,(zcD v4).2⟩,⟨_,_,rfl,⟨_,rfl,((show -9223372036854775808<=p0/\p0<=9223372036854775807 by omega)).1,((show -9223372036854775808<=p0/\p0<=9223372036854775807 by omega)).2⟩,rfl⟩⟩⟩⟩⟩⟩
 ·simp[rot,zeU,zfr,gt,zdA,zj2,n0,n1,n2,v3,v4]
theorem zlw:RgB zbm (λd=>ShL zb9 d/\zdx d=true):=λr d r' hr h=>by
 obtain⟨c1,h1,rfl⟩:=zby h;obtain⟨hr2,dd,e,x0,y0,rfl,⟨p0,rfl,hp0,hp1⟩,x1,y1,rfl,⟨s0,rfl,n0,m0⟩,x2,y2,rfl,rfl,x3,y3,rfl,⟨L,rfl,hL,hl⟩,x4,y4,rfl,rfl,rfl⟩:=(zaq zh8 (zaq zcZ (zaq (zbj _) (zaq (zj1 _ _) (zaq (zbj _) zeH))))) [] r _ _ hr h1;simp only[List.nil_append,List.cons_append,List.append_nil]at e;subst e;refine⟨hr2,?_,?_⟩
 ·simp only[rot,List.cons_append,List.nil_append,ShL,Sh1,zb9];exact⟨_,_,rfl,⟨_,rfl,by unfold maxLen;omega⟩,⟨_,_,rfl,⟨_,rfl,by unfold maxLen;omega,hL.2⟩,⟨_,_,rfl,⟨_,rfl,by omega,by omega⟩,rfl⟩⟩⟩
 ·simp[rot,zdx,gt,zdA,zht,n0,hL.1]
theorem zpb:RgB zaV (λd=>ShL zfX d/\zeT d=true):=λr d r' hr h=>by
 obtain⟨hr2,dd,e,x0,y0,rfl,⟨f0,rfl⟩,x1,y1,rfl,⟨L,rfl,hL,hl⟩,x2,y2,rfl,rfl,rfl⟩:=(zaq (zh9 _) (zaq (zj1 _ _) (zaq (zbj _) zeH))) [] r _ _ hr h;simp only[List.nil_append,List.cons_append,List.append_nil]at e;subst e;refine⟨hr2,?_,?_⟩
 ·simp only[ShL,Sh1,zfX];exact⟨_,_,rfl,⟨_,rfl⟩,⟨_,_,rfl,⟨_,rfl,by unfold maxLen;omega,hL.2⟩,rfl⟩⟩
 ·simp[zeT,gt,zht,hL.1]
theorem zlx:RgB zbl (λd=>ShL zca d/\zdy d=true):=λr d r' hr h=>by
 obtain⟨c1,r1,k1,k2⟩:=zcV h;obtain⟨c2,r2,k3,k4⟩:=zcV k2;obtain⟨c3,r3,k5,k6⟩:=zcV k4;obtain⟨c4,r4,k7,k8⟩:=zcV k6;obtain⟨g1,d1,e1,rfl⟩:=zbj _ _ _ _ _ hr k1;obtain⟨g2,d2,e2,L,rfl,hl,hL⟩:=zgc zpb _ _ _ _ g1 k3;have g3:(∀ t∈r3,Tg t)/\c3=c2/\∀ e z,c2≠ [.row e z []]:=by
  have h5:=zg8 k5;have h6:r3=r2:=by
   unfold zbX at k5
   split at k5
   ·exact absurd k5 zb6
   ·simp only[Except.ok.injEq,Prod.mk.injEq]at k5;exact k5.2.symm
  rw[h6];exact⟨g2,h5.1,h5.2⟩
 obtain⟨g4,d4,e4,rfl⟩:=zbj _ _ _ _ _ g3.1 k7;have k9:=zfO k8;simp only[Prod.mk.injEq]at k9;obtain⟨rfl,rfl⟩:=k9;simp only[List.nil_append,List.append_nil]at e1 e2 e4;subst e1;simp only[List.nil_append]at e2;rw[e4,g3.2.1,e2];have hne:=g3.2.2;rw[e2]at hne;have h1:1<=L.length:=by
  cases L with
  |nil=>exact absurd rfl (hne _ _)
  |cons x xs=>simp
 refine⟨g4,?_,?_⟩
 ·simp only[ShL,Sh1,zca];exact⟨_,_,rfl,⟨_,rfl,by unfold maxLen;omega,λx hx=>(hL x hx).1⟩,rfl⟩
 ·show zcP 1 2 zeT L=true;exact zc0 h1 hl (λx hx=>(hL x hx).2)
theorem zpc:RgB zb5 (λd=>ShL zcx d/\zeC d=true):=λr d r' hr h=>by
 obtain⟨c1,h1,rfl⟩:=zby h;obtain⟨hr2,dd,e,x0,y0,rfl,⟨p0,rfl,hp0,hp1⟩,x1,y1,rfl,⟨s0,rfl,n0,m0⟩,x2,y2,rfl,rfl,x3,y3,rfl,⟨L1,rfl,l1,g1⟩,x4,y4,rfl,⟨L2,rfl,l2,g2⟩,x5,y5,rfl,⟨L3,rfl,l3,g3⟩,x6,y6,rfl,⟨L4,rfl,l4,g4⟩,x7,y7,rfl,⟨L5,rfl,l5,g5⟩,x8,y8,rfl,rfl,rfl⟩:=(zaq zh8 (zaq zcZ (zaq (zbj _) (zaq (zgc zo8) (zaq (zgc zo9) (zaq (zgc zlw) (zaq (zgc zlx) (zaq (zgc zrx) (zaq (zbj _) zeH))))))))) [] r _ _ hr h1;simp only[List.nil_append,List.cons_append,List.append_nil]at e;subst e;refine⟨hr2,?_,?_⟩
 ·simp only[rot,List.cons_append,List.nil_append,ShL,Sh1,zcx];exact⟨_,_,rfl,⟨_,rfl,by unfold maxLen;omega⟩,⟨_,_,rfl,⟨_,rfl,by unfold maxLen;omega,λx hx=>(g1 x hx).1⟩,⟨_,_,rfl,⟨_,rfl,by unfold maxLen;omega,λx hx=>(g2 x hx).1⟩,⟨_,_,rfl,⟨_,rfl,by unfold maxLen;omega,λx hx=>(g3 x hx).1⟩,⟨_,_,rfl,⟨_,rfl,by unfold maxLen;omega,λx hx=>(g4 x hx).1⟩,⟨_,_,rfl,⟨_,rfl,by unfold maxLen;omega,λx hx=>(g5 x hx).1⟩,⟨_,_,rfl,⟨_,rfl,by omega,by omega⟩,rfl⟩⟩⟩⟩⟩⟩⟩
 ·have b1:=zc0 (lo:=0) (Nat.zero_le _) l1 (λx hx=>(g1 x hx).2);have b2:=zc0 (lo:=0) (Nat.zero_le _) l2 (λx hx=>(g2 x hx).2);have b3:=zc0 (lo:=0) (Nat.zero_le _) l3 (λx hx=>(g3 x hx).2);have b4:=zc0 (lo:=0) (Nat.zero_le _) l4 (λx hx=>(g4 x hx).2);have b5:=zc0 (lo:=0) (Nat.zero_le _) l5 (λx hx=>(g5 x hx).2);simp[rot,zeC,gt,zdA,zht,n0,b1,b2,b3,b4,b5]
theorem zsp:RgC zcT (λd=>∃ L x y,d= [.row 48 6 L,dI x,dI y]/\L.length<=12/\(∀ z∈L,ShL zdz z/\zeU z=true)/\nuB x=true/\nuB y=true):=λc r c' r' hr h=>by
 unfold zcT at h
 split at h
 ·cases h
 ·rename_i r1 h1
  have hr1:=(zh9 _ _ _ _ _ hr h1).1;obtain⟨hr2,dd,e,x0,y0,rfl,rfl,x1,y1,rfl,⟨L,rfl,l0,g0⟩,x2,y2,rfl,rfl,x3,y3,rfl,⟨u7,rfl,v7⟩,x4,y4,rfl,⟨u8,rfl,v8⟩,x5,y5,rfl,rfl,x6,y6,rfl,rfl,rfl⟩:=(zaq (zbj _) (zaq (zgc zpa) (zaq (zbj _) (zaq zcK (zaq zcK (zaq (zbj _) (zaq (zbj _) zeH))))))) c r1 _ _ hr1 h;exact⟨hr2,_,e,L,u7,u8,rfl,l0,g0,v7,v8⟩
 ·rename_i r1 _ h1
  simp only[Except.ok.injEq,Prod.mk.injEq]at h;obtain⟨rfl,rfl⟩:=h;exact⟨(zh9 _ _ _ _ _ hr h1).1,_,rfl,[],0,0,rfl,by simp,(λz hz=>by cases hz),rfl,rfl⟩
theorem zfa {l:List UInt8} {cs:List D} (h:N l= .ok cs):ShL zdo cs/\zei cs=true:=by
 unfold N at h
 cases hT:T l with
 |error x=>rw[hT]at h;cases h
 |ok L=>
  rw[hT]at h;simp only at h;have hl:=(zl7 hT).1;have hr:=zrs l.length l 0 L (Nat.le_refl _) (by omega) (zl7 hT).2;cases hp:zeg L with
  |error x=>rw[hp]at h;cases h
  |ok q=>
   obtain⟨c,s⟩:=q;rw[hp]at h;simp only[Except.ok.injEq]at h;subst h;obtain⟨hr2,dd,e,x0,y0,rfl,rfl,x1,y1,rfl,⟨u0,rfl,v0⟩,x2,y2,rfl,rfl,x3,y3,rfl,⟨u1,rfl,v1⟩,x4,y4,rfl,rfl,x5,y5,rfl,⟨u2,rfl,v2⟩,x6,y6,rfl,rfl,x7,y7,rfl,rfl,x8,y8,rfl,⟨u3,u4,rfl,v3,v4⟩,x9,y9,rfl,rfl,x10,y10,rfl,⟨L5,rfl,l5,g5⟩,x11,y11,rfl,⟨L6,u7,u8,rfl,l6,g6,v7,v8⟩,x12,y12,rfl,rfl,rfl⟩:=(zaq (zbj _) (zaq zcK (zaq (zbj _) (zaq zcK (zaq (zbj _) (zaq zcK (zaq (zbj _) (zaq (zbj _) (zaq zmt (zaq (zbj _) (zaq (zgc zpc) (zaq zsp (zaq zso zeH))))))))))))) [] L _ _ hr hp;simp only[List.nil_append,List.cons_append,List.append_nil]at e;subst e;refine⟨?_,?_⟩
   ·simp only[ShL,Sh1,zdo];exact⟨_,_,rfl,⟨_,rfl,(zcD v0).1,(zcD v0).2⟩,⟨_,_,rfl,⟨_,rfl,(zcD v1).1,(zcD v1).2⟩,⟨_,_,rfl,⟨_,rfl,(zcD v2).1,(zcD v2).2⟩,⟨_,_,rfl,⟨_,rfl,(zcD v3).1,(zcD v3).2⟩,⟨_,_,rfl,⟨_,rfl,(zcD v4).1,(zcD v4).2⟩,⟨_,_,rfl,⟨_,rfl,by unfold maxLen;omega,λx hx=>(g5 x hx).1⟩,⟨_,_,rfl,⟨_,rfl,by unfold maxLen;omega,λx hx=>(g6 x hx).1⟩,⟨_,_,rfl,⟨_,rfl,(zcD v7).1,(zcD v7).2⟩,⟨_,_,rfl,⟨_,rfl,(zcD v8).1,(zcD v8).2⟩,rfl⟩⟩⟩⟩⟩⟩⟩⟩⟩
   ·have b5:=zc0 (lo:=0) (Nat.zero_le _) l5 (λx hx=>(g5 x hx).2);have b6:=zc0 (lo:=0) (Nat.zero_le _) l6 (λx hx=>(g6 x hx).2);simp[zei,zfr,gt,zj2,zht,v0,v1,v2,v3,v4,v7,v8,b5,b6]
end S
namespace Q
structure LS (b gb j:Nat) (w2:World) (e z:Nat) (us:List Value) (wr:World) (L:List (List D)) (a:Option Addr) (n cap:Nat) (Y:Except Er (List Tok)):Prop where
 ro:RO (λi=>i=b\/i=gb) w2 e z wr L (.slice a n cap)
 bx:Bxs wr gb (us.set j (.slice a n cap))
 sr:Sr wr b Y
 hn:L.length=n
 hb:b<gb
 hg:gb<w2.heap.size
 hj:j<us.length
theorem LS.start {b gb j:Nat} {w2:World} {e z:Nat} {us:List Value} {Y:Except Er (List Tok)} (hs:Sr w2 b Y) (hx:Bxs w2 gb us) (hj:us[j]? =some (.slice none 0 0)) (hb:b<gb) (hg:gb<w2.heap.size):LS b gb j w2 e z us w2 [] none 0 0 Y:=by
 have hl:j<us.length:=by
  rcases Nat.lt_or_ge j us.length with h|h
  ·exact h
  ·rw[List.getElem?_eq_none h]at hj;cases hj
 refine⟨RO.start _ _ _ _,?_,hs,rfl,hb,hg,hl⟩;have:us.set j (.slice none 0 0)=us:=by
  apply List.ext_getElem?;intro i
  by_cases e:j=i
  ·subst e;rw[List.getElem?_set_self hl,hj]
  ·rw[List.getElem?_set_ne e]
 rw[this];exact hx
theorem LS.gw {b gb j:Nat} {w2:World} {e z:Nat} {us:List Value} {wr:World} {L:List (List D)} {a:Option Addr} {n cap:Nat} {Y:Except Er (List Tok)} (h:LS b gb j w2 e z us wr L a n cap Y):gb<wr.heap.size:=Nat.lt_of_lt_of_le h.hg h.ro.fr.size
theorem LS.move {b gb j:Nat} {w2:World} {e z:Nat} {us:List Value} {wr w3:World} {L:List (List D)} {a:Option Addr} {n cap:Nat} {Y Y':Except Er (List Tok)} (h:LS b gb j w2 e z us wr L a n cap Y) (k:Fr (λi=>i=b) wr w3) (hs:Sr w3 b Y'):LS b gb j w2 e z us w3 L a n cap Y':=
 ⟨h.ro.move k (λi x=>⟨.inl x,by have:=h.hb;have:=h.hg;omega⟩),h.bx.move (k.block gb h.gw (λx=>by have:=h.hb;omega)),hs,h.hn,h.hb,h.hg,h.hj⟩
theorem LS.cell {b gb j:Nat} {w2:World} {e z:Nat} {us:List Value} {wr:World} {L:List (List D)} {a:Option Addr} {n cap:Nat} {Y:Except Er (List Tok)} (h:LS b gb j w2 e z us wr L a n cap Y):wr.cell? ⟨gb,j,none⟩=some (.slice a n cap)/\wr.frozen? ⟨gb,j,none⟩=false:=
 h.bx j _ (by rw[List.getElem?_set_self h.hj])
theorem LS.own {b gb j:Nat} {w2:World} {e z:Nat} {us:List Value} {wr W6:World} {L:List (List D)} {a:Option Addr} {n cap:Nat} {Y:Except Er (List Tok)} (h:LS b gb j w2 e z us wr L a n cap Y) (k:Fr (λi=>i=b) wr W6):∃ xs,W6.ownsRow 0 e z (.slice a n cap) n xs:=by
 obtain⟨xs,h1,_⟩:=(h.ro.move k (λi x=>⟨.inl x,by have:=h.hb;have:=h.hg;omega⟩)).shape;rw[h.hn]at h1;exact⟨xs,h1⟩
theorem LS.app {b gb j:Nat} {w2:World} {e z:Nat} {us:List Value} {wr W6 wa w8:World} {L:List (List D)} {a a':Option Addr} {n cap cap':Nat} {Y Y6:Except Er (List Tok)} {ds:List D} {xs vs:List Value} (h:LS b gb j w2 e z us wr L a n cap Y) (k:Fr (λi=>i=b) wr W6) (hs:Sr W6 b Y6) (hd:Rds W6 ds (λi=>wr.heap.size<=i) vs) (hz:ds.length=z) (hka:Keep W6 wa) (hxs:W6.ownsRow 0 e z (.slice a n cap) n xs) (hown:w8.ownsRow 0 e z (.slice a' (n+1) cap') (n+1) (xs++vs)) (hg:wa.grownBy w8 (Value.slice a n cap).ownBlock) (hat:(Value.slice a' (n+1) cap').ownBlock=(Value.slice a n cap).ownBlock\/(Value.slice a' (n+1) cap').ownBlock=some wa.heap.size):
  LS b gb j w2 e z us (w8.setCell ⟨gb,j,none⟩ (.slice a' (n+1) cap')) (L++ [ds]) a' (n+1) cap' Y6/\w8.cell? ⟨gb,j,none⟩=some (.slice a n cap)/\w8.frozen? ⟨gb,j,none⟩=false:=by
 have hro:=h.ro.move k (λi x=>⟨.inl x,by have:=h.hb;have:=h.hg;omega⟩);obtain⟨_,_,hlt⟩:=h.ro.shape;have A:=hro.app hka (λi x=>by rcases x with x|x<;>(have:=h.hb;have:=h.hg;omega)) (B:=wr.heap.size) (λg hg'=>(hlt g hg').2) h.ro.fr.size hd hz (by rw[h.hn];exact hxs) (by rw[h.hn];exact hown) hg hat;have hb6:W6.heap[gb]? =wr.heap[gb]? :=k.block gb h.gw (λx=>by have:=h.hb;omega);have hb8:w8.heap[gb]? =wr.heap[gb]? :=(A.2 gb h.hg).trans hb6;have hbx8:Bxs w8 gb (us.set j (.slice a n cap)):=h.bx.move hb8;have hc8:=hbx8 j _ (by rw[List.getElem?_set_self h.hj]);refine⟨⟨A.1.set _ _ rfl (.inr rfl) h.hg,?_,?_,by rw[List.length_append,h.hn];rfl,h.hb,h.hg,h.hj⟩,hc8⟩
 ·have:=hbx8.set j (.slice a' (n+1) cap');rwa[List.set_set]at this
 ·refine(hs.far (λi hi=>A.2 i (by have:=h.hb;have:=h.hg;omega))).set _ _ ?_;exact h.hb
theorem LS.fin {b gb j:Nat} {w2:World} {e z:Nat} {us:List Value} {wr:World} {L:List (List D)} {a:Option Addr} {n cap:Nat} {Y:Except Er (List Tok)} (h:LS b gb j w2 e z us wr L a n cap Y):Rd wr (.row e z L) (λi=>w2.heap.size<=i) (.slice a n cap)/\Fr (λi=>i=b\/i=gb) w2 wr:=⟨h.ro.row,h.ro.fr⟩
theorem zbi {word:List UInt8} {n most:Nat} {body:List Tok->Rs} (hm:Mon body) {Y:Except Er (List Tok)} {t:Tok} {r:List Tok} {w w':World} {b:Nat} (hY:Y= .ok (t :: r)) (hs:Sr w b Y) (hs':Sr w' b (zaz (body r))):rem w' b<rem w b:=by
 subst hY;rw[ze0 hs];cases hx:body r with
 |error x=>rw[hx]at hs';rw[ziZ (x:=x) hs'];simp
 |ok q=>
  obtain⟨c,r'⟩:=q;rw[hx]at hs';rw[ze0 (r:=r') hs'];have:=hm _ _ _ hx;simp;omega
end Q
end Go.Proofs.YthceiikgecoimaaGreatDoor
