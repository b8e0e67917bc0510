/- Package net: names with commas between. -/
import Derived.Test.YthceiikgecoimaaGreatDoorNThing
import Derived.Test.YthceiikgecoimaaGreatDoorLVal
namespace Go.Proofs.YthceiikgecoimaaGreatDoor
open Go.RowKit
attribute [local go_sem ↓] Go.wp_at_zero Go.wp_at_succ
set_option linter.unusedVariables false
set_option linter.unusedSimpArgs false
set_option maxRecDepth 10000
def zpy (L:List (List D)):Prop:=∀ ds∈L,∀ d∈ds,∃ v,d= .val v
theorem zhA {w w':World} {P P':Nat->Prop} :∀(ds:List D) (us:List Value),(∀ d∈ds,∃ v,d= .val v)->Rds w ds P us->Rds w' ds P' us
 | [],us,_,h=>h
 |d :: ds,us,hf,h=>by
  simp only[Rds]at h |-;obtain⟨v,vs,h0,h1,h2⟩:=h;obtain⟨x,rfl⟩:=hf d List.mem_cons_self;exact⟨v,vs,h0,h1,zhA ds vs (λd hd=>hf d (List.mem_cons_of_mem _ hd)) h2⟩
theorem zgj {w w':World} {P P':Nat->Prop} {z:Nat} :∀(L:List (List D)) (us:List Value),zpy L->Rdss w L P z us->Rdss w' L P' z us
 | [],us,_,h=>h
 |ds :: L,us,hf,h=>by
  simp only[Rdss]at h |-;obtain⟨ys,zs,h0,h1,h2,h3⟩:=h;exact⟨ys,zs,h0,h1,zhA ds ys (hf ds List.mem_cons_self) h2,zgj L zs (λds hd=>hf ds (List.mem_cons_of_mem _ hd)) h3⟩
theorem RowI.move2 {E:Env} {w:World} {m:Nat} {cs:List D} {e z:Nat} {wr w':World} {L:List (List D)} {r r':List Tok} {v:Value} {q:Nat} (h:RowI E w m cs e z wr L r v) (hfl:zpy L) (hq:¬E.S q) (hqw:w.heap.size<=q) (hqv:v.ownBlock≠some q) (k:Fr (λb=>b=E.rb\/b=q) wr w') (hr:R0 E.rb E.l E.ta E.cap w' r'):RowI E w m cs e z w' L r' v:=by
 have lt:∀ i,i<cs.length->(E.A i).1<wr.heap.size:=λi hi=>Nat.lt_of_lt_of_le (h.part hi).2.2.2 h.fr.size
 have same:∀ i,i<cs.length->w'.heap[(E.A i).1]? =wr.heap[(E.A i).1]? :=λi hi=>k.block _ (lt i hi) (λx=>x.elim (h.part hi).2.2.1 (λe=>hq (e▸(h.part hi).2.1)))
 refine⟨h.fr.inner k (λi hi e=>e.elim (λe=>e▸h.rd.2.2) (λe=>by omega)),⟨hr,h.rd.2⟩,h.ta,h.cl,h.lt,λi hi hm=>?_,λi hi=>?_,?_,?_⟩
 ·rw[zal (same i hi)];exact h.oth i hi hm
 ·rw[World.frozen?_of_block (same i hi)];exact h.frz i hi
 ·rw[zal (same m h.lt)];exact h.cel
 ·have hrow:=h.row;simp only[Rd]at hrow |-;obtain⟨xs,h1,h2,h3⟩:=hrow;exact⟨xs,zhh h1 (λg hg=>k.block g (h1.lt g hg).2 (λx=>x.elim (λe=>(h2 g hg).1 (e▸h.rd.2.2)) (λe=>hqv (e▸hg)))),h2,zgj L xs hfl h3⟩
def Env.two (rb:Nat) (l:List Tok) (ta:Addr) (cap pb sb:Nat):Env:= { S:=λb=>b=rb\/b=pb\/b=sb,rb:=rb,l:=l,ta:=ta,cap:=cap,A:=λj=>if j=0 then(pb,0)else(sb,0),lo:=0 }
theorem zmm (t:Tok) (r:List Tok):sq [zaN,zai] [] (t :: r)=if t.k=1/\¬t.s∈words then .ok ([dI t.p,dS t.s],r)else .error (50,t.p):=by
 simp only[sq,zaN,zai,List.nil_append,bad];by_cases h:t.k=1/\¬t.s∈words
 ·simp[h]
 ·simp only[if_neg h]
theorem zkZ:(Tryz.prog.info? 9).map (λi=>(i.zero,i.size,i.bytes))=some (some (.string ⟨#[]⟩),1,16):=by kernel_rfl
theorem zlK:zpy []:=λds h=>by cases h
theorem Does.call {E:Env} {w0:World} {f:FuncId} {x y:Array Value} {m:Nat} {zs:List D} {p:Sp} (h:Does E w0 (.func (.func f) x y) m zs p):Ent f/\∀ w c rest r,Fr E.S w0 w->c.length=m->Rdr E w r->Cel E w (c++zs++rest)->Calls Tryz.prog f (x++y) w (zcv E w rest (m+zs.length) (p c r)):=by
 obtain⟨fn,xs,ys,hv,h1,h2⟩:=h;injection hv with hv hx hy
 injection hv with hv
 subst hv hx hy;exact⟨h1,h2⟩
theorem zgk {L:List (List D)} {s:List UInt8} (h:zpy L):zpy (L++ [[dS s]]):=by
 intro ds hd d hdd
 rcases List.mem_append.1 hd with h1|h1
 ·exact h ds h1 d hdd
 ·simp at h1;subst h1;simp at hdd;exact⟨_,hdd⟩
theorem zlL {rb:Nat} {l:List Tok} {ta:Addr} {cap:Nat} {w:World} {t:Tok} {r:List Tok} (h:R0 rb l ta cap w (t :: r)) (hn:t.k≠0\/t.s≠ []):∃ u r2,r=u :: r2:=by
 obtain⟨k,h1,h2,_,_,_,_,_,h9⟩:=h;have:=zjZ h9 h2 hn;have e:=(zdN h2).2.2;cases r with
 |nil=>rw[eq_comm,List.drop_eq_nil_iff]at e;omega
 |cons u r2=>exact⟨u,r2,rfl⟩
theorem zhB {E:Env} {w:World} {rest:List D} {n:Nat} {X Y:Rs} {e:Ending} {w':World} (hx:X=Y) (h:zcv E w rest n X e w'):zcv E w rest n Y e w':=hx▸h
namespace NamesR
set_option maxHeartbeats 8000000 in
theorem core (E:Env) (g0 g1 g2 b o m most:Nat) (c rest:List D) (w:World) (r0:List Tok)
  (B0:Hid (Bx E w g0 (.pointer (some ⟨E.rb,0,none⟩)))) (B1:Hid (Bx E w g1 (.pointer (some ⟨b,o,none⟩)))) (B2:Hid (Bx E w g2 (.int .i64 (most:Int))))
  (A0:Hid (E.A m=(b,o))) (HS:Hid (∀ b,E.S b->b<w.heap.size)) (HLo:Hid (E.lo<=w.heap.size)) (hcm:Hid (c.length=m)) (HR:Hid (Rdr E w r0)) (HL:Hid (Cel E w (c++ [dN]++rest))) (hmost:most<=1000):
  Calls Tryz.prog 168 #[.pointer (some ⟨g0,0,none⟩),.pointer (some ⟨g1,0,none⟩),.pointer (some ⟨g2,0,none⟩)] w (zcv E w rest (m+1) (zar 9 most c r0)):=by
 obtain⟨i0,hi,hz0,hz1,hz2⟩:=zaG zkZ;have HI0:=zh hi;have HZ0:=zh hz0;have HZ1:=zh hz1;have HZ2:=zh hz2;clear hi hz0 hz1 hz2;go_enter Tryz.func168,Tryz.ntmps168;go_wp2_with fail
 go_loopw [4] (λu4 wr=>∃(mb:Nat) (mo:Bool) (L:List (List D)) (r:List Tok) (v:Value),u4= .pointer (some ⟨mb,0,none⟩)/\wr.cell? ⟨mb,0,none⟩=some (.bool mo)/\Hid (wr.frozen? ⟨mb,0,none⟩=false)/\Hid (RowI E w m (c++ [dN]++rest) 9 1 wr L r v)/\Hid ((if mo then nm most L r else .ok (L,r))=nm most [] r0)/\Hid (L.length<=most/\zpy L/\w.heap.size<=mb/\v.ownBlock≠some mb/\mb<wr.heap.size)) (λu4 wr=>2 * (70001 - rk E.rb wr)+(match u4 with| .pointer (some a)=>(match wr.cell? a with|some (.bool true)=>1| _=>0)| _=>0))
 case atStart=>
  refine⟨w.heap.size,true,[],r0,.slice none 0 0,rfl,by simp[go_sem],zh (by simp[go_sem]),zh ?_,zh rfl,zh ⟨Nat.zero_le _,zlK,Nat.le_refl _,by simp[Value.ownBlock],by rw[World.size_alloc];omega⟩⟩;rw[<- uq hcm];exact(RowI.start (uq HR) (uq HL)).keep ((zk w).alloc _)
 case round=>
  obtain⟨mb,mo,L,r,v,rfl,hmb,HFM,HI,HE,HX⟩:=hrel;cases mo with
  |false=>
   go_wp2_with fail
   go_ret;have hres:zar 9 most c r0= .ok (c++ [D.row 9 1 L],r):=by
    show(match nm most [] r0 with| .error x=>Except.error x| .ok (L,r')=> .ok (c++ [D.row 9 1 L],r'))=_;rw[<- uq HE];rfl
   rw[hres];have HI3:=uq HI;have hm:=uq hcm;subst hm;exact zbF rfl HI3.fr (by simp) HI3.rd (HI3.fin (uq HLo))
  |true=>
   replace HE:Hid (nm most L r=nm most [] r0):=zh (by have:=uq HE;simpa using this);obtain⟨t,r',rfl⟩:=zcr (uq HI).rd.1;obtain⟨av,cap,xs,rfl,hown⟩:=zc5 (uq HI).row;clear hown;obtain⟨n,HN⟩:∃ n,Hid (L.length=n):=⟨_,rfl⟩;rw[uq HN]at HI HX;have HEq:=zh (zcV most L t r');have HMB:=zh hmb;have HSb:=zh (zlJ (uq HI).rd.1);have HR0:=zh (uq HI).rd.1;have hsz0:E.rb<wr.heap.size:=Nat.lt_of_lt_of_le ((uq HS) _ (uq HR).2.2) (uq HI).fr.size;have hsz1:E.ta.block<wr.heap.size:=Nat.lt_of_lt_of_le (uq HI).ta (uq HI).fr.size;have HSZ0:=zh hsz0;have HSZ1:=zh hsz1;clear hsz0 hsz1
   go_upto_region 5 with fail
   have HK2:=zh (zaM wr (.cells #[.int .i64 0] 3) (.cells #[.string ⟨#[]⟩] 9));have j1:Hid (((wr.alloc (.cells #[.int .i64 0] 3)).alloc (.cells #[.string ⟨#[]⟩] 9)).heap[wr.heap.size]? =some (.cells #[.int .i64 0] 3 (0,0))):=zh (by rw[heap_alloc_old _ _ (by rw[World.size_alloc];omega)];exact heap_alloc_new wr _);have j2:Hid (((wr.alloc (.cells #[.int .i64 0] 3)).alloc (.cells #[.string ⟨#[]⟩] 9)).heap[wr.heap.size+1]? =some (.cells #[.string ⟨#[]⟩] 9 (0,0))):=zh (by have:=heap_alloc_new (wr.alloc (.cells #[.int .i64 0] 3)) (.cells #[.string ⟨#[]⟩] 9);rw[World.size_alloc]at this;exact this);have j3:Hid (((wr.alloc (.cells #[.int .i64 0] 3)).alloc (.cells #[.string ⟨#[]⟩] 9)).heap.size=wr.heap.size+2):=zh (by rw[World.size_alloc,World.size_alloc]);generalize (wr.alloc (.cells #[.int .i64 0] 3)).alloc (.cells #[.string ⟨#[]⟩] 9)=w2 at HK2 j1 j2 j3 |-;obtain⟨pb,HPb⟩:∃ pb,Hid (wr.heap.size=pb):=⟨_,rfl⟩;rw[uq HPb]at j1 j2 j3 |-;obtain⟨sb,HSb1⟩:∃ sb,Hid (pb+1=sb):=⟨_,rfl⟩;rw[uq HSb1]at j2 |-;have HPB:Hid (wr.heap.size=pb/\pb+1=sb):=zh ⟨uq HPb,uq HSb1⟩;have HS2:Hid (∀ b,(Env.two E.rb E.l E.ta E.cap pb sb).S b->b<w2.drew.heap.size):=zh (λb hb=>by
    show b<w2.heap.size;have:=uq HSZ0;have:=uq HPB;have:=uq j3;rcases hb with hb|hb|hb<;>(try(have:b=E.rb:=hb))<;>omega)
   have q0:Hid (w2.drew.cell? ⟨g0,0,none⟩=some (.pointer (some ⟨E.rb,0,none⟩))):=zh ((uq HK2).cell' ((uq B0).fr (uq HI).fr).1);have HQ0:Hid (¬(Env.two E.rb E.l E.ta E.cap pb sb).S g0):=zh (λhb=>by
    have h1:=zat ((uq B0).fr (uq HI).fr).1;simp only at h1;have:=uq HPB;rcases hb with hb|hb|hb
    ·exact(uq B0).2 ((show g0=E.rb from hb)▸(uq HR).2.2)
    ·have:g0=pb:=hb;omega
    ·have:g0=sb:=hb;omega)
   have HR2:Hid (Rdr (Env.two E.rb E.l E.ta E.cap pb sb) w2.drew (t :: r')):=zh ⟨((uq HR0).keep (uq HK2)).keep (zk _).drew,λhb=>by
    have:=uq HSZ1;have:=uq HPB;rcases hb with hb|hb|hb
    ·exact(uq HI).rd.apart hb
    ·have:E.ta.block=pb:=hb;omega
    ·have:E.ta.block=sb:=hb;omega,.inl rfl⟩
   have HL2:Hid (Cel (Env.two E.rb E.l E.ta E.cap pb sb) w2.drew [dI 0,dS []]):=zh ⟨λi j hi hj e=>by
    simp only[List.length_cons,List.length_nil]at hi hj;have:=uq HPB;have e1:(if i=0 then(pb,0)else(sb,0))=(if j=0 then(pb,0)else(sb,0)):=e;by_cases h1:i=0<;>by_cases h2:j=0<;>simp[h1,h2]at e1<;>omega,λj d hd=>by
    match j,hd with
    |0,hd=>
     simp at hd;subst hd;exact⟨.int .i64 0,by show w2.cell? ⟨pb,0,none⟩=_;simp[World.cell?,uq j1],zbE _ _ _,by show w2.frozen? ⟨pb,0,none⟩=_;simp[World.frozen?,uq j1],.inr (.inl rfl),λe=>by have:pb=E.rb:=e;have:=uq HSZ0;have:=uq HPB;omega⟩
    |1,hd=>
     simp at hd;subst hd;exact⟨.string ⟨#[]⟩,by show w2.cell? ⟨sb,0,none⟩=_;simp[World.cell?,uq j2],zd4 [] _ _,by show w2.frozen? ⟨sb,0,none⟩=_;simp[World.frozen?,uq j2],.inr (.inr rfl),λe=>by have:sb=E.rb:=e;have:=uq HSZ0;have:=uq HPB;omega⟩
    |j+2,hd=>simp at hd⟩
   clear hmb;by_cases hname:t.k=1/\¬t.s∈words
   ·have HSQ:Hid (sq [zaN,zai] [] (t :: r')= .ok ([dI t.p,dS t.s],r')):=zh (by rw[zmm,if_pos hname]);have HNM:=zh hname;clear hname;refine wp_region_held_drew (S:=λw'=>w'.cell? ⟨g0,0,none⟩=some (.pointer (some ⟨E.rb,0,none⟩))) (by kernel_rfl) (by exact uq q0) (λzH=>?_);refine tk2 0 10 2 12 zH ?_;try simp only[Yq]
    refine zaq 1 (λK hK=>?_);go_simp;clear zH;(refine(zc3 (E:=Env.two E.rb E.l E.ta E.cap pb sb) (dI 0) 0 _ _ rfl _ (uq HS2)).mono ?_;rintro e w3 ⟨f1,x1,y1,rfl,hk,hd⟩;have HS3:=zh (zae (uq HS2) hk);have HK3:=zh hk;have HC3:Hid (zaw (Env.two E.rb E.l E.ta E.cap pb sb) w3 0 [(.func (.func f1) x1 y1,[dI 0],zaN)]):=zh ⟨hd,trivial⟩;clear hk hd);try go_wp2_with fail
    refine hK.out _ _ ?_ (λzH=>?_)
    ·exact(uq HK3).cell' (uq q0)
    clear hK K;try simp only[Yq]
    refine zaq 3 (λK hK=>?_);go_simp;clear zH;(refine(zax (E:=Env.two E.rb E.l E.ta E.cap pb sb) (dS []) 1 _ _ rfl _ (uq HS3)).mono ?_;rintro e w4 ⟨f2,x2,y2,rfl,hk,hd⟩;have HS4:=zh (zae (uq HS3) hk);have HK4:=zh ((uq HK3).trans hk);have HC4:Hid (zaw (Env.two E.rb E.l E.ta E.cap pb sb) w4 0 [(.func (.func f1) x1 y1,[dI 0],zaN),(.func (.func f2) x2 y2,[dS []],zai)]):=zh (zab (uq HC3) hk hd);clear hk hd);try go_wp2_with fail
    refine hK.out _ _ ?_ (λzH=>?_)
    ·exact(uq HK4).cell' (uq q0)
    clear hK K;try simp only[Yq]
    refine zaq 4 (λK hK=>?_);go_simp;clear zH;refine hK.out _ _ ?_ (λzH=>?_)
    ·exact((uq HK4).alloc _).cell' (uq q0)
    clear hK K;try simp only[Yq]
    refine zaq 5 (λK hK=>?_);go_simp;clear zH;(refine(za5 (E:=Env.two E.rb E.l E.ta E.cap pb sb) (m:=0) (ss:= [(.func (.func f1) x1 y1,[dI 0],zaN),(.func (.func f2) x2 y2,[dS []],zai)]) (c:= []) (rest:= []) (r:=t :: r') (by simp) (zaS ((zk _).alloc _) (uq HC4)) (za1 _ _ _) (λh=>Nat.lt_irrefl _ ((uq HS4) _ h)) rfl ((uq HR2).keep ((uq HK4).alloc _)) ((uq HL2).keep ((uq HK4).alloc _))).mono ?_;rintro e w5 hp;have hp2:=zhB (n:=2) (uq HSQ) hp;obtain rfl:e= .returned .nilIface:=hp2.2.1;have HP:=zh hp;have HP2:=zh hp2;have HKz:=zh ((uq HK4).alloc (.cells #[.func (.func f1) x1 y1,.func (.func f2) x2 y2] 162));clear hp hp2);try go_wp2_with fail
    refine hK.out _ _ ?_ (λzH=>?_)
    ·exact(uq HP).1.cell ((uq HKz).cell' (uq q0)) (uq HQ0)
    clear hK K;try simp only[Yq]
    refine tkk 6 7 zH ?_;try simp only[Yq]
    refine wpAnyH_done (by kernel_rfl) ?_ _;clear zH;have HF5:Hid (Fr (λb=>b=E.rb) wr w5):=zh (Fr.inner ((Fr.keep (uq HK2)).trans ((Fr.keep (zk w2).drew).trans (.keep (uq HKz)))) (uq HP2).1 (λi hi hs=>by
     rcases hs with hs|hs|hs
     ·exact hs
     ·have:=uq HPB;omega
     ·have:=uq HPB;omega))
    have HI5:Hid (RowI E w m (c++ [dN]++rest) 9 1 w5.drew L r' (.slice av n cap)):=zh (((uq HI).move (uq HF5) (uq HP2).2.2.2.1.1).keep (zk _).drew);have hcl:=(uq HP2).2.2.2.2;have x0:Hid (w5.drew.cell? ⟨pb,0,none⟩=some (.int .i64 t.p)):=zh (by
     obtain⟨u,k1,k2,_⟩:=hcl.2 0 (dI t.p) (by simp);exact(show w5.cell? ⟨pb,0,none⟩=some u from k1).trans (by rw[show u= .int .i64 t.p from k2.1]))
    have x1:Hid (w5.drew.cell? ⟨sb,0,none⟩=some (.string (sv t.s))):=zh (by
     obtain⟨u,k1,k2,_⟩:=hcl.2 1 (dS t.s) (by simp);exact(show w5.cell? ⟨sb,0,none⟩=some u from k1).trans (by rw[show u= .string (sv t.s)from k2.1]))
    clear hcl;have y1:Hid (w5.drew.cell? ⟨g1,0,none⟩=some (.pointer (some ⟨b,o,none⟩))):=zh ((uq B1).fr (uq HI5).fr).1;have y2:Hid (w5.drew.cell? ⟨g2,0,none⟩=some (.int .i64 (most:Int))):=zh ((uq B2).fr (uq HI5).fr).1;have y5:Hid (w5.drew.cell? ⟨b,o,none⟩=some (.slice av n cap)):=zh (by have:=(uq HI5).cel;rw[uq A0]at this;exact this);have y6:Hid (w5.drew.frozen? ⟨b,o,none⟩=false):=zh (by have:=(uq HI5).frz m (uq HI5).lt;rw[uq A0]at this;exact this);have hmm:w5.drew.heap[mb]? =wr.heap[mb]? :=(uq HF5).block mb (uq HX).2.2.2.2 (λe=>by have:=(uq HX).2.2.1;have:=(uq HS) _ (uq HR).2.2;omega);have ym:Hid (w5.drew.cell? ⟨mb,0,none⟩=some (.bool true)):=zh ((zal (a:=⟨mb,0,none⟩) hmm).trans (uq HMB));have yf:Hid (w5.drew.frozen? ⟨mb,0,none⟩=false):=zh ((World.frozen?_of_block (a:=⟨mb,0,none⟩) hmm).trans (uq HFM));have hnm:n<=most:=(uq HX).1;clear hmm;by_cases hn:n=most
    ·have hb1:((n:Int)==(most:Int))=true:=by simp[hn]
     have hb2:(n==most)=true:=by simp[hn]
     have HNE:=zh hn;clear hn;go_wp2_with fail
     refine wp_region_held_drew (S:=λw'=>w'.cell? ⟨g1,0,none⟩=some (.pointer (some ⟨b,o,none⟩))/\w'.cell? ⟨g2,0,none⟩=some (.int .i64 (most:Int))/\w'.cell? ⟨b,o,none⟩=some (.slice av n cap)) (by kernel_rfl) (by exact⟨uq y1,uq y2,uq y5⟩) (λzH=>?_);refine tk6 0 19 1 20 2 21 3 22 4 23 5 24 zH ?_;try simp only[Yq]
     refine wpAnyH_done (by kernel_rfl) ?_ _;clear zH;have z0:=uq x0;go_wp2_with fail
     go_ret;have hres:zar 9 most c r0= .error (4,t.p):=by
      show(match nm most [] r0 with| .error x=>Except.error x| .ok (L,r')=> .ok (c++ [D.row 9 1 L],r'))=_;rw[<- uq HE,uq HEq,if_pos (uq HNM),if_pos (by rw[uq HN];exact uq HNE)]
     rw[hres];exact⟨(uq HI5).fr,rfl⟩
    ·have hb1:((n:Int)==(most:Int))=false:=by simp;omega
     have hb2:(n==most)=false:=by simp[hn]
     have HNN:=zh hn;clear hn;have hbl:E.S b:=by have:=((uq HI5).part (uq HI5).lt).2.1;rw[uq A0]at this;exact this
     have HBl:=zh hbl;have hnb2:∀ j,(Value.slice av n cap).ownBlock=some j->¬E.S j/\w.heap.size<=j/\j<pb:=λj ej=>by
      have hr:=(uq HI).row;simp only[Rd]at hr;obtain⟨_,q1,q2,_⟩:=hr;have q3:=q2 j ej;have q4:=(q1.lt j ej).2;have:=uq HPB;exact⟨q3.1,q3.2,by omega⟩
     have HNB:=zh hnb2;have hg2b:Hid (b≠g1):=zh (λe=>(uq B1).2 (e▸hbl));have hxbb:Hid (b≠sb):=zh (λe=>by have:=(uq HS) _ hbl;have:=(uq HI).fr.size;have:=uq HPB;omega);clear hbl hnb2;obtain⟨av5,cap5,xs5,hsh5,hown5⟩:=zc5 (uq HI5).row;clear hsh5;rw[uq HN]at hown5;have HOWN5:=zh hown5;clear hown5;go_wp2_with fail
     refine wp_region_held_drew (S:=λw'=>w'.cell? ⟨g1,0,none⟩=some (.pointer (some ⟨b,o,none⟩))/\w'.cell? ⟨g2,0,none⟩=some (.int .i64 (most:Int))/\w'.cell? ⟨b,o,none⟩=some (.slice av n cap)) (by kernel_rfl) (by exact⟨uq y1,uq y2,uq y5⟩) (λzH=>?_);refine tk6 0 19 1 20 2 21 3 22 4 23 5 24 zH ?_;try simp only[Yq]
     refine wpAnyH_done (by kernel_rfl) ?_ _;clear zH;have HI7:Hid (RowI E w m (c++ [dN]++rest) 9 1 w5.drew.drew L r' (.slice av n cap)):=zh ((uq HI5).keep (zk _).drew);replace x1:Hid (w5.drew.drew.cell? ⟨sb,0,none⟩=some (.string (sv t.s))):=x1;replace y1:Hid (w5.drew.drew.cell? ⟨g1,0,none⟩=some (.pointer (some ⟨b,o,none⟩))):=y1;replace y5:Hid (w5.drew.drew.cell? ⟨b,o,none⟩=some (.slice av n cap)):=y5;replace y6:Hid (w5.drew.drew.frozen? ⟨b,o,none⟩=false):=y6;replace ym:Hid (w5.drew.drew.cell? ⟨mb,0,none⟩=some (.bool true)):=ym;replace yf:Hid (w5.drew.drew.frozen? ⟨mb,0,none⟩=false):=yf;replace HOWN5:Hid (w5.drew.drew.ownsRow 0 9 1 (.slice av n cap) n xs5):=HOWN5;go_wp2_with fail
     refine wp_region_held_drew (S:=λw'=>w'.cell? ⟨g1,0,none⟩=some (.pointer (some ⟨b,o,none⟩))/\w'.cell? ⟨sb,0,none⟩=some (.string (sv t.s))) (by kernel_rfl) (by exact⟨uq y1,uq x1⟩) (λzH=>?_);refine tk4 0 28 1 29 2 30 4 32 zH ?_;try simp only[Yq]
     generalize w5.drew.drew=w7 at HI7 x1 y1 y5 y6 ym yf HOWN5 |-;have HOLD:Hid (∀ w',Keep w7 w'->w'.cell? ⟨g1,0,none⟩=some (.pointer (some ⟨b,o,none⟩))/\w'.cell? ⟨sb,0,none⟩=some (.string (sv t.s))):=zh (λw' hk=>⟨hk.cell' (uq y1),hk.cell' (uq x1)⟩);have z5:=uq y5;have z5a:∀ ob,(w7.alloc ob).cell? ⟨b,o,none⟩=some (.slice av n cap):=λob=>((zk w7).alloc ob).cell' z5
     have Z5:=zh z5a;clear z5a;refine wpAnyH_ready (rs:= [3,5]) (by kernel_rfl) (by simp) ?_;refine AllReadyH.cons rfl (λK hK=>?_) (AllReadyH.cons rfl (λK hK=>?_) AllReadyH.nil)
     focus
      skip
      go_simp;clear zH;refine hK.out _ _ ?_ (λzH=>?_)
      ·exact(uq HOLD) _ (zk _)
      clear hK K;try simp only[Yq]
      refine zaq 5 (λK hK=>?_)
     rotate_left
     focus
      skip
      go_simp;clear zH;refine hK.out _ _ ?_ (λzH=>?_)
      ·exact(uq HOLD) _ ((zk _).alloc _)
      clear hK K;try simp only[Yq]
      have z5a:=uq Z5;clear z5;refine zaq 3 (λK hK=>?_)
     rotate_left
     all_goals
      go_simp;clear zH;refine hK.out _ _ ?_ (λzH=>?_)
      ·exact(uq HOLD) _ ((zk _).alloc _)
      clear hK K;try simp only[Yq]
      refine wpAnyH_ready (rs:= [6]) (by kernel_rfl) (by simp) ?_;refine AllReadyH.cons rfl (λK hK=>?_) AllReadyH.nil;refine zaC _ _ _ rfl 0 9 i0 _ 1 16 Tryz.underlying49 (uq HI0) (uq HZ0) (uq HZ1) (uq HZ2) rfl (by decide) _ _ _ rfl ((uq HOWN5).alloc _) ⟨w7.heap.size,0,none⟩ 1 1 [.string (sv t.s)] rfl rfl (new_cells w7 [.string (sv t.s)] 9) (by simp[Value.oneCell']) (by unfold maxLen;omega) (by omega) (Nat.zero_le _) ?_;intro v' w8 hown' hgrow hat
      obtain⟨g',cp',rfl⟩:=zaP hown';have HOWN':=zh hown';have HGROW:=zh hgrow;have HAT:=zh hat;clear hown' hgrow hat;have HSt:Hid (∀ q,(q<w7.heap.size/\∀ j,(Value.slice av n cap).ownBlock=some j->j≠q)->w8.heap[q]? =w7.heap[q]?):=zh (λq hq=>by rw[(uq HGROW).block q (by rw[World.size_alloc];omega) (λe=>hq.2 q e.symm rfl)];exact heap_alloc_old w7 _ hq.1);have HSt2:Hid (w8.cell? ⟨g1,0,none⟩=some (.pointer (some ⟨b,o,none⟩))/\w8.cell? ⟨sb,0,none⟩=some (.string (sv t.s))):=zh (by
       have hg2:w8.heap[g1]? =w7.heap[g1]? :=(uq HSt) g1 ⟨zat (uq y1),λj ej e=>by have:=((uq HNB) j ej).2.1;have:=zat (uq B1).1;simp at this;omega⟩;have hx2:w8.heap[sb]? =w7.heap[sb]? :=(uq HSt) sb ⟨zat (uq x1),λj ej e=>by have:=((uq HNB) j ej).2.2;have:=uq HPB;omega⟩;exact⟨(zal (a:=⟨g1,0,none⟩) hg2).trans (uq y1),(zal (a:=⟨sb,0,none⟩) hx2).trans (uq x1)⟩)
      have hb7:w8.heap[b]? =w7.heap[b]? :=(uq HSt) b ⟨zat (uq y5),λj ej e=>((uq HNB) j ej).1 (e▸uq HBl)⟩;have b5:w8.cell? ⟨b,o,none⟩=some (.slice av n cap):=(zal (a:=⟨b,o,none⟩) hb7).trans (uq y5);have b6:w8.frozen? ⟨b,o,none⟩=false:=(World.frozen?_of_block (a:=⟨b,o,none⟩) hb7).trans (uq y6);have HM8:Hid (w8.heap[mb]? =w7.heap[mb]?):=zh ((uq HSt) mb ⟨zat (uq ym),λj ej e=>(uq HX).2.2.2.1 (e▸ej)⟩);clear hb7;refine hK.out _ _ ?_ (λzH=>?_)
      ·exact uq HSt2
      clear hK K;try simp only[Act.put,List.setIfInBounds_toArray,List.set_cons_zero,List.set_cons_succ]
      refine tkk 7 35 zH ?_;try simp only[Yq]
      refine zaq 8 (λK hK=>?_);go_simp;clear zH;refine hK.out _ _ ?_ (λzH=>?_)
      ·exact⟨(zac w8 ⟨b,o,none⟩ ⟨g1,0,none⟩ _ (uq hg2b)).trans (uq HSt2).1,(zac w8 ⟨b,o,none⟩ ⟨sb,0,none⟩ _ (uq hxbb)).trans (uq HSt2).2⟩
      clear hK K;try simp only[Yq]
      refine wpAnyH_done (by kernel_rfl) ?_ _;clear zH;have h9:=(uq HI7).app (w3:=w8) (o:= .cells #[.string (sv t.s)] 9) (ds:= [dS t.s]) (v':= .slice (some ⟨g',0,none⟩) (n+1) cp') (xs:=xs5) (vs:= [.string (sv t.s)]) (B:=pb) (uq HS) (λg eg=>((uq HNB) g eg).2.2) (by have:=(uq HI).fr.size;have:=uq HPB;omega) (by simp only[Rds];exact⟨_,_,rfl,zd4 _ _ _,rfl⟩) rfl (by rw[uq HN];exact uq HOWN5) (by rw[uq HN];exact uq HOWN') (uq HGROW) (uq HAT);rw[uq A0]at h9;have HI9:=zh h9;clear h9 b5 b6;have HV9:Hid ((Value.slice (some ⟨g',0,none⟩) (n+1) cp').ownBlock≠some mb):=zh (λe=>by
       rcases uq HAT with h|h
       ·exact(uq HX).2.2.2.1 (h▸e)
       ·rw[h]at e;injection e with e;rw[World.size_alloc]at e;have:=zat (uq ym);simp only at this;omega)
      have m9:Hid ((w8.setCell ⟨b,o,none⟩ (.slice (some ⟨g',0,none⟩) (n+1) cp')).heap[mb]? =w7.heap[mb]?):=zh (by rw[Below.heap_setCell _ _ _ _ (λe=>by have:=(uq HS) _ (uq HBl);have:=(uq HX).2.2.1;simp only at e;omega)];exact uq HM8);generalize w8.setCell ⟨b,o,none⟩ (.slice (some ⟨g',0,none⟩) (n+1) cp')=w9 at HI9 m9 |-;have k0:=((uq B0).fr (uq HI9).fr).1;have K0:=zh k0;go_wp2_with fail
      (refine(zd5 (E:=Env.one E.rb E.l E.ta E.cap mb (λj=>j) 0) [44] (by decide) (dB true) 0 mb 0 rfl _ (λb hb=>by
       rcases hb with hb|hb
       ·have:b=E.rb:=hb;have:=(uq HS) _ (uq HR).2.2;have:=(uq HI9).fr.size;omega
       ·have:b=mb:=hb;have:=(uq HX).2.2.2.2;have:=zat ((zal (a:=⟨mb,0,none⟩) (uq m9)).trans (uq ym));simp only at this;omega)).mono ?_;rintro e w10 ⟨f3,x3,y3,rfl,hk,hd⟩;have HK10:=zh hk;obtain⟨hent3,hd3⟩:=hd.call;have HD3:=zh hd3;clear hk hd hd3)
      unfold Ent at hent3
      go_wp2_with fail
      obtain⟨u,r2,hru⟩:=zlL (uq HR0) (.inl (by have:=(uq HNM).1;rw[this];decide));have hr10:Rdr (Env.one E.rb E.l E.ta E.cap mb (λj=>j) 0) w10 r':=(zeR (uq HI9).rd.1 (λe=>by have:=(uq HI).ta;have:=(uq HX).2.2.1;omega) (λe=>(uq HI).rd.apart e.symm)).keep (uq HK10);have c10:w10.heap[mb]? =w7.heap[mb]? :=((uq HK10).block mb (zat ((zal (a:=⟨mb,0,none⟩) (uq m9)).trans (uq ym)))).trans (uq m9);have hl10:Cel (Env.one E.rb E.l E.ta E.cap mb (λj=>j) 0) w10 ([]++ [dB true]++ []):=⟨λi j hi hj e=>by simp at hi hj;omega,λj d hd=>by
       match j,hd with
       |0,hd=>
        simp at hd;subst hd;exact⟨.bool true,(zal (a:=⟨mb,0,none⟩) c10).trans (uq ym),zgi _ _ _,(World.frozen?_of_block (a:=⟨mb,0,none⟩) c10).trans (uq yf),.inr rfl,λe=>by have:mb=E.rb:=e;have:=(uq HX).2.2.1;have:=(uq HS) _ (uq HR).2.2;omega⟩
       |j+1,hd=>simp at hd⟩
      refine((uq HD3) w10 [] [] r' (.refl _ _) rfl hr10 hl10).mono ?_;clear hr10 hl10;rintro e w11 ⟨hf11,hp11⟩;rw[hru]at hp11;obtain⟨bb,r3,hpm,hnext,hlen⟩:∃ bb r3,zaQ [44] [] (u :: r2)= .ok ([dB bb],r3)/\(if bb then nm most (L++ [[dS t.s]]) r3 else .ok (L++ [[dS t.s]],r3))=nm most L (t :: r')/\r3.length<=r'.length:=by
       by_cases hu:u.s= [44]
       ·exact⟨true,r2,by simp[zaQ,hu],by rw[if_pos rfl,uq HEq,if_pos (uq HNM),if_neg (by rw[uq HN];exact uq HNN),hru];simp[hu],by rw[hru];simp⟩
       ·exact⟨false,u :: r2,by simp[zaQ,hu],by rw[if_neg (by decide),uq HEq,if_pos (uq HNM),if_neg (by rw[uq HN];exact uq HNN),hru];simp[hu],by rw[hru];simp⟩
      rw[hpm]at hp11;obtain⟨rfl,_,hr11,hl11⟩:=hp11;have z11:w11.cell? ⟨mb,0,none⟩=some (.bool bb):=by
       obtain⟨u,k1,k2,_⟩:=hl11.2 0 (dB bb) (by simp);exact k1.trans (by rw[show u= .bool bb from k2.1])
      have HI11:Hid (RowI E w m (c++ [dN]++rest) 9 1 w11 (L++ [[dS t.s]]) r3 (.slice (some ⟨g',0,none⟩) (n+1) cp')):=zh (((uq HI9).keep (uq HK10)).move2 (zgk (uq HX).2.1) (λhs=>by have:=(uq HS) _ hs;have:=(uq HX).2.2.1;omega) (uq HX).2.2.1 (uq HV9) hf11 hr11.1);have HNX:Hid ((if bb then nm most (L++ [[dS t.s]]) r3 else .ok (L++ [[dS t.s]],r3))=nm most [] r0):=zh (by rw[hnext];exact uq HE);have HRk:=zh (zlJ (uq HI11).rd.1);have HLen:=zh hlen;clear hl11 hr11 hf11 hpm hnext hru hlen c10;go_wp2_with fail
      go_roundw
      case rel=>
       refine⟨w11.heap.size,bb,L++ [[dS t.s]],r3,.slice (some ⟨g',0,none⟩) (n+1) cp',rfl,by simp[go_sem],zh (by simp[go_sem]),zh ((uq HI11).keep ((zk _).alloc _)),HNX,zh ⟨?_,zgk (uq HX).2.1,?_,?_,?_⟩⟩
       ·rw[List.length_append];have:=(uq HX).1;have:=uq HN;have:=uq HNN;simp;omega
       ·have:=(uq HI11).fr.size;omega
       ·intro e
        have hr:=(uq HI11).row;simp only[Rd]at hr;obtain⟨_,q1,_⟩:=hr;have:=(q1.lt _ e).2;omega
       ·rw[World.size_alloc];omega
      case measure=>
       have q1:=uq HRk;have q2:=uq HSb;have q3:=uq HLen;simp only[List.length_cons]at q2;have e9:∀ o,rk E.rb (w11.alloc o)=rk E.rb w11:=λo=>by
        unfold rk
        rw[World.cell?_alloc_lt _ _ _ (Nat.lt_of_lt_of_le ((uq HS) _ (uq HR).2.2) (uq HI11).fr.size)]
       have y:wr.cell? ⟨mb,0,none⟩=some (.bool true):=uq HMB;simp only[e9,y];cases bb<;>simp[go_sem]<;>omega
   ·have HSQ:Hid (sq [zaN,zai] [] (t :: r')= .error (50,t.p)):=zh (by rw[zmm,if_neg hname]);have HNM:=zh hname;clear hname;refine wp_region_held_drew (S:=λw'=>w'.cell? ⟨g0,0,none⟩=some (.pointer (some ⟨E.rb,0,none⟩))) (by kernel_rfl) (by exact uq q0) (λzH=>?_);refine tk2 0 10 2 12 zH ?_;try simp only[Yq]
    refine zaq 1 (λK hK=>?_);go_simp;clear zH;(refine(zc3 (E:=Env.two E.rb E.l E.ta E.cap pb sb) (dI 0) 0 _ _ rfl _ (uq HS2)).mono ?_;rintro e w3 ⟨f1,x1,y1,rfl,hk,hd⟩;have HS3:=zh (zae (uq HS2) hk);have HK3:=zh hk;have HC3:Hid (zaw (Env.two E.rb E.l E.ta E.cap pb sb) w3 0 [(.func (.func f1) x1 y1,[dI 0],zaN)]):=zh ⟨hd,trivial⟩;clear hk hd);try go_wp2_with fail
    refine hK.out _ _ ?_ (λzH=>?_)
    ·exact(uq HK3).cell' (uq q0)
    clear hK K;try simp only[Yq]
    refine zaq 3 (λK hK=>?_);go_simp;clear zH;(refine(zax (E:=Env.two E.rb E.l E.ta E.cap pb sb) (dS []) 1 _ _ rfl _ (uq HS3)).mono ?_;rintro e w4 ⟨f2,x2,y2,rfl,hk,hd⟩;have HS4:=zh (zae (uq HS3) hk);have HK4:=zh ((uq HK3).trans hk);have HC4:Hid (zaw (Env.two E.rb E.l E.ta E.cap pb sb) w4 0 [(.func (.func f1) x1 y1,[dI 0],zaN),(.func (.func f2) x2 y2,[dS []],zai)]):=zh (zab (uq HC3) hk hd);clear hk hd);try go_wp2_with fail
    refine hK.out _ _ ?_ (λzH=>?_)
    ·exact(uq HK4).cell' (uq q0)
    clear hK K;try simp only[Yq]
    refine zaq 4 (λK hK=>?_);go_simp;clear zH;refine hK.out _ _ ?_ (λzH=>?_)
    ·exact((uq HK4).alloc _).cell' (uq q0)
    clear hK K;try simp only[Yq]
    refine zaq 5 (λK hK=>?_);go_simp;clear zH;(refine(za5 (E:=Env.two E.rb E.l E.ta E.cap pb sb) (m:=0) (ss:= [(.func (.func f1) x1 y1,[dI 0],zaN),(.func (.func f2) x2 y2,[dS []],zai)]) (c:= []) (rest:= []) (r:=t :: r') (by simp) (zaS ((zk _).alloc _) (uq HC4)) (za1 _ _ _) (λh=>Nat.lt_irrefl _ ((uq HS4) _ h)) rfl ((uq HR2).keep ((uq HK4).alloc _)) ((uq HL2).keep ((uq HK4).alloc _))).mono ?_;rintro e w5 hp;have hp2:=zhB (n:=2) (uq HSQ) hp;obtain rfl:e= .returned (flt (50,t.p)):=hp2.2;have HP:=zh hp;have HP2:=zh hp2;have HKz:=zh ((uq HK4).alloc (.cells #[.func (.func f1) x1 y1,.func (.func f2) x2 y2] 162));clear hp hp2);try go_wp2_with fail
    refine hK.out _ _ ?_ (λzH=>?_)
    ·exact(uq HP).1.cell ((uq HKz).cell' (uq q0)) (uq HQ0)
    clear hK K;try simp only[Yq]
    refine tkk 6 7 zH ?_;try simp only[Yq]
    refine wpAnyH_done (by kernel_rfl) ?_ _;clear zH;have HF5:Hid (Fr (λb=>b=E.rb) wr w5):=zh (Fr.inner ((Fr.keep (uq HK2)).trans ((Fr.keep (zk w2).drew).trans (.keep (uq HKz)))) (uq HP2).1 (λi hi hs=>by
     rcases hs with hs|hs|hs
     ·exact hs
     ·have:=uq HPB;omega
     ·have:=uq HPB;omega))
    unfold flt
    go_wp2_with fail
    go_ret;have hres:zar 9 most c r0= .error (50,t.p):=by
     show(match nm most [] r0 with| .error x=>Except.error x| .ok (L,r')=> .ok (c++ [D.row 9 1 L],r'))=_;rw[<- uq HE,uq HEq,if_neg (uq HNM)]
    rw[hres];exact⟨(uq HI).fr.inner (uq HF5) (λi _ e=>e▸(uq HR).2.2),rfl⟩
set_option maxHeartbeats 1000000 in
theorem make (a b:Option Addr) (most:Int) (w:World):Calls Tryz.prog 149 #[.pointer a,.int .i64 most,.pointer b] w λe w'=>e= .returned (.func (.func 168) #[] #[.pointer (some ⟨w.heap.size,0,none⟩),.pointer (some ⟨w.heap.size+1+1,0,none⟩),.pointer (some ⟨w.heap.size+1,0,none⟩)])/\w'=((w.alloc (.cells #[.pointer a] 123)).alloc (.cells #[.int .i64 most] 3)).alloc (.cells #[.pointer b] 242):=by
 go_enter Tryz.func149,Tryz.ntmps149;go_wp2;go_ret;exact⟨rfl,rfl⟩
end NamesR
theorem zbW {E:Env} (most:Nat) (hmost:most<=1000) (m b o:Nat) (hA:E.A m=(b,o)) (w:World) (hS:∀ b,E.S b->b<w.heap.size) (hLo:E.lo<=w.heap.size):
  Calls Tryz.prog 149 #[.pointer (some ⟨E.rb,0,none⟩),.int .i64 (most:Int),.pointer (some ⟨b,o,none⟩)] w (Mk E m [dN] (zar 9 most) w):=by
 refine(NamesR.make _ _ _ w).mono ?_;rintro e w' ⟨rfl,rfl⟩;obtain⟨b1,b2,b3⟩:=zeP E w (.pointer (some ⟨E.rb,0,none⟩)) (.int .i64 (most:Int)) (.pointer (some ⟨b,o,none⟩)) 123 3 242 hS;have hk:=zfk w (.cells #[.pointer (some ⟨E.rb,0,none⟩)] 123) (.cells #[.int .i64 (most:Int)] 3) (.cells #[.pointer (some ⟨b,o,none⟩)] 242);exact⟨_,_,_,rfl,hk,⟨_,_,_,rfl,λxs w=>by kernel_rfl,λw2 c rest r hf hc hr hl=>NamesR.core E _ _ _ b o m most c rest w2 r (zh (b1.fr hf)) (zh (b3.fr hf)) (zh (b2.fr hf)) (zh hA) (zh (Bx.hs (zae hS hk) hf)) (zh (Nat.le_trans (zah hLo hk) hf.size)) (zh hc) (zh hr) (zh hl) hmost⟩⟩
set_option maxHeartbeats 4000000 in
theorem zif (E:Env) (tb:Nat) (w:World) (r:List Tok) (A0:Hid (E.A 0=(tb,2))) (A1:Hid (E.A 1=(tb,0))) (A2:Hid (E.A 2=(tb,1)))
  (HS:Hid (∀ b,E.S b->b<w.heap.size)) (HLo:Hid (E.lo<=w.heap.size)) (HR:Hid (Rdr E w r)) (HL:Hid (Cel E w [dI 0,dS [],dN])):
  Calls Tryz.prog 121 #[.pointer (some ⟨E.rb,0,none⟩),.pointer (some ⟨tb,0,none⟩)] w (zcv E w [] 3 (sq [zaN,zai,zad [58],zar 9 16,zad [59]] [] r)):=by
 have HK0:=zh (zk w).drew;have HS0:Hid (∀ b,E.S b->b<w.drew.heap.size):=HS;have HLo0:Hid (E.lo<=w.drew.heap.size):=HLo;go_enter Tryz.func121,Tryz.ntmps121;go_wp2_with fail
 refine wp_region_held_drew (S:=λ_=>True) (by kernel_rfl) (by trivial) (λzH=>?_);refine tk6 0 5 1 6 2 7 3 8 5 10 6 11 zH ?_;try simp only[Yq]
 refine tk6 7 12 8 13 10 15 12 17 13 18 14 19 zH ?_;try simp only[Yq]
 refine tk2 15 20 17 22 zH ?_;try simp only[Yq]
 refine zaq 4 (λK hK=>?_);go_simp;clear zH;(refine(zc3 (E:=E) (dI 0) (0) _ _ (uq A0) _ (uq HS0)).mono ?_;rintro e w1 ⟨f1,x1,y1,rfl,hk,hd⟩;have HS1:=zh (zae (uq HS0) hk);have HLo1:=zh (zah (uq HLo0) hk);have HK1:=zh ((uq HK0).trans hk);have HC1:Hid (zaw E w1 (0) [(.func (.func f1) x1 y1,[dI 0],zaN)]):=zh ⟨hd,trivial⟩;clear hk hd);try go_wp2_with fail
 refine hK.out _ _ ?_ (λzH=>?_)
 ·trivial
 clear hK K;try simp only[Yq]
 refine zaq 9 (λK hK=>?_);go_simp;clear zH;(refine(zax (E:=E) (dS []) (1) _ _ (uq A1) _ (uq HS1)).mono ?_;rintro e w2 ⟨f2,x2,y2,rfl,hk,hd⟩;have HS2:=zh (zae (uq HS1) hk);have HLo2:=zh (zah (uq HLo1) hk);have HK2:=zh ((uq HK1).trans hk);have HC2:Hid (zaw E w2 (0) [(.func (.func f1) x1 y1,[dI 0],zaN),(.func (.func f2) x2 y2,[dS []],zai)]):=zh (zab (uq HC1) hk hd);clear hk hd);try go_wp2_with fail
 refine hK.out _ _ ?_ (λzH=>?_)
 ·trivial
 clear hK K;try simp only[Yq]
 refine zaq 11 (λK hK=>?_);go_simp;clear zH;(refine(zaH (E:=E) [58] (by decide) (2) _ (uq HS2)).mono ?_;rintro e w3 ⟨f3,x3,y3,rfl,hk,hd⟩;have HS3:=zh (zae (uq HS2) hk);have HLo3:=zh (zah (uq HLo2) hk);have HK3:=zh ((uq HK2).trans hk);have HC3:Hid (zaw E w3 (0) [(.func (.func f1) x1 y1,[dI 0],zaN),(.func (.func f2) x2 y2,[dS []],zai),(.func (.func f3) x3 y3,[],zad [58])]):=zh (zab (uq HC2) hk hd);clear hk hd);try go_wp2_with fail
 refine hK.out _ _ ?_ (λzH=>?_)
 ·trivial
 clear hK K;try simp only[Yq]
 refine zaq 16 (λK hK=>?_);go_simp;clear zH;(refine(zbW (E:=E) 16 (by decide) (2) _ _ (uq A2) _ (uq HS3) (uq HLo3)).mono ?_;rintro e w4 ⟨f4,x4,y4,rfl,hk,hd⟩;have HS4:=zh (zae (uq HS3) hk);have HLo4:=zh (zah (uq HLo3) hk);have HK4:=zh ((uq HK3).trans hk);have HC4:Hid (zaw E w4 (0) [(.func (.func f1) x1 y1,[dI 0],zaN),(.func (.func f2) x2 y2,[dS []],zai),(.func (.func f3) x3 y3,[],zad [58]),(.func (.func f4) x4 y4,[dN],zar 9 16)]):=zh (zab (uq HC3) hk hd);clear hk hd);try go_wp2_with fail
 refine hK.out _ _ ?_ (λzH=>?_)
 ·trivial
 clear hK K;try simp only[Yq]
 refine zaq 18 (λK hK=>?_);go_simp;clear zH;(refine(zaH (E:=E) [59] (by decide) (3) _ (uq HS4)).mono ?_;rintro e w5 ⟨f5,x5,y5,rfl,hk,hd⟩;have HS5:=zh (zae (uq HS4) hk);have HLo5:=zh (zah (uq HLo4) hk);have HK5:=zh ((uq HK4).trans hk);have HC5:Hid (zaw E w5 (0) [(.func (.func f1) x1 y1,[dI 0],zaN),(.func (.func f2) x2 y2,[dS []],zai),(.func (.func f3) x3 y3,[],zad [58]),(.func (.func f4) x4 y4,[dN],zar 9 16),(.func (.func f5) x5 y5,[],zad [59])]):=zh (zab (uq HC4) hk hd);clear hk hd);try go_wp2_with fail
 refine hK.out _ _ ?_ (λzH=>?_)
 ·trivial
 clear hK K;try simp only[Yq]
 refine zaq 19 (λK hK=>?_);go_simp;clear zH;refine hK.out _ _ ?_ (λzH=>?_)
 ·trivial
 clear hK K;try simp only[Yq]
 refine zaq 20 (λK hK=>?_);go_simp;clear zH;(refine(za5 (E:=E) (m:=0) (ss:= [(.func (.func f1) x1 y1,[dI 0],zaN),(.func (.func f2) x2 y2,[dS []],zai),(.func (.func f3) x3 y3,[],zad [58]),(.func (.func f4) x4 y4,[dN],zar 9 16),(.func (.func f5) x5 y5,[],zad [59])]) (c:= []) (rest:= []) (r:=r) (by simp) (zaS ((zk _).alloc _) (uq HC5)) (za1 _ _ _) (λh=>Nat.lt_irrefl _ ((uq HS5) _ h)) rfl ((uq HR).keep ((uq HK5).alloc _)) ((uq HL).keep ((uq HK5).alloc _))).mono ?_;rintro e wz hp;obtain⟨vz,rfl⟩:=zbA hp;have HP:=zh hp;have HKz:=zh ((uq HK5).alloc (.cells #[.func (.func f1) x1 y1,.func (.func f2) x2 y2,.func (.func f3) x3 y3,.func (.func f4) x4 y4,.func (.func f5) x5 y5] 162));clear hp);try go_wp2_with fail
 refine hK.out _ _ ?_ (λzH=>?_)
 ·trivial
 clear hK K;try simp only[Yq]
 refine tkk 21 4 zH ?_;try simp only[Yq]
 refine wpAnyH_done (by kernel_rfl) ?_ _;clear zH;go_wp2_with fail
 go_ret;exact zbN (.keep (uq HKz)) (uq HP)
set_option maxHeartbeats 4000000 in
theorem zkl (E:Env) (tb:Nat) (w:World) (r:List Tok) (A0:Hid (E.A 0=(tb,0))) (A1:Hid (E.A 1=(tb,1)))
  (HS:Hid (∀ b,E.S b->b<w.heap.size)) (HLo:Hid (E.lo<=w.heap.size)) (HR:Hid (Rdr E w r)) (HL:Hid (Cel E w [dB false,dN])):
  Calls Tryz.prog 152 #[.pointer (some ⟨E.rb,0,none⟩),.pointer (some ⟨tb,0,none⟩)] w (zcv E w [] 2 (sq [zaQ [102,114,101,101],zar 9 4,zad [59]] [] r)):=by
 have HK0:=zh (zk w).drew;have HS0:Hid (∀ b,E.S b->b<w.drew.heap.size):=HS;have HLo0:Hid (E.lo<=w.drew.heap.size):=HLo;go_enter Tryz.func152,Tryz.ntmps152;go_wp2_with fail
 refine wp_region_held_drew (S:=λ_=>True) (by kernel_rfl) (by trivial) (λzH=>?_);refine tk6 0 5 1 6 2 7 3 8 5 10 6 11 zH ?_;try simp only[Yq]
 refine tk3 7 12 8 13 10 15 zH ?_;try simp only[Yq]
 refine zaq 4 (λK hK=>?_);go_simp;clear zH;(refine(zd5 (E:=E) [102,114,101,101] (by decide) (dB false) (0) _ _ (uq A0) _ (uq HS0)).mono ?_;rintro e w1 ⟨f1,x1,y1,rfl,hk,hd⟩;have HS1:=zh (zae (uq HS0) hk);have HLo1:=zh (zah (uq HLo0) hk);have HK1:=zh ((uq HK0).trans hk);have HC1:Hid (zaw E w1 (0) [(.func (.func f1) x1 y1,[dB false],zaQ [102,114,101,101])]):=zh ⟨hd,trivial⟩;clear hk hd);try go_wp2_with fail
 refine hK.out _ _ ?_ (λzH=>?_)
 ·trivial
 clear hK K;try simp only[Yq]
 refine zaq 9 (λK hK=>?_);go_simp;clear zH;(refine(zbW (E:=E) 4 (by decide) (1) _ _ (uq A1) _ (uq HS1) (uq HLo1)).mono ?_;rintro e w2 ⟨f2,x2,y2,rfl,hk,hd⟩;have HS2:=zh (zae (uq HS1) hk);have HLo2:=zh (zah (uq HLo1) hk);have HK2:=zh ((uq HK1).trans hk);have HC2:Hid (zaw E w2 (0) [(.func (.func f1) x1 y1,[dB false],zaQ [102,114,101,101]),(.func (.func f2) x2 y2,[dN],zar 9 4)]):=zh (zab (uq HC1) hk hd);clear hk hd);try go_wp2_with fail
 refine hK.out _ _ ?_ (λzH=>?_)
 ·trivial
 clear hK K;try simp only[Yq]
 refine zaq 11 (λK hK=>?_);go_simp;clear zH;(refine(zaH (E:=E) [59] (by decide) (2) _ (uq HS2)).mono ?_;rintro e w3 ⟨f3,x3,y3,rfl,hk,hd⟩;have HS3:=zh (zae (uq HS2) hk);have HLo3:=zh (zah (uq HLo2) hk);have HK3:=zh ((uq HK2).trans hk);have HC3:Hid (zaw E w3 (0) [(.func (.func f1) x1 y1,[dB false],zaQ [102,114,101,101]),(.func (.func f2) x2 y2,[dN],zar 9 4),(.func (.func f3) x3 y3,[],zad [59])]):=zh (zab (uq HC2) hk hd);clear hk hd);try go_wp2_with fail
 refine hK.out _ _ ?_ (λzH=>?_)
 ·trivial
 clear hK K;try simp only[Yq]
 refine zaq 12 (λK hK=>?_);go_simp;clear zH;refine hK.out _ _ ?_ (λzH=>?_)
 ·trivial
 clear hK K;try simp only[Yq]
 refine zaq 13 (λK hK=>?_);go_simp;clear zH;(refine(za5 (E:=E) (m:=0) (ss:= [(.func (.func f1) x1 y1,[dB false],zaQ [102,114,101,101]),(.func (.func f2) x2 y2,[dN],zar 9 4),(.func (.func f3) x3 y3,[],zad [59])]) (c:= []) (rest:= []) (r:=r) (by simp) (zaS ((zk _).alloc _) (uq HC3)) (za1 _ _ _) (λh=>Nat.lt_irrefl _ ((uq HS3) _ h)) rfl ((uq HR).keep ((uq HK3).alloc _)) ((uq HL).keep ((uq HK3).alloc _))).mono ?_;rintro e wz hp;obtain⟨vz,rfl⟩:=zbA hp;have HP:=zh hp;have HKz:=zh ((uq HK3).alloc (.cells #[.func (.func f1) x1 y1,.func (.func f2) x2 y2,.func (.func f3) x3 y3] 162));clear hp);try go_wp2_with fail
 refine hK.out _ _ ?_ (λzH=>?_)
 ·trivial
 clear hK K;try simp only[Yq]
 refine tkk 14 4 zH ?_;try simp only[Yq]
 refine wpAnyH_done (by kernel_rfl) ?_ _;clear zH;go_wp2_with fail
 go_ret;exact zbN (.keep (uq HKz)) (uq HP)
end Go.Proofs.YthceiikgecoimaaGreatDoor
