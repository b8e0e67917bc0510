/- Package net: groups of rings. -/
import Derived.Test.YthceiikgecoimaaGreatDoorNRAll
import Derived.Test.YthceiikgecoimaaGreatDoorLVal
import Derived.Test.YthceiikgecoimaaGreatDoorNSring
namespace Go.Proofs.YthceiikgecoimaaGreatDoor
open Go.RowKit
attribute [local go_sem ↓] Go.wp_at_zero Go.wp_at_succ
set_option linter.unusedVariables false
set_option linter.unusedSimpArgs false
set_option maxRecDepth 10000
def zpm (E:Env) (w0:World) (v:Value) (m:Nat) (zs:List D) (Q:List D->Prop) (p:Sp):Prop:=∃ fn xs ys,v= .func (.func fn) xs ys/\Ent fn/\∀ w c rest r,Q c->Fr E.S w0 w->c.length=m->Rdr E w r->Cel E w (c++zs++rest)->Calls Tryz.prog fn (xs++ys) w (zcu E w rest (m+zs.length) (p c r))
theorem Does.q {E:Env} {w0:World} {v:Value} {m:Nat} {zs:List D} {p:Sp} (h:Does E w0 v m zs p) (Q:List D->Prop):zpm E w0 v m zs Q p:=by
 obtain⟨fn,xs,ys,a,b,c⟩:=h;exact⟨fn,xs,ys,a,b,λw c' rest r _=>c w c' rest r⟩
def zky (E:Env) (w0:World):Nat->(List D->Prop)->List (Value×List D×Sp)->Prop
 | _,_,[]=>True
 |m,Q,s :: ss=>∃ R:List D->Prop,zpm E w0 s.1 m s.2.1 Q s.2.2/\(∀ c r c' r',Q c->s.2.2 c r= .ok (c',r')->R c')/\zky E w0 (m+s.2.1.length) R ss
theorem zpn {E:Env} {w:World} {g m:Nat} {ss:List (Value×List D×Sp)} {c rest:List D} {r:List Tok} {Q:List D->Prop} (hq:Q c) (hn:ss.length<=1000) (hch:zky E w m Q ss) (hv:∀ i s,ss[i]? =some s->w.cell? ⟨g,i,none⟩=some s.1) (hg:¬E.S g)
  (hc:c.length=m) (hr:Rdr E w r) (hl:Cel E w (c++zer ss++rest)):
  Calls Tryz.prog 84 #[.slice (some ⟨g,0,none⟩) ss.length ss.length] w (zcu E w rest (m+(zer ss).length) (sq (ss.map λs=>s.2.2) c r)):=by
 refine(zfd g ss.length (λi=>(ss.getD i (.nilIface,[],zaO)).1)
  (λi w'=>Fr E.S w w'/\∃ c' r' m' Q',sq (ss.map λs=>s.2.2) c r=sq ((ss.drop i).map λs=>s.2.2) c' r'/\c'.length=m'/\m'+(zer (ss.drop i)).length=m+(zer ss).length/\Q' c'/\zky E w m' Q' (ss.drop i)/\Rdr E w' r'/\Cel E w' (c'++zer (ss.drop i)++rest))
  (λx w'=>Fr E.S w w'/\∃ y:Er,x= .agg #[.int .i64 y.1,.int .i64 y.2]/\sq (ss.map λs=>s.2.2) c r= .error y) w hn (zh λi w' hi h=>?_) (zh λi w' hi h=>?_) (zh ⟨.refl _ _,c,r,m,Q,by simp,hc,by simp,hq,by simpa using hch,hr,by simpa using hl⟩)).mono ?_
 ·obtain⟨s,hs,_⟩:=zfL hi;have e:(ss.getD i (.nilIface,[],zaO)).1=s.1:=by rw[List.getD_eq_getElem?_getD,hs];rfl
  rw[e];exact h.1.cell (hv i s hs) hg
 ·obtain⟨s,hs,hd⟩:=zfL hi;have e:(ss.getD i (.nilIface,[],zaO)).1=s.1:=by rw[List.getD_eq_getElem?_getD,hs];rfl
  obtain⟨hf,c',r',m',Q',h1,h2,h3,hq',h4,h5,h6⟩:=h;rw[hd]at h1 h3 h4 h6;obtain⟨R,⟨fn,xs,ys,k1,k2,k3⟩,hR,h4⟩:=h4;refine⟨fn,xs,ys,e.trans k1,k2,(k3 w' c' (zer (ss.drop (i+1))++rest) r' hq' hf h2 h5 (by simpa [zer,List.append_assoc]using h6)).mono ?_⟩;rintro e w'' ⟨f2,hp⟩;simp only[List.map_cons,sq]at h1;cases hx:s.2.2 c' r' with
  |error y=>
   rw[hx]at hp h1;exact .inr ⟨_,hp,hf.trans f2,y,rfl,h1⟩
  |ok q=>
   obtain⟨c2,r2⟩:=q;rw[hx]at hp h1;obtain⟨p1,p2,p3,p4⟩:=hp;refine .inl ⟨p1,hf.trans f2,c2,r2,m'+s.2.1.length,R,h1,p2,?_,hR _ _ _ _ hq' hx,h4,p3,by simpa [List.append_assoc]using p4⟩;simp[zer]at h3;omega
 ·rintro e w' (⟨he,hf,c',r',m',Q',h1,h2,h3,hq',h4,h5,h6⟩|⟨x,he,hf,y,rfl,h1⟩)
  ·rw[h1];simp only[List.drop_length,List.map_nil,sq,zer,List.length_nil,List.append_nil]at h1 h3 h6 |-;exact zbD he hf (by omega) h5 h6
  ·rw[h1];exact⟨hf,he⟩
set_option maxHeartbeats 2000000 in
theorem zlU (rb g1 g2 tb n cap:Nat) (av:Option Addr) (w:World) (hn:0<n) (h2:w.cell? ⟨g2,0,none⟩=some (.pointer (some ⟨tb,0,none⟩))) (h3:w.cell? ⟨tb,0,none⟩=some (.slice av n cap)):
  Calls Tryz.prog 153 #[.pointer (some ⟨g2,0,none⟩),.pointer (some ⟨g1,0,none⟩)] w λe w'=>e= .returned .nilIface/\w'=w:=by
 have hb:((n:Int)==0)=false:=by simp;omega
 have hb2:¬n=0:=by omega
 go_enter Tryz.func153,Tryz.ntmps153;go_wp2_with fail
 go_ret;exact⟨rfl,rfl⟩
set_option maxHeartbeats 2000000 in
theorem zpo (rb g1 g2 tb cap:Nat) (pp:Int) (av:Option Addr) (w:World) (h1:w.cell? ⟨g1,0,none⟩=some (.pointer (some ⟨rb,0,none⟩))) (h2:w.cell? ⟨g2,0,none⟩=some (.pointer (some ⟨tb,0,none⟩))) (h3:w.cell? ⟨tb,0,none⟩=some (.slice av 0 cap)) (T2:Hid (zed rb pp w)):
  Calls Tryz.prog 153 #[.pointer (some ⟨g2,0,none⟩),.pointer (some ⟨g1,0,none⟩)] w λe w'=>e= .returned (flt (50,pp))/\Keep w w':=by
 have HK:=zh (zk w);go_enter Tryz.func153,Tryz.ntmps153;go_wp2_with fail
 (refine((uq T2) _ _ (uq HK)).mono ?_;rintro e w3 ⟨rfl,hk⟩;have HK3:=zh hk;clear hk);go_wp2_with fail
 go_ret;exact⟨rfl,uq HK3⟩
theorem zkz {E:Env} {w0:World} {g1 g2 tb e z:Nat} (hA:E.A 0=(tb,0)) (b1:Bx E w0 g1 (.pointer (some ⟨E.rb,0,none⟩))) (b2:Bx E w0 g2 (.pointer (some ⟨tb,0,none⟩))):
  zpm E w0 (.func (.func 153) #[] #[.pointer (some ⟨g2,0,none⟩),.pointer (some ⟨g1,0,none⟩)]) 1 [] (λc=>∃ L,c= [.row e z L]) zbX:=by
 refine⟨_,_,_,rfl,λxs w=>by kernel_rfl,λw c rest r hq hf hc hr hl=>?_⟩;obtain⟨L,rfl⟩:=hq;obtain⟨v,k1,k2,k3⟩:=hl.2 0 (.row e z L) (by simp);rw[hA]at k1;obtain⟨av,cap,xs,rfl,_⟩:=zc4 k2;obtain⟨t,r',rfl⟩:=zcp hr.1;cases L with
 |nil=>
  simp only[zbX,bad];refine(zpo E.rb g1 g2 tb cap t.p av w (b1.fr hf).1 (b2.fr hf).1 k1 (zh (zdJ hr.1))).mono ?_;rintro e w' ⟨he,hk⟩;exact zdd he hk
 |cons d L=>
  simp only[zbX];refine(zlU E.rb g1 g2 tb (d :: L).length cap av w (by simp) (b2.fr hf).1 k1).mono ?_;rintro e w' ⟨he,rfl⟩;exact zbD he (.refl _ _) (by simp) hr (by simpa using hl)
theorem zsy {X:List UInt8} {most e z:Nat} {body:List Tok->Rs} {c:List D} {r:List Tok} {c':List D} {r':List Tok} (hc:c= []) (h:zaL X most e z body c r= .ok (c',r')):∃ L,c'= [.row e z L]:=by
 subst hc;simp only[zaL]at h;split at h
 ·cases h
 ·simp at h;exact⟨_,h.1.symm⟩
theorem zsz {s:List UInt8} {c:List D} {r:List Tok} {c':List D} {r':List Tok} (h:zad s c r= .ok (c',r')):c'=c:=by
 cases r with
 |nil=>simp[zad,bad]at h
 |cons t r=>simp only[zad]at h;split at h;(simp at h;exact h.1.symm);exact absurd h zb6
set_option maxHeartbeats 4000000 in
theorem zdV (E:Env) (tb:Nat) (w00:World) (r:List Tok) (A0:Hid (E.A 0=(tb,0))) (HS00:Hid (∀ b,E.S b->b<w00.heap.size)) (HLo00:Hid (E.lo<=w00.heap.size)) (HR00:Hid (Rdr E w00 r)) (HL00:Hid (Cel E w00 [dN]))
  (THRow:Hid (zbg E.rb E.l E.ta E.cap 152 86 [.bool false,.slice none 0 0] zaV)):
  Calls Tryz.prog 123 #[.pointer (some ⟨E.rb,0,none⟩),.pointer (some ⟨tb,0,none⟩)] w00 (zcu E w00 [] 1 (zbl r)):=by
 have HK00:=zh (zaM w00 (.cells #[.pointer (some ⟨E.rb,0,none⟩)] 123) (.cells #[.pointer (some ⟨tb,0,none⟩)] 243));obtain⟨b1,b2⟩:=zbR E w00 (.pointer (some ⟨E.rb,0,none⟩)) (.pointer (some ⟨tb,0,none⟩)) 123 243 (uq HS00);have B1:=zh b1;have B2:=zh b2;clear b1 b2;go_enter Tryz.func123,Tryz.ntmps123;go_wp2_with fail
 generalize (w00.alloc (.cells #[.pointer (some ⟨E.rb,0,none⟩)] 123)).alloc (.cells #[.pointer (some ⟨tb,0,none⟩)] 243)=w at HK00 B1 B2 |-;generalize w00.heap.size+1=g2 at B2 |-;obtain⟨g1,HG1⟩:∃ g,Hid (w00.heap.size=g):=⟨_,rfl⟩;rw[uq HG1]at B1 |-;have HS0:Hid (∀ b,E.S b->b<w.drew.heap.size):=zh (zae (w':=w) (uq HS00) (uq HK00));have HLo0:Hid (E.lo<=w.drew.heap.size):=zh (zah (w':=w) (uq HLo00) (uq HK00));have HR:=zh ((uq HR00).keep (uq HK00));have HL:=zh ((uq HL00).keep (uq HK00));have HK0:=zh (zk w).drew;have H1:=zh (uq B1).1;have H2:=zh (uq B2).1;refine wp_region_held_drew (S:=λw'=>w'.cell? ⟨g1,0,none⟩=some (.pointer (some ⟨E.rb,0,none⟩))/\w'.cell? ⟨g2,0,none⟩=some (.pointer (some ⟨tb,0,none⟩))) (by kernel_rfl) (by exact⟨uq H1,uq H2⟩) (λzH=>?_);refine tk6 0 5 2 7 3 8 4 9 5 10 6 11 zH ?_;try simp only[Yq]
 refine tk3 7 12 9 14 10 15 zH ?_;try simp only[Yq]
 refine zap 1 (λK hK=>?_);go_simp;clear zH;(refine(zaG (E:=E) [123] (by decide) 0 _ (uq HS0)).mono ?_;rintro e w1 ⟨f1,x1,y1,rfl,hk,hd⟩;have HS1:=zh (zae (uq HS0) hk);have HLo1:=zh (zah (uq HLo0) hk);have HK1:=zh ((uq HK0).trans hk);have HD1:=zh hd;clear hk hd);try go_wp2_with fail
 refine hK.out _ _ ?_ (λzH=>?_)
 ·exact⟨(uq HK1).cell' (uq H1),(uq HK1).cell' (uq H2)⟩
 clear hK K;try simp only[Yq]
 refine zap 8 (λK hK=>?_);go_simp;clear zH;(refine(zih (E:=E) [114,105,110,103] (by decide) 2 (by decide) zaV (uq THRow) 0 _ _ (uq A0) _ (uq HS1) (uq HLo1)).mono ?_;rintro e w2 ⟨f2,x2,y2,rfl,hk,hd⟩;have HS2:=zh (zae (uq HS1) hk);have HK2:=zh ((uq HK1).trans hk);have HD2:=zh hd;have HD12:=zh ((uq HD1).keep hk);clear hk hd);try go_wp2_with fail
 refine hK.out _ _ ?_ (λzH=>?_)
 ·exact⟨(uq HK2).cell' (uq H1),(uq HK2).cell' (uq H2)⟩
 clear hK K;try simp only[Yq]
 refine zap 11 (λK hK=>?_);go_simp;clear zH;(refine(zaG (E:=E) [125] (by decide) 1 _ (uq HS2)).mono ?_;rintro e w3 ⟨f3,x3,y3,rfl,hk,hd⟩;have HS3:=zh (zae (uq HS2) hk);have HK3:=zh ((uq HK2).trans hk);have HD3:=zh hd;have HD23:=zh ((uq HD2).keep hk);have HD13:=zh ((uq HD12).keep hk);clear hk hd);try go_wp2_with fail
 refine hK.out _ _ ?_ (λzH=>?_)
 ·exact⟨(uq HK3).cell' (uq H1),(uq HK3).cell' (uq H2)⟩
 clear hK K;try simp only[Yq]
 refine zap 12 (λK hK=>?_);go_simp;clear zH;refine hK.out _ _ ?_ (λzH=>?_)
 ·exact⟨((uq HK3).alloc _).cell' (uq H1),((uq HK3).alloc _).cell' (uq H2)⟩
 clear hK K;try simp only[Yq]
 refine zap 13 (λK hK=>?_);go_simp;clear zH;(refine(zpn (E:=E) (m:=0) (Q:=λc=>c= []) (ss:= [(.func (.func f1) x1 y1,[],zad [123]),(.func (.func f2) x2 y2,[dN],zaL [114,105,110,103] 2 86 2 zaV),(.func (.func 153) #[] #[.pointer (some ⟨g2,0,none⟩),.pointer (some ⟨g1,0,none⟩)],[],zbX),(.func (.func f3) x3 y3,[],zad [125])]) (c:= []) (rest:= []) (r:=r) rfl (by simp) ⟨λc=>c= [],((uq HD13).keep ((zk _).alloc _)).q _,λc r c' r' hc h=>(zsz h).trans hc,λc=>∃ L,c= [.row 86 2 L],((uq HD23).keep ((zk _).alloc _)).q _,λc r c' r' hc h=>zsy hc h,λ_=>True,zkz (uq A0) ((uq B1).fr (.keep ((uq HK3).alloc _))) ((uq B2).fr (.keep ((uq HK3).alloc _))),λ_ _ _ _ _ _=>trivial,λ_=>True,((uq HD3).keep ((zk _).alloc _)).q _,λ_ _ _ _ _ _=>trivial,trivial⟩ (za1 _ _ _) (λh=>Nat.lt_irrefl _ ((uq HS3) _ h)) rfl ((uq HR).keep ((uq HK3).alloc _)) ((uq HL).keep ((uq HK3).alloc _))).mono ?_;rintro e wz hp;obtain⟨vz,rfl⟩:=zbz hp;have HP:=zh hp;have HKz:=zh ((uq HK3).alloc (.cells #[.func (.func f1) x1 y1,.func (.func f2) x2 y2,.func (.func 153) #[] #[.pointer (some ⟨g2,0,none⟩),.pointer (some ⟨g1,0,none⟩)],.func (.func f3) x3 y3] 162));clear hp);try go_wp2_with fail
 refine hK.out _ _ ?_ (λzH=>?_)
 ·exact⟨(uq HP).1.cell ((uq HKz).cell' (uq H1)) (uq B1).2,(uq HP).1.cell ((uq HKz).cell' (uq H2)) (uq B2).2⟩
 clear hK K;try simp only[Yq]
 refine tkk 14 4 zH ?_;try simp only[Yq]
 refine wpAnyH_done (by kernel_rfl) ?_ _;clear zH;go_wp2_with fail
 go_ret;exact zbM (.keep ((uq HK00).trans (uq HKz))) (uq HP)
set_option maxHeartbeats 4000000 in
theorem zeE (E:Env) (tb:Nat) (w:World) (r:List Tok) (A0:Hid (E.A 0=(tb,6))) (A1:Hid (E.A 1=(tb,0))) (A2:Hid (E.A 2=(tb,1))) (A3:Hid (E.A 3=(tb,2))) (A4:Hid (E.A 4=(tb,3))) (A5:Hid (E.A 5=(tb,4))) (A6:Hid (E.A 6=(tb,5)))
  (HS:Hid (∀ b,E.S b->b<w.heap.size)) (HLo:Hid (E.lo<=w.heap.size)) (HR:Hid (Rdr E w r)) (HL:Hid (Cel E w [dI 0,dS [],dN,dN,dN,dN,dN])) (THHead:Hid (zbg E.rb E.l E.ta E.cap 117 77 [.string ⟨#[]⟩,.int .i64 0,.int .i64 0,.int .i64 0,.int .i64 0,.int .i64 0,.int .i64 0,.int .i64 0,.int .i64 0,.int .i64 0,.int .i64 0] zbT)) (THPed:Hid (zbg E.rb E.l E.ta E.cap 119 79 [.string ⟨#[]⟩,.string ⟨#[]⟩,.int .i64 0,.int .i64 0,.int .i64 0,.int .i64 0] zbY)) (THPhase:Hid (zbg E.rb E.l E.ta E.cap 121 81 [.string ⟨#[]⟩,.slice none 0 0,.int .i64 0] zbm)) (THGroup:Hid (zbg E.rb E.l E.ta E.cap 123 84 [.slice none 0 0] zbl)) (THFoe:Hid (zbg E.rb E.l E.ta E.cap 125 88 [.string ⟨#[]⟩,.string ⟨#[]⟩,.int .i64 0] zeR)):
  Calls Tryz.prog 89 #[.pointer (some ⟨E.rb,0,none⟩),.pointer (some ⟨tb,0,none⟩)] w (zcu E w [] 7 (sq [zaO,zai,zad [123],zaL [104,101,97,100] 16 77 11 zbT,zaL [119,97,108,107] 8 79 6 zbY,zaL [112,104,97,115,101] 16 81 3 zbm,zaL [103,114,111,117,112] 4 84 1 zbl,zaL [102,111,101] 64 88 3 zeR,zad [125]] [] r)):=by
 have HK0:=zh (zk w).drew;have HS0:Hid (∀ b,E.S b->b<w.drew.heap.size):=HS;have HLo0:Hid (E.lo<=w.drew.heap.size):=HLo;go_enter Tryz.func89,Tryz.ntmps89;go_wp2_with fail
 refine wp_region_held_drew (S:=λ_=>True) (by kernel_rfl) (by trivial) (λzH=>?_);refine tk6 0 5 1 6 2 7 3 8 5 10 6 11 zH ?_;try simp only[Yq]
 refine tk6 7 12 8 13 10 15 12 17 13 18 14 19 zH ?_;try simp only[Yq]
 refine tk6 15 20 16 21 17 22 19 24 20 25 21 26 zH ?_;try simp only[Yq]
 refine tk6 22 27 23 28 24 29 26 31 27 32 28 33 zH ?_;try simp only[Yq]
 refine tk6 29 34 30 35 31 36 33 38 34 39 35 40 zH ?_;try simp only[Yq]
 refine tk6 36 41 37 42 38 43 40 45 41 46 42 47 zH ?_;try simp only[Yq]
 refine tk4 43 48 44 49 45 50 47 52 zH ?_;try simp only[Yq]
 refine zap 4 (λK hK=>?_);go_simp;clear zH;(refine(zc2 (E:=E) (dI 0) (0) _ _ (uq A0) _ (uq HS0)).mono ?_;rintro e w1 ⟨f1,x1,y1,rfl,hk,hd⟩;have HS1:=zh (zae (uq HS0) hk);have HLo1:=zh (zah (uq HLo0) hk);have HK1:=zh ((uq HK0).trans hk);have HC1:Hid (zaw E w1 (0) [(.func (.func f1) x1 y1,[dI 0],zaO)]):=zh ⟨hd,trivial⟩;clear hk hd);try go_wp2_with fail
 refine hK.out _ _ ?_ (λzH=>?_)
 ·trivial
 clear hK K;try simp only[Yq]
 refine zap 9 (λK hK=>?_);go_simp;clear zH;(refine(zax (E:=E) (dS []) (1) _ _ (uq A1) _ (uq HS1)).mono ?_;rintro e w2 ⟨f2,x2,y2,rfl,hk,hd⟩;have HS2:=zh (zae (uq HS1) hk);have HLo2:=zh (zah (uq HLo1) hk);have HK2:=zh ((uq HK1).trans hk);have HC2:Hid (zaw E w2 (0) [(.func (.func f1) x1 y1,[dI 0],zaO),(.func (.func f2) x2 y2,[dS []],zai)]):=zh (zab (uq HC1) hk hd);clear hk hd);try go_wp2_with fail
 refine hK.out _ _ ?_ (λzH=>?_)
 ·trivial
 clear hK K;try simp only[Yq]
 refine zap 11 (λK hK=>?_);go_simp;clear zH;(refine(zaG (E:=E) [123] (by decide) (2) _ (uq HS2)).mono ?_;rintro e w3 ⟨f3,x3,y3,rfl,hk,hd⟩;have HS3:=zh (zae (uq HS2) hk);have HLo3:=zh (zah (uq HLo2) hk);have HK3:=zh ((uq HK2).trans hk);have HC3:Hid (zaw E w3 (0) [(.func (.func f1) x1 y1,[dI 0],zaO),(.func (.func f2) x2 y2,[dS []],zai),(.func (.func f3) x3 y3,[],zad [123])]):=zh (zab (uq HC2) hk hd);clear hk hd);try go_wp2_with fail
 refine hK.out _ _ ?_ (λzH=>?_)
 ·trivial
 clear hK K;try simp only[Yq]
 refine zap 18 (λK hK=>?_);go_simp;clear zH;(refine(zgR (E:=E) [104,101,97,100] (by decide) 16 (by decide) zbT (uq THHead) (2) _ _ (uq A2) _ (uq HS3) (uq HLo3)).mono ?_;rintro e w4 ⟨f4,x4,y4,rfl,hk,hd⟩;have HS4:=zh (zae (uq HS3) hk);have HLo4:=zh (zah (uq HLo3) hk);have HK4:=zh ((uq HK3).trans hk);have HC4:Hid (zaw E w4 (0) [(.func (.func f1) x1 y1,[dI 0],zaO),(.func (.func f2) x2 y2,[dS []],zai),(.func (.func f3) x3 y3,[],zad [123]),(.func (.func f4) x4 y4,[dN],zaL [104,101,97,100] 16 77 11 zbT)]):=zh (zab (uq HC3) hk hd);clear hk hd);try go_wp2_with fail
 refine hK.out _ _ ?_ (λzH=>?_)
 ·trivial
 clear hK K;try simp only[Yq]
 refine zap 25 (λK hK=>?_);go_simp;clear zH;(refine(zii (E:=E) [119,97,108,107] (by decide) 8 (by decide) zbY (uq THPed) (3) _ _ (uq A3) _ (uq HS4) (uq HLo4)).mono ?_;rintro e w5 ⟨f5,x5,y5,rfl,hk,hd⟩;have HS5:=zh (zae (uq HS4) hk);have HLo5:=zh (zah (uq HLo4) hk);have HK5:=zh ((uq HK4).trans hk);have HC5:Hid (zaw E w5 (0) [(.func (.func f1) x1 y1,[dI 0],zaO),(.func (.func f2) x2 y2,[dS []],zai),(.func (.func f3) x3 y3,[],zad [123]),(.func (.func f4) x4 y4,[dN],zaL [104,101,97,100] 16 77 11 zbT),(.func (.func f5) x5 y5,[dN],zaL [119,97,108,107] 8 79 6 zbY)]):=zh (zab (uq HC4) hk hd);clear hk hd);try go_wp2_with fail
 refine hK.out _ _ ?_ (λzH=>?_)
 ·trivial
 clear hK K;try simp only[Yq]
 refine zap 32 (λK hK=>?_);go_simp;clear zH;(refine(zgi (E:=E) [112,104,97,115,101] (by decide) 16 (by decide) zbm (uq THPhase) (4) _ _ (uq A4) _ (uq HS5) (uq HLo5)).mono ?_;rintro e w6 ⟨f6,x6,y6,rfl,hk,hd⟩;have HS6:=zh (zae (uq HS5) hk);have HLo6:=zh (zah (uq HLo5) hk);have HK6:=zh ((uq HK5).trans hk);have HC6:Hid (zaw E w6 (0) [(.func (.func f1) x1 y1,[dI 0],zaO),(.func (.func f2) x2 y2,[dS []],zai),(.func (.func f3) x3 y3,[],zad [123]),(.func (.func f4) x4 y4,[dN],zaL [104,101,97,100] 16 77 11 zbT),(.func (.func f5) x5 y5,[dN],zaL [119,97,108,107] 8 79 6 zbY),(.func (.func f6) x6 y6,[dN],zaL [112,104,97,115,101] 16 81 3 zbm)]):=zh (zab (uq HC5) hk hd);clear hk hd);try go_wp2_with fail
 refine hK.out _ _ ?_ (λzH=>?_)
 ·trivial
 clear hK K;try simp only[Yq]
 refine zap 39 (λK hK=>?_);go_simp;clear zH;(refine(zgj (E:=E) [103,114,111,117,112] (by decide) 4 (by decide) zbl (uq THGroup) (5) _ _ (uq A5) _ (uq HS6) (uq HLo6)).mono ?_;rintro e w7 ⟨f7,x7,y7,rfl,hk,hd⟩;have HS7:=zh (zae (uq HS6) hk);have HLo7:=zh (zah (uq HLo6) hk);have HK7:=zh ((uq HK6).trans hk);have HC7:Hid (zaw E w7 (0) [(.func (.func f1) x1 y1,[dI 0],zaO),(.func (.func f2) x2 y2,[dS []],zai),(.func (.func f3) x3 y3,[],zad [123]),(.func (.func f4) x4 y4,[dN],zaL [104,101,97,100] 16 77 11 zbT),(.func (.func f5) x5 y5,[dN],zaL [119,97,108,107] 8 79 6 zbY),(.func (.func f6) x6 y6,[dN],zaL [112,104,97,115,101] 16 81 3 zbm),(.func (.func f7) x7 y7,[dN],zaL [103,114,111,117,112] 4 84 1 zbl)]):=zh (zab (uq HC6) hk hd);clear hk hd);try go_wp2_with fail
 refine hK.out _ _ ?_ (λzH=>?_)
 ·trivial
 clear hK K;try simp only[Yq]
 refine zap 46 (λK hK=>?_);go_simp;clear zH;(refine(zij (E:=E) [102,111,101] (by decide) 64 (by decide) zeR (uq THFoe) (6) _ _ (uq A6) _ (uq HS7) (uq HLo7)).mono ?_;rintro e w8 ⟨f8,x8,y8,rfl,hk,hd⟩;have HS8:=zh (zae (uq HS7) hk);have HLo8:=zh (zah (uq HLo7) hk);have HK8:=zh ((uq HK7).trans hk);have HC8:Hid (zaw E w8 (0) [(.func (.func f1) x1 y1,[dI 0],zaO),(.func (.func f2) x2 y2,[dS []],zai),(.func (.func f3) x3 y3,[],zad [123]),(.func (.func f4) x4 y4,[dN],zaL [104,101,97,100] 16 77 11 zbT),(.func (.func f5) x5 y5,[dN],zaL [119,97,108,107] 8 79 6 zbY),(.func (.func f6) x6 y6,[dN],zaL [112,104,97,115,101] 16 81 3 zbm),(.func (.func f7) x7 y7,[dN],zaL [103,114,111,117,112] 4 84 1 zbl),(.func (.func f8) x8 y8,[dN],zaL [102,111,101] 64 88 3 zeR)]):=zh (zab (uq HC7) hk hd);clear hk hd);try go_wp2_with fail
 refine hK.out _ _ ?_ (λzH=>?_)
 ·trivial
 clear hK K;try simp only[Yq]
 refine zap 48 (λK hK=>?_);go_simp;clear zH;(refine(zaG (E:=E) [125] (by decide) (7) _ (uq HS8)).mono ?_;rintro e w9 ⟨f9,x9,y9,rfl,hk,hd⟩;have HS9:=zh (zae (uq HS8) hk);have HLo9:=zh (zah (uq HLo8) hk);have HK9:=zh ((uq HK8).trans hk);have HC9:Hid (zaw E w9 (0) [(.func (.func f1) x1 y1,[dI 0],zaO),(.func (.func f2) x2 y2,[dS []],zai),(.func (.func f3) x3 y3,[],zad [123]),(.func (.func f4) x4 y4,[dN],zaL [104,101,97,100] 16 77 11 zbT),(.func (.func f5) x5 y5,[dN],zaL [119,97,108,107] 8 79 6 zbY),(.func (.func f6) x6 y6,[dN],zaL [112,104,97,115,101] 16 81 3 zbm),(.func (.func f7) x7 y7,[dN],zaL [103,114,111,117,112] 4 84 1 zbl),(.func (.func f8) x8 y8,[dN],zaL [102,111,101] 64 88 3 zeR),(.func (.func f9) x9 y9,[],zad [125])]):=zh (zab (uq HC8) hk hd);clear hk hd);try go_wp2_with fail
 refine hK.out _ _ ?_ (λzH=>?_)
 ·trivial
 clear hK K;try simp only[Yq]
 refine zap 49 (λK hK=>?_);go_simp;clear zH;refine hK.out _ _ ?_ (λzH=>?_)
 ·trivial
 clear hK K;try simp only[Yq]
 refine zap 50 (λK hK=>?_);go_simp;clear zH;(refine(za5 (E:=E) (m:=0) (ss:= [(.func (.func f1) x1 y1,[dI 0],zaO),(.func (.func f2) x2 y2,[dS []],zai),(.func (.func f3) x3 y3,[],zad [123]),(.func (.func f4) x4 y4,[dN],zaL [104,101,97,100] 16 77 11 zbT),(.func (.func f5) x5 y5,[dN],zaL [119,97,108,107] 8 79 6 zbY),(.func (.func f6) x6 y6,[dN],zaL [112,104,97,115,101] 16 81 3 zbm),(.func (.func f7) x7 y7,[dN],zaL [103,114,111,117,112] 4 84 1 zbl),(.func (.func f8) x8 y8,[dN],zaL [102,111,101] 64 88 3 zeR),(.func (.func f9) x9 y9,[],zad [125])]) (c:= []) (rest:= []) (r:=r) (by simp) (zaR ((zk _).alloc _) (uq HC9)) (za1 _ _ _) (λh=>Nat.lt_irrefl _ ((uq HS9) _ h)) rfl ((uq HR).keep ((uq HK9).alloc _)) ((uq HL).keep ((uq HK9).alloc _))).mono ?_;rintro e wz hp;obtain⟨vz,rfl⟩:=zbz hp;have HP:=zh hp;have HKz:=zh ((uq HK9).alloc (.cells #[.func (.func f1) x1 y1,.func (.func f2) x2 y2,.func (.func f3) x3 y3,.func (.func f4) x4 y4,.func (.func f5) x5 y5,.func (.func f6) x6 y6,.func (.func f7) x7 y7,.func (.func f8) x8 y8,.func (.func f9) x9 y9] 162));clear hp);try go_wp2_with fail
 refine hK.out _ _ ?_ (λzH=>?_)
 ·trivial
 clear hK K;try simp only[Yq]
 refine tkk 51 4 zH ?_;try simp only[Yq]
 refine wpAnyH_done (by kernel_rfl) ?_ _;clear zH;go_wp2_with fail
 go_ret;exact zbM (.keep (uq HKz)) (uq HP)
theorem Cel.other {E:Env} {w w':World} {cs:List D} {q:Nat} (h:Cel E w cs) (k:Fr (λb=>b=E.rb\/b=q) w w') (hs:E.S E.rb) (hq:w.heap.size<=q):Cel E w' cs:=by
 refine⟨h.1,λj d hd=>?_⟩;obtain⟨v,h1,h2,h3,h4,h5⟩:=h.2 j d hd;have lt:=zat h1;simp only at lt;have e:=k.block (E.A j).1 lt (λx=>x.elim h5 (λx=>by omega));refine⟨v,(zam (a:=⟨(E.A j).1,(E.A j).2,none⟩) e).trans h1,Rd.move d _ _ v h2 (λb hb hl=>⟨k.block b hl (λx=>x.elim (λx=>hb.1 (x▸hs)) (λx=>by omega)),hb⟩),(World.frozen?_of_block (a:=⟨(E.A j).1,(E.A j).2,none⟩) e).trans h3,h4,h5⟩
theorem Cel.nil {E:Env} {w:World} {c rest:List D} {e z:Nat} (h:Cel E w (c++ [dN]++rest)):Cel E w (c++ [D.row e z []]++rest):=by
 have hlen:(c++ [D.row e z []]++rest).length=(c++ [dN]++rest).length:=by simp
 refine⟨by rw[hlen];exact h.1,λj d hd=>?_⟩;by_cases he:j=c.length
 ·subst he;rw[show(c++ [D.row e z []]++rest)[c.length]? =some (.row e z []) by simp]at hd;injection hd with hd
  subst hd;obtain⟨v,h1,h2,h3⟩:=h.2 c.length dN (by simp);obtain rfl:v= .slice none 0 0:=h2.1;exact⟨_,h1,zhd _ _ _ _,h3⟩
 ·rw[zkf (d:=dN) he]at hd;exact h.2 j d hd
set_option maxHeartbeats 8000000 in
theorem zlV (E:Env) (g1 g2 tb m:Nat) (c rest:List D) (w00:World) (r00:List Tok) (h1:w00.cell? ⟨g1,0,none⟩=some (.pointer (some ⟨E.rb,0,none⟩))) (h2:Hid (w00.cell? ⟨g2,0,none⟩=some (.pointer (some ⟨tb,0,none⟩))))
  (N1:Hid (¬E.S g1)) (N2:Hid (¬E.S g2)) (A0:Hid (E.A m=(tb,6))) (A1:Hid (E.A (m+1)=(tb,7))) (A2:Hid (E.A (m+2)=(tb,8))) (HS:Hid (∀ b,E.S b->b<w00.heap.size)) (HLo:Hid (E.lo<=w00.heap.size)) (hcm:Hid (c.length=m)) (HR00:Hid (Rdr E w00 r00)) (HL00:Hid (Cel E w00 (c++ [dN,dI 0,dI 0]++rest)))
  (THStop:Hid (zbg E.rb E.l E.ta E.cap 129 48 [.string ⟨#[]⟩,.string ⟨#[]⟩,.string ⟨#[]⟩,.int .i64 0,.int .i64 0,.int .i64 0] zbH)):
  Calls Tryz.prog 126 #[.pointer (some ⟨g1,0,none⟩),.pointer (some ⟨g2,0,none⟩)] w00 (zcu E w00 rest (m+3) (zcT c r00)):=by
 have H1:=zh h1;obtain⟨t,r',hrt⟩:=zcp (uq HR00).1;have HRT:=zh hrt;clear hrt;have hta:E.ta.block<w00.heap.size:=by obtain⟨k,_,_,_,_,_,h7,_⟩:=(uq HR00).1;exact h7
 have HTA:=zh hta;have hrb:=(uq HS) _ (uq HR00).2.2;have HRB:=zh hrb;clear hta hrb;go_enter Tryz.func126,Tryz.ntmps126;have h1a:∀ o,(w00.alloc o).cell? ⟨g1,0,none⟩=some (.pointer (some ⟨E.rb,0,none⟩)):=λo=>((zk w00).alloc o).cell' h1
 clear h1;go_wp2_with fail
 (refine(zd0 (E:=Env.one E.rb E.l E.ta E.cap w00.heap.size (λj=>j) 0) [97,114,116,101,114,121] (by decide) (dB false) 0 w00.heap.size 0 rfl _ (λb hb=>by
  rw[World.size_alloc];rcases hb with hb|hb
  ·have:b=E.rb:=hb;have:=uq HRB;omega
  ·have:b=w00.heap.size:=hb;omega)).mono ?_;rintro e w2 ⟨f3,x3,y3,rfl,hk,hd⟩;have HK2:=zh hk;obtain⟨hent3,hd3⟩:=hd.call;have HD3:=zh hd3;clear hk hd hd3)
 unfold Ent at hent3
 go_wp2_with fail
 have hr2:Rdr (Env.one E.rb E.l E.ta E.cap w00.heap.size (λj=>j) 0) w2 r00:=(zeL ((uq HR00).1.keep ((zk _).alloc _)) (λe=>by have:=uq HTA;omega) (λe=>(uq HR00).apart e.symm)).keep (uq HK2);have hl2:Cel (Env.one E.rb E.l E.ta E.cap w00.heap.size (λj=>j) 0) w2 ([]++ [dB false]++ []):=Cel.keep (zfM (zs:= [.bool false]) (t:=4) (heap_alloc_new w00 _) (λe=>by have:=uq HRB;omega) rfl (λi j hi hj e=>e) (λj d hd=>by
  match j,hd with
  |0,hd=>simp at hd;subst hd;exact⟨.bool false,rfl,zge _⟩
  |j+1,hd=>simp at hd)) (uq HK2)
 refine((uq HD3) w2 [] [] r00 (.refl _ _) rfl hr2 hl2).mono ?_;clear hr2 hl2;rintro e w ⟨hf3,hp3⟩;obtain⟨bb,r,hpm,hart⟩:∃ bb r,zaX [97,114,116,101,114,121] [] r00= .ok ([dB bb],r)/\zcT c r00=if bb then sq [zad [123],zaL [115,116,111,112] 12 48 6 zbH,zad [119,101,105,103,104,116,115],zar,zar,zad [59],zad [125]] c r else .ok (c++ [.row 48 6 [],dI 0,dI 0],r):=by
  rw[uq HRT];by_cases hu:t.s= [97,114,116,101,114,121]
  ·exact⟨true,r',by simp[zaX,hu],by simp[zcT,zaX,hu,dB]⟩
  ·exact⟨false,t :: r',by simp[zaX,hu],by simp[zcT,zaX,hu,dB]⟩
 rw[hpm]at hp3;obtain⟨rfl,_,hr3,hl3⟩:=hp3;have z3:w.cell? ⟨w00.heap.size,0,none⟩=some (.bool bb):=by
  obtain⟨u,k1,k2,_⟩:=hl3.2 0 (dB bb) (by simp);exact(show w.cell? ⟨w00.heap.size,0,none⟩=some u from k1).trans (by rw[show u= .bool bb from k2.1])
 have HF:Hid (Fr (λb=>b=E.rb\/b=w00.heap.size) w00 w):=zh ((Fr.keep (((zk w00).alloc (.cells #[.bool false] 4)).trans (uq HK2))).trans hf3);have HFS:Hid (Fr E.S w00 w):=zh ((Fr.refl _ _).inner (uq HF) (λi hi hs=>hs.elim (λe=>e▸(uq HR00).2.2) (λe=>by omega)));have HR:Hid (Rdr E w r):=zh ⟨hr3.1,(uq HR00).2⟩;have HL:Hid (Cel E w (c++ [dN,dI 0,dI 0]++rest)):=zh ((uq HL00).other (uq HF) (uq HR00).2.2 (Nat.le_refl _));have HART:=zh hart;have k1:=(uq HFS).cell (uq H1) (uq N1);have k2:=(uq HFS).cell (uq h2) (uq N2);clear hr3 hl3 hf3 hpm hart H1 h1a;have H1:=zh k1;have H2:=zh k2;clear k1 k2;have HS0:Hid (∀ b,E.S b->b<w.drew.heap.size):=zh (λb hb=>Nat.lt_of_lt_of_le ((uq HS) b hb) (uq HFS).size);have HLo0:Hid (E.lo<=w.drew.heap.size):=zh (Nat.le_trans (uq HLo) (uq HFS).size);have HK0:=zh (zk w).drew;cases bb with
 |false=>
  go_wp2_with fail
  go_ret;rw[uq HART,if_neg (by decide)];refine zbD rfl (uq HFS) (by have:=uq hcm;simp;omega) (uq HR) ?_;have h9:Cel E w (c++ [dN]++([dI 0,dI 0]++rest)):=by have:=uq HL;simpa [List.append_assoc]using this
  have:=h9.nil (e:=48) (z:=6);simpa [List.append_assoc]using this
 |true=>
  go_wp2_with fail
  refine wp_region_held_drew (S:=λw'=>w'.cell? ⟨g1,0,none⟩=some (.pointer (some ⟨E.rb,0,none⟩))/\w'.cell? ⟨g2,0,none⟩=some (.pointer (some ⟨tb,0,none⟩))) (by kernel_rfl) (by exact⟨uq H1,uq H2⟩) (λzH=>?_);refine tk6 0 15 2 17 3 18 4 19 5 20 6 21 zH ?_;try simp only[Yq]
  refine tk6 7 22 9 24 11 26 12 27 13 28 14 29 zH ?_;try simp only[Yq]
  refine tk6 16 31 17 32 18 33 19 34 21 36 23 38 zH ?_;try simp only[Yq]
  refine zap 1 (λK hK=>?_);go_simp;clear zH;(refine(zaG (E:=E) [123] (by decide) (m) _ (uq HS0)).mono ?_;rintro e w1 ⟨f1,x1,y1,rfl,hk,hd⟩;have HS1:=zh (zae (uq HS0) hk);have HLo1:=zh (zah (uq HLo0) hk);have HK1:=zh ((uq HK0).trans hk);have HC1:Hid (zaw E w1 (m) [(.func (.func f1) x1 y1,[],zad [123])]):=zh ⟨hd,trivial⟩;clear hk hd);try go_wp2_with fail
  refine hK.out _ _ ?_ (λzH=>?_)
  ·exact⟨(λk:Keep w _=>k.cell' (uq H1)) (uq HK1),(λk:Keep w _=>k.cell' (uq H2)) (uq HK1)⟩
  clear hK K;try simp only[Yq]
  refine zap 8 (λK hK=>?_);go_simp;clear zH;(refine(zgS (E:=E) [115,116,111,112] (by decide) 12 (by decide) zbH (uq THStop) (m) _ _ (uq A0) _ (uq HS1) (uq HLo1)).mono ?_;rintro e w2 ⟨f2,x2,y2,rfl,hk,hd⟩;have HS2:=zh (zae (uq HS1) hk);have HLo2:=zh (zah (uq HLo1) hk);have HK2:=zh ((uq HK1).trans hk);have HC2:Hid (zaw E w2 (m) [(.func (.func f1) x1 y1,[],zad [123]),(.func (.func f2) x2 y2,[dN],zaL [115,116,111,112] 12 48 6 zbH)]):=zh (zab (uq HC1) hk hd);clear hk hd);try go_wp2_with fail
  refine hK.out _ _ ?_ (λzH=>?_)
  ·exact⟨(λk:Keep w _=>k.cell' (uq H1)) (uq HK2),(λk:Keep w _=>k.cell' (uq H2)) (uq HK2)⟩
  clear hK K;try simp only[Yq]
  refine zap 10 (λK hK=>?_);go_simp;clear zH;(refine(zaG (E:=E) [119,101,105,103,104,116,115] (by decide) (m+1) _ (uq HS2)).mono ?_;rintro e w3 ⟨f3,x3,y3,rfl,hk,hd⟩;have HS3:=zh (zae (uq HS2) hk);have HLo3:=zh (zah (uq HLo2) hk);have HK3:=zh ((uq HK2).trans hk);have HC3:Hid (zaw E w3 (m) [(.func (.func f1) x1 y1,[],zad [123]),(.func (.func f2) x2 y2,[dN],zaL [115,116,111,112] 12 48 6 zbH),(.func (.func f3) x3 y3,[],zad [119,101,105,103,104,116,115])]):=zh (zab (uq HC2) hk hd);clear hk hd);try go_wp2_with fail
  refine hK.out _ _ ?_ (λzH=>?_)
  ·exact⟨(λk:Keep w _=>k.cell' (uq H1)) (uq HK3),(λk:Keep w _=>k.cell' (uq H2)) (uq HK3)⟩
  clear hK K;try simp only[Yq]
  refine zap 15 (λK hK=>?_);go_simp;clear zH;(refine(zaB (E:=E) (dI 0) (m+1) _ _ (uq A1) _ (uq HS3)).mono ?_;rintro e w4 ⟨f4,x4,y4,rfl,hk,hd⟩;have HS4:=zh (zae (uq HS3) hk);have HLo4:=zh (zah (uq HLo3) hk);have HK4:=zh ((uq HK3).trans hk);have HC4:Hid (zaw E w4 (m) [(.func (.func f1) x1 y1,[],zad [123]),(.func (.func f2) x2 y2,[dN],zaL [115,116,111,112] 12 48 6 zbH),(.func (.func f3) x3 y3,[],zad [119,101,105,103,104,116,115]),(.func (.func f4) x4 y4,[dI 0],zar)]):=zh (zab (uq HC3) hk hd);clear hk hd);try go_wp2_with fail
  refine hK.out _ _ ?_ (λzH=>?_)
  ·exact⟨(λk:Keep w _=>k.cell' (uq H1)) (uq HK4),(λk:Keep w _=>k.cell' (uq H2)) (uq HK4)⟩
  clear hK K;try simp only[Yq]
  refine zap 20 (λK hK=>?_);go_simp;clear zH;(refine(zaB (E:=E) (dI 0) (m+2) _ _ (uq A2) _ (uq HS4)).mono ?_;rintro e w5 ⟨f5,x5,y5,rfl,hk,hd⟩;have HS5:=zh (zae (uq HS4) hk);have HLo5:=zh (zah (uq HLo4) hk);have HK5:=zh ((uq HK4).trans hk);have HC5:Hid (zaw E w5 (m) [(.func (.func f1) x1 y1,[],zad [123]),(.func (.func f2) x2 y2,[dN],zaL [115,116,111,112] 12 48 6 zbH),(.func (.func f3) x3 y3,[],zad [119,101,105,103,104,116,115]),(.func (.func f4) x4 y4,[dI 0],zar),(.func (.func f5) x5 y5,[dI 0],zar)]):=zh (zab (uq HC4) hk hd);clear hk hd);try go_wp2_with fail
  refine hK.out _ _ ?_ (λzH=>?_)
  ·exact⟨(λk:Keep w _=>k.cell' (uq H1)) (uq HK5),(λk:Keep w _=>k.cell' (uq H2)) (uq HK5)⟩
  clear hK K;try simp only[Yq]
  refine zap 22 (λK hK=>?_);go_simp;clear zH;(refine(zaG (E:=E) [59] (by decide) (m+3) _ (uq HS5)).mono ?_;rintro e w6 ⟨f6,x6,y6,rfl,hk,hd⟩;have HS6:=zh (zae (uq HS5) hk);have HLo6:=zh (zah (uq HLo5) hk);have HK6:=zh ((uq HK5).trans hk);have HC6:Hid (zaw E w6 (m) [(.func (.func f1) x1 y1,[],zad [123]),(.func (.func f2) x2 y2,[dN],zaL [115,116,111,112] 12 48 6 zbH),(.func (.func f3) x3 y3,[],zad [119,101,105,103,104,116,115]),(.func (.func f4) x4 y4,[dI 0],zar),(.func (.func f5) x5 y5,[dI 0],zar),(.func (.func f6) x6 y6,[],zad [59])]):=zh (zab (uq HC5) hk hd);clear hk hd);try go_wp2_with fail
  refine hK.out _ _ ?_ (λzH=>?_)
  ·exact⟨(λk:Keep w _=>k.cell' (uq H1)) (uq HK6),(λk:Keep w _=>k.cell' (uq H2)) (uq HK6)⟩
  clear hK K;try simp only[Yq]
  refine zap 24 (λK hK=>?_);go_simp;clear zH;(refine(zaG (E:=E) [125] (by decide) (m+3) _ (uq HS6)).mono ?_;rintro e w7 ⟨f7,x7,y7,rfl,hk,hd⟩;have HS7:=zh (zae (uq HS6) hk);have HLo7:=zh (zah (uq HLo6) hk);have HK7:=zh ((uq HK6).trans hk);have HC7:Hid (zaw E w7 (m) [(.func (.func f1) x1 y1,[],zad [123]),(.func (.func f2) x2 y2,[dN],zaL [115,116,111,112] 12 48 6 zbH),(.func (.func f3) x3 y3,[],zad [119,101,105,103,104,116,115]),(.func (.func f4) x4 y4,[dI 0],zar),(.func (.func f5) x5 y5,[dI 0],zar),(.func (.func f6) x6 y6,[],zad [59]),(.func (.func f7) x7 y7,[],zad [125])]):=zh (zab (uq HC6) hk hd);clear hk hd);try go_wp2_with fail
  refine hK.out _ _ ?_ (λzH=>?_)
  ·exact⟨(λk:Keep w _=>k.cell' (uq H1)) (uq HK7),(λk:Keep w _=>k.cell' (uq H2)) (uq HK7)⟩
  clear hK K;try simp only[Yq]
  refine zap 25 (λK hK=>?_);go_simp;clear zH;refine hK.out _ _ ?_ (λzH=>?_)
  ·exact⟨(λk:Keep w _=>k.cell' (uq H1)) ((uq HK7).alloc _),(λk:Keep w _=>k.cell' (uq H2)) ((uq HK7).alloc _)⟩
  clear hK K;try simp only[Yq]
  refine zap 26 (λK hK=>?_);go_simp;clear zH;(refine(za5 (E:=E) (m:=m) (ss:= [(.func (.func f1) x1 y1,[],zad [123]),(.func (.func f2) x2 y2,[dN],zaL [115,116,111,112] 12 48 6 zbH),(.func (.func f3) x3 y3,[],zad [119,101,105,103,104,116,115]),(.func (.func f4) x4 y4,[dI 0],zar),(.func (.func f5) x5 y5,[dI 0],zar),(.func (.func f6) x6 y6,[],zad [59]),(.func (.func f7) x7 y7,[],zad [125])]) (c:=c) (rest:=rest) (r:=r) (by simp) (zaR ((zk _).alloc _) (uq HC7)) (za1 _ _ _) (λh=>Nat.lt_irrefl _ ((uq HS7) _ h)) (uq hcm) ((uq HR).keep ((uq HK7).alloc _)) ((uq HL).keep ((uq HK7).alloc _))).mono ?_;rintro e wz hp;obtain⟨vz,rfl⟩:=zbz hp;have HP:=zh hp;have HKz:=zh ((uq HK7).alloc (.cells #[.func (.func f1) x1 y1,.func (.func f2) x2 y2,.func (.func f3) x3 y3,.func (.func f4) x4 y4,.func (.func f5) x5 y5,.func (.func f6) x6 y6,.func (.func f7) x7 y7] 162));clear hp);try go_wp2_with fail
  refine hK.out _ _ ?_ (λzH=>?_)
  ·exact⟨(uq HP).1.cell ((uq HKz).cell' (uq H1)) (uq N1),(uq HP).1.cell ((uq HKz).cell' (uq H2)) (uq N2)⟩
  clear hK K;try simp only[Yq]
  refine tkk 27 2 zH ?_;try simp only[Yq]
  refine wpAnyH_done (by kernel_rfl) ?_ _;clear zH;go_wp2_with fail
  go_ret;rw[uq HART,if_pos trivial];exact zbM ((uq HFS).trans (.keep (uq HKz))) (uq HP)
set_option maxHeartbeats 1000000 in
theorem zlW (a b:Option Addr) (w:World):Calls Tryz.prog 90 #[.pointer a,.pointer b] w λe w'=>e= .returned (.func (.func 126) #[] #[.pointer (some ⟨w.heap.size,0,none⟩),.pointer (some ⟨w.heap.size+1,0,none⟩)])/\w'=(w.alloc (.cells #[.pointer a] 123)).alloc (.cells #[.pointer b] 127):=by
 go_enter Tryz.func90,Tryz.ntmps90;go_wp2;go_ret;exact⟨rfl,rfl⟩
theorem zpp {E:Env} (m tb:Nat) (hA:E.A m=(tb,6)) (hA1:E.A (m+1)=(tb,7)) (hA2:E.A (m+2)=(tb,8)) (hT:zbg E.rb E.l E.ta E.cap 129 48 [.string ⟨#[]⟩,.string ⟨#[]⟩,.string ⟨#[]⟩,.int .i64 0,.int .i64 0,.int .i64 0] zbH) (w:World) (hS:∀ b,E.S b->b<w.heap.size) (hLo:E.lo<=w.heap.size):Calls Tryz.prog 90 #[.pointer (some ⟨E.rb,0,none⟩),.pointer (some ⟨tb,0,none⟩)] w (Mk E m [dN,dI 0,dI 0] zcT w):=by
 refine(zlW _ _ w).mono ?_;rintro e w' ⟨rfl,rfl⟩;obtain⟨b1,b2⟩:=zbR E w (.pointer (some ⟨E.rb,0,none⟩)) (.pointer (some ⟨tb,0,none⟩)) 123 127 hS;have hk:=zaM w (.cells #[.pointer (some ⟨E.rb,0,none⟩)] 123) (.cells #[.pointer (some ⟨tb,0,none⟩)] 127);exact⟨_,_,_,rfl,hk,⟨_,_,_,rfl,λxs w=>by kernel_rfl,λw2 c rest r hf hc hr hl=>zlV E _ _ tb m c rest w2 r (b1.fr hf).1 (zh (b2.fr hf).1) (zh b1.2) (zh b2.2) (zh hA) (zh hA1) (zh hA2) (zh (Bx.hs (zae hS hk) hf)) (zh (Nat.le_trans (zah hLo hk) hf.size)) (zh hc) (zh hr) (zh hl) (zh hT)⟩⟩
end Go.Proofs.YthceiikgecoimaaGreatDoor
