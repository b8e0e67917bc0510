/- Package net: what the steps that read one token do. -/
import Derived.Test.YthceiikgecoimaaGreatDoorNThe
import Derived.LaidEql
import Derived.Stop.Asserts
import Derived.RowKitTokens
import Derived.Test.YthceiikgecoimaaGreatDoorLVal
namespace Go.Proofs.YthceiikgecoimaaGreatDoor
open Go.RowKit
attribute [local go_sem ↓] Go.wp_at_zero Go.wp_at_succ
set_option linter.unusedVariables false
set_option linter.unusedSimpArgs false
set_option maxRecDepth 10000
theorem svl (l:List UInt8):(sv l).toList=l:=ByteArray.toList_mk l
theorem R0.far {rb:Nat} {l:List Tok} {ta:Addr} {cap:Nat} {w:World} {r:List Tok} (h:R0 rb l ta cap w r) (p:Addr) (v:Value) (h1:p.block≠rb) (h2:p.block≠ta.block):R0 rb l ta cap (w.setCell p v) r:=by
 obtain⟨k,a1,a2,a3,a4,a5,a7,a8,a9⟩:=h;refine⟨k,a1,a2,?_,?_,?_,?_,?_,a9⟩
 ·rw[zac _ _ _ _ h1];exact a3
 ·rw[zac _ _ _ _ h1];exact a4
 ·rw[World.frozen?_setCell];exact a5
 ·simpa [World.setCell]using a7
 ·intro j hj
  obtain⟨c0,c1,c2,c3⟩:=a8 j hj;refine⟨?_,?_,?_,?_⟩
  ·rw[zac _ _ _ _ (by rw[zag];exact h2)];exact c0
  ·rw[zac _ _ _ _ (by show p.block≠(ta.add (j * 4)).block;rw[zag];exact h2)];exact c1
  ·rw[zac _ _ _ _ (by show p.block≠(ta.add (j * 4)).block;rw[zag];exact h2)];exact c2
  ·rw[zac _ _ _ _ (by show p.block≠(ta.add (j * 4)).block;rw[zag];exact h2)];exact c3
theorem R0.next {rb:Nat} {l:List Tok} {ta:Addr} {cap:Nat} {w:World} {t:Tok} {r:List Tok} (h:R0 rb l ta cap w (t :: r)) (hn:t.k≠0\/t.s≠ []) (hb:ta.block≠rb) {k:Nat} (hc:w.cell? ⟨rb,1,none⟩=some (.int .i64 (k:Int))):
  R0 rb l ta cap (w.setCell ⟨rb,1,none⟩ (.int .i64 ((k+1:Nat):Int))) r:=by
 obtain⟨k',_,h2,_,h4⟩:=h.step hn hb;rw[hc]at h2;injection h2 with h2
 injection h2 with _ h2
 have:k=k':=by omega
 subst this;exact h4
theorem R0.at {rb:Nat} {l:List Tok} {ta:Addr} {cap:Nat} {w:World} {t:Tok} {r:List Tok} (h:R0 rb l ta cap w (t :: r)) (hn:t.k≠0\/t.s≠ []):∃ k:Nat,k<70001/\w.cell? ⟨rb,1,none⟩=some (.int .i64 (k:Int))/\w.frozen? ⟨rb,1,none⟩=false:=by
 obtain⟨k,h1,h2,h3,h4,h5,h7,h8,h9⟩:=h;have:=h9.1;exact⟨k,by omega,h4,h5⟩
theorem Rdr.apart {E:Env} {w:World} {r:List Tok} (h:Rdr E w r):E.ta.block≠E.rb:=λe=>h.2.1 (e▸h.2.2)
theorem Cel.reader {E:Env} {w:World} {cs:List D} (h:Cel E w cs) (hs:E.S E.rb) (v:Value):Cel E (w.setCell ⟨E.rb,1,none⟩ v) cs:=by
 refine⟨h.1,λj d hd=>?_⟩;obtain⟨u,h1,h2,h3,h4,h5⟩:=h.2 j d hd;exact⟨u,by rw[zac _ _ _ _ (λe=>h5 e.symm)];exact h1,h2.set _ _ (λhp=>hp.1 hs),by rw[World.frozen?_setCell];exact h3,h4,h5⟩
theorem zj5 {c rest:List D} {d d':D} {j:Nat} (h:j≠c.length):(c++ [d']++rest)[j]? =(c++ [d]++rest)[j]? :=by
 rcases Nat.lt_or_ge j c.length with h1|h1
 ·simp[List.getElem?_append,h1,show j<c.length+1 by omega]
 ·obtain⟨i,rfl⟩:∃ i,j=c.length+(i+1):=⟨j - c.length - 1,by omega⟩;simp[List.getElem?_append]
theorem Cel.put {E:Env} {w:World} {c rest:List D} {d:D} (h:Cel E w (c++ [d]++rest)) (x v:Value) (d':D) (hx:x=v) (hd':∀ w P,Rd w d' P v):Cel E (w.setCell ⟨(E.A c.length).1,(E.A c.length).2,none⟩ x) (c++ [d']++rest):=by
 subst hx;obtain⟨u0,a1,a2,a3,a4,a5⟩:=h.2 c.length d (by simp);have hlen:(c++ [d']++rest).length=(c++ [d]++rest).length:=by simp
 refine⟨by rw[hlen];exact h.1,λj e he=>?_⟩;by_cases hj:j=c.length
 ·subst hj;rw[show(c++ [d']++rest)[c.length]? =some d' by simp]at he;injection he with he
  subst he;exact⟨x,zdn _ a1,hd' _ _,by rw[World.frozen?_setCell];exact a3,a4,a5⟩
 ·rw[zj5 (d:=d) hj]at he;obtain⟨u,h1,h2,h3,h4,h5⟩:=h.2 j e he;have hjl:j<(c++ [d]++rest).length:=by
   rcases Nat.lt_or_ge j (c++ [d]++rest).length with h|h
   ·exact h
   ·rw[List.getElem?_eq_none h]at he;cases he
  refine⟨u,?_,h2.set _ _ (λhp=>hp.1 a4),by rw[World.frozen?_setCell];exact h3,h4,h5⟩;rw[zb9 _ _ _ _ ?_]
  ·exact h1
  ·intro e2
   apply hj;have hh:E.A c.length=E.A j:=by
    have e3:=congrArg Addr.block e2;have e4:=congrArg Addr.off e2;exact Prod.ext e3 e4
   exact(h.1 c.length j (by simp) hjl hh).symm
theorem zbE (n:Int):∀ w P,Rd w (dI n) P (.int .i64 n):=λw P=>⟨rfl,rfl⟩
theorem zd4 (s:List UInt8):∀ w P,Rd w (dS s) P (.string (sv s)):=λw P=>⟨rfl,rfl⟩
theorem zgi (b:Bool):∀ w P,Rd w (dB b) P (.bool b):=λw P=>⟨rfl,rfl⟩
theorem zdg {E:Env} {w:World} {rest:List D} {n:Nat} {x:Er} {e:Ending} {w':World} (he:e= .returned (flt x)) (hk:Keep w w'):zcv E w rest n (.error x) e w':=⟨.keep hk,he⟩
theorem zbF {E:Env} {w:World} {rest:List D} {n:Nat} {c:List D} {r:List Tok} {e:Ending} {w':World} (he:e= .returned .nilIface) (hf:Fr E.S w w') (hc:c.length=n) (hr:Rdr E w' r) (hl:Cel E w' (c++rest)):zcv E w rest n (.ok (c,r)) e w':=⟨hf,he,hc,hr,hl⟩
def Bx (E:Env) (w:World) (g:Nat) (v:Value):Prop:=w.cell? ⟨g,0,none⟩=some v/\¬E.S g
theorem Bx.fr {E:Env} {w w':World} {g:Nat} {v:Value} (h:Bx E w g v) (k:Fr E.S w w'):Bx E w' g v:=⟨k.cell h.1 h.2,h.2⟩
theorem zlz {E:Env} {w0:World} {g1 g2 m:Nat} {s:List UInt8} (hs:s≠ []) (b1:Bx E w0 g1 (.pointer (some ⟨E.rb,0,none⟩))) (b2:Bx E w0 g2 (.string (sv s))):
  Does E w0 (.func (.func 106) #[] #[.pointer (some ⟨g1,0,none⟩),.pointer (some ⟨g2,0,none⟩)]) m [] (zad s):=by
 refine⟨_,_,_,rfl,λxs w=>by kernel_rfl,λw c rest r hf hc hr hl=>?_⟩;obtain⟨t,r',rfl⟩:=zcr hr.1;have c1:=(b1.fr hf).1;have c2:=(b2.fr hf).1;simp only[zad,bad];by_cases h:t.s=s
 ·rw[if_pos h];obtain⟨k,k1,k2,k3⟩:=hr.1.at (.inr (by rw[h];exact hs));refine(zcs E.rb g1 g2 k t.k t.n t.p (sv t.s) (sv s) w (by rw[svl,svl,h];simp) k1 c1 c2 k2 k3 (zh (zdu hr.1))).mono ?_;rintro e w' ⟨he,w2,hk,rfl⟩;refine zbF he ((Fr.keep hk).set _ _ hr.2.2) (by simpa using hc) ⟨(hr.1.keep hk).next (.inr (by rw[h];exact hs)) hr.apart (hk.cell' k2),hr.2⟩ ((Cel.keep (by simpa using hl) hk).reader hr.2.2 _)
 ·rw[if_neg h];refine(zj4 E.rb g1 g2 t.k t.n t.p (sv t.s) (sv s) w (by rw[svl,svl];simpa using h) c1 c2 (zh (zdu hr.1)) (zh (zdO hr.1))).mono ?_;rintro e w' ⟨he,hk⟩;exact zdg he hk
theorem zlA {E:Env} {w0:World} {g1 g2 m:Nat} {z:D} (b1:Bx E w0 g1 (.pointer (some ⟨E.rb,0,none⟩))) (b2:Bx E w0 g2 (.pointer (some ⟨(E.A m).1,(E.A m).2,none⟩))):
  Does E w0 (.func (.func 109) #[] #[.pointer (some ⟨g1,0,none⟩),.pointer (some ⟨g2,0,none⟩)]) m [z] zao:=by
 refine⟨_,_,_,rfl,λxs w=>by kernel_rfl,λw c rest r hf hc hr hl=>?_⟩;obtain⟨t,r',rfl⟩:=zcr hr.1;have c1:=(b1.fr hf).1;have c2:=(b2.fr hf).1;subst hc;simp only[zao,bad];by_cases h:t.k=2
 ·rw[if_pos h];obtain⟨k,k1,k2,k3⟩:=hr.1.at (.inl (by rw[h];decide));obtain⟨u,a1,_,a3,a4,a5⟩:=hl.2 c.length z (by simp);have n1:g1≠(E.A c.length).1:=λe=>b1.2 (e▸a4)
  refine(zo7 E.rb g1 g2 (E.A c.length).1 (E.A c.length).2 k u t.k t.n t.p (sv t.s) w (by simpa using h) k1 c1 c2 k2 k3 a1 a3 n1 a5 (zh (zdu hr.1))).mono ?_;rintro e w' ⟨he,w2,hk,rfl⟩;have q1:E.ta.block≠(E.A c.length).1:=λe=>hr.2.1 (e▸a4)
  refine zbF he (((Fr.keep hk).set _ _ a4).set _ _ hr.2.2) (by simp) ⟨((hr.1.keep hk).far _ _ a5 (λe=>q1 e.symm)).next (.inl (by rw[h];decide)) hr.apart (by rw[zac _ _ _ _ a5];exact hk.cell' k2),hr.2⟩ (((hl.keep hk).put _ _ (dI t.n) rfl (zbE _)).reader hr.2.2 _)
 ·rw[if_neg h];refine(zrB E.rb g1 g2 t.k t.n t.p (sv t.s) w (by simpa using h) c1 (zh (zdu hr.1)) (zh (zdO hr.1))).mono ?_;rintro e w' ⟨he,hk⟩;exact zdg he hk
theorem zj6 {E:Env} {w0:World} {g1 g2 m:Nat} {z:D} (b1:Bx E w0 g1 (.pointer (some ⟨E.rb,0,none⟩))) (b2:Bx E w0 g2 (.pointer (some ⟨(E.A m).1,(E.A m).2,none⟩))):
  Does E w0 (.func (.func 144) #[] #[.pointer (some ⟨g1,0,none⟩),.pointer (some ⟨g2,0,none⟩)]) m [z] zai:=by
 refine⟨_,_,_,rfl,λxs w=>by kernel_rfl,λw c rest r hf hc hr hl=>?_⟩;obtain⟨t,r',rfl⟩:=zcr hr.1;have c1:=(b1.fr hf).1;have c2:=(b2.fr hf).1;subst hc;have T3:∀ w,Calls Tryz.prog 70 #[.string (sv t.s)] w λe w'=>e= .returned (.bool (decide (t.s∈words)))/\w'=w:=λw=>by have:=ziH (sv t.s) w;rw[svl]at this;exact this
 simp only[zai,bad];by_cases h:t.k=1
 ·by_cases h2:t.s∈words
  ·rw[if_neg (by simp[h2])];rw[decide_eq_true h2]at T3;refine(zlx E.rb g1 g2 t.k t.n t.p (sv t.s) w (by simpa using h) c1 (zh (zdu hr.1)) (zh (zdO hr.1)) (zh T3)).mono ?_;rintro e w' ⟨he,hk⟩;exact zdg he hk
  ·rw[if_pos ⟨h,h2⟩];rw[decide_eq_false h2]at T3;obtain⟨k,k1,k2,k3⟩:=hr.1.at (.inl (by rw[h];decide));obtain⟨u,a1,_,a3,a4,a5⟩:=hl.2 c.length z (by simp);have n1:g1≠(E.A c.length).1:=λe=>b1.2 (e▸a4)
   refine(zfD E.rb g1 g2 (E.A c.length).1 (E.A c.length).2 k u t.k t.n t.p (sv t.s) w (by simpa using h) k1 c1 c2 k2 k3 a1 a3 n1 a5 (zh (zdu hr.1)) (zh T3)).mono ?_;rintro e w' ⟨he,w2,hk,rfl⟩;have q1:E.ta.block≠(E.A c.length).1:=λe=>hr.2.1 (e▸a4)
   refine zbF he (((Fr.keep hk).set _ _ a4).set _ _ hr.2.2) (by simp) ⟨((hr.1.keep hk).far _ _ a5 (λe=>q1 e.symm)).next (.inl (by rw[h];decide)) hr.apart (by rw[zac _ _ _ _ a5];exact hk.cell' k2),hr.2⟩ (((hl.keep hk).put _ _ (dS t.s) rfl (zd4 _)).reader hr.2.2 _)
 ·rw[if_neg (by simp[h])];refine(zlw E.rb g1 g2 t.k t.n t.p (sv t.s) w (by simpa using h) c1 (zh (zdu hr.1)) (zh (zdO hr.1))).mono ?_;rintro e w' ⟨he,hk⟩;exact zdg he hk
theorem zlB {E:Env} {w0:World} {g1 g2 m:Nat} {z:D} (b1:Bx E w0 g1 (.pointer (some ⟨E.rb,0,none⟩))) (b2:Bx E w0 g2 (.pointer (some ⟨(E.A m).1,(E.A m).2,none⟩))):
  Does E w0 (.func (.func 143) #[] #[.pointer (some ⟨g1,0,none⟩),.pointer (some ⟨g2,0,none⟩)]) m [z] zaN:=by
 refine⟨_,_,_,rfl,λxs w=>by kernel_rfl,λw c rest r hf hc hr hl=>?_⟩;obtain⟨t,r',rfl⟩:=zcr hr.1;have c1:=(b1.fr hf).1;have c2:=(b2.fr hf).1;subst hc;simp only[zaN];obtain⟨u,a1,_,a3,a4,a5⟩:=hl.2 c.length z (by simp);refine(zly E.rb g1 g2 (E.A c.length).1 (E.A c.length).2 u t.k t.n t.p (sv t.s) w c1 c2 a1 a3 (λe=>b1.2 (e▸a4)) (λe=>b2.2 (e▸a4)) (zh (zdu hr.1))).mono ?_;rintro e w' ⟨he,w2,hk,rfl⟩;have q1:E.ta.block≠(E.A c.length).1:=λe=>hr.2.1 (e▸a4)
 exact zbF he ((Fr.keep hk).set _ _ a4) (by simp) ⟨(hr.1.keep hk).far _ _ a5 (λe=>q1 e.symm),hr.2⟩ ((hl.keep hk).put _ _ (dI t.p) rfl (zbE _))
theorem zlC {E:Env} {w0:World} {m:Nat} :Does E w0 (.func (.func 91) #[.pointer (some ⟨E.rb,0,none⟩)] #[]) m [] zcQ:=by
 refine⟨_,_,_,rfl,λxs w=>by kernel_rfl,λw c rest r hf hc hr hl=>?_⟩;obtain⟨t,r',rfl⟩:=zcr hr.1;simp only[zcQ,bad];by_cases h:t.k=0
 ·rw[if_pos h];refine(zfR E.rb t.k t.n t.p (sv t.s) w (by simpa using h) (zh (zdu hr.1))).mono ?_;rintro e w' ⟨he,hk⟩;exact zbF he (.keep hk) (by simpa using hc) (hr.keep hk) (Cel.keep (by simpa using hl) hk)
 ·rw[if_neg h];refine(zhx E.rb t.k t.n t.p (sv t.s) w (by simpa using h) (zh (zdu hr.1)) (zh (zdO hr.1))).mono ?_;rintro e w' ⟨he,hk⟩;exact zdg he hk
theorem zbY (E:Env) (w:World) (u v:Value) (s t:TypeId) (hS:∀ b,E.S b->b<w.heap.size):Bx E ((w.alloc (.cells #[u] s)).alloc (.cells #[v] t)) w.heap.size u/\Bx E ((w.alloc (.cells #[u] s)).alloc (.cells #[v] t)) (w.heap.size+1) v:=by
 refine⟨⟨by simp[go_sem],λh=>?_⟩,⟨by simp[go_sem],λh=>?_⟩⟩
 ·have:=hS _ h;omega
 ·have:=hS _ h;omega
set_option maxHeartbeats 1000000 in
theorem zdP (a:Option Addr) (X:ByteArray) (w:World):Calls Tryz.prog 85 #[.pointer a,.string X] w λe w'=>e= .returned (.func (.func 106) #[] #[.pointer (some ⟨w.heap.size,0,none⟩),.pointer (some ⟨w.heap.size+1,0,none⟩)])/\w'=(w.alloc (.cells #[.pointer a] 123)).alloc (.cells #[.string X] 9):=by
 go_enter Tryz.func85,Tryz.ntmps85;go_wp2;go_ret;exact⟨rfl,rfl⟩
set_option maxHeartbeats 1000000 in
theorem zlD (a b:Option Addr) (w:World):Calls Tryz.prog 86 #[.pointer a,.pointer b] w λe w'=>e= .returned (.func (.func 109) #[] #[.pointer (some ⟨w.heap.size,0,none⟩),.pointer (some ⟨w.heap.size+1,0,none⟩)])/\w'=(w.alloc (.cells #[.pointer a] 123)).alloc (.cells #[.pointer b] 165):=by
 go_enter Tryz.func86,Tryz.ntmps86;go_wp2;go_ret;exact⟨rfl,rfl⟩
set_option maxHeartbeats 1000000 in
theorem zj7 (a b:Option Addr) (w:World):Calls Tryz.prog 115 #[.pointer a,.pointer b] w λe w'=>e= .returned (.func (.func 144) #[] #[.pointer (some ⟨w.heap.size,0,none⟩),.pointer (some ⟨w.heap.size+1,0,none⟩)])/\w'=(w.alloc (.cells #[.pointer a] 123)).alloc (.cells #[.pointer b] 198):=by
 go_enter Tryz.func115,Tryz.ntmps115;go_wp2;go_ret;exact⟨rfl,rfl⟩
set_option maxHeartbeats 1000000 in
theorem zlE (a b:Option Addr) (w:World):Calls Tryz.prog 114 #[.pointer a,.pointer b] w λe w'=>e= .returned (.func (.func 143) #[] #[.pointer (some ⟨w.heap.size,0,none⟩),.pointer (some ⟨w.heap.size+1,0,none⟩)])/\w'=(w.alloc (.cells #[.pointer a] 123)).alloc (.cells #[.pointer b] 196):=by
 go_enter Tryz.func114,Tryz.ntmps114;go_wp2;go_ret;exact⟨rfl,rfl⟩
def Mk (E:Env) (m:Nat) (zs:List D) (p:Sp) (w:World) (e:Ending) (w':World):Prop:=∃ f xs ys,e= .returned (.func (.func f) xs ys)/\Keep w w'/\Does E w' (.func (.func f) xs ys) m zs p
theorem zaM (w:World) (o o':Obj):Keep w ((w.alloc o).alloc o'):=((zk w).alloc o).alloc o'
theorem zaH {E:Env} (s:List UInt8) (hs:s≠ []) (m:Nat) (w:World) (hS:∀ b,E.S b->b<w.heap.size):Calls Tryz.prog 85 #[.pointer (some ⟨E.rb,0,none⟩),.string (sv s)] w (Mk E m [] (zad s) w):=by
 refine(zdP _ _ w).mono ?_;rintro e w' ⟨rfl,rfl⟩;obtain⟨b1,b2⟩:=zbY E w _ _ _ _ hS;exact⟨_,_,_,rfl,zaM _ _ _,zlz hs b1 b2⟩
theorem zaB {E:Env} (z:D) (m b o:Nat) (hA:E.A m=(b,o)) (w:World) (hS:∀ b,E.S b->b<w.heap.size):Calls Tryz.prog 86 #[.pointer (some ⟨E.rb,0,none⟩),.pointer (some ⟨b,o,none⟩)] w (Mk E m [z] zao w):=by
 refine(zlD _ _ w).mono ?_;rintro e w' ⟨rfl,rfl⟩;obtain⟨b1,b2⟩:=zbY E w _ _ _ _ hS;exact⟨_,_,_,rfl,zaM _ _ _,zlA b1 (by rw[hA];exact b2)⟩
theorem zax {E:Env} (z:D) (m b o:Nat) (hA:E.A m=(b,o)) (w:World) (hS:∀ b,E.S b->b<w.heap.size):Calls Tryz.prog 115 #[.pointer (some ⟨E.rb,0,none⟩),.pointer (some ⟨b,o,none⟩)] w (Mk E m [z] zai w):=by
 refine(zj7 _ _ w).mono ?_;rintro e w' ⟨rfl,rfl⟩;obtain⟨b1,b2⟩:=zbY E w _ _ _ _ hS;exact⟨_,_,_,rfl,zaM _ _ _,zj6 b1 (by rw[hA];exact b2)⟩
theorem zc3 {E:Env} (z:D) (m b o:Nat) (hA:E.A m=(b,o)) (w:World) (hS:∀ b,E.S b->b<w.heap.size):Calls Tryz.prog 114 #[.pointer (some ⟨E.rb,0,none⟩),.pointer (some ⟨b,o,none⟩)] w (Mk E m [z] zaN w):=by
 refine(zlE _ _ w).mono ?_;rintro e w' ⟨rfl,rfl⟩;obtain⟨b1,b2⟩:=zbY E w _ _ _ _ hS;exact⟨_,_,_,rfl,zaM _ _ _,zlB b1 (by rw[hA];exact b2)⟩
end Go.Proofs.YthceiikgecoimaaGreatDoor
namespace Go.Proofs.YthceiikgecoimaaGreatDoor
open Go.RowKit Go.Extern.Stop Go.Stop Go.Extern
set_option linter.unusedVariables false
set_option linter.unusedSimpArgs false
set_option maxRecDepth 10000
theorem Tryz.isTypeOf (v:Value) (w:World):(Extern.ReflectliteType.typeOf #[.iface 30 v]).run Tryz.prog w= .ok (.iface 173 (.agg #[.pointer (some ⟨5,30,none⟩)])) w:=by kernel_rfl
theorem Tryz.isComparable (w:World):((Extern.ReflectliteType.method λt=>do Rtype.noPackHeld "Comparable" t;(λa=>Value.bool a.comparable)<$> typeInfo t) #[.agg #[.pointer (some ⟨5,30,none⟩)]]).run Tryz.prog w= .ok (.bool true) w:=by kernel_rfl
theorem Tryz.isMethodComparable (v:Value) (w:World):(Go.method 394 173 v "Comparable").run Tryz.prog w= .ok (199,v) w:=by kernel_rfl
theorem Tryz.methodUnwrap (v:Value) (w:World):(Go.method 394 66 v "Unwrap").run Tryz.prog w= .ok (193,v) w:=by kernel_rfl
theorem Tryz.noIsF (v:Value) (xT:TypeId) (w:World):(Instr.typeAssert (.iface 66 v) xT 260 true).run Tryz.prog w= .ok (.tuple #[.nilIface,.bool false]) w:=run_typeAssert_lacksB Tryz.underlying260 (by kernel_rfl) (by kernel_rfl) v xT w
theorem Tryz.hasUnwrapF (v:Value) (xT:TypeId) (w:World):(Instr.typeAssert (.iface 66 v) xT 181 true).run Tryz.prog w= .ok (.tuple #[.iface 66 v,.bool true]) w:=run_typeAssert_hasB Tryz.underlying181 (by kernel_rfl) v xT w
theorem Tryz.noIsE (v:Value) (xT:TypeId) (w:World):(Instr.typeAssert (.iface 30 v) xT 260 true).run Tryz.prog w= .ok (.tuple #[.nilIface,.bool false]) w:=run_typeAssert_lacksB Tryz.underlying260 (by kernel_rfl) (by kernel_rfl) v xT w
theorem Tryz.noUnwrapE (v:Value) (xT:TypeId) (w:World):(Instr.typeAssert (.iface 30 v) xT 181 true).run Tryz.prog w= .ok (.tuple #[.nilIface,.bool false]) w:=run_typeAssert_lacksB Tryz.underlying181 (by kernel_rfl) (by kernel_rfl) v xT w
theorem Tryz.noUnwrapsE (v:Value) (xT:TypeId) (w:World):(Instr.typeAssert (.iface 30 v) xT 182 true).run Tryz.prog w= .ok (.tuple #[.nilIface,.bool false]) w:=run_typeAssert_lacksB Tryz.underlying182 (by kernel_rfl) (by kernel_rfl) v xT w
theorem zmk (v:Value) (w:World):
  Calls Tryz.prog 113 #[.nilIface,.iface 30 v] w λe w'=>e= .returned (.bool false)/\w'=w:=by
 have hn:=run_eql_iface_nil_left (P:=Tryz.prog) w 30 v Tryz.underlying62;go_enter Tryz.func113,Tryz.ntmps113;go_wp2;go_ret;exact⟨rfl,rfl⟩
set_option maxHeartbeats 1000000 in
theorem zfi (x p:Int) (w:World):Calls Tryz.prog 193 #[.agg #[.int .i64 x,.int .i64 p]] w λe w'=>e= .returned (.iface 30 (.int .i64 x))/\Keep w w':=by
 go_enter Tryz.func193,Tryz.ntmps193;go_wp2;go_ret;exact⟨rfl,(zk w).alloc _⟩
theorem Tryz.eqlE (x y:Int) (w:World):(binOp .eql 62 (.iface 30 (.int .i64 x)) (.iface 30 (.int .i64 y))).run Tryz.prog w= .ok (.bool (x==y)) w:=by kernel_rfl
set_option maxHeartbeats 4000000 in
theorem zj8 (x p:Int) (b:Bool) (w:World) (hb:(x==50)=b):
  Calls Tryz.prog 113 #[flt (x,p),.iface 30 (.int .i64 50)] w λe w'=>e= .returned (.bool b)/\Keep w w':=by
 have h8:=@run_callFunc_extern Tryz.prog 92 _ Extern.ReflectliteType.typeOf Tryz.func92 (by kernel_rfl) (by kernel_rfl) (by kernel_rfl) (by kernel_rfl);have h32:=@run_callFunc_extern Tryz.prog 199 _ (Extern.ReflectliteType.method λt=>do Rtype.noPackHeld "Comparable" t;pure (.bool (<- typeInfo t).comparable)) Tryz.func199 (by kernel_rfl) (by kernel_rfl) (by kernel_rfl) (by kernel_rfl);have tT:=Tryz.isTypeOf;have cT:=Tryz.isComparable;have mR:=Tryz.isMethodComparable;have mU:=Tryz.methodUnwrap;have nE:=Tryz.noIsE;have uE:=Tryz.noUnwrapE;have vE:=Tryz.noUnwrapsE;have nF:=Tryz.noIsF;have uF:=Tryz.hasUnwrapF;have hq:=Tryz.eqlE;have hty:=λw=>run_eql_iface_types (P:=Tryz.prog) 66 30 (.agg #[.int .i64 x,.int .i64 p]) (.int .i64 50) Tryz.underlying62 (by decide) w
 have U:=zh zfi;unfold flt
 go_enter Tryz.func113,Tryz.ntmps113;go_wp2_with fail
 go_enter Tryz.func142,Tryz.ntmps142;go_wp2_with fail
 refine wp_loop_rounds 2 ?_;rw[rounds_succ];go_wp2_with fail
 (refine((uq U) _ _ _).mono ?_;rintro e w2 ⟨rfl,hk⟩;have HK2:=zh hk;clear hk);go_wp2_with fail
 rw[rounds_succ];cases b with
 |true=>
  go_wp2_with fail
  go_ret;exact⟨rfl,uq HK2⟩
 |false=>
  go_wp2_with fail
  go_ret;exact⟨rfl,uq HK2⟩
theorem zj9 (p:Int) (w:World):Calls Tryz.prog 113 #[flt (50,p),.iface 30 (.int .i64 50)] w λe w'=>e= .returned (.bool true)/\Keep w w':=zj8 50 p true w rfl
theorem zo8 (p:Int) (w:World):Calls Tryz.prog 113 #[flt (4,p),.iface 30 (.int .i64 50)] w λe w'=>e= .returned (.bool false)/\Keep w w':=zj8 4 p false w rfl
end Go.Proofs.YthceiikgecoimaaGreatDoor
namespace Go.Proofs.YthceiikgecoimaaGreatDoor
open Go.RowKit
attribute [local go_sem ↓] Go.wp_at_zero Go.wp_at_succ
set_option linter.unusedVariables false
set_option linter.unusedSimpArgs false
set_option maxRecDepth 10000
set_option maxHeartbeats 2000000 in
theorem zfj (g n:Nat) (V:Nat->Value) (I:Nat->World->Prop) (Q:Value->World->Prop) (w:World) (hn:n<=1000)
  (HV:Hid (∀ i w',i<n->I i w'->w'.cell? ⟨g,i,none⟩=some (V i)))
  (T:Hid (∀ i w',i<n->I i w'->∃ fn xs ys,V i= .func (.func fn) xs ys/\Ent fn/\Calls Tryz.prog fn (xs++ys) w' λe w''=>(e= .returned .nilIface/\I (i+1) w'')\/∃ x,e= .returned (.iface 66 x)/\Q x w''))
  (H0:Hid (I 0 w)):Calls Tryz.prog 84 #[.slice (some ⟨g,0,none⟩) n n] w λe w'=>(e= .returned .nilIface/\I n w')\/∃ x,e= .returned (.iface 66 x)/\Q x w':=by
 go_enter Tryz.func84,Tryz.ntmps84;go_wp2_with fail
 go_loopw [8] (λvi wr=>∃ i:Nat,i<=n/\vi= .int .i64 (i:Int)/\Hid (I i wr)) (λvi _=>n - (intOf vi).toNat)
 case atStart=>exact⟨0,Nat.zero_le _,rfl,H0⟩
 case round=>
  obtain⟨i,hi,rfl,HI⟩:=hrel;by_cases hlt:i<n
  ·have li:(i:Int)<(n:Int):=by omega
   have ci:=(uq HV) i _ hlt (uq HI);obtain⟨fn,xs,ys,hv,hent,hc⟩:=(uq T) i _ hlt (uq HI);rw[hv]at ci;have HC:=zh hc;clear hc hv;unfold Ent at hent
   go_wp2_with fail
   refine(uq HC).mono ?_;rintro e w2 (⟨rfl,hI⟩|⟨x,rfl,hQ⟩)
   ·have HI2:=zh hI;clear hI;go_wp2_with fail
    go_roundw
    case rel=>exact⟨i+1,hlt,by go_num,HI2⟩
    case measure=>simp[intOf];omega
   ·have HQ:=zh hQ;clear hQ;go_wp2_with fail
    go_ret;exact .inr ⟨x,rfl,uq HQ⟩
  ·have:i=n:=by omega
   subst this;go_wp2_with fail
   go_ret;exact .inl ⟨rfl,uq HI⟩
def zaw (E:Env) (w0:World):Nat->List (Value×List D×Sp)->Prop
 | _,[]=>True
 |m,s :: ss=>Does E w0 s.1 m s.2.1 s.2.2/\zaw E w0 (m+s.2.1.length) ss
def zer:List (Value×List D×Sp)->List D
 | []=> []
 |s :: ss=>s.2.1++zer ss
theorem zfS {ss:List (Value×List D×Sp)} {i:Nat} (h:i<ss.length):∃ s,ss[i]? =some s/\ss.drop i=s :: ss.drop (i+1):=⟨ss[i],by simp[h],List.drop_eq_getElem_cons h⟩
theorem za5 {E:Env} {w:World} {g m:Nat} {ss:List (Value×List D×Sp)} {c rest:List D} {r:List Tok} (hn:ss.length<=1000) (hch:zaw E w m ss) (hv:∀ i s,ss[i]? =some s->w.cell? ⟨g,i,none⟩=some s.1) (hg:¬E.S g)
  (hc:c.length=m) (hr:Rdr E w r) (hl:Cel E w (c++zer ss++rest)):
  Calls Tryz.prog 84 #[.slice (some ⟨g,0,none⟩) ss.length ss.length] w (zcv E w rest (m+(zer ss).length) (sq (ss.map λs=>s.2.2) c r)):=by
 refine(zfj g ss.length (λi=>(ss.getD i (.nilIface,[],zaN)).1)
  (λi w'=>Fr E.S w w'/\∃ c' r' m',sq (ss.map λs=>s.2.2) c r=sq ((ss.drop i).map λs=>s.2.2) c' r'/\c'.length=m'/\m'+(zer (ss.drop i)).length=m+(zer ss).length/\zaw E w m' (ss.drop i)/\Rdr E w' r'/\Cel E w' (c'++zer (ss.drop i)++rest))
  (λx w'=>Fr E.S w w'/\∃ y:Er,x= .agg #[.int .i64 y.1,.int .i64 y.2]/\sq (ss.map λs=>s.2.2) c r= .error y) w hn (zh λi w' hi h=>?_) (zh λi w' hi h=>?_) (zh ⟨.refl _ _,c,r,m,by simp,hc,by simp,by simpa using hch,hr,by simpa using hl⟩)).mono ?_
 ·obtain⟨s,hs,_⟩:=zfS hi;have e:(ss.getD i (.nilIface,[],zaN)).1=s.1:=by rw[List.getD_eq_getElem?_getD,hs];rfl
  rw[e];exact h.1.cell (hv i s hs) hg
 ·obtain⟨s,hs,hd⟩:=zfS hi;have e:(ss.getD i (.nilIface,[],zaN)).1=s.1:=by rw[List.getD_eq_getElem?_getD,hs];rfl
  obtain⟨hf,c',r',m',h1,h2,h3,h4,h5,h6⟩:=h;rw[hd]at h1 h3 h4 h6;obtain⟨⟨fn,xs,ys,k1,k2,k3⟩,h4⟩:=h4;refine⟨fn,xs,ys,e.trans k1,k2,(k3 w' c' (zer (ss.drop (i+1))++rest) r' hf h2 h5 (by simpa [zer,List.append_assoc]using h6)).mono ?_⟩;rintro e w'' ⟨f2,hp⟩;simp only[List.map_cons,sq]at h1;cases hx:s.2.2 c' r' with
  |error y=>
   rw[hx]at hp h1;exact .inr ⟨_,hp,hf.trans f2,y,rfl,h1⟩
  |ok q=>
   obtain⟨c2,r2⟩:=q;rw[hx]at hp h1;obtain⟨p1,p2,p3,p4⟩:=hp;refine .inl ⟨p1,hf.trans f2,c2,r2,m'+s.2.1.length,h1,p2,?_,h4,p3,by simpa [List.append_assoc]using p4⟩;simp[zer]at h3;omega
 ·rintro e w' (⟨he,hf,c',r',m',h1,h2,h3,h4,h5,h6⟩|⟨x,he,hf,y,rfl,h1⟩)
  ·rw[h1];simp only[List.drop_length,List.map_nil,sq,zer,List.length_nil,List.append_nil]at h1 h3 h6 |-;exact zbF he hf (by omega) h5 h6
  ·rw[h1];exact⟨hf,he⟩
set_option maxHeartbeats 2000000 in
theorem zhw (rb g1 g2 g3 tb o:Nat) (u:Value) (pp:Int) (X:ByteArray) (w:World)
  (h1:w.cell? ⟨g1,0,none⟩=some (.pointer (some ⟨rb,0,none⟩))) (h2:w.cell? ⟨g2,0,none⟩=some (.string X)) (h3:w.cell? ⟨g3,0,none⟩=some (.pointer (some ⟨tb,o,none⟩)))
  (h5:w.cell? ⟨tb,o,none⟩=some u) (h6:w.frozen? ⟨tb,o,none⟩=false) (n3:g3≠tb)
  (T1:Hid (∀ w' a b,Keep w w'->w'.cell? ⟨a,0,none⟩=some (.pointer (some ⟨rb,0,none⟩))->w'.cell? ⟨b,0,none⟩=some (.string X)->Calls Tryz.prog 106 #[.pointer (some ⟨a,0,none⟩),.pointer (some ⟨b,0,none⟩)] w' λe w''=>e= .returned (flt (50,pp))/\Keep w' w'')):
  Calls Tryz.prog 155 #[.pointer (some ⟨g1,0,none⟩),.pointer (some ⟨g2,0,none⟩),.pointer (some ⟨g3,0,none⟩)] w λe w'=>e= .returned .nilIface/\∃ w2,Keep w w2/\Keep (w2.setCell ⟨tb,o,none⟩ (.bool false)) w':=by
 have HK:=zh (zk w);have H1:=zh h1;have H2:=zh h2;have H3:=zh h3;have H5:=zh h5;have H6:=zh h6;have M:=zh zdP;have I:=zh zj9;clear h3 h5 h6;go_enter Tryz.func155,Tryz.ntmps155;go_wp2_with fail
 (refine((uq M) _ _ _).mono ?_;rintro e w1 ⟨rfl,rfl⟩);go_wp2_with fail
 (refine((uq T1) _ _ _ (zaM _ _ _) (by simp[go_sem]) (by simp[go_sem])).mono ?_;rintro e w2 ⟨rfl,hk⟩;have HK2:=zh ((zaM _ _ _).trans hk);clear hk);unfold flt
 go_wp2_with fail
 have c3:=zh ((uq HK2).cell' (uq H3));have c5:=(uq HK2).cell' (uq H5);have c6:=(uq HK2).frozen' (uq H5) (uq H6);refine wp_region_held_drew (S:=λw'=>w'.cell? ⟨g3,0,none⟩=some (.pointer (some ⟨tb,o,none⟩))) (by kernel_rfl) (by exact uq c3) (λzH=>?_);refine tk4 0 9 1 10 2 11 3 12 zH ?_;try simp only[Yq]
 refine zaq 4 (λK hK=>?_);go_simp;clear zH;refine hK.out _ _ ?_ (λzH=>?_)
 ·show(w2.setCell ⟨tb,o,none⟩ (.bool false)).cell? _=_;rw[zac _ _ _ _ (λe=>n3 e.symm)];exact uq c3
 clear hK K;try simp only[Yq]
 refine wpAnyH_done (by kernel_rfl) ?_ _;clear zH;go_wp2_with fail
 (refine((uq I) _ _).mono ?_;rintro e w3 ⟨rfl,hk⟩;have HK3:=zh hk;clear hk);go_wp2_with fail
 go_ret;exact⟨rfl,w2,uq HK2,(zk _).drew.trans (uq HK3)⟩
set_option maxHeartbeats 2000000 in
theorem zfO (rb g1 g2 g3 tb o:Nat) (u:Value) (k:Nat) (X:ByteArray) (w:World)
  (h1:w.cell? ⟨g1,0,none⟩=some (.pointer (some ⟨rb,0,none⟩))) (h2:w.cell? ⟨g2,0,none⟩=some (.string X)) (h3:w.cell? ⟨g3,0,none⟩=some (.pointer (some ⟨tb,o,none⟩)))
  (h5:w.cell? ⟨tb,o,none⟩=some u) (h6:w.frozen? ⟨tb,o,none⟩=false) (n3:g3≠tb) (n4:g3≠rb) (n5:tb≠rb)
  (T1:Hid (∀ w' a b,Keep w w'->w'.cell? ⟨a,0,none⟩=some (.pointer (some ⟨rb,0,none⟩))->w'.cell? ⟨b,0,none⟩=some (.string X)->Calls Tryz.prog 106 #[.pointer (some ⟨a,0,none⟩),.pointer (some ⟨b,0,none⟩)] w' λe w''=>e= .returned .nilIface/\∃ w2,Keep w' w2/\w''=w2.setCell ⟨rb,1,none⟩ (.int .i64 ((k+1:Nat):Int)))):
  Calls Tryz.prog 155 #[.pointer (some ⟨g1,0,none⟩),.pointer (some ⟨g2,0,none⟩),.pointer (some ⟨g3,0,none⟩)] w λe w'=>e= .returned .nilIface/\∃ w2,Keep w w2/\Keep ((w2.setCell ⟨rb,1,none⟩ (.int .i64 ((k+1:Nat):Int))).setCell ⟨tb,o,none⟩ (.bool true)) w':=by
 have HK:=zh (zk w);have H1:=zh h1;have H2:=zh h2;have H3:=zh h3;have H5:=zh h5;have H6:=zh h6;have M:=zh zdP;have I:=zh zmk;clear h3 h5 h6;go_enter Tryz.func155,Tryz.ntmps155;go_wp2_with fail
 (refine((uq M) _ _ _).mono ?_;rintro e w1 ⟨rfl,rfl⟩);go_wp2_with fail
 (refine((uq T1) _ _ _ (zaM _ _ _) (by simp[go_sem]) (by simp[go_sem])).mono ?_;rintro e w9 ⟨rfl,w2,hk,rfl⟩;have HK2:=zh ((zaM _ _ _).trans hk);clear hk);have c3:Hid ((w2.setCell ⟨rb,1,none⟩ (.int .i64 ((k+1:Nat):Int))).cell? ⟨g3,0,none⟩=some (.pointer (some ⟨tb,o,none⟩))):=by unfold Hid;rw[zac _ _ _ _ (λe=>n4 e.symm)];exact(uq HK2).cell' (uq H3)
 have c5:(w2.setCell ⟨rb,1,none⟩ (.int .i64 ((k+1:Nat):Int))).cell? ⟨tb,o,none⟩=some u:=by rw[zac _ _ _ _ (λe=>n5 e.symm)];exact(uq HK2).cell' (uq H5)
 have c6:(w2.setCell ⟨rb,1,none⟩ (.int .i64 ((k+1:Nat):Int))).frozen? ⟨tb,o,none⟩=false:=by rw[World.frozen?_setCell];exact(uq HK2).frozen' (uq H5) (uq H6)
 have HW:Hid (∃ w1,Keep w w1/\w2.setCell ⟨rb,1,none⟩ (.int .i64 ((k+1:Nat):Int))=w1.setCell ⟨rb,1,none⟩ (.int .i64 ((k+1:Nat):Int))):=zh ⟨w2,uq HK2,rfl⟩;generalize w2.setCell ⟨rb,1,none⟩ (.int .i64 ((k+1:Nat):Int))=w2 at *;go_wp2_with fail
 refine wp_region_held_drew (S:=λw'=>w'.cell? ⟨g3,0,none⟩=some (.pointer (some ⟨tb,o,none⟩))) (by kernel_rfl) (by exact uq c3) (λzH=>?_);refine tk4 0 9 1 10 2 11 3 12 zH ?_;try simp only[Yq]
 refine zaq 4 (λK hK=>?_);go_simp;clear zH;refine hK.out _ _ ?_ (λzH=>?_)
 ·show(w2.setCell ⟨tb,o,none⟩ (.bool true)).cell? _=_;rw[zac _ _ _ _ (λe=>n3 e.symm)];exact uq c3
 clear hK K;try simp only[Yq]
 refine wpAnyH_done (by kernel_rfl) ?_ _;clear zH;go_wp2_with fail
 (refine((uq I) _ _).mono ?_;rintro e w3 ⟨rfl,rfl⟩);go_wp2_with fail
 go_ret;obtain⟨w1,k1,rfl⟩:=uq HW;exact⟨rfl,w1,k1,Keep.drew (zk _)⟩
theorem zlF {E:Env} {w0:World} {g1 g2 g3 m:Nat} {z:D} {s:List UInt8} (hs:s≠ []) (b1:Bx E w0 g1 (.pointer (some ⟨E.rb,0,none⟩))) (b2:Bx E w0 g2 (.string (sv s))) (b3:Bx E w0 g3 (.pointer (some ⟨(E.A m).1,(E.A m).2,none⟩))):
  Does E w0 (.func (.func 155) #[] #[.pointer (some ⟨g1,0,none⟩),.pointer (some ⟨g2,0,none⟩),.pointer (some ⟨g3,0,none⟩)]) m [z] (zaQ s):=by
 refine⟨_,_,_,rfl,λxs w=>by kernel_rfl,λw c rest r hf hc hr hl=>?_⟩;obtain⟨t,r',rfl⟩:=zcr hr.1;have c1:=(b1.fr hf).1;have c2:=(b2.fr hf).1;have c3:=(b3.fr hf).1;subst hc;obtain⟨u,a1,_,a3,a4,a5⟩:=hl.2 c.length z (by simp);have n3:g3≠(E.A c.length).1:=λe=>b3.2 (e▸a4)
 have q1:E.ta.block≠(E.A c.length).1:=λe=>hr.2.1 (e▸a4)
 simp only[zaQ];by_cases h:t.s=s
 ·rw[if_pos h];have hn:t.k≠0\/t.s≠ []:= .inr (by rw[h];exact hs);obtain⟨k,k1,k2,k3⟩:=hr.1.at hn;refine(zfO E.rb g1 g2 g3 (E.A c.length).1 (E.A c.length).2 u k (sv s) w c1 c2 c3 a1 a3 n3 (λe=>b3.2 (e▸hr.2.2)) a5 (zh λw' a b hk x1 x2=>zcs E.rb a b k t.k t.n t.p (sv t.s) (sv s) w' (by rw[svl,svl,h];simp) k1 x1 x2 (hk.cell' k2) (hk.frozen' k2 k3) (zh (zdu (hr.1.keep hk))))).mono ?_;rintro e w' ⟨he,w2,hk,hk2⟩;have hr2:Rdr E (w2.setCell ⟨E.rb,1,none⟩ (.int .i64 ((k+1:Nat):Int))) r':=⟨(hr.1.keep hk).next hn hr.apart (hk.cell' k2),hr.2⟩;have hl2:Cel E (w2.setCell ⟨E.rb,1,none⟩ (.int .i64 ((k+1:Nat):Int))) (c++ [z]++rest):=(hl.keep hk).reader hr.2.2 _;refine zbF he ((((Fr.keep hk).set _ _ hr.2.2).set _ _ a4).trans (.keep hk2)) (by simp) (Rdr.keep ⟨hr2.1.far _ _ a5 (λe=>q1 e.symm),hr.2⟩ hk2) ((hl2.put _ _ (dB true) rfl (zgi _)).keep hk2)
 ·rw[if_neg h];refine(zhw E.rb g1 g2 g3 (E.A c.length).1 (E.A c.length).2 u t.p (sv s) w c1 c2 c3 a1 a3 n3 (zh λw' a b hk x1 x2=>zj4 E.rb a b t.k t.n t.p (sv t.s) (sv s) w' (by rw[svl,svl];simpa using h) x1 x2 (zh (zdu (hr.1.keep hk))) (zh (zdO (hr.1.keep hk))))).mono ?_;rintro e w' ⟨he,w2,hk,hk2⟩;refine zbF he (((Fr.keep hk).set _ _ a4).trans (.keep hk2)) (by simp) (Rdr.keep ⟨(hr.1.keep hk).far _ _ a5 (λe=>q1 e.symm),hr.2⟩ hk2) (((hl.keep hk).put _ _ (dB false) rfl (zgi _)).keep hk2)
set_option maxHeartbeats 1000000 in
theorem zlG (a b:Option Addr) (X:ByteArray) (w:World):Calls Tryz.prog 127 #[.pointer a,.string X,.pointer b] w λe w'=>e= .returned (.func (.func 155) #[] #[.pointer (some ⟨w.heap.size,0,none⟩),.pointer (some ⟨w.heap.size+1,0,none⟩),.pointer (some ⟨w.heap.size+1+1,0,none⟩)])/\w'=((w.alloc (.cells #[.pointer a] 123)).alloc (.cells #[.string X] 9)).alloc (.cells #[.pointer b] 215):=by
 go_enter Tryz.func127,Tryz.ntmps127;go_wp2;go_ret;exact⟨rfl,rfl⟩
theorem zeP (E:Env) (w:World) (u v x:Value) (s t q:TypeId) (hS:∀ b,E.S b->b<w.heap.size):Bx E (((w.alloc (.cells #[u] s)).alloc (.cells #[v] t)).alloc (.cells #[x] q)) w.heap.size u/\Bx E (((w.alloc (.cells #[u] s)).alloc (.cells #[v] t)).alloc (.cells #[x] q)) (w.heap.size+1) v/\Bx E (((w.alloc (.cells #[u] s)).alloc (.cells #[v] t)).alloc (.cells #[x] q)) (w.heap.size+1+1) x:=by
 refine⟨⟨by simp[go_sem],λh=>?_⟩,⟨by simp[go_sem],λh=>?_⟩,⟨by simp[go_sem],λh=>?_⟩⟩<;>(have:=hS _ h;omega)
theorem zfk (w:World) (o o' p:Obj):Keep w (((w.alloc o).alloc o').alloc p):=(((zk w).alloc o).alloc o').alloc p
theorem zd5 {E:Env} (s:List UInt8) (hs:s≠ []) (z:D) (m b o:Nat) (hA:E.A m=(b,o)) (w:World) (hS:∀ b,E.S b->b<w.heap.size):Calls Tryz.prog 127 #[.pointer (some ⟨E.rb,0,none⟩),.string (sv s),.pointer (some ⟨b,o,none⟩)] w (Mk E m [z] (zaQ s) w):=by
 refine(zlG _ _ _ w).mono ?_;rintro e w' ⟨rfl,rfl⟩;obtain⟨b1,b2,b3⟩:=zeP E w _ _ _ _ _ _ hS;exact⟨_,_,_,rfl,zfk _ _ _ _,zlF hs b1 b2 (by rw[hA];exact b3)⟩
theorem zae {E:Env} {w w':World} (h:∀ b,E.S b->b<w.heap.size) (k:Keep w w'):∀ b,E.S b->b<w'.heap.size:=λb hb=>Nat.lt_of_lt_of_le (h b hb) k.size
theorem zah {E:Env} {w w':World} (h:E.lo<=w.heap.size) (k:Keep w w'):E.lo<=w'.heap.size:=Nat.le_trans h k.size
theorem zaS {E:Env} {w w':World} (k:Keep w w'):∀ {m:Nat} {ss:List (Value×List D×Sp)},zaw E w m ss->zaw E w' m ss
 | _,[],_=>trivial
 | _,_ :: _,h=>⟨h.1.keep k,zaS k h.2⟩
theorem zab {E:Env} {w w':World} {m:Nat} {ss:List (Value×List D×Sp)} {v:Value} {zs:List D} {p:Sp} (h:zaw E w m ss) (k:Keep w w') (hd:Does E w' v (m+(zer ss).length) zs p):zaw E w' m (ss++ [(v,zs,p)]):=by
 induction ss generalizing m with
 |nil=>exact⟨hd,trivial⟩
 |cons s ss ih=>exact⟨h.1.keep k,ih h.2 (by rw[Nat.add_assoc,<- List.length_append];exact hd)⟩
theorem za1 (w:World) (t:TypeId) (ss:List (Value×List D×Sp)):∀ i s,ss[i]? =some s->(w.alloc (.cells (ss.map (λs=>s.1)).toArray t)).cell? ⟨w.heap.size,i,none⟩=some s.1:=by
 intro i s h
 rw[World.cell?_alloc_mark];simp[h]
theorem zbA {E:Env} {w:World} {rest:List D} {n:Nat} {X:Rs} {e:Ending} {w':World} (h:zcv E w rest n X e w'):∃ v,e= .returned v:=by
 obtain⟨_,h⟩:=h;cases X with
 |error x=>exact⟨_,h⟩
 |ok q=>exact⟨_,h.1⟩
theorem zbN {E:Env} {w w1:World} {rest:List D} {n:Nat} {X:Rs} {e:Ending} {w':World} (k:Fr E.S w w1) (h:zcv E w1 rest n X e w'):zcv E w rest n X e w':=⟨k.trans h.1,h.2⟩
set_option maxHeartbeats 4000000 in
theorem zka (E:Env) (g1 g2 b o m:Nat) (c rest:List D) (w:World) (r:List Tok) (h1:w.cell? ⟨g1,0,none⟩=some (.pointer (some ⟨E.rb,0,none⟩))) (h2:w.cell? ⟨g2,0,none⟩=some (.pointer (some ⟨b,o,none⟩)))
  (N1:Hid (¬E.S g1)) (N2:Hid (¬E.S g2)) (A0:Hid (E.A m=(b,o))) (A1:Hid (E.A (m+1)=(b,o+1))) (HS:Hid (∀ b,E.S b->b<w.heap.size)) (hcm:Hid (c.length=m)) (HR:Hid (Rdr E w r)) (HL:Hid (Cel E w (c++ [dI 0,dI 0]++rest))):
  Calls Tryz.prog 110 #[.pointer (some ⟨g1,0,none⟩),.pointer (some ⟨g2,0,none⟩)] w (zcv E w rest (m+2) (za8 c r)):=by
 have HK0:=zh (zk w).drew;have HS0:Hid (∀ b,E.S b->b<w.drew.heap.size):=HS;have HLo0:Hid True:=trivial;have H1:=zh h1;have H2:=zh h2;clear h1 h2;go_enter Tryz.func110,Tryz.ntmps110;go_wp2_with fail
 refine wp_region_held_drew (S:=λw'=>w'.cell? ⟨g1,0,none⟩=some (.pointer (some ⟨E.rb,0,none⟩))/\w'.cell? ⟨g2,0,none⟩=some (.pointer (some ⟨b,o,none⟩))) (by kernel_rfl) (by exact⟨uq H1,uq H2⟩) (λzH=>?_);refine tk6 0 3 1 4 2 5 3 6 5 8 7 10 zH ?_;try simp only[Yq]
 refine tk3 8 11 9 12 10 13 zH ?_;try simp only[Yq]
 refine zaq 4 (λK hK=>?_);go_simp;clear zH;(refine(zaB (E:=E) (dI 0) (m) _ _ (uq A0) _ (uq HS0)).mono ?_;rintro e w1 ⟨f1,x1,y1,rfl,hk,hd⟩;have HS1:=zh (zae (uq HS0) hk);have HK1:=zh ((uq HK0).trans hk);have HC1:Hid (zaw E w1 (m) [(.func (.func f1) x1 y1,[dI 0],zao)]):=zh ⟨hd,trivial⟩;clear hk hd);try go_wp2_with fail
 refine hK.out _ _ ?_ (λzH=>?_)
 ·exact⟨(λk:Keep w _=>k.cell' (uq H1)) (uq HK1),(λk:Keep w _=>k.cell' (uq H2)) (uq HK1)⟩
 clear hK K;try simp only[Yq]
 refine zaq 6 (λK hK=>?_);go_simp;clear zH;(refine(zaH (E:=E) [47] (by decide) (m+1) _ (uq HS1)).mono ?_;rintro e w2 ⟨f2,x2,y2,rfl,hk,hd⟩;have HS2:=zh (zae (uq HS1) hk);have HK2:=zh ((uq HK1).trans hk);have HC2:Hid (zaw E w2 (m) [(.func (.func f1) x1 y1,[dI 0],zao),(.func (.func f2) x2 y2,[],zad [47])]):=zh (zab (uq HC1) hk hd);clear hk hd);try go_wp2_with fail
 refine hK.out _ _ ?_ (λzH=>?_)
 ·exact⟨(λk:Keep w _=>k.cell' (uq H1)) (uq HK2),(λk:Keep w _=>k.cell' (uq H2)) (uq HK2)⟩
 clear hK K;try simp only[Yq]
 refine zaq 11 (λK hK=>?_);go_simp;clear zH;(refine(zaB (E:=E) (dI 0) (m+1) _ _ (uq A1) _ (uq HS2)).mono ?_;rintro e w3 ⟨f3,x3,y3,rfl,hk,hd⟩;have HS3:=zh (zae (uq HS2) hk);have HK3:=zh ((uq HK2).trans hk);have HC3:Hid (zaw E w3 (m) [(.func (.func f1) x1 y1,[dI 0],zao),(.func (.func f2) x2 y2,[],zad [47]),(.func (.func f3) x3 y3,[dI 0],zao)]):=zh (zab (uq HC2) hk hd);clear hk hd);try go_wp2_with fail
 refine hK.out _ _ ?_ (λzH=>?_)
 ·exact⟨(λk:Keep w _=>k.cell' (uq H1)) (uq HK3),(λk:Keep w _=>k.cell' (uq H2)) (uq HK3)⟩
 clear hK K;try simp only[Yq]
 refine zaq 12 (λK hK=>?_);go_simp;clear zH;refine hK.out _ _ ?_ (λzH=>?_)
 ·exact⟨(λk:Keep w _=>k.cell' (uq H1)) ((uq HK3).alloc _),(λk:Keep w _=>k.cell' (uq H2)) ((uq HK3).alloc _)⟩
 clear hK K;try simp only[Yq]
 refine zaq 13 (λK hK=>?_);go_simp;clear zH;(refine(za5 (E:=E) (m:=m) (ss:= [(.func (.func f1) x1 y1,[dI 0],zao),(.func (.func f2) x2 y2,[],zad [47]),(.func (.func f3) x3 y3,[dI 0],zao)]) (c:=c) (rest:=rest) (r:=r) (by simp) (zaS ((zk _).alloc _) (uq HC3)) (za1 _ _ _) (λh=>Nat.lt_irrefl _ ((uq HS3) _ h)) (uq hcm) ((uq HR).keep ((uq HK3).alloc _)) ((uq HL).keep ((uq HK3).alloc _))).mono ?_;rintro e wz hp;obtain⟨vz,rfl⟩:=zbA hp;have HP:=zh hp;have HKz:=zh ((uq HK3).alloc (.cells #[.func (.func f1) x1 y1,.func (.func f2) x2 y2,.func (.func f3) x3 y3] 162));clear hp);try go_wp2_with fail
 refine hK.out _ _ ?_ (λzH=>?_)
 ·exact⟨(uq HP).1.cell ((uq HKz).cell' (uq H1)) (uq N1),(uq HP).1.cell ((uq HKz).cell' (uq H2)) (uq N2)⟩
 clear hK K;try simp only[Yq]
 refine tkk 14 2 zH ?_;try simp only[Yq]
 refine wpAnyH_done (by kernel_rfl) ?_ _;clear zH;go_wp2_with fail
 go_ret;exact zbN (.keep (uq HKz)) (uq HP)
theorem Rdr.hs {E:Env} {w0 w:World} (hS:∀ b,E.S b->b<w0.heap.size) (hf:Fr E.S w0 w):∀ b,E.S b->b<w.heap.size:=λb hb=>Nat.lt_of_lt_of_le (hS b hb) hf.size
theorem zkb {E:Env} {w0:World} {g1 g2 m b o:Nat} (hA:E.A m=(b,o)) (hA1:E.A (m+1)=(b,o+1)) (hS:∀ b,E.S b->b<w0.heap.size) (b1:Bx E w0 g1 (.pointer (some ⟨E.rb,0,none⟩))) (b2:Bx E w0 g2 (.pointer (some ⟨b,o,none⟩))):
  Does E w0 (.func (.func 110) #[] #[.pointer (some ⟨g1,0,none⟩),.pointer (some ⟨g2,0,none⟩)]) m [dI 0,dI 0] za8:=
 ⟨_,_,_,rfl,λxs w=>by kernel_rfl,λw c rest r hf hc hr hl=>zka E g1 g2 b o m c rest w r (b1.fr hf).1 (b2.fr hf).1 (zh b1.2) (zh b2.2) (zh hA) (zh hA1) (zh (Rdr.hs hS hf)) (zh hc) (zh hr) (zh hl)⟩
set_option maxHeartbeats 1000000 in
theorem zkc (a b:Option Addr) (w:World):Calls Tryz.prog 87 #[.pointer a,.pointer b] w λe w'=>e= .returned (.func (.func 110) #[] #[.pointer (some ⟨w.heap.size,0,none⟩),.pointer (some ⟨w.heap.size+1,0,none⟩)])/\w'=(w.alloc (.cells #[.pointer a] 123)).alloc (.cells #[.pointer b] 167):=by
 go_enter Tryz.func87,Tryz.ntmps87;go_wp2;go_ret;exact⟨rfl,rfl⟩
theorem zdF {E:Env} (m b o:Nat) (hA:E.A m=(b,o)) (hA1:E.A (m+1)=(b,o+1)) (w:World) (hS:∀ b,E.S b->b<w.heap.size):Calls Tryz.prog 87 #[.pointer (some ⟨E.rb,0,none⟩),.pointer (some ⟨b,o,none⟩)] w (Mk E m [dI 0,dI 0] za8 w):=by
 refine(zkc _ _ w).mono ?_;rintro e w' ⟨rfl,rfl⟩;obtain⟨b1,b2⟩:=zbY E w _ _ _ _ hS;exact⟨_,_,_,rfl,zaM _ _ _,zkb hA hA1 (zae hS (zaM _ _ _)) b1 b2⟩
end Go.Proofs.YthceiikgecoimaaGreatDoor
