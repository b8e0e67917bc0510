/- All tokens: package lex and the document. -/
import Derived.Test.YtfepanidippjlaaGreatDoorLOneA
import Derived.Test.YtfepanidippjlaaGreatDoorNCut
namespace Go.Proofs.YtfepanidippjlaaGreatDoor
open Go.RowKit
attribute [local go_sem ↓] Go.wp_at_zero Go.wp_at_succ
set_option linter.unusedVariables false
set_option linter.unusedSimpArgs false
set_option maxRecDepth 10000
theorem zaN {t:TypeId} {z:Value} {a b:Nat} (h:(Tryz.prog.info? t).map (fun i=>(i.zero,i.size,i.bytes))=some (some z,a,b)):∃ i,Tryz.prog.info? t=some i∧i.zero=some z∧i.size=a∧i.bytes=b:=by
 cases hi:Tryz.prog.info? t with
 |none=>rw[hi]at h;cases h
 |some i=>rw[hi]at h;simp at h;exact⟨i,rfl,h.1,h.2.1,h.2.2⟩
theorem zoy:(Tryz.prog.info? 115).map (fun i=>(i.zero,i.size,i.bytes))=some (some (.agg #[.int .i64 0,.string ⟨#[]⟩,.int .i64 0,.int .i64 0]),4,40):=by kernel_rfl
set_option maxHeartbeats 2000000 in
theorem zeJ (a:Option Addr) (n cap:Nat) (w:World) (hn:65536<n):
  Calls Tryz.prog 71 #[.slice a n cap] w fun e w'=>e= .returned (.tuple #[.slice none 0 0,.int .i64 4,.int .i64 65536])∧w'=w:=by
 have h:(65536:Int)<(n:Int):=by omega
 go_enter Tryz.func71,Tryz.ntmps71;go_wp2_with fail
 go_ret3
 exact⟨rfl,rfl⟩
set_option maxHeartbeats 2000000 in
theorem zd2 (a:Option Addr) (n cap:Nat) (w:World) (hn:65536<n):
  Calls Tryz.prog 61 #[.slice a n cap] w fun e w'=>e= .returned (.tuple #[.slice none 0 0,.int .i64 4,.int .i64 65536])∧w'=w:=by
 have h:(65536:Int)<(n:Int):=by omega
 go_enter Tryz.func61,Tryz.ntmps61;go_wp2_with fail
 go_ret3
 exact⟨rfl,rfl⟩
theorem Keep.grown {w w':World} (h:Keep w w'):w.grownBy w' none:=⟨h.1,h.2,h.3,h.4,fun i hi _=>h.5 i hi⟩
theorem zds {w w':World} {base:Nat} {e:TypeId} {z n:Nat} {v:Value} {xs:List Value} (h:w.ownsRow base e z v n xs) (hk:Keep w w'):w'.ownsRow base e z v n xs:=
 h.kept hk.grown (by cases v.ownBlock<;>simp)
theorem zay {W:World} {base:Nat} {e:TypeId} {size:Nat} {v:Value} {k:Nat} {xs:List Value} (h:W.ownsRow base e size v (k+1) xs):∃ g cap,v= .slice (some ⟨g,0,none⟩) (k+1) cap:=by
 rcases h.2 with ⟨_,h0⟩|⟨g,cap,_,rfl,_⟩
 ·omega
 ·exact⟨g,cap,rfl⟩
theorem zfK (w:World) (a b c d:Value) (t:TypeId):∀ j u,[a,b,c,d][j]? =some u→(w.alloc (.cells #[a,b,c,d] t)).cell? ((⟨w.heap.size,0,none⟩:Addr).add j)=some u:=by
 intro j u hj
 rw[zbo,Nat.zero_add]
 match j,hj with
 |0,hj=>simp at hj;subst hj;simp[go_sem]
 |1,hj=>simp at hj;subst hj;simp[go_sem]
 |2,hj=>simp at hj;subst hj;simp[go_sem]
 |3,hj=>simp at hj;subst hj;simp[go_sem]
 |j+4,hj=>simp at hj
theorem zdM (w:World) (o:Obj) (a b c d:Value) (t:TypeId):∀ j u,[a,b,c,d][j]? =some u→((w.alloc o).alloc (.cells #[a,b,c,d] t)).cell? ((⟨w.heap.size+1,0,none⟩:Addr).add j)=some u:=by
 have h:=zfK (w.alloc o) a b c d t;rw[World.size_alloc]at h;exact h
theorem zcF {w w':World} {o o2:Obj} {cur:Array Value} {t:TypeId} {row:Option Nat} (ho:o= .cells cur t) (hg:((w.alloc o).alloc o2).grownBy w' row) (hr:∀ j,row=some j→j<w.heap.size) (i:Nat) (x:Value) (hi:cur[i]? =some x):
  w'.cell? ⟨w.heap.size,i,none⟩=some x:=by
 subst ho;refine hg.cell ?_ ?_
 ·have h1:((w.alloc (.cells cur t)).alloc o2).cell? ⟨w.heap.size,i,none⟩=(w.alloc (.cells cur t)).cell? ⟨w.heap.size,i,none⟩:=
   Below.cell (p:=⟨w.heap.size,i,none⟩) ((Below.refl (w.alloc (.cells cur t)).heap.size _).alloc (Nat.le_refl _) o2) (by show w.heap.size<_;rw[World.size_alloc];omega)
  rw[h1,World.cell?_alloc_mark];exact hi
 ·intro e
  have:=hr w.heap.size e.symm;omega
def Lo (n:Nat) (v:Value):Prop:=∀ ad m cap,v= .slice (some ad) m cap→n≤ad.block
theorem zd3 (n:Nat):Lo n (.slice none 0 0):=fun _ _ _ e=>by cases e
theorem zj7 {w:World} {base:Nat} {e:TypeId} {z n:Nat} {v:Value} {xs:List Value} (h:w.ownsRow base e z v n xs):Lo base v:=fun ad m cap ev=>by
 subst ev;exact(h.lt _ rfl).1
def Tp (X:Except (Int×Nat) (List Tok)) (w:World) (e:Ending) (w':World):Prop:=∃ v,e= .returned (.tuple #[v,.int .i64 (te X),.int .i64 (tn X:Nat)])∧Ts w' v (tl X)∧Lo w.heap.size v∧Keep w w'
set_option maxHeartbeats 4000000 in
theorem zhk (a:Option Addr) (n cap:Nat) (X:Except (Int×Nat) (List Tok)) (A:Nat→Nat) (R:Nat→Except Int Tok) (F:Nat→Except (Int×Nat) (List Tok)) (w:World) (hn:n≤65536)
  (T1:Hid (∀ k,k≤n→∀ w',Keep w w'→Calls Tryz.prog 101 #[.slice a n cap,.int .i64 (k:Int)] w' fun e w''=>e= .returned (.int .i64 (A k:Nat))∧Keep w' w''))
  (T2:Hid (∀ k,k≤n→∀ w',Keep w w'→Calls Tryz.prog 102 #[.slice a n cap,.int .i64 (A k:Nat)] w' fun e w''=>e= .returned (.tuple #[tv (rt (R k)),.int .i64 (re (R k))])∧Keep w' w''))
  (HA:Hid (∀ k,k≤n→k≤A k∧A k≤n))
  (HR:Hid (∀ k t,k≤n→R k= .ok t→(t.k=0∨(1≤t.s.length∧A k+t.s.length≤n))))
  (HE:Hid (∀ k e,k≤n→R k= .error e→e≠0∧F k= .error (e,A k)))
  (HF:Hid (∀ k t,k≤n→R k= .ok t→F k=if t.k=0 then .ok [t]else pre [t] (F (A k+t.s.length))))
  (H0:Hid (F 0=X)):
  Calls Tryz.prog 71 #[.slice a n cap] w (Tp X w):=by
 obtain⟨i0,hi,hz0,hz1,hz2⟩:=zaN zoy;have hn':¬(65536:Int)<(n:Int):=by omega
 go_enter Tryz.func71,Tryz.ntmps71;go_wp2_with fail
 go_loopw [5,6] (fun vl vi wr=>∃(k:Nat) (acc:List Tok),k≤n∧acc.length≤k∧vi= .int .i64 (k:Int)∧wr.ownsRow w.heap.size 115 4 vl acc.length (tc acc)∧Hid (pre acc (F k)=X)∧Hid (Keep w wr)) (fun vl vi _=>n - (intOf vi).toNat)
 case atStart=>exact⟨0,[],Nat.zero_le _,Nat.le_refl _,rfl,World.ownsRow_nil _ _ _ _,by unfold Hid;rw[zg3];exact uq H0,hide (Keep.refl w)⟩
 case round=>
  obtain⟨k,acc,hk,hak,rfl,hrow,HX,HK⟩:=hrel;have HROW:=hide hrow;clear hrow;go_wp2_with fail
  (refine((uq T1) k hk _ (uq HK)).mono ?_;rintro e w2 ⟨rfl,hk2⟩);have HK2:=hide ((uq HK).trans hk2);have HROW2:=hide (zds (uq HROW) hk2);obtain⟨ha1,ha2⟩:=(uq HA) k hk;clear hk2 HK HROW;go_wp2_with fail
  (refine((uq T2) k hk _ (uq HK2)).mono ?_;rintro e w3 ⟨rfl,hk3⟩);have HK3:=hide ((uq HK2).trans hk3);have HROW3:=hide (zds (uq HROW2) hk3);clear hk3 HK2 HROW2;have hsz:=Below.size (uq HK3);cases hr:R k with
  |error e=>
   obtain⟨he,hf⟩:=(uq HE) k e hk hr;have HR1:Hid (X= .error (e,A k)):=by have:=uq HX;rw[hf]at this;exact this.symm
   have hb0:(e !=0)=true:=by simp[he]
   simp only[rt,re,tv,t0];clear hf hr he;go_wp2_with fail
   go_ret3
   rw[uq HR1];exact⟨_,rfl,zdH _,zd3 _,(uq HK3).alloc _⟩
  |ok t=>
   have hf:=(uq HF) k t hk hr;have hb:=(uq HR) k t hk hr;obtain⟨kk,ss,nn,pp⟩:=t;simp only[rt,re,tv]at hf hb ⊢;have HX2:Hid (pre acc (if kk=0 then .ok [⟨kk,ss,nn,pp⟩]else pre [⟨kk,ss,nn,pp⟩] (F (A k+ss.length)))=X):=by rw[← hf];exact uq HX
   have hS:=zad ss;have HTC:Hid (tc (acc++ [⟨kk,ss,nn,pp⟩])=tc acc++ [.int .i64 kk,.string (sv ss),.int .i64 nn,.int .i64 pp]):=zcX _ _;generalize sv ss=S at *;clear hf hr HX;have hl9:acc.length≤70000:=by omega
   by_cases h0:kk=0
   ·have hb0:(kk==0)=true:=by simp[h0]
    have HR1:Hid (X= .ok (acc++ [⟨kk,ss,nn,pp⟩])):=by have:=uq HX2;rw[if_pos h0]at this;exact this.symm
    clear h0 HX2 hb hS;go_wp2_with (at_builtin;refine wpList_append_own _ rfl _ _ 116 rfl w.heap.size 115 i0 _ 4 40 Tryz.underlying116 hi hz0 hz1 hz2 rfl (by decide) _ _ _ rfl (((uq HROW3).alloc _).alloc _) ⟨w3.heap.size+1,0,none⟩ 1 1 [.int .i64 kk,.string S,.int .i64 nn,.int .i64 pp] rfl rfl (zdM w3 _ _ _ _ _ _) (by simp[Value.oneCell']) (by unfold maxLen;omega) (by omega) (by simp;omega) ?_;intro v' w4 hown' hgrow hnil;obtain⟨g',cp',rfl⟩:=zay hown';have HOWN:=hide hown';have HGROW:=hide hgrow;have c0:=zcF rfl hgrow (fun j ej=>((uq HROW3).lt j ej).2) 0 (.int .i64 kk) rfl;clear hown' hgrow hnil)
    go_ret3
    rw[uq HR1];refine⟨_,rfl,zj0 (base:=w.heap.size) (e:=115) ?_,zj7 (uq HOWN),Below.grown (((uq HK3).alloc _).alloc _) (uq HGROW) (by simp;omega) (fun j ej=>((uq HROW3).lt j ej).1)⟩;show w4.ownsRow _ _ _ _ (acc++ [_]).length (tc (acc++ [_]));rw[uq HTC,List.length_append];exact uq HOWN
   ·have hb0:(kk==0)=false:=by simp[h0]
    have HR1:Hid (pre (acc++ [⟨kk,ss,nn,pp⟩]) (F (A k+ss.length))=X):=by have:=uq HX2;rw[if_neg h0,ze8]at this;exact this
    have hb':=hb.resolve_left h0;clear h0 HX2 hb;have hsz2:S.size≤70000:=by omega
    go_wp2_with (at_builtin;refine wpList_append_own _ rfl _ _ 116 rfl w.heap.size 115 i0 _ 4 40 Tryz.underlying116 hi hz0 hz1 hz2 rfl (by decide) _ _ _ rfl (((uq HROW3).alloc _).alloc _) ⟨w3.heap.size+1,0,none⟩ 1 1 [.int .i64 kk,.string S,.int .i64 nn,.int .i64 pp] rfl rfl (zdM w3 _ _ _ _ _ _) (by simp[Value.oneCell']) (by unfold maxLen;omega) (by omega) (by simp;omega) ?_;intro v' w4 hown' hgrow hnil;obtain⟨g',cp',rfl⟩:=zay hown';have HOWN:=hide hown';have HGROW:=hide hgrow;have c0:=zcF rfl hgrow (fun j ej=>((uq HROW3).lt j ej).2) 0 (.int .i64 kk) rfl;have c1:=zcF rfl hgrow (fun j ej=>((uq HROW3).lt j ej).2) 1 (.string S) rfl;clear hown' hgrow hnil)
    go_roundw
    case rel=>
     refine⟨A k+ss.length,acc++ [⟨kk,ss,nn,pp⟩],hb'.2,by rw[List.length_append];simp;omega,by simp,?_,HR1,hide (Below.grown (((uq HK3).alloc _).alloc _) (uq HGROW) (by simp;omega) (fun j ej=>((uq HROW3).lt j ej).1))⟩;rw[uq HTC,List.length_append];exact uq HOWN
    case measure=>simp[intOf];omega
theorem zfL (v:Value) (l:List UInt8) (w:World) (hl:l.length≤70000) (h:By w v l):Calls Tryz.prog 71 #[v] w (Tp (T l) w):=by
 obtain⟨a,cap,rfl⟩:=h.shape;unfold T
 by_cases hlong:65536<l.length
 ·rw[if_pos hlong];refine(zeJ a l.length cap w hlong).mono ?_;rintro e w' ⟨rfl,rfl⟩;exact⟨_,rfl,zdH _,zd3 _,Keep.refl _⟩
 ·rw[if_neg hlong];refine zhk a l.length cap (tk l 0) (sk false l) (fun k=>one (l.drop (sk false l k)) (sk false l k)) (fun k=>tk (l.drop k) k) w (by omega) (hide fun k hk w' hK=>ziT _ l k w' hl hk (h.keep hK)) (hide fun k hk w' hK=>ziZ _ l _ w' hl (ziQ _ _ _ hk) (h.keep hK))
   (hide fun k hk=>⟨znr _ _ _,ziQ _ _ _ hk⟩) (hide fun k t hk ht=>?_) (hide fun k e hk he=>?_) (hide fun k t hk ht=>?_) (hide (by rw[List.drop_zero]))
  ·rcases(zcm ht).2 with ⟨_,h2⟩|⟨_,_,_,h1,h2,_⟩
   ·left;rw[h2]
   ·right;have:=zdF (l.drop (sk false l k));have:=ziQ false l k hk;simp only[List.length_drop]at *;omega
  ·refine⟨?_,?_⟩
   ·intro e0
    subst e0;cases hr:l.drop (sk false l k)with
    |nil=>rw[hr]at he;simp[one]at he
    |cons c r=>rw[hr]at he;simp only[one]at he;(repeat' split at he)<;>simp at he
   ·rw[zdW];have e1:(l.drop k).drop (skp false (l.drop k))=l.drop (sk false l k):=by rw[List.drop_drop];rfl
    rw[e1];show(match one (l.drop (sk false l k)) (sk false l k)with| .error e=>Except.error (e,sk false l k)| .ok t=>_)=_;rw[he]
  ·show tk (l.drop k) k=_;rw[zdW];have e1:(l.drop k).drop (skp false (l.drop k))=l.drop (sk false l k):=by rw[List.drop_drop];rfl
   rw[e1];show(match one (l.drop (sk false l k)) (sk false l k)with| .error e=>Except.error (e,sk false l k)| .ok t=>if t.k=0 then .ok [t]else pre [t] (tk ((l.drop (sk false l k)).drop t.s.length) (sk false l k+t.s.length)))=_;rw[ht];simp only[List.drop_drop]
end Go.Proofs.YtfepanidippjlaaGreatDoor
namespace Go.Proofs.YtfepanidippjlaaGreatDoor
open Go.RowKit
set_option linter.unusedVariables false
set_option linter.unusedSimpArgs false
mutual
def Rd (w:World):D→(Nat→Prop)→Value→Prop
 | .val v,P,u=>u=v∧v.oneCell'=true
 | .row e z L,P,u=>∃ xs:List Value,w.ownsRow 0 e z u L.length xs∧(∀ g,u.ownBlock=some g→P g)∧Rdss w L (fun b=>P b∧u.ownBlock≠some b) z xs
def Rds (w:World):List D→(Nat→Prop)→List Value→Prop
 | [],P,xs=>xs= []
 |d :: ds,P,xs=>∃ u us,xs=u :: us∧Rd w d P u∧Rds w ds P us
def Rdss (w:World):List (List D)→(Nat→Prop)→Nat→List Value→Prop
 | [],P,z,xs=>xs= []
 |ds :: L,P,z,xs=>∃ ys zs,xs=ys++zs∧ys.length=z∧Rds w ds P ys∧Rdss w L P z zs
end
theorem zj8 {w w':World} {base e z n:Nat} {v:Value} {xs:List Value} (h:w.ownsRow base e z v n xs) (hk:∀ g,v.ownBlock=some g→w'.heap[g]? =w.heap[g]?):w'.ownsRow base e z v n xs:=by
 refine⟨h.1,?_⟩;rcases h.2 with hn|⟨g,cap,cur,rfl,hb,hgg,rest⟩
 ·exact .inl hn
 ·exact .inr ⟨g,cap,cur,rfl,hb,by rw[hk g rfl];exact hgg,rest⟩
mutual
theorem Rd.move {w w':World} :∀(d:D) (P P':Nat→Prop) (u:Value),Rd w d P u→(∀ b,P b→b<w.heap.size→w'.heap[b]? =w.heap[b]? ∧P' b)→Rd w' d P' u
 | .val v,P,P',u,h,hk=>h
 | .row e z L,P,P',u,h,hk=>by
  simp only[Rd]at h ⊢;obtain⟨xs,h1,h2,h3⟩:=h;have hlt:∀ g,u.ownBlock=some g→g<w.heap.size:=fun g hg=>(h1.lt g hg).2
  exact⟨xs,zj8 h1 (fun g hg=>(hk g (h2 g hg) (hlt g hg)).1),fun g hg=>(hk g (h2 g hg) (hlt g hg)).2,Rdss.move L _ _ z xs h3 (fun b hb hl=>⟨(hk b hb.1 hl).1,(hk b hb.1 hl).2,hb.2⟩)⟩
theorem Rds.move {w w':World} :∀(ds:List D) (P P':Nat→Prop) (us:List Value),Rds w ds P us→(∀ b,P b→b<w.heap.size→w'.heap[b]? =w.heap[b]? ∧P' b)→Rds w' ds P' us
 | [],P,P',us,h,hk=>h
 |d :: ds,P,P',us,h,hk=>by
  simp only[Rds]at h ⊢;obtain⟨v,vs,h0,h1,h2⟩:=h;exact⟨v,vs,h0,Rd.move d P P' v h1 hk,Rds.move ds P P' vs h2 hk⟩
theorem Rdss.move {w w':World} :∀(L:List (List D)) (P P':Nat→Prop) (z:Nat) (us:List Value),Rdss w L P z us→(∀ b,P b→b<w.heap.size→w'.heap[b]? =w.heap[b]? ∧P' b)→Rdss w' L P' z us
 | [],P,P',z,us,h,hk=>h
 |ds :: L,P,P',z,us,h,hk=>by
  simp only[Rdss]at h ⊢;obtain⟨ys,zs,h0,h1,h2,h3⟩:=h;exact⟨ys,zs,h0,h1,Rds.move ds P P' ys h2 hk,Rdss.move L P P' z zs h3 hk⟩
end
theorem zd4 {w:World} :∀(ds:List D) (P:Nat→Prop) (us:List Value),Rds w ds P us→us.length=ds.length
 | [],P,us,h=>by simp only[Rds]at h;subst h;rfl
 |d :: ds,P,us,h=>by
  simp only[Rds]at h;obtain⟨v,vs,rfl,_,h2⟩:=h;simp[zd4 ds P vs h2]
theorem zeK {w:World} :∀(L:List (List D)) (ds:List D) (P:Nat→Prop) (z:Nat) (us ys:List Value),Rdss w L P z us→Rds w ds P ys→ys.length=z→Rdss w (L++ [ds]) P z (us++ys)
 | [],ds,P,z,us,ys,h,k,hz=>by
  simp only[Rdss]at h;subst h;simp only[List.nil_append,Rdss];exact⟨ys,[],by simp,hz,k,rfl⟩
 |es :: L,ds,P,z,us,ys,h,k,hz=>by
  simp only[Rdss,List.cons_append]at h ⊢;obtain⟨y1,y2,rfl,h1,h2,h3⟩:=h;exact⟨y1,y2++ys,by simp,h1,h2,zeK L ds P z y2 ys h3 k hz⟩
theorem zj9 (w:World) (e z:Nat) (P:Nat→Prop):Rd w (.row e z []) P (.slice none 0 0):=by
 simp only[Rd];exact⟨[],World.ownsRow_nil _ _ _ _,fun g hg=>by simp[Value.ownBlock]at hg,by simp[Rdss]⟩
def shp (w:World) (b:Nat):Option (Nat×TypeId×(Nat×Nat)):=match w.heap[b]? with
 |some (.cells arr t f)=>some (arr.size,t,f)
 | _=>none
theorem zhl {w w':World} {b:Nat} (h:w'.heap[b]? =w.heap[b]?):shp w' b=shp w b:=by unfold shp;rw[h]
theorem zma (w:World) (a:Addr) (v:Value) (b:Nat):shp (w.setCell a v) b=shp w b:=by
 unfold shp
 by_cases h:b=a.block
 ·subst h;simp only[World.setCell,Array.getElem?_modify,if_true];cases hh:w.heap[a.block]? with
  |none=>simp
  |some o=>
   cases o with
   |cells c e f=>simp only[Option.map_some];by_cases hs:a.spot.isSome=true<;>simp[hs]
   | _=>simp
 ·rw[Below.heap_setCell _ _ _ _ h]
def znh (w:World) (b:Nat):Prop:=∀ i v,w.cell? ⟨b,i,none⟩=some v→v.oneCell'=true
theorem zfb {w w':World} {b:Nat} (h:w'.heap[b]? =w.heap[b]?) (h1:znh w b):znh w' b:=fun i v hv=>h1 i v (by rw[← hv];exact(World.cell?_of_block (a:=⟨b,i,none⟩) h).symm)
theorem zi2 {w:World} {a:Addr} {v:Value} (hv:v.oneCell'=true) {b:Nat} (h:znh w b):znh (w.setCell a v) b:=by
 intro i u hu
 by_cases e:a=⟨b,i,none⟩
 ·subst e;cases hc:w.cell? ⟨b,i,none⟩with
  |none=>
   exfalso;rw[World.cell?]at hc;simp only[World.setCell,World.cell?,Array.getElem?_modify,if_true]at hu;cases hh:w.heap[b]? with
   |none=>simp[hh]at hu
   |some o=>cases o<;>simp[hh]at hc hu<;>simp_all
  |some x=>
   have:(w.setCell ⟨b,i,none⟩ v).cell? ⟨b,i,none⟩=some v:=by apply World.cell?_setCell_same;exact hc
   rw[this]at hu;injection hu with hu;subst hu;exact hv
 ·have:(w.setCell a v).cell? ⟨b,i,none⟩=w.cell? ⟨b,i,none⟩:=by apply World.cell?_setCell_other;exact e
  rw[this]at hu;exact h i u hu
structure Fr (S:Nat→Prop) (w w':World):Prop where
 os:w'.os=w.os
 tape:w'.tape=w.tape
 output:w'.output=w.output
 size:w.heap.size≤w'.heap.size
 block:∀ b,b<w.heap.size→¬S b→w'.heap[b]? =w.heap[b]?
 shape:∀ b,b<w.heap.size→shp w' b=shp w b
 ones:∀ b,b<w.heap.size→znh w b→znh w' b
theorem Fr.refl (S:Nat→Prop) (w:World):Fr S w w:=⟨rfl,rfl,rfl,Nat.le_refl _,fun _ _ _=>rfl,fun _ _=>rfl,fun _ _ h=>h⟩
theorem Fr.trans {S:Nat→Prop} {a b c:World} (h:Fr S a b) (k:Fr S b c):Fr S a c:=
 ⟨k.os.trans h.os,k.tape.trans h.tape,k.output.trans h.output,Nat.le_trans h.size k.size,fun i hi hs=>(k.block i (Nat.lt_of_lt_of_le hi h.size) hs).trans (h.block i hi hs),fun i hi=>(k.shape i (Nat.lt_of_lt_of_le hi h.size)).trans (h.shape i hi),fun i hi h1=>k.ones i (Nat.lt_of_lt_of_le hi h.size) (h.ones i hi h1)⟩
theorem Fr.inner {S S':Nat→Prop} {a b c:World} (h:Fr S a b) (k:Fr S' b c) (hs:∀ i,i<a.heap.size→S' i→S i):Fr S a c:=
 ⟨k.os.trans h.os,k.tape.trans h.tape,k.output.trans h.output,Nat.le_trans h.size k.size,fun i hi hn=>(k.block i (Nat.lt_of_lt_of_le hi h.size) (fun x=>hn (hs i hi x))).trans (h.block i hi hn),fun i hi=>(k.shape i (Nat.lt_of_lt_of_le hi h.size)).trans (h.shape i hi),fun i hi h1=>k.ones i (Nat.lt_of_lt_of_le hi h.size) (h.ones i hi h1)⟩
theorem Fr.keep {S:Nat→Prop} {a b:World} (k:Keep a b):Fr S a b:=⟨k.os,k.tape,k.output,k.size,fun i hi _=>k.block i hi,fun i hi=>zhl (k.block i hi),fun i hi h1=>zfb (k.block i hi) h1⟩
theorem Fr.set {S:Nat→Prop} {a b:World} (k:Fr S a b) (ad:Addr) (v:Value) (h:S ad.block) (hv:v.oneCell'=true:=by rfl):Fr S a (b.setCell ad v):=by
 refine⟨k.os,k.tape,k.output,?_,fun i hi hn=>?_,fun i hi=>(zma _ _ _ _).trans (k.shape i hi),fun i hi h1=>zi2 hv (k.ones i hi h1)⟩
 ·have:=k.size;simpa [World.setCell]using this
 ·rw[← k.block i hi hn];exact Below.heap_setCell _ _ _ _ (fun e=>hn (e▸h))
theorem Fr.cell {S:Nat→Prop} {a b:World} (k:Fr S a b) {p:Addr} {v:Value} (h:a.cell? p=some v) (hn:¬S p.block):b.cell? p=some v:=
 (World.cell?_of_block (k.block p.block (World.block_lt_of_cell? a p h) hn)).trans h
theorem Fr.frozen {S:Nat→Prop} {a b:World} (k:Fr S a b) {p:Addr} (h:p.block<a.heap.size) (hn:¬S p.block):b.frozen? p=a.frozen? p:=
 World.frozen?_of_block (k.block p.block h hn)
theorem Rd.fr {S P:Nat→Prop} {a b:World} (k:Fr S a b) (hp:∀ i,P i→¬S i) {d:D} {u:Value} (h:Rd a d P u):Rd b d P u:=
 Rd.move d _ _ u h (fun i hi hl=>⟨k.block i hl (hp i hi),hi⟩)
theorem Rd.set {w:World} {d:D} {P:Nat→Prop} {u:Value} (h:Rd w d P u) (a:Addr) (v:Value) (ha:¬P a.block):Rd (w.setCell a v) d P u:=
 Rd.move d _ _ u h (fun i hi _=>⟨Below.heap_setCell _ _ _ _ (fun e=>ha (e▸hi)),hi⟩)
end Go.Proofs.YtfepanidippjlaaGreatDoor
