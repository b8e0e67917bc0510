/- The document's one token, as it is said. -/
import Derived.Test.YthbfohohelflnaaLOne
import Derived.Test.YthbfohohelflnaaNMath
namespace Go.Proofs.Ythbfohohelflnaa
open Go.RowKit
set_option linter.unusedVariables false
set_option linter.unusedSimpArgs false
set_option maxRecDepth 10000
theorem zdH {P Q:UInt8→Bool} (h:∀ x,P x=Q x) (l:List UInt8):tw P l=tw Q l:=by rw[show P=Q from funext h]
theorem zhX (v:Value) (l:List UInt8) (i:Nat) (w:World) (hl:l.length≤70000) (hlt:i<l.length) (h:By w v l):
  Calls Try.prog 61 #[v,.int .i64 (i:Int)] w fun e w'=>e= .returned (.tuple #[tv (rtk (one (l.drop i) i)),.int .i64 (re (one (l.drop i) i))])∧Keep w w':=by
 obtain⟨a,cap,e,hcap,hc⟩:=id h;subst e;obtain⟨ad,rfl,hb,ci⟩:=hc i hlt;have hd:=zbQ l i hlt;have h2:=zdW (l.drop i);have h1:1≤en (l.drop i):=by rw[hd];exact zf4 _ _
 rw[List.length_drop]at h2;have HC:Hid (∀ k,k<l.length→∀ W,Keep w W→W.cell? (ad.add k)=some (.int .u8 ((l.getD k 0).toNat:Int))):=fun k hk W hK=>by
  obtain⟨ad',e,_,ck⟩:=hc k hk;injection e with e
  subst e;rw[Below.cell hK (by rw[zaH];exact hb)];exact ck
 have CV:∀ N,i≤N→N≤l.length→∀ W,Keep w W→(convert 78 9 (.slice (some (ad.add i)) (N - i) (cap - i))).run Try.prog W= .ok (.string (sv ((l.drop i).take (N - i)))) W:=fun N h1 h2 W hk=>
  zdX (h.cy.keep hk) h1 h2 (t:=78) (u:=9) Try.underlying78 Try.underlying9 (cap - i)
 have HV:Hid (∀ W,Keep w W→(convert 78 9 (.slice (some (ad.add i)) (i+en (l.drop i) - i) (cap - i))).run Try.prog W= .ok (.string (sv ((l.drop i).take (en (l.drop i))))) W):=fun W hk=>by
  have:=CV (i+en (l.drop i)) (by omega) (by omega) W hk;rw[Nat.add_sub_cancel_left]at this ⊢;exact this
 have hlen:((l.drop i).take (en (l.drop i))).length=en (l.drop i):=by rw[List.length_take,List.length_drop];omega
 have e1:one (l.drop i) i=(if kd (l.getD i 0).toNat=4 then(if 24<en (l.drop i)then .error 4 else .ok ⟨1,(l.drop i).take (en (l.drop i)),0,i⟩)
  else if kd (l.getD i 0).toNat=5 then(if 18<en (l.drop i)then .error 4 else .ok ⟨2,(l.drop i).take (en (l.drop i)),num ((l.drop i).take (en (l.drop i))),i⟩)
  else if kd (l.getD i 0).toNat=7 then .ok ⟨3,(l.drop i).take (en (l.drop i)),0,i⟩
  else .error 40):=by
  conv=>lhs;rw[hd]
  simp only[one];rw[← hd]
 have h7e:kd (l.getD i 0).toNat=7→en (l.drop i)=1:=by
  rw[hd];intro h7
  have:tw (zcV (l.getD i 0)) (l.drop (i+1))=0:=zen fun x=>by unfold zcV;rw[h7];unfold on;simp
  show 1+tw (zcV (l.getD i 0)) (l.drop (i+1))=1;rw[this]
 have hS:=zcX ((l.getD i 0).toNat:Int);have hD:=zcd ((l.getD i 0).toNat:Int);have hG:=zft ((l.getD i 0).toNat:Int);rw[e1];by_cases k4:kd (l.getD i 0).toNat=4
 ·rw[if_pos k4];have hg:∀ x:UInt8,zcV (l.getD i 0) x=on 4 (kd x.toNat):=fun x=>by unfold zcV;rw[k4]
  have hE:en (l.drop i)=tw (fun x=>on 4 (kd x.toNat)) (l.drop i):=by
   rw[ziz _ _ hlt,zbP _ _ _ hlt,if_pos (by show on 4 (kd (l.getD i 0).toNat)=true;rw[k4];decide),zdH hg]
  have hP:∀ k,on 4 (kd (l.getD k 0).toNat)=true↔(decide (97≤((l.getD k 0).toNat:Int)∧((l.getD k 0).toNat:Int)≤122)=true∨decide (48≤((l.getD k 0).toNat:Int)∧((l.getD k 0).toNat:Int)≤57)=true∨((l.getD k 0).toNat:Int)=95):=fun k=>by
   rw[zcv,zkr,ziA,zlb,decide_eq_true_iff,decide_eq_true_iff];omega
  refine(zfx ad l.length cap i (i+en (l.drop i)) (fun k=>((l.getD k 0).toNat:Int)) (fun k=>decide (97≤((l.getD k 0).toNat:Int)∧((l.getD k 0).toNat:Int)≤122)) (fun k=>decide (48≤((l.getD k 0).toNat:Int)∧((l.getD k 0).toNat:Int)≤57)) (fun k=>tw (fun x=>on 4 (kd x.toNat)) (l.drop k)) _ w hl hlt (by omega) (by omega) hcap hb HC (hide fun k hk w=>zcX _ w) (hide fun k hk w=>zcd _ w)
   (hide (by rw[decide_eq_true_iff];exact(zkr _).1 k4)) (hide fun k hk hp=>?_) (hide fun k hp=>?_) (hide (by rw[hE])) HV).mono ?_
  ·show tw (fun x=>on 4 (kd x.toNat)) (l.drop k)=1+tw (fun x=>on 4 (kd x.toNat)) (l.drop (k+1));rw[zbP _ _ _ hk,if_pos ((hP k).2 hp)]
  ·by_cases hk:k<l.length
   ·show tw (fun x=>on 4 (kd x.toNat)) (l.drop k)=0;rw[zbP _ _ _ hk,if_neg (fun h=>hp hk ((hP k).1 h))]
   ·exact zf2 _ _ _ (by omega)
  ·rintro e w' ⟨⟨hA,hB⟩,hk⟩;refine⟨?_,hk⟩;by_cases hm:24<en (l.drop i)
   ·rw[if_pos hm];exact hB (by omega)
   ·rw[if_neg hm];exact hA (by omega)
 ·rw[if_neg k4];have n4:decide (97≤((l.getD i 0).toNat:Int)∧((l.getD i 0).toNat:Int)≤122)=false:=by rw[decide_eq_false_iff_not,← zkr];exact k4
  rw[n4]at hS;by_cases k5:kd (l.getD i 0).toNat=5
  ·rw[if_pos k5];have hg:∀ x:UInt8,zcV (l.getD i 0) x=on 5 (kd x.toNat):=fun x=>by unfold zcV;rw[k5]
   have hE:en (l.drop i)=tw (fun x=>on 5 (kd x.toNat)) (l.drop i):=by
    rw[ziz _ _ hlt,zbP _ _ _ hlt,if_pos (by show on 5 (kd (l.getD i 0).toNat)=true;rw[k5];decide),zdH hg]
   have hP:∀ k,on 5 (kd (l.getD k 0).toNat)=true↔(decide (48≤((l.getD k 0).toNat:Int)∧((l.getD k 0).toNat:Int)≤57)=true):=fun k=>by
    rw[zcv,ziA,decide_eq_true_iff];omega
   have hdig:∀ x,x∈(l.drop i).take (en (l.drop i))→kd x.toNat=5:=by rw[hd];exact zcZ k5
   have hget:∀ j,j<en (l.drop i)→((l.drop i).take (en (l.drop i))).getD j 0=l.getD (i+j) 0:=fun j hj=>by
    rw[List.getD_eq_getElem?_getD,List.getElem?_take_of_lt hj,List.getElem?_drop,← List.getD_eq_getElem?_getD]
   refine(zhW ad l.length cap i (i+en (l.drop i)) (fun k=>((l.getD k 0).toNat:Int)) (fun k=>((l.getD k 0).toNat:Int) - 48) (fun k=>decide (48≤((l.getD k 0).toNat:Int)∧((l.getD k 0).toNat:Int)≤57)) (fun k=>tw (fun x=>on 5 (kd x.toNat)) (l.drop k)) (fun j=>num (((l.drop i).take (en (l.drop i))).take j)) _ w hl hlt (by omega) (by omega) hcap hb HC (hide hS) (hide fun k hk w=>zcd _ w)
    (hide (by rw[decide_eq_true_iff];exact(ziA _).1 k5)) (hide fun k hk hp=>?_) (hide fun k hk hp=>?_) (hide fun k hp=>?_) (hide (by rw[hE])) (hide (by simp[num])) (hide fun j hj hje=>?_) HV).mono ?_
   ·rw[decide_eq_true_iff]at hp;show((l.getD k 0).toNat:Int)=((l.getD k 0).toNat:Int) - 48+48∧0≤((l.getD k 0).toNat:Int) - 48∧((l.getD k 0).toNat:Int) - 48≤9;omega
   ·show tw (fun x=>on 5 (kd x.toNat)) (l.drop k)=1+tw (fun x=>on 5 (kd x.toNat)) (l.drop (k+1));rw[zbP _ _ _ hk,if_pos ((hP k).2 hp)]
   ·by_cases hk:k<l.length
    ·show tw (fun x=>on 5 (kd x.toNat)) (l.drop k)=0;rw[zbP _ _ _ hk,if_neg (fun h=>by have h1:=(hP k).1 h;have h2:=hp hk;rw[h1]at h2;cases h2)]
    ·exact zf2 _ _ _ (by omega)
   ·have hj2:j<en (l.drop i):=by omega
    have hb:=zex _ hdig j (by omega);have hp:(10:Int) ^ j≤10 ^ 17:=by exact_mod_cast Nat.pow_le_pow_right (n:=10) (by decide) (show j≤17 by omega)
    refine⟨?_,hb.1,by omega⟩;show num (((l.drop i).take (en (l.drop i))).take (j+1))=10 * num (((l.drop i).take (en (l.drop i))).take j)+(((l.getD (i+j) 0).toNat:Int) - 48);rw[zdG _ j (by omega),zdF,hget j hj2];omega
   ·rintro e w' ⟨⟨hA,hB⟩,hk⟩;refine⟨?_,hk⟩;by_cases hm:18<en (l.drop i)
    ·rw[if_pos hm];exact hB (by omega)
    ·rw[if_neg hm];have:=hA (by omega);have ht:((l.drop i).take (en (l.drop i))).take (i+en (l.drop i) - i)=(l.drop i).take (en (l.drop i)):=by rw[Nat.add_sub_cancel_left,List.take_take,Nat.min_self]
     simp only[ht]at this;exact this
  ·rw[if_neg k5];have n5:decide (48≤((l.getD i 0).toNat:Int)∧((l.getD i 0).toNat:Int)≤57)=false:=by rw[decide_eq_false_iff_not,← ziA];exact k5
   rw[n5]at hD;by_cases k7:kd (l.getD i 0).toNat=7
   ·rw[if_pos k7];have y7:=(zk9 _).1 k7;rw[decide_eq_true y7]at hG;have h71:=h7e k7;rw[h71]at HV ⊢;exact zfy ad l.length cap i _ _ w hl hlt hcap hb (hide fun W hk=>(uq HC) i hlt W hk) (hide hS) (hide hD) (hide hG) HV
   ·rw[if_neg k7];have n7:¬_:=fun h=>k7 ((zk9 _).2 h)
    rw[decide_eq_false n7]at hG;exact zfz ad l.length cap i _ _ w hl hlt hcap hb (hide fun W hk=>(uq HC) i hlt W hk) (hide hS) (hide hD) (hide hG) (hide fun W hk=>CV (i+1) (by omega) (by omega) W hk)
end Go.Proofs.Ythbfohohelflnaa
namespace Go.Proofs.Ythbfohohelflnaa
open Go.RowKit
attribute [local go_sem ↓] Go.wp_at_zero Go.wp_at_succ
set_option linter.unusedVariables false
set_option linter.unusedSimpArgs false
set_option maxRecDepth 10000
theorem zax {t:TypeId} {z:Value} {a b:Nat} (h:(Try.prog.info? t).map (fun i=>(i.zero,i.size,i.bytes))=some (some z,a,b)):∃ i,Try.prog.info? t=some i∧i.zero=some z∧i.size=a∧i.bytes=b:=by
 cases hi:Try.prog.info? t with
 |none=>rw[hi]at h;cases h
 |some i=>rw[hi]at h;simp at h;exact⟨i,rfl,h.1,h.2.1,h.2.2⟩
theorem zkR:(Try.prog.info? 102).map (fun i=>(i.zero,i.size,i.bytes))=some (some (.agg #[.int .i64 0,.string ⟨#[]⟩,.int .i64 0,.int .i64 0]),4,40):=by kernel_rfl
set_option maxHeartbeats 2000000 in
theorem zdY (a:Option Addr) (n cap:Nat) (w:World) (hn:65536<n):
  Calls Try.prog 49 #[.slice a n cap] w fun e w'=>e= .returned (.tuple #[.slice none 0 0,.int .i64 4,.int .i64 65536])∧w'=w:=by
 have h:(65536:Int)<(n:Int):=by omega
 go_enter Try.func49,Try.ntmps49;go_wp2_with fail
 go_ret3
 exact⟨rfl,rfl⟩
theorem Keep.grown {w w':World} (h:Keep w w'):w.grownBy w' none:=⟨h.1,h.2,h.3,h.4,fun i hi _=>h.5 i hi⟩
theorem zfA {w w':World} {base:Nat} {e:TypeId} {z n:Nat} {v:Value} {xs:List Value} (h:w.ownsRow base e z v n xs) (hk:Keep w w'):w'.ownsRow base e z v n xs:=
 h.kept hk.grown (by cases v.ownBlock<;>simp)
theorem zak {W:World} {base:Nat} {e:TypeId} {size:Nat} {v:Value} {k:Nat} {xs:List Value} (h:W.ownsRow base e size v (k+1) xs):∃ g cap,v= .slice (some ⟨g,0,none⟩) (k+1) cap:=by
 rcases h.2 with ⟨_,h0⟩|⟨g,cap,_,rfl,_⟩
 ·omega
 ·exact⟨g,cap,rfl⟩
theorem zdI (w:World) (a b c d:Value) (t:TypeId):∀ j u,[a,b,c,d][j]? =some u→(w.alloc (.cells #[a,b,c,d] t)).cell? ((⟨w.heap.size,0,none⟩:Addr).add j)=some u:=by
 intro j u hj
 rw[zaO,Nat.zero_add]
 match j,hj with
 |0,hj=>simp at hj;subst hj;simp[go_sem]
 |1,hj=>simp at hj;subst hj;simp[go_sem]
 |2,hj=>simp at hj;subst hj;simp[go_sem]
 |3,hj=>simp at hj;subst hj;simp[go_sem]
 |j+4,hj=>simp at hj
theorem zey (w:World) (o:Obj) (a b c d:Value) (t:TypeId):∀ j u,[a,b,c,d][j]? =some u→((w.alloc o).alloc (.cells #[a,b,c,d] t)).cell? ((⟨w.heap.size+1,0,none⟩:Addr).add j)=some u:=by
 have h:=zdI (w.alloc o) a b c d t;rw[World.size_alloc]at h;exact h
theorem zdZ {w w':World} {o o2:Obj} {cur:Array Value} {t:TypeId} {row:Option Nat} (ho:o= .cells cur t) (hg:((w.alloc o).alloc o2).grownBy w' row) (hr:∀ j,row=some j→j<w.heap.size) (i:Nat) (x:Value) (hi:cur[i]? =some x):
  w'.cell? ⟨w.heap.size,i,none⟩=some x:=by
 subst ho;refine hg.cell ?_ ?_
 ·have h1:((w.alloc (.cells cur t)).alloc o2).cell? ⟨w.heap.size,i,none⟩=(w.alloc (.cells cur t)).cell? ⟨w.heap.size,i,none⟩:=
   Below.cell (p:=⟨w.heap.size,i,none⟩) ((Below.refl (w.alloc (.cells cur t)).heap.size _).alloc (Nat.le_refl _) o2) (by show w.heap.size<_;rw[World.size_alloc];omega)
  rw[h1,World.cell?_alloc_mark];exact hi
 ·intro e
  have:=hr w.heap.size e.symm;omega
def Lo (n:Nat) (v:Value):Prop:=∀ ad m cap,v= .slice (some ad) m cap→n≤ad.block
theorem zf9 (n:Nat):Lo n (.slice none 0 0):=fun _ _ _ e=>by cases e
theorem zjK {w:World} {base:Nat} {e:TypeId} {z n:Nat} {v:Value} {xs:List Value} (h:w.ownsRow base e z v n xs):Lo base v:=fun ad m cap ev=>by
 subst ev;exact(h.lt _ rfl).1
def Tp (X:Except (Int×Nat) (List Tok)) (w:World) (e:Ending) (w':World):Prop:=∃ v,e= .returned (.tuple #[v,.int .i64 (te X),.int .i64 (tn X:Nat)])∧Ts w' v (tl X)∧Lo w.heap.size v∧Keep w w'
end Go.Proofs.Ythbfohohelflnaa
namespace Go.Proofs.Ythbfohohelflnaa
open Go.RowKit
set_option linter.unusedVariables false
set_option linter.unusedSimpArgs false
mutual
def Rd (w:World):D→(Nat→Prop)→Value→Prop
 | .val v,P,u=>u=v∧v.oneCell'=true
 | .row e z L,P,u=>∃ xs:List Value,w.ownsRow 0 e z u L.length xs∧(∀ g,u.ownBlock=some g→P g)∧Rdss w L (fun b=>P b∧u.ownBlock≠some b) z xs
def Rds (w:World):List D→(Nat→Prop)→List Value→Prop
 | [],P,xs=>xs= []
 |d :: ds,P,xs=>∃ u us,xs=u :: us∧Rd w d P u∧Rds w ds P us
def Rdss (w:World):List (List D)→(Nat→Prop)→Nat→List Value→Prop
 | [],P,z,xs=>xs= []
 |ds :: L,P,z,xs=>∃ ys zs,xs=ys++zs∧ys.length=z∧Rds w ds P ys∧Rdss w L P z zs
end
theorem zjL {w w':World} {base e z n:Nat} {v:Value} {xs:List Value} (h:w.ownsRow base e z v n xs) (hk:∀ g,v.ownBlock=some g→w'.heap[g]? =w.heap[g]?):w'.ownsRow base e z v n xs:=by
 refine⟨h.1,?_⟩;rcases h.2 with hn|⟨g,cap,cur,rfl,hb,hgg,rest⟩
 ·exact .inl hn
 ·exact .inr ⟨g,cap,cur,rfl,hb,by rw[hk g rfl];exact hgg,rest⟩
mutual
theorem Rd.move {w w':World} :∀(d:D) (P P':Nat→Prop) (u:Value),Rd w d P u→(∀ b,P b→b<w.heap.size→w'.heap[b]? =w.heap[b]? ∧P' b)→Rd w' d P' u
 | .val v,P,P',u,h,hk=>h
 | .row e z L,P,P',u,h,hk=>by
  simp only[Rd]at h ⊢;obtain⟨xs,h1,h2,h3⟩:=h;have hlt:∀ g,u.ownBlock=some g→g<w.heap.size:=fun g hg=>(h1.lt g hg).2
  exact⟨xs,zjL h1 (fun g hg=>(hk g (h2 g hg) (hlt g hg)).1),fun g hg=>(hk g (h2 g hg) (hlt g hg)).2,Rdss.move L _ _ z xs h3 (fun b hb hl=>⟨(hk b hb.1 hl).1,(hk b hb.1 hl).2,hb.2⟩)⟩
theorem Rds.move {w w':World} :∀(ds:List D) (P P':Nat→Prop) (us:List Value),Rds w ds P us→(∀ b,P b→b<w.heap.size→w'.heap[b]? =w.heap[b]? ∧P' b)→Rds w' ds P' us
 | [],P,P',us,h,hk=>h
 |d :: ds,P,P',us,h,hk=>by
  simp only[Rds]at h ⊢;obtain⟨v,vs,h0,h1,h2⟩:=h;exact⟨v,vs,h0,Rd.move d P P' v h1 hk,Rds.move ds P P' vs h2 hk⟩
theorem Rdss.move {w w':World} :∀(L:List (List D)) (P P':Nat→Prop) (z:Nat) (us:List Value),Rdss w L P z us→(∀ b,P b→b<w.heap.size→w'.heap[b]? =w.heap[b]? ∧P' b)→Rdss w' L P' z us
 | [],P,P',z,us,h,hk=>h
 |ds :: L,P,P',z,us,h,hk=>by
  simp only[Rdss]at h ⊢;obtain⟨ys,zs,h0,h1,h2,h3⟩:=h;exact⟨ys,zs,h0,h1,Rds.move ds P P' ys h2 hk,Rdss.move L P P' z zs h3 hk⟩
end
theorem zcx {w:World} :∀(ds:List D) (P:Nat→Prop) (us:List Value),Rds w ds P us→us.length=ds.length
 | [],P,us,h=>by simp only[Rds]at h;subst h;rfl
 |d :: ds,P,us,h=>by
  simp only[Rds]at h;obtain⟨v,vs,rfl,_,h2⟩:=h;simp[zcx ds P vs h2]
theorem zc0 {w:World} :∀(L:List (List D)) (ds:List D) (P:Nat→Prop) (z:Nat) (us ys:List Value),Rdss w L P z us→Rds w ds P ys→ys.length=z→Rdss w (L++ [ds]) P z (us++ys)
 | [],ds,P,z,us,ys,h,k,hz=>by
  simp only[Rdss]at h;subst h;simp only[List.nil_append,Rdss];exact⟨ys,[],by simp,hz,k,rfl⟩
 |es :: L,ds,P,z,us,ys,h,k,hz=>by
  simp only[Rdss,List.cons_append]at h ⊢;obtain⟨y1,y2,rfl,h1,h2,h3⟩:=h;exact⟨y1,y2++ys,by simp,h1,h2,zc0 L ds P z y2 ys h3 k hz⟩
theorem zjM {w:World} (d:D) (P:Nat→Prop) (u:Value) (h:Rd w d P u):u.oneCell'=true:=by
 cases d with
 |val v=>simp only[Rd]at h;rw[h.1];exact h.2
 |row e z L=>
  simp only[Rd]at h;obtain⟨xs,h1,_⟩:=h;rcases h1.2 with ⟨rfl,_⟩|⟨g,cap,cur,rfl,_⟩<;>rfl
theorem zez {w:World} :∀(ds:List D) (P:Nat→Prop) (us:List Value),Rds w ds P us→∀ u∈us,u.oneCell'=true
 | [],P,us,h=>by simp only[Rds]at h;subst h;simp
 |d :: ds,P,us,h=>by
  simp only[Rds]at h;obtain⟨v,vs,rfl,h1,h2⟩:=h;intro u hu
  rcases List.mem_cons.1 hu with rfl|hu
  ·exact zjM d P _ h1
  ·exact zez ds P vs h2 u hu
theorem zga (w:World) (e z:Nat) (P:Nat→Prop):Rd w (.row e z []) P (.slice none 0 0):=by
 simp only[Rd];exact⟨[],World.ownsRow_nil _ _ _ _,fun g hg=>by simp[Value.ownBlock]at hg,by simp[Rdss]⟩
def shp (w:World) (b:Nat):Option (Nat×TypeId×(Nat×Nat)):=match w.heap[b]? with
 |some (.cells arr t f)=>some (arr.size,t,f)
 | _=>none
theorem zeA {w w':World} {b:Nat} (h:w'.heap[b]? =w.heap[b]?):shp w' b=shp w b:=by unfold shp;rw[h]
theorem zhY (w:World) (a:Addr) (v:Value) (b:Nat):shp (w.setCell a v) b=shp w b:=by
 unfold shp
 by_cases h:b=a.block
 ·subst h;simp only[World.setCell,Array.getElem?_modify,if_true];cases hh:w.heap[a.block]? with
  |none=>simp
  |some o=>
   cases o with
   |cells c e f=>simp only[Option.map_some];by_cases hs:a.spot.isSome=true<;>simp[hs]
   | _=>simp
 ·rw[Below.heap_setCell _ _ _ _ h]
def ziv (w:World) (b:Nat):Prop:=∀ i v,w.cell? ⟨b,i,none⟩=some v→v.oneCell'=true
theorem zde {w w':World} {b:Nat} (h:w'.heap[b]? =w.heap[b]?) (h1:ziv w b):ziv w' b:=fun i v hv=>h1 i v (by rw[← hv];exact(World.cell?_of_block (a:=⟨b,i,none⟩) h).symm)
theorem zfB {w:World} {a:Addr} {v:Value} (hv:v.oneCell'=true) {b:Nat} (h:ziv w b):ziv (w.setCell a v) b:=by
 intro i u hu
 by_cases e:a=⟨b,i,none⟩
 ·subst e;cases hc:w.cell? ⟨b,i,none⟩with
  |none=>
   exfalso;rw[World.cell?]at hc;simp only[World.setCell,World.cell?,Array.getElem?_modify,if_true]at hu;cases hh:w.heap[b]? with
   |none=>simp[hh]at hu
   |some o=>cases o<;>simp[hh]at hc hu<;>simp_all
  |some x=>
   have:(w.setCell ⟨b,i,none⟩ v).cell? ⟨b,i,none⟩=some v:=by apply World.cell?_setCell_same;exact hc
   rw[this]at hu;injection hu with hu;subst hu;exact hv
 ·have:(w.setCell a v).cell? ⟨b,i,none⟩=w.cell? ⟨b,i,none⟩:=by apply World.cell?_setCell_other;exact e
  rw[this]at hu;exact h i u hu
structure Fr (S:Nat→Prop) (w w':World):Prop where
 os:w'.os=w.os
 tape:w'.tape=w.tape
 output:w'.output=w.output
 size:w.heap.size≤w'.heap.size
 block:∀ b,b<w.heap.size→¬S b→w'.heap[b]? =w.heap[b]?
 shape:∀ b,b<w.heap.size→shp w' b=shp w b
 ones:∀ b,b<w.heap.size→ziv w b→ziv w' b
theorem Fr.refl (S:Nat→Prop) (w:World):Fr S w w:=⟨rfl,rfl,rfl,Nat.le_refl _,fun _ _ _=>rfl,fun _ _=>rfl,fun _ _ h=>h⟩
theorem Fr.trans {S:Nat→Prop} {a b c:World} (h:Fr S a b) (k:Fr S b c):Fr S a c:=
 ⟨k.os.trans h.os,k.tape.trans h.tape,k.output.trans h.output,Nat.le_trans h.size k.size,fun i hi hs=>(k.block i (Nat.lt_of_lt_of_le hi h.size) hs).trans (h.block i hi hs),fun i hi=>(k.shape i (Nat.lt_of_lt_of_le hi h.size)).trans (h.shape i hi),fun i hi h1=>k.ones i (Nat.lt_of_lt_of_le hi h.size) (h.ones i hi h1)⟩
theorem Fr.inner {S S':Nat→Prop} {a b c:World} (h:Fr S a b) (k:Fr S' b c) (hs:∀ i,i<a.heap.size→S' i→S i):Fr S a c:=
 ⟨k.os.trans h.os,k.tape.trans h.tape,k.output.trans h.output,Nat.le_trans h.size k.size,fun i hi hn=>(k.block i (Nat.lt_of_lt_of_le hi h.size) (fun x=>hn (hs i hi x))).trans (h.block i hi hn),fun i hi=>(k.shape i (Nat.lt_of_lt_of_le hi h.size)).trans (h.shape i hi),fun i hi h1=>k.ones i (Nat.lt_of_lt_of_le hi h.size) (h.ones i hi h1)⟩
theorem Fr.keep {S:Nat→Prop} {a b:World} (k:Keep a b):Fr S a b:=⟨k.os,k.tape,k.output,k.size,fun i hi _=>k.block i hi,fun i hi=>zeA (k.block i hi),fun i hi h1=>zde (k.block i hi) h1⟩
theorem Fr.set {S:Nat→Prop} {a b:World} (k:Fr S a b) (ad:Addr) (v:Value) (h:S ad.block) (hv:v.oneCell'=true:=by rfl):Fr S a (b.setCell ad v):=by
 refine⟨k.os,k.tape,k.output,?_,fun i hi hn=>?_,fun i hi=>(zhY _ _ _ _).trans (k.shape i hi),fun i hi h1=>zfB hv (k.ones i hi h1)⟩
 ·have:=k.size;simpa [World.setCell]using this
 ·rw[← k.block i hi hn];exact Below.heap_setCell _ _ _ _ (fun e=>hn (e▸h))
theorem Fr.cell {S:Nat→Prop} {a b:World} (k:Fr S a b) {p:Addr} {v:Value} (h:a.cell? p=some v) (hn:¬S p.block):b.cell? p=some v:=
 (World.cell?_of_block (k.block p.block (World.block_lt_of_cell? a p h) hn)).trans h
theorem Fr.frozen {S:Nat→Prop} {a b:World} (k:Fr S a b) {p:Addr} (h:p.block<a.heap.size) (hn:¬S p.block):b.frozen? p=a.frozen? p:=
 World.frozen?_of_block (k.block p.block h hn)
theorem Rd.fr {S P:Nat→Prop} {a b:World} (k:Fr S a b) (hp:∀ i,P i→¬S i) {d:D} {u:Value} (h:Rd a d P u):Rd b d P u:=
 Rd.move d _ _ u h (fun i hi hl=>⟨k.block i hl (hp i hi),hi⟩)
theorem Rd.set {w:World} {d:D} {P:Nat→Prop} {u:Value} (h:Rd w d P u) (a:Addr) (v:Value) (ha:¬P a.block):Rd (w.setCell a v) d P u:=
 Rd.move d _ _ u h (fun i hi _=>⟨Below.heap_setCell _ _ _ _ (fun e=>ha (e▸hi)),hi⟩)
end Go.Proofs.Ythbfohohelflnaa
