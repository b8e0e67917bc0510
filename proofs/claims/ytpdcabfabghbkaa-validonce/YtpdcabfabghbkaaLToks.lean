/- The document's one token, as it is said. -/
import Derived.Test.YtpdcabfabghbkaaLOne
namespace Go.Proofs.Ytpdcabfabghbkaa
open Go.RowKit
set_option linter.unusedVariables false
set_option linter.unusedSimpArgs false
set_option maxRecDepth 10000
theorem zdu {P Q:UInt8→Bool} (h:∀ x,P x=Q x) (l:List UInt8):tw P l=tw Q l:=by rw[show P=Q from funext h]
theorem zhL (v:Value) (l:List UInt8) (i:Nat) (w:World) (hl:l.length≤70000) (hlt:i<l.length) (h:By w v l):
  Calls Try.prog 72 #[v,.int .i64 (i:Int)] w fun e w'=>e= .returned (.tuple #[tv (rt (one (l.drop i) i)),.int .i64 (re (one (l.drop i) i))])∧Keep w w':=by
 obtain⟨a,cap,e,hcap,hc⟩:=id h;subst e;obtain⟨ad,rfl,hb,ci⟩:=hc i hlt;have hd:=zbK l i hlt;have h2:=zdM (l.drop i);have h1:1≤en (l.drop i):=by rw[hd];exact zfS _ _
 rw[List.length_drop]at h2;have HC:Hid (∀ k,k<l.length→∀ W,Keep w W→W.cell? (ad.add k)=some (.int .u8 ((l.getD k 0).toNat:Int))):=fun k hk W hK=>by
  obtain⟨ad',e,_,ck⟩:=hc k hk;injection e with e
  subst e;rw[Below.cell hK (by rw[zaG];exact hb)];exact ck
 have CV:∀ N,i≤N→N≤l.length→∀ W,Keep w W→(convert 86 9 (.slice (some (ad.add i)) (N - i) (cap - i))).run Try.prog W= .ok (.string (sv ((l.drop i).take (N - i)))) W:=fun N h1 h2 W hk=>
  zdN (h.cy.keep hk) h1 h2 (t:=86) (u:=9) Try.underlying86 Try.underlying9 (cap - i)
 have HV:Hid (∀ W,Keep w W→(convert 86 9 (.slice (some (ad.add i)) (i+en (l.drop i) - i) (cap - i))).run Try.prog W= .ok (.string (sv ((l.drop i).take (en (l.drop i))))) W):=fun W hk=>by
  have:=CV (i+en (l.drop i)) (by omega) (by omega) W hk;rw[Nat.add_sub_cancel_left]at this ⊢;exact this
 have hlen:((l.drop i).take (en (l.drop i))).length=en (l.drop i):=by rw[List.length_take,List.length_drop];omega
 have e1:one (l.drop i) i=(if kd (l.getD i 0).toNat=4 then(if 24<en (l.drop i)then .error 4 else .ok ⟨1,(l.drop i).take (en (l.drop i)),0,i⟩)
  else if kd (l.getD i 0).toNat=5 then(if 18<en (l.drop i)then .error 4 else .ok ⟨2,(l.drop i).take (en (l.drop i)),num ((l.drop i).take (en (l.drop i))),i⟩)
  else if kd (l.getD i 0).toNat=7 then .ok ⟨3,(l.drop i).take (en (l.drop i)),0,i⟩
  else .error 40):=by
  conv=>lhs;rw[hd]
  simp only[one];rw[← hd]
 have h7e:kd (l.getD i 0).toNat=7→en (l.drop i)=1:=by
  rw[hd];intro h7
  have:tw (zcs (l.getD i 0)) (l.drop (i+1))=0:=zeb fun x=>by unfold zcs;rw[h7];unfold on;simp
  show 1+tw (zcs (l.getD i 0)) (l.drop (i+1))=1;rw[this]
 have hS:=zcQ ((l.getD i 0).toNat:Int);have hD:=zb9 ((l.getD i 0).toNat:Int);have hG:=zfe ((l.getD i 0).toNat:Int);rw[e1];by_cases k4:kd (l.getD i 0).toNat=4
 ·rw[if_pos k4];have hg:∀ x:UInt8,zcs (l.getD i 0) x=on 4 (kd x.toNat):=fun x=>by unfold zcs;rw[k4]
  have hE:en (l.drop i)=tw (fun x=>on 4 (kd x.toNat)) (l.drop i):=by
   rw[zis _ _ hlt,zbJ _ _ _ hlt,if_pos (by show on 4 (kd (l.getD i 0).toNat)=true;rw[k4];decide),zdu hg]
  have hP:∀ k,on 4 (kd (l.getD k 0).toNat)=true↔(decide (97≤((l.getD k 0).toNat:Int)∧((l.getD k 0).toNat:Int)≤122)=true∨decide (48≤((l.getD k 0).toNat:Int)∧((l.getD k 0).toNat:Int)≤57)=true∨((l.getD k 0).toNat:Int)=95):=fun k=>by
   rw[zcr,zkh,zit,zk4,decide_eq_true_iff,decide_eq_true_iff];omega
  refine(zfi ad l.length cap i (i+en (l.drop i)) (fun k=>((l.getD k 0).toNat:Int)) (fun k=>decide (97≤((l.getD k 0).toNat:Int)∧((l.getD k 0).toNat:Int)≤122)) (fun k=>decide (48≤((l.getD k 0).toNat:Int)∧((l.getD k 0).toNat:Int)≤57)) (fun k=>tw (fun x=>on 4 (kd x.toNat)) (l.drop k)) _ w hl hlt (by omega) (by omega) hcap hb HC (hide fun k hk w=>zcQ _ w) (hide fun k hk w=>zb9 _ w)
   (hide (by rw[decide_eq_true_iff];exact(zkh _).1 k4)) (hide fun k hk hp=>?_) (hide fun k hp=>?_) (hide (by rw[hE])) HV).mono ?_
  ·show tw (fun x=>on 4 (kd x.toNat)) (l.drop k)=1+tw (fun x=>on 4 (kd x.toNat)) (l.drop (k+1));rw[zbJ _ _ _ hk,if_pos ((hP k).2 hp)]
  ·by_cases hk:k<l.length
   ·show tw (fun x=>on 4 (kd x.toNat)) (l.drop k)=0;rw[zbJ _ _ _ hk,if_neg (fun h=>hp hk ((hP k).1 h))]
   ·exact zfQ _ _ _ (by omega)
  ·rintro e w' ⟨⟨hA,hB⟩,hk⟩;refine⟨?_,hk⟩;by_cases hm:24<en (l.drop i)
   ·rw[if_pos hm];exact hB (by omega)
   ·rw[if_neg hm];exact hA (by omega)
 ·rw[if_neg k4];have n4:decide (97≤((l.getD i 0).toNat:Int)∧((l.getD i 0).toNat:Int)≤122)=false:=by rw[decide_eq_false_iff_not,← zkh];exact k4
  rw[n4]at hS;by_cases k5:kd (l.getD i 0).toNat=5
  ·rw[if_pos k5];have hg:∀ x:UInt8,zcs (l.getD i 0) x=on 5 (kd x.toNat):=fun x=>by unfold zcs;rw[k5]
   have hE:en (l.drop i)=tw (fun x=>on 5 (kd x.toNat)) (l.drop i):=by
    rw[zis _ _ hlt,zbJ _ _ _ hlt,if_pos (by show on 5 (kd (l.getD i 0).toNat)=true;rw[k5];decide),zdu hg]
   have hP:∀ k,on 5 (kd (l.getD k 0).toNat)=true↔(decide (48≤((l.getD k 0).toNat:Int)∧((l.getD k 0).toNat:Int)≤57)=true):=fun k=>by
    rw[zcr,zit,decide_eq_true_iff];omega
   have hdig:∀ x,x∈(l.drop i).take (en (l.drop i))→kd x.toNat=5:=by rw[hd];exact zcS k5
   have hget:∀ j,j<en (l.drop i)→((l.drop i).take (en (l.drop i))).getD j 0=l.getD (i+j) 0:=fun j hj=>by
    rw[List.getD_eq_getElem?_getD,List.getElem?_take_of_lt hj,List.getElem?_drop,← List.getD_eq_getElem?_getD]
   refine(zhK ad l.length cap i (i+en (l.drop i)) (fun k=>((l.getD k 0).toNat:Int)) (fun k=>((l.getD k 0).toNat:Int) - 48) (fun k=>decide (48≤((l.getD k 0).toNat:Int)∧((l.getD k 0).toNat:Int)≤57)) (fun k=>tw (fun x=>on 5 (kd x.toNat)) (l.drop k)) (fun j=>num (((l.drop i).take (en (l.drop i))).take j)) _ w hl hlt (by omega) (by omega) hcap hb HC (hide hS) (hide fun k hk w=>zb9 _ w)
    (hide (by rw[decide_eq_true_iff];exact(zit _).1 k5)) (hide fun k hk hp=>?_) (hide fun k hk hp=>?_) (hide fun k hp=>?_) (hide (by rw[hE])) (hide (by simp[num])) (hide fun j hj hje=>?_) HV).mono ?_
   ·rw[decide_eq_true_iff]at hp;show((l.getD k 0).toNat:Int)=((l.getD k 0).toNat:Int) - 48+48∧0≤((l.getD k 0).toNat:Int) - 48∧((l.getD k 0).toNat:Int) - 48≤9;omega
   ·show tw (fun x=>on 5 (kd x.toNat)) (l.drop k)=1+tw (fun x=>on 5 (kd x.toNat)) (l.drop (k+1));rw[zbJ _ _ _ hk,if_pos ((hP k).2 hp)]
   ·by_cases hk:k<l.length
    ·show tw (fun x=>on 5 (kd x.toNat)) (l.drop k)=0;rw[zbJ _ _ _ hk,if_neg (fun h=>by have h1:=(hP k).1 h;have h2:=hp hk;rw[h1]at h2;cases h2)]
    ·exact zfQ _ _ _ (by omega)
   ·have hj2:j<en (l.drop i):=by omega
    have hb:=zel _ hdig j (by omega);have hp:(10:Int) ^ j≤10 ^ 17:=by exact_mod_cast Nat.pow_le_pow_right (n:=10) (by decide) (show j≤17 by omega)
    refine⟨?_,hb.1,by omega⟩;show num (((l.drop i).take (en (l.drop i))).take (j+1))=10 * num (((l.drop i).take (en (l.drop i))).take j)+(((l.getD (i+j) 0).toNat:Int) - 48);rw[zdt _ j (by omega),zds,hget j hj2];omega
   ·rintro e w' ⟨⟨hA,hB⟩,hk⟩;refine⟨?_,hk⟩;by_cases hm:18<en (l.drop i)
    ·rw[if_pos hm];exact hB (by omega)
    ·rw[if_neg hm];have:=hA (by omega);have ht:((l.drop i).take (en (l.drop i))).take (i+en (l.drop i) - i)=(l.drop i).take (en (l.drop i)):=by rw[Nat.add_sub_cancel_left,List.take_take,Nat.min_self]
     simp only[ht]at this;exact this
  ·rw[if_neg k5];have n5:decide (48≤((l.getD i 0).toNat:Int)∧((l.getD i 0).toNat:Int)≤57)=false:=by rw[decide_eq_false_iff_not,← zit];exact k5
   rw[n5]at hD;by_cases k7:kd (l.getD i 0).toNat=7
   ·rw[if_pos k7];have y7:=(zk2 _).1 k7;rw[decide_eq_true y7]at hG;have h71:=h7e k7;rw[h71]at HV ⊢;exact zfj ad l.length cap i _ _ w hl hlt hcap hb (hide fun W hk=>(uq HC) i hlt W hk) (hide hS) (hide hD) (hide hG) HV
   ·rw[if_neg k7];have n7:¬_:=fun h=>k7 ((zk2 _).2 h)
    rw[decide_eq_false n7]at hG;exact zfk ad l.length cap i _ _ w hl hlt hcap hb (hide fun W hk=>(uq HC) i hlt W hk) (hide hS) (hide hD) (hide hG) (hide fun W hk=>CV (i+1) (by omega) (by omega) W hk)
end Go.Proofs.Ytpdcabfabghbkaa
namespace Go.Proofs.Ytpdcabfabghbkaa
open Go.RowKit
attribute [local go_sem ↓] Go.wp_at_zero Go.wp_at_succ
set_option linter.unusedVariables false
set_option linter.unusedSimpArgs false
set_option maxRecDepth 10000
theorem zax {t:TypeId} {z:Value} {a b:Nat} (h:(Try.prog.info? t).map (fun i=>(i.zero,i.size,i.bytes))=some (some z,a,b)):∃ i,Try.prog.info? t=some i∧i.zero=some z∧i.size=a∧i.bytes=b:=by
 cases hi:Try.prog.info? t with
 |none=>rw[hi]at h;cases h
 |some i=>rw[hi]at h;simp at h;exact⟨i,rfl,h.1,h.2.1,h.2.2⟩
theorem zkH:(Try.prog.info? 107).map (fun i=>(i.zero,i.size,i.bytes))=some (some (.agg #[.int .i64 0,.string ⟨#[]⟩,.int .i64 0,.int .i64 0]),4,40):=by kernel_rfl
set_option maxHeartbeats 2000000 in
theorem zdO (a:Option Addr) (n cap:Nat) (w:World) (hn:65536<n):
  Calls Try.prog 60 #[.slice a n cap] w fun e w'=>e= .returned (.tuple #[.slice none 0 0,.int .i64 4,.int .i64 65536])∧w'=w:=by
 have h:(65536:Int)<(n:Int):=by omega
 go_enter Try.func60,Try.ntmps60;go_wp2_with fail
 go_ret3
 exact⟨rfl,rfl⟩
theorem Keep.grown {w w':World} (h:Keep w w'):w.grownBy w' none:=⟨h.1,h.2,h.3,h.4,fun i hi _=>h.5 i hi⟩
theorem zfl {w w':World} {base:Nat} {e:TypeId} {z n:Nat} {v:Value} {xs:List Value} (h:w.ownsRow base e z v n xs) (hk:Keep w w'):w'.ownsRow base e z v n xs:=
 h.kept hk.grown (by cases v.ownBlock<;>simp)
theorem zaj {W:World} {base:Nat} {e:TypeId} {size:Nat} {v:Value} {k:Nat} {xs:List Value} (h:W.ownsRow base e size v (k+1) xs):∃ g cap,v= .slice (some ⟨g,0,none⟩) (k+1) cap:=by
 rcases h.2 with ⟨_,h0⟩|⟨g,cap,_,rfl,_⟩
 ·omega
 ·exact⟨g,cap,rfl⟩
theorem zdv (w:World) (a b c d:Value) (t:TypeId):∀ j u,[a,b,c,d][j]? =some u→(w.alloc (.cells #[a,b,c,d] t)).cell? ((⟨w.heap.size,0,none⟩:Addr).add j)=some u:=by
 intro j u hj
 rw[zaR,Nat.zero_add]
 match j,hj with
 |0,hj=>simp at hj;subst hj;simp[go_sem]
 |1,hj=>simp at hj;subst hj;simp[go_sem]
 |2,hj=>simp at hj;subst hj;simp[go_sem]
 |3,hj=>simp at hj;subst hj;simp[go_sem]
 |j+4,hj=>simp at hj
theorem zem (w:World) (o:Obj) (a b c d:Value) (t:TypeId):∀ j u,[a,b,c,d][j]? =some u→((w.alloc o).alloc (.cells #[a,b,c,d] t)).cell? ((⟨w.heap.size+1,0,none⟩:Addr).add j)=some u:=by
 have h:=zdv (w.alloc o) a b c d t;rw[World.size_alloc]at h;exact h
theorem zdP {w w':World} {o o2:Obj} {cur:Array Value} {t:TypeId} {row:Option Nat} (ho:o= .cells cur t) (hg:((w.alloc o).alloc o2).grownBy w' row) (hr:∀ j,row=some j→j<w.heap.size) (i:Nat) (x:Value) (hi:cur[i]? =some x):
  w'.cell? ⟨w.heap.size,i,none⟩=some x:=by
 subst ho;refine hg.cell ?_ ?_
 ·have h1:((w.alloc (.cells cur t)).alloc o2).cell? ⟨w.heap.size,i,none⟩=(w.alloc (.cells cur t)).cell? ⟨w.heap.size,i,none⟩:=
   Below.cell (p:=⟨w.heap.size,i,none⟩) ((Below.refl (w.alloc (.cells cur t)).heap.size _).alloc (Nat.le_refl _) o2) (by show w.heap.size<_;rw[World.size_alloc];omega)
  rw[h1,World.cell?_alloc_mark];exact hi
 ·intro e
  have:=hr w.heap.size e.symm;omega
def Lo (n:Nat) (v:Value):Prop:=∀ ad m cap,v= .slice (some ad) m cap→n≤ad.block
theorem zfX (n:Nat):Lo n (.slice none 0 0):=fun _ _ _ e=>by cases e
theorem zjD {w:World} {base:Nat} {e:TypeId} {z n:Nat} {v:Value} {xs:List Value} (h:w.ownsRow base e z v n xs):Lo base v:=fun ad m cap ev=>by
 subst ev;exact(h.lt _ rfl).1
def Tp (X:Except (Int×Nat) (List Tok)) (w:World) (e:Ending) (w':World):Prop:=∃ v,e= .returned (.tuple #[v,.int .i64 (te X),.int .i64 (tn X:Nat)])∧Ts w' v (tl X)∧Lo w.heap.size v∧Keep w w'
end Go.Proofs.Ytpdcabfabghbkaa
