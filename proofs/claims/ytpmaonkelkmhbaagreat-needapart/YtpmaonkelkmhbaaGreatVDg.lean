/- Package valid: what an answer of no error says. No program is met here. -/
import Derived.Test.YtpmaonkelkmhbaaGreatVTc
import Derived.Test.YtpmaonkelkmhbaaGreatVHd
import Derived.Test.YtpmaonkelkmhbaaGreatVCh2
import Derived.Deep.DrawnRows
import Derived.Deep.RegionHeld3
import Derived.Test.YtpmaonkelkmhbaaGreatVDh
import Derived.Test.YtpmaonkelkmhbaaGreatLSkip
import Derived.Laws.AppendOwn
import Derived.Laws.OwnMore
import Derived.OwnWalk
namespace Go.Proofs.YtpmaonkelkmhbaaGreat
open Go.RowKit
set_option linter.unusedVariables false
set_option linter.unusedSimpArgs false
set_option maxRecDepth 10000
namespace V
open S
theorem zaS {f:Nat→Eq2} :∀(m k:Nat),fE f k m=none→∀ j,k≤j→j<k+m→f j=none
 |0,k,_,j,h1,h2=>by omega
 |m+1,k,h,j,h1,h2=>by
  unfold fE at h
  cases hf:f k with
  |some e=>rw[hf]at h;cases h
  |none=>
   rw[hf]at h;by_cases hj:j=k
   ·rw[hj];exact hf
   ·exact zaS m (k+1) h j (by omega) (by omega)
def Nz (x:Eq2):Prop:=∀ e,x=some e→e.1≠0
theorem za4:Nz none:=fun e h=>by cases h
theorem zaq {c p:Int} (h:c≠0):Nz (some (c,p)):=fun e he=>by cases he;exact h
theorem zaT {p:Prop} [Decidable p] {a b:Eq2} (ha:Nz a) (hb:Nz b):Nz (if p then a else b):=by split;exact ha;exact hb
theorem zbQ {f:Nat→Eq2} (hf:∀ j,Nz (f j)):∀(m k:Nat),Nz (fE f k m)
 |0,k=>za4
 |m+1,k=>by
  unfold fE
  cases h:f k with
  |some e=>have h9:=hf k;rw[h]at h9;exact h9
  |none=>exact zbQ hf m (k+1)
theorem zcE:∀(l:List Eq2),ors l=none→∀ x∈l,x=none
 | [],_,x,hx=>by cases hx
 |none :: l,h,x,hx=>by
  rcases List.mem_cons.1 hx with rfl|hx
  ·rfl
  ·exact zcE l h x hx
 |some y :: l,h,x,hx=>by cases h
theorem zhp:∀(l:List Eq2),(∀ x∈l,Nz x)→Nz (ors l)
 | [],_=>za4
 |none :: l,h=>zhp l (fun x hx=>h x (List.mem_cons_of_mem _ hx))
 |some y :: l,h=>h (some y) (by simp)
theorem zhq:∀(l:List (Bool×Int)),(∀ x∈l,x.2≠0)→∀ c,fst l=some c→c≠0
 | [],_,c,h=>by cases h
 |(b,d) :: l,hl,c,h=>by
  unfold fst at h
  split at h
  ·injection h with h;subst h;exact hl (b,d) (by simp)
  ·exact zhq l (fun x hx=>hl x (List.mem_cons_of_mem _ hx)) c h
theorem zoH (n1 n2 n3 n4 n5:Nat) (p:Int):Nz ((cnE n1 n2 n3 n4 n5).map (fun c=>(c,p))):=by
 intro e he
 cases h:cnE n1 n2 n3 n4 n5 with
 |none=>rw[h]at he;cases he
 |some c=>
  rw[h]at he;cases he
  exact zhq _ (by intro x hx;simp at hx;rcases hx with rfl|rfl|rfl<;>simp) c h
theorem zfb {M:List (List UInt8×Int)} {T:Nat→List UInt8} {c:Int} {P:Nat→Int} (hc:c≠0) (k:Nat):Nz (ltF M T c P k):=zaT za4 (zaq hc)
theorem znp (L:List (List D)):Nz (hdE L):=zbQ (fun j=>zaT (zaq (by decide)) (zaT za4 (zaq (by decide)))) _ _
theorem znq (L:List (List D)) (MH:List (List UInt8×Int)):Nz (phE L MH):=zbQ (fun j=>by
 unfold phF
 refine zaT (zaq (by decide)) ?_;have hi:Nz (fE (phI (ln L 1) (sb L 1) MH (iv L 2) j) 0 (ln L 1 j)):=zbQ (fun k=>zaT (zaT (zaq (by decide)) za4) (zaq (by decide))) _ _;cases h:fE (phI (ln L 1) (sb L 1) MH (iv L 2) j) 0 (ln L 1 j)with
 |some e=>rw[h]at hi;exact hi
 |none=>exact zaT (zaq (by decide)) za4) _ _
theorem znr (L:List (List D)) (MP:List (List UInt8×Int)):Nz (wkE L MP):=zbQ (fun j=>zaT (zaq (by decide)) (zaT (zaT (zaT (zaT za4 (zaq (by decide))) (zaq (by decide))) (zaq (by decide))) (zaq (by decide)))) _ _
theorem zns (L:List (List D)) (MP:List (List UInt8×Int)) (p:Int):Nz (grE L MP p):=zbQ (fun j=>zaT (zaq (by decide)) (zbQ (fun k=>zaT (zaq (by decide)) (zbQ (fun m=>zaT (zaT (zaq (by decide)) za4) (zaq (by decide))) _ _)) _ _)) _ _
theorem zoI (L:List (List D)) (M:List (List UInt8×Int)):Nz (foE L M):=zbQ (fun j=>zaT (zaT (zaT (zaq (by decide)) za4) (zaq (by decide))) (zaq (by decide))) _ _
theorem zhr (ds:List D):Nz (zei ds):=zhp _ (by
 intro x hx
 simp only[List.mem_cons,List.not_mem_nil,or_false]at hx;rcases hx with rfl|rfl|rfl|rfl|rfl|rfl|rfl|rfl
 ·exact zoH _ _ _ _ _ _
 ·exact znp _
 ·exact znq _ _
 ·exact zbQ (fun j=>zfb (by decide) j) _ _
 ·exact znr _ _
 ·exact zns _ _ _
 ·exact zbQ (fun j=>zfb (by decide) j) _ _
 ·exact zoI _ _)
theorem zoJ (LN:List (List D)):Nz (nsE LN):=zbQ (fun j=>zaT (zaq (by decide)) (zhr _)) _ _
theorem zoK (LN LS:List (List D)):Nz (stE LN LS):=zbQ (fun j=>by
 unfold stF
 exact zaT (zaT (zaq (by decide)) (zaT (zaq (by decide)) (zaT (zaq (by decide)) (zaT (zaT (zaT (zaT (zaT za4 (zaq (by decide))) (zaq (by decide))) za4) (zaq (by decide))) (zaq (by decide)))))) (zaq (by decide))) _ _
theorem znt {a0 a1 a2 a3 a4:Int} {LN LS:List (List D)} {a5 a6:Int} (h:(zhL a0 a1 a2 a3 a4 LN LS a5 a6).1=0):whE a0 a1 a2 a3 a4 LN.length LS.length a5 a6=none∧nsE LN=none∧stE LN LS=none:=by
 unfold zhL at h
 cases h0:whE a0 a1 a2 a3 a4 LN.length LS.length a5 a6 with
 |some c=>
  rw[h0]at h;exact absurd h (zhq _ (by intro x hx;simp at hx;rcases hx with rfl|rfl|rfl|rfl|rfl<;>simp) c h0)
 |none=>
  rw[h0]at h;cases h1:nsE LN with
  |some x=>rw[h1]at h;exact absurd h (zoJ LN x h1)
  |none=>
   rw[h1]at h;cases h2:stE LN LS with
   |some x=>rw[h2]at h;exact absurd h (zoK LN LS x h2)
   |none=>exact⟨rfl,rfl,rfl⟩
theorem zhs {LN:List (List D)} (h:nsE LN=none) (k:Nat) (hk:k<LN.length):zei (LN.getD k [])=none:=by
 have:=zaS _ _ h k (Nat.zero_le _) (by omega);unfold nsF at this
 split at this
 ·cases this
 ·exact this
theorem zaN {L1 L2 L3 L4 L5:List (List D)} {p:Int} (h:zb2 L1 L2 L3 L4 L5 p=none):
  cnE L1.length L2.length L3.length L4.length L5.length=none∧hdE L1=none∧phE L3 (mk (tn L1) L1.length)=none∧fE (ltF (hmL (ln L3 1) (sb L3 1) L3.length) (tn L1) 73 (iv L1 10)) 0 L1.length=none∧
  wkE L2 (mk (tn L3) L3.length)=none∧grE L4 (mk (tn L3) L3.length) p=none∧fE (ltF (rgG (ln L4 0) (gN L4) (gH L4) L4.length) (tn L3) 74 (iv L3 2)) 0 L3.length=none∧foE L5 (hmL (ln L3 1) (sb L3 1) L3.length)=none:=by
 have:=zcE _ h;refine⟨?_,this _ (by simp),this _ (by simp),this _ (by simp),this _ (by simp),this _ (by simp),this _ (by simp),this _ (by simp)⟩;have h0:=this ((cnE L1.length L2.length L3.length L4.length L5.length).map (fun c=>(c,p))) (by simp);cases hc:cnE L1.length L2.length L3.length L4.length L5.length with
 |none=>rfl
 |some c=>rw[hc]at h0;cases h0
end V
end Go.Proofs.YtpmaonkelkmhbaaGreat
namespace Go.Proofs.YtpmaonkelkmhbaaGreat
open Go.RowKit
attribute [local go_sem ↓] Go.wp_at_zero Go.wp_at_succ
set_option linter.unusedVariables false
set_option linter.unusedSimpArgs false
set_option maxRecDepth 10000
namespace V
def cq (f:Nat→Bool):Nat→Nat
 |0=>0
 |k+1=>cq f k+if f k then 1 else 0
def sm (g:Nat→Nat):Nat→Nat
 |0=>0
 |k+1=>sm g k+g k
end V
end Go.Proofs.YtpmaonkelkmhbaaGreat
namespace Go.Proofs.YtpmaonkelkmhbaaGreat
open Go.RowKit
set_option linter.unusedVariables false
set_option linter.unusedSimpArgs false
set_option maxRecDepth 10000
namespace V
open S
theorem zeA (H:Nat→Nat→List UInt8) (i k:Nat):(inn H i k).map Prod.fst=(List.range k).map (H i):=by simp[inn,List.map_map,Function.comp_def]
theorem zht {M:List (List UInt8×Int)} {s:List UInt8} (n:Int) (h:(M.map Prod.fst).Nodup) (h2:hs M s=false):((M++ [(s,n)]).map Prod.fst).Nodup:=by
 rw[List.map_append,List.map_cons,List.map_nil];refine List.nodup_append.2 ⟨h,by simp,fun a ha b hb=>?_⟩;have:b=s:=by simpa using hb
 subst this;rintro rfl;rw[zbb.2 ha]at h2;cases h2
theorem zd2 {M:List (List UInt8×Int)} {H:Nat→Nat→List UInt8} {i:Nat} (h:(M.map Prod.fst).Nodup):∀ k,(∀ o,o<k→hs (M++inn H i o) (H i o)=false)→((M++inn H i k).map Prod.fst).Nodup
 |0,_=>by simpa [inn]using h
 |k+1,ho=>by
  rw[zdq,← List.append_assoc];exact zht _ (zd2 h k (fun o hk=>ho o (by omega))) (ho k (by omega))
theorem zfc {N:Nat→Nat} {H:Nat→Nat→List UInt8} :∀ M,(∀ m,m<M→∀ o,o<N m→hs (hmL N H m++inn H m o) (H m o)=false)→((hmL N H M).map Prod.fst).Nodup
 |0,_=>by simp[hmL]
 |M+1,h=>by
  rw[hmL];exact zd2 (zfc M (fun m hm=>h m (by omega))) _ (h M (by omega))
theorem ziv {L:List (List D)} {MH:List (List UInt8×Int)} (h:phE L MH=none):∀ m,m<L.length→∀ o,o<ln L 1 m→hs (hmL (ln L 1) (sb L 1) m++inn (sb L 1) m o) (sb L 1 m o)=false:=by
 intro m hm o ho
 have h1:=zaS _ _ h m (Nat.zero_le _) (by omega);unfold phF at h1
 split at h1
 ·cases h1
 ·cases h2:fE (phI (ln L 1) (sb L 1) MH (iv L 2) m) 0 (ln L 1 m)with
  |some e=>rw[h2]at h1;cases h1
  |none=>
   have h3:=zaS _ _ h2 o (Nat.zero_le _) (by omega);unfold phI at h3
   split at h3
   ·cases hb:hs (hmL (ln L 1) (sb L 1) m++inn (sb L 1) m o) (sb L 1 m o)with
    |false=>rfl
    |true=>rw[if_pos hb]at h3;cases h3
   ·cases h3
theorem znu {M:List (List UInt8×Int)} {T:Nat→List UInt8} {c:Int} {P:Nat→Int} {n:Nat} (h:fE (ltF M T c P) 0 n=none) (k:Nat) (hk:k<n):hs M (T k)=true:=by
 have h1:=zaS _ _ h k (Nat.zero_le _) (by omega);unfold ltF at h1
 split at h1
 ·assumption
 ·cases h1
theorem zaU {B:Nat→Bool} :∀(m k:Nat),0≤ix B k m↔∃ j,k≤j∧j<k+m∧B j=true
 |0,k=>by
  constructor
  ·intro h;simp[ix]at h
  ·rintro⟨j,h1,h2,_⟩;omega
 |m+1,k=>by
  unfold ix
  by_cases hb:B k=true
  ·rw[if_pos hb];exact⟨fun _=>⟨k,by omega,by omega,hb⟩,fun _=>by omega⟩
  ·rw[if_neg hb,zaU m (k+1)];constructor
   ·rintro⟨j,h1,h2,h3⟩;exact⟨j,by omega,by omega,h3⟩
   ·rintro⟨j,h1,h2,h3⟩;refine⟨j,?_,by omega,h3⟩;rcases Nat.eq_or_lt_of_le h1 with e|e
    ·rw[← e]at h3;exact absurd h3 hb
    ·omega
theorem zdF {B:Nat→Bool} :∀(m k:Nat),ix B k (m+1)=if 0≤ix B k m then ix B k m else if B (k+m)then((k+m:Nat):Int)else -1
 |0,k=>by simp[ix]
 |m+1,k=>by
  rw[show ix B k (m+1+1)=if B k then(k:Int)else ix B (k+1) (m+1)from rfl,show ix B k (m+1)=if B k then(k:Int)else ix B (k+1) m from rfl];by_cases hb:B k=true
  ·simp[hb]
  ·rw[if_neg hb,if_neg hb,zdF m (k+1),show k+1+m=k+(m+1) by omega]
theorem zfd (A B:List (List UInt8×Int)) (s:List UInt8):hs (A++B) s=(hs A s || hs B s):=by simp[hs]
theorem zi3 (A B:List (List UInt8×Int)) (s:List UInt8):lk (A++B) s=if hs A s then lk A s else lk B s:=by
 unfold lk
 rw[List.find?_append];by_cases h:hs A s=true
 ·rw[if_pos h];have:(A.find? (fun p=>p.1==s)).isSome=true:=by
   rw[List.find?_isSome];obtain⟨p,hp,he⟩:=List.any_eq_true.1 h;exact⟨p,hp,he⟩
  obtain⟨p,hp⟩:=Option.isSome_iff_exists.1 this;rw[hp];rfl
 ·rw[if_neg h];have:A.find? (fun p=>p.1==s)=none:=by
   rw[List.find?_eq_none];intro p hp he
   exact h (List.any_eq_true.2 ⟨p,hp,he⟩)
  rw[this];rfl
theorem znv {H:Nat→Nat→List UInt8} {i k:Nat} {s:List UInt8} (h:hs (inn H i k) s=true):lk (inn H i k) s=(i:Int):=by
 unfold lk
 have:((inn H i k).find? (fun p=>p.1==s)).isSome=true:=by
  rw[List.find?_isSome];obtain⟨p,hp,he⟩:=List.any_eq_true.1 h;exact⟨p,hp,he⟩
 obtain⟨p,hp⟩:=Option.isSome_iff_exists.1 this;rw[hp];have hm:=List.mem_of_find?_eq_some hp;simp only[inn,List.mem_map]at hm;obtain⟨j,_,rfl⟩:=hm
 rfl
theorem zcV {N:Nat→Nat} {H:Nat→Nat→List UInt8} {B:Nat→Bool} {s:List UInt8} (hB:∀ m,B m=hs (inn H m (N m)) s):∀ M,(hs (hmL N H M) s=true↔0≤ix B 0 M)∧(hs (hmL N H M) s=true→lk (hmL N H M) s=ix B 0 M)
 |0=>by simp[hmL,hs,ix]
 |M+1=>by
  obtain⟨h1,h2⟩:=zcV hB M;rw[hmL,zfd,zi3,zdF,Nat.zero_add];by_cases h:hs (hmL N H M) s=true
  ·have h0:=h1.1 h;rw[h,if_pos h0,if_pos rfl,h2 h];exact⟨by simpa using h0,fun _=>rfl⟩
  ·have h0:¬0≤ix B 0 M:=fun k=>h (h1.2 k)
   have hf:hs (hmL N H M) s=false:=by simpa using h
   rw[hf,if_neg h0,hB M,Bool.false_or];simp only[Bool.false_eq_true,if_false];by_cases h3:hs (inn H M (N M)) s=true
   ·rw[if_pos h3];exact⟨by simp[h3],fun _=>znv h3⟩
   ·rw[if_neg h3];exact⟨⟨fun k=>absurd k h3,fun k=>by omega⟩,fun k=>absurd k h3⟩
theorem zfe (L:List (List D)) (m:Nat) (s:List UInt8):cI (sub L 1 m) s=hs (inn (sb L 1) m (ln L 1 m)) s:=by
 unfold cI
 cases hb:hs (inn (sb L 1) m (ln L 1 m)) s with
 |true=>
  rw[decide_eq_true_eq,zaU];obtain⟨p,hp,he⟩:=List.any_eq_true.1 hb;simp only[inn,List.mem_map,List.mem_range]at hp;obtain⟨j,hj,rfl⟩:=hp;have e:sb L 1 m j=s:=by simpa using he
  exact⟨j,Nat.zero_le _,by unfold ln at hj;omega,by rw[← e];simp[sb]⟩
 |false=>
  rw[decide_eq_false_iff_not,zaU];rintro⟨j,h1,h2,h3⟩;have e:s=tn (sub L 1 m) j:=by simpa using h3
  have:hs (inn (sb L 1) m (ln L 1 m)) s=true:=by
   refine List.any_eq_true.2 ⟨(sb L 1 m j,(m:Int)),?_,by simp[sb,← e]⟩;simp only[inn,List.mem_map,List.mem_range];exact⟨j,by unfold ln;omega,rfl⟩
  rw[this]at hb;cases hb
end V
end Go.Proofs.YtpmaonkelkmhbaaGreat
namespace Go.Proofs.YtpmaonkelkmhbaaGreat
open Go.RowKit
attribute [local go_sem ↓] Go.wp_at_zero Go.wp_at_succ
set_option linter.unusedVariables false
set_option linter.unusedSimpArgs false
set_option maxRecDepth 10000
namespace V
theorem znw:(Tryz.prog.info? 9).map (fun i=>(i.zero,i.size,i.bytes))=some (some (.string ⟨#[]⟩),1,16):=by kernel_rfl
theorem znx {t:TypeId} {z:Value} {a b:Nat} (h:(Tryz.prog.info? t).map (fun i=>(i.zero,i.size,i.bytes))=some (some z,a,b)):∃ i,Tryz.prog.info? t=some i∧i.zero=some z∧i.size=a∧i.bytes=b:=by
 cases hi:Tryz.prog.info? t with
 |none=>rw[hi]at h;cases h
 |some i=>rw[hi]at h;simp at h;exact⟨i,rfl,h.1,h.2.1,h.2.2⟩
def sS (M:List (List UInt8×Int)):List Value:=M.map (fun p=> .string (sv p.1))
def Os (B:Nat) (w:World) (v:Value) (M:List (List UInt8×Int)):Prop:=w.ownsRow B 9 1 v M.length (sS M)
theorem zoL (M:List (List UInt8×Int)) (nm:List UInt8):decide (0≤ix (fun k=>nm==(M.getD k ([],0)).1) 0 M.length)=hs M nm:=by
 cases hb:hs M nm with
 |true=>
  rw[decide_eq_true_eq,zaU];obtain⟨p,hp,he⟩:=List.any_eq_true.1 hb;obtain⟨k,hk,hkp⟩:=List.getElem_of_mem hp;refine⟨k,Nat.zero_le _,by omega,?_⟩;rw[List.getD_eq_getElem?_getD,List.getElem?_eq_getElem hk,hkp];have:p.1=nm:=by simpa using he
  simp[this]
 |false=>
  rw[decide_eq_false_iff_not,zaU];rintro⟨k,h1,h2,h3⟩;have hk:k<M.length:=by omega
  rw[List.getD_eq_getElem?_getD,List.getElem?_eq_getElem hk]at h3;have h9:nm=(M[k]).1:=by simpa using h3
  have:hs M nm=true:=List.any_eq_true.2 ⟨M[k],List.getElem_mem hk,by simp[← h9]⟩;rw[this]at hb;cases hb
theorem zi4 {B:Nat} {w:World} {v:Value} {M:List (List UInt8×Int)} (nm:List UInt8) (h:Os B w v M) (hl:M.length≤9223372036854775807):
  Calls Tryz.prog 20 #[.string (sv nm),v] w fun e w'=>e= .returned (.bool (hs M nm))∧w'=w:=by
 rw[← zoL];rcases h.2 with ⟨rfl,h0⟩|⟨g,cap,cur,rfl,hb,hg,hc,hm,hs,ht⟩
 ·have e:M= []:=List.eq_nil_of_length_eq_zero h0;subst e;exact zcC none 0 0 _ nm w (by omega) (hide fun k hk=>absurd hk (Nat.not_lt_zero _))
 ·refine zcC _ M.length cap _ nm w hl (hide fun k hk=>⟨_,rfl,?_⟩);have hu:(sS M)[k]? =some (.string (sv (M.getD k ([],0)).1)):=by
   rw[sS,List.getElem?_map,List.getD_eq_getElem?_getD,List.getElem?_eq_getElem hk];rfl
  rw[← ht,List.getElem?_take]at hu;rw[zaP];simp only[World.cell?,hg,Nat.zero_add];split at hu
  ·simpa using hu
  ·cases hu
theorem Os.nil (B:Nat) (w:World):Os B w (.slice none 0 0) []:=World.ownsRow_nil _ _ _ _
theorem zoM (w:World) (a:Value) (t:TypeId):∀ j u,[a][j]? =some u→(w.alloc (.cells #[a] t)).cell? ((⟨w.heap.size,0,none⟩:Addr).add j)=some u:=by
 intro j u hj
 rw[zaP,Nat.zero_add]
 match j,hj with
 |0,hj=>simp at hj;subst hj;simp[go_sem]
 |j+1,hj=>simp at hj
theorem Os.keep {B:Nat} {w w':World} {v:Value} {M:List (List UInt8×Int)} (h:Os B w v M) (hk:Keep w w'):Os B w' v M:=
 World.ownsRow.kept (row:=none) h ⟨hk.os,hk.tape,hk.output,hk.size,fun i hi _=>hk.block i hi⟩ (by cases v.ownBlock<;>simp)
set_option maxHeartbeats 8000000 in
theorem zeB (s:ByteArray) (x1:Option Addr) (n1 c1:Nat) (x2:Option Addr) (n2 c2:Nat) (x3:Option Addr) (n3 c3:Nat) (x4:Option Addr) (n4 c4:Nat) (x5:Option Addr) (n5 c5:Nat) (p:Int) (RA:Nat→Option Addr) (NR RC:Nat→Nat) (F:Nat→Nat→Bool) (A:Nat→Nat→Option Addr) (N C:Nat→Nat→Nat) (H:Nat→Nat→Nat→List UInt8) (MP:List (List UInt8×Int)) (T3:Nat→List UInt8) (P3:Nat→Int) (pI:List UInt8→Int) (r r1:Eq2) (w:World) (hn:n4≤9223372036854775807) (hn3:n3≤9223372036854775807) (hMP:MP.length≤1000)
  (HB0:Hid (∀ i,i<n4→NR i≤9223372036854775807∧∀ j,j<NR i→N i j≤9223372036854775807))
  (HC:Hid (∀ i,i<n4→∃ ad,x4=some ad∧ad.block<w.heap.size∧w.cell? (ad.add i)=some (.slice (RA i) (NR i) (RC i))))
  (HCR:Hid (∀ i,i<n4→∀ j,j<NR i→∃ bd,RA i=some bd∧bd.block<w.heap.size∧w.cell? ⟨(bd.add (j * 2)).block,(bd.add (j * 2)).off+1,none⟩=some (.slice (A i j) (N i j) (C i j))))
  (HD:Hid (∀ i,i<n4→∀ j,j<NR i→∀ m,m<N i j→∃ cd,A i j=some cd∧cd.block<w.heap.size∧w.cell? (cd.add m)=some (.string (sv (H i j m)))))
  (HC3:Hid (∀ k,k<n3→∃ ad,x3=some ad∧ad.block<w.heap.size∧w.cell? (ad.add (k * 3))=some (.string (sv (T3 k)))∧w.cell? ⟨(ad.add (k * 3)).block,(ad.add (k * 3)).off+2,none⟩=some (.int .i64 (P3 k))))
  (TP:Hid (∀ nm w',Keep w w'→Calls Tryz.prog 43 #[.agg #[.string s,.slice x1 n1 c1,.slice x2 n2 c2,.slice x3 n3 c3,.slice x4 n4 c4,.slice x5 n5 c5,.int .i64 p],.string (sv nm)] w' fun e w''=>e= .returned (.int .i64 (pI nm))∧Keep w' w''))
  (HPI:Hid (∀ nm,pI nm<0↔hs MP nm=false))
  (HI:Hid (fE (grF NR N H MP p) 0 n4=r)) (HI1:Hid (fE (ltF (rgG NR N H n4) T3 74 P3) 0 n3=r1)):
  Calls Tryz.prog 24 #[.agg #[.string s,.slice x1 n1 c1,.slice x2 n2 c2,.slice x3 n3 c3,.slice x4 n4 c4,.slice x5 n5 c5,.int .i64 p]] w (Zq (ors [r,r1]) w):=by
 obtain⟨i0,hi0,hz0,hz1,hz2⟩:=znx znw;have hnw:=heap_alloc_new w (.cells #[.string s,.slice x1 n1 c1,.slice x2 n2 c2,.slice x3 n3 c3,.slice x4 n4 c4,.slice x5 n5 c5,.int .i64 p] 39);have K0:=hide ((Keep.refl w).alloc (.cells #[.string s,.slice x1 n1 c1,.slice x2 n2 c2,.slice x3 n3 c3,.slice x4 n4 c4,.slice x5 n5 c5,.int .i64 p] 39));go_enter Tryz.func24,Tryz.ntmps24
 go_upto_region 1 with fail
 generalize w.alloc (.cells #[.string s,.slice x1 n1 c1,.slice x2 n2 c2,.slice x3 n3 c3,.slice x4 n4 c4,.slice x5 n5 c5,.int .i64 p] 39)=w0 at hnw K0 ⊢;obtain⟨q0,HQ0⟩:∃ q,Hid (w.heap.size=q):=⟨_,hide rfl⟩;rw[uq HQ0]at hnw ⊢;have HX0:Hid (∀ w':World,Keep w0 w'→w'.cell? ⟨q0,0,none⟩=some (.string s)∧w'.cell? ⟨q0,1,none⟩=some (.slice x1 n1 c1)∧w'.cell? ⟨q0,2,none⟩=some (.slice x2 n2 c2)∧w'.cell? ⟨q0,3,none⟩=some (.slice x3 n3 c3)∧w'.cell? ⟨q0,4,none⟩=some (.slice x4 n4 c4)∧w'.cell? ⟨q0,5,none⟩=some (.slice x5 n5 c5)∧w'.cell? ⟨q0,6,none⟩=some (.int .i64 p)):=hide (fun w' k9=>by
  have h1:=k9.block q0 (Array.getElem?_eq_some_iff.1 hnw).1;rw[hnw]at h1;refine⟨?_,?_,?_,?_,?_,?_,?_⟩<;>simp[World.cell?,h1])
 clear hnw;go_wp2_with fail
 go_loopw [4,5] (fun vs vi wr=>∃ i:Nat,vi= .int .i64 (i:Int)∧i≤n4∧Hid (Os w0.heap.size wr vs (rgG NR N H i))∧Hid (Gd MP (rgG NR N H i))∧Hid (Keep w0 wr)∧Hid (fE (grF NR N H MP p) i (n4 - i)=r)) (fun vs vi _=>n4 - (intOf vi).toNat)
 case atStart=>exact⟨0,rfl,by omega,hide (Os.nil _ _),hide (Gd.nil _),hide (Keep.refl _),HI⟩
 case round=>
  obtain⟨i,rfl,hi,OI,DI,KW,HF⟩:=hrel;obtain⟨z0,z1,z2,z3,z4,z5,z6⟩:=(uq HX0) wr (uq KW);by_cases hlt:i<n4
  ·have li:(i:Int)<(n4:Int):=by omega
   obtain⟨ad,rfl,hb,e0⟩:=(uq HC) i hlt;have y0:=far_cell ((uq K0).trans (uq KW)) (by rw[add_block9];exact hb) e0;have HLT:=hide hlt;have HCRi:=hide ((uq HCR) i hlt);have HDi:=hide ((uq HD) i hlt);have HBi:=hide ((uq HB0) i hlt);have hNR:=((uq HB0) i hlt).1;clear e0;by_cases h1:(NR i:Int)<1
   ·have hr:=zab (uq HF) hlt (show grF NR N H MP p i=some (74,p) by unfold grF;rw[if_pos (.inl (by omega))]);subst hr;clear HF
    go_upto_region 7 with fail
    refine wp_region_held_drew (S:=(fun w'=>w'.cell? ⟨q0,6,none⟩=some (.int .i64 p))) (by kernel_rfl) (by(obtain⟨_,_,_,_,_,_,g9⟩:=(uq HX0) _ (uq KW).drew;exact g9)) (fun hHeld=>?_);refine tkk 0 32 hHeld ?_;try simp only[Act.put,Ya,Yb,Yc]
    refine tkk 1 33 hHeld ?_;try simp only[Act.put,Ya,Yb,Yc]
    refine tkk 2 2 hHeld ?_;try simp only[Act.put,Ya,Yb,Yc]
    refine tkk 3 3 hHeld ?_;try simp only[Act.put,Ya,Yb,Yc]
    refine wpAnyH_done (by kernel_rfl) ?_ _;clear hHeld;go_wp2_with fail
    go_ret2;exact⟨(uq K0).trans ((uq KW).drew),rfl⟩
   by_cases h2:2<(NR i:Int)
   ·have hr:=zab (uq HF) hlt (show grF NR N H MP p i=some (74,p) by unfold grF;rw[if_pos (.inr (by omega))]);subst hr;clear HF
    go_upto_region 7 with fail
    refine wp_region_held_drew (S:=(fun w'=>w'.cell? ⟨q0,6,none⟩=some (.int .i64 p))) (by kernel_rfl) (by(obtain⟨_,_,_,_,_,_,g9⟩:=(uq HX0) _ (uq KW).drew;exact g9)) (fun hHeld=>?_);refine tkk 0 32 hHeld ?_;try simp only[Act.put,Ya,Yb,Yc]
    refine tkk 1 33 hHeld ?_;try simp only[Act.put,Ya,Yb,Yc]
    refine tkk 2 2 hHeld ?_;try simp only[Act.put,Ya,Yb,Yc]
    refine tkk 3 3 hHeld ?_;try simp only[Act.put,Ya,Yb,Yc]
    refine wpAnyH_done (by kernel_rfl) ?_ _;clear hHeld;go_wp2_with fail
    go_ret2;exact⟨(uq K0).trans ((uq KW).drew),rfl⟩
   have HG:=hide (show grF NR N H MP p i=fE (grR NR N H MP p i) 0 (NR i) by unfold grF;rw[if_neg (by omega)]);obtain⟨r2,HR2⟩:∃ r2,Hid (fE (grR NR N H MP p i) 0 (NR i)=r2):=⟨_,hide rfl⟩;have HF1:Hid (fE (grR NR N H MP p i) 0 (NR i - 0)=r2):=HR2;have OI1:Hid (Os w0.heap.size wr u4 (rgG NR N H i++rgR N H i 0)):=hide (by rw[show rgR N H i 0= []from rfl,List.append_nil];exact uq OI);have DI1:Hid (Gd MP (rgG NR N H i++rgR N H i 0)):=hide (by rw[show rgR N H i 0= []from rfl,List.append_nil];exact uq DI);go_wp2_with fail
   clear y0 h1 h2 z0 z1 z2 z3 z4 z5 z6
   go_loopw [4,7] (fun vs vj wq=>∃ j:Nat,vj= .int .i64 (j:Int)∧j≤NR i∧Hid (Os w0.heap.size wq vs (rgG NR N H i++rgR N H i j))∧Hid (Gd MP (rgG NR N H i++rgR N H i j))∧Hid (Keep w0 wq)∧Hid (fE (grR NR N H MP p i) j (NR i - j)=r2)) (fun vs vj _=>NR i - (intOf vj).toNat)
   case atStart=>exact⟨0,rfl,Nat.zero_le _,OI1,DI1,KW,HF1⟩
   case round=>
    obtain⟨j,rfl,hj,OJ,DJ,KJ,HJ⟩:=hrel;obtain⟨z0,z1,z2,z3,z4,z5,z6⟩:=(uq HX0) wr (uq KJ);by_cases hjt:j<NR i
    ·have lj:(j:Int)<(NR i:Int):=by omega
     obtain⟨bd,hA,hbb,e1⟩:=(uq HCRi) j hjt;have HJT:=hide hjt;have HDj:=hide ((uq HDi) j hjt);have hNj:=(uq HBi).2 j hjt;have HY1:Hid (∀ w',Keep w0 w'→w'.cell? ⟨(bd.add (j * 2)).block,(bd.add (j * 2)).off+1,none⟩=some (.slice (A i j) (N i j) (C i j))):=hide (fun w' k9=>far_cell ((uq K0).trans k9) (by show(bd.add (j * 2)).block<_;rw[add_block9];exact hbb) e1);have y1:=(uq HY1) wr (uq KJ);rw[hA]at *;clear e1 hbb hA;by_cases h1:(N i j:Int)<1
     ·have hr:=zab (uq HF) (uq HLT) ((uq HG).trans ((uq HR2).trans (zab (uq HJ) (uq HJT) (show grR NR N H MP p i j=some (74,p) by unfold grR;rw[if_pos (.inl (by omega))]))));subst hr;clear HF
      go_upto_region 12 with fail
      refine wp_region_held_drew (S:=(fun w'=>w'.cell? ⟨q0,6,none⟩=some (.int .i64 p))) (by kernel_rfl) (by(obtain⟨_,_,_,_,_,_,g9⟩:=(uq HX0) _ (uq KJ).drew;exact g9)) (fun hHeld=>?_);refine tkk 0 56 hHeld ?_;try simp only[Act.put,Ya,Yb,Yc]
      refine tkk 1 57 hHeld ?_;try simp only[Act.put,Ya,Yb,Yc]
      refine tkk 2 2 hHeld ?_;try simp only[Act.put,Ya,Yb,Yc]
      refine tkk 3 3 hHeld ?_;try simp only[Act.put,Ya,Yb,Yc]
      refine wpAnyH_done (by kernel_rfl) ?_ _;clear hHeld;go_wp2_with fail
      go_ret2;exact⟨(uq K0).trans ((uq KJ).drew),rfl⟩
     by_cases h2:4<(N i j:Int)
     ·have hr:=zab (uq HF) (uq HLT) ((uq HG).trans ((uq HR2).trans (zab (uq HJ) (uq HJT) (show grR NR N H MP p i j=some (74,p) by unfold grR;rw[if_pos (.inr (by omega))]))));subst hr;clear HF
      go_upto_region 12 with fail
      refine wp_region_held_drew (S:=(fun w'=>w'.cell? ⟨q0,6,none⟩=some (.int .i64 p))) (by kernel_rfl) (by(obtain⟨_,_,_,_,_,_,g9⟩:=(uq HX0) _ (uq KJ).drew;exact g9)) (fun hHeld=>?_);refine tkk 0 56 hHeld ?_;try simp only[Act.put,Ya,Yb,Yc]
      refine tkk 1 57 hHeld ?_;try simp only[Act.put,Ya,Yb,Yc]
      refine tkk 2 2 hHeld ?_;try simp only[Act.put,Ya,Yb,Yc]
      refine tkk 3 3 hHeld ?_;try simp only[Act.put,Ya,Yb,Yc]
      refine wpAnyH_done (by kernel_rfl) ?_ _;clear hHeld;go_wp2_with fail
      go_ret2;exact⟨(uq K0).trans ((uq KJ).drew),rfl⟩
     have HH:=hide (show grR NR N H MP p i j=fE (grM NR N H MP p i j) 0 (N i j) by unfold grR;rw[if_neg (by omega)]);obtain⟨r3,HR3⟩:∃ r3,Hid (fE (grM NR N H MP p i j) 0 (N i j)=r3):=⟨_,hide rfl⟩;have HF2:Hid (fE (grM NR N H MP p i j) 0 (N i j - 0)=r3):=HR3;have OJ1:Hid (Os w0.heap.size wr u4 (rgG NR N H i++rgR N H i j++zb0 H i j 0)):=hide (by rw[show zb0 H i j 0= []from rfl,List.append_nil];exact uq OJ);have DJ1:Hid (Gd MP (rgG NR N H i++rgR N H i j++zb0 H i j 0)):=hide (by rw[show zb0 H i j 0= []from rfl,List.append_nil];exact uq DJ);go_wp2_with fail
     clear y1 h1 h2 z0 z1 z2 z3 z4 z5 z6
     go_loopw [4,8] (fun vs vm wt=>∃ m:Nat,vm= .int .i64 (m:Int)∧m≤N i j∧Hid (Os w0.heap.size wt vs (rgG NR N H i++rgR N H i j++zb0 H i j m))∧Hid (Gd MP (rgG NR N H i++rgR N H i j++zb0 H i j m))∧Hid (Keep w0 wt)∧Hid (fE (grM NR N H MP p i j) m (N i j - m)=r3)) (fun vs vm _=>N i j - (intOf vm).toNat)
     case atStart=>exact⟨0,rfl,Nat.zero_le _,OJ1,DJ1,KJ,HF2⟩
     case round=>
      obtain⟨m,rfl,hm,OM,DM,KM,HM⟩:=hrel;obtain⟨z0,z1,z2,z3,z4,z5,z6⟩:=(uq HX0) wr (uq KM);have y1:=(uq HY1) wr (uq KM);by_cases hmt:m<N i j
      ·have lm:(m:Int)<(N i j:Int):=by omega
       obtain⟨cd,hA,hbb,ec⟩:=(uq HDj) m hmt;have yc:=far_cell ((uq K0).trans (uq KM)) (by rw[add_block9];exact hbb) ec;rw[hA]at y1;clear ec hA hbb;obtain⟨a1,HJ1⟩:∃ jj,Hid (pI (H i j m)=jj):=⟨_,hide rfl⟩;have TK:=hide ((uq TP) (H i j m) wr ((uq K0).trans (uq KM)));have ha1:=(uq HPI) (H i j m);rw[uq HJ1]at TK ha1;go_wp2_with fail
       (refine(uq TK).mono ?_;rintro e w2 ⟨rfl,hk9⟩;have K2:=hide (hk9);clear hk9);have KM2:=hide ((uq KM).trans (uq K2));have OM2:=hide ((uq OM).keep (uq K2));clear y1 yc z0 z1 z2 z3 z4 z5 z6;cases hw:hs MP (H i j m)
       ·have hj1:a1<0:=ha1.2 hw;have hr:=zab (uq HF) (uq HLT) ((uq HG).trans ((uq HR2).trans (zab (uq HJ) (uq HJT) ((uq HH).trans ((uq HR3).trans (zab (uq HM) hmt (show grM NR N H MP p i j m=some (72,p) by unfold grM;rw[if_neg (by rw[hw];decide)])))))));subst hr;clear HF ha1 hw
        go_upto_region 18 with fail
        refine wp_region_held_drew (S:=(fun w'=>w'.cell? ⟨q0,6,none⟩=some (.int .i64 p))) (by kernel_rfl) (by(obtain⟨_,_,_,_,_,_,g9⟩:=(uq HX0) _ (uq KM2).drew;exact g9)) (fun hHeld=>?_);refine tkk 0 80 hHeld ?_;try simp only[Act.put,Ya,Yb,Yc]
        refine tkk 1 81 hHeld ?_;try simp only[Act.put,Ya,Yb,Yc]
        refine tkk 2 2 hHeld ?_;try simp only[Act.put,Ya,Yb,Yc]
        refine tkk 3 3 hHeld ?_;try simp only[Act.put,Ya,Yb,Yc]
        refine wpAnyH_done (by kernel_rfl) ?_ _;clear hHeld;go_wp2_with fail
        go_ret2;exact⟨(uq K0).trans ((uq KM2).drew),rfl⟩
       have hj1:¬a1<0:=fun h=>by have:=ha1.1 h;rw[hw]at this;cases this
       have HW:=hide hw;clear ha1 hw;have TI:=hide (zi4 (H i j m) (uq OM2) (by have:=(uq DM).len;omega));go_wp2_with fail
       (refine(uq TI).mono ?_;rintro e w2 ⟨rfl,rfl⟩);cases hh:hs (rgG NR N H i++rgR N H i j++zb0 H i j m) (H i j m)
       ·have HM2:=hide (zaY (uq HM) hmt (show grM NR N H MP p i j m=none by unfold grM;rw[if_pos (uq HW),if_neg (by rw[hh];decide)]));have DM2:=hide ((uq DM).add (i:Int) (uq HW) hh);have hlen:(rgG NR N H i++rgR N H i j++zb0 H i j m).length≤1000:=by have:=(uq DM).len;omega
        have hsz:=Below.size (uq KM2);clear hh HM;obtain⟨L,HLL⟩:∃ L,Hid ((rgG NR N H i++rgR N H i j++zb0 H i j m).length=L):=⟨_,hide rfl⟩;have OM3:Hid (w2.ownsRow w0.heap.size 9 1 u4 L (sS (rgG NR N H i++rgR N H i j++zb0 H i j m))):=hide (by rw[← uq HLL];exact uq OM2);rw[uq HLL]at hlen;go_wp2_with (at_builtin;refine wpList_append_own _ rfl _ _ 43 rfl w0.heap.size 9 i0 _ 1 16 Tryz.underlying43 hi0 hz0 hz1 hz2 rfl (by decide) _ _ _ rfl (World.ownsRow.alloc (uq OM3) _) ⟨w2.heap.size,0,none⟩ 1 1 [.string (sv (H i j m))] rfl rfl (zoM w2 _ _) (by simp[Value.oneCell']) (by unfold maxLen;omega) (by omega) (by simp;omega) ?_;intro v' w4 hown' hgrow hnil;have HOWN:=hide hown';have HK4:Hid (Keep w0 w4):=hide (Below.grown ((uq KM2).alloc _) hgrow (by simp;omega) (fun j ej=>((uq OM3).lt j ej).1));clear hown' hgrow hnil)
        have OM4:Hid (Os w0.heap.size w4 v' (rgG NR N H i++rgR N H i j++zb0 H i j (m+1))):=hide (by rw[zb1,← List.append_assoc];have h:=uq HOWN;rw[← uq HLL]at h;unfold Os;rw[List.length_append];simpa [sS]using h);have DM4:Hid (Gd MP (rgG NR N H i++rgR N H i j++zb0 H i j (m+1))):=hide (by rw[zb1,← List.append_assoc];exact uq DM2);go_roundw
        case rel=>exact⟨m+1,by go_num,by omega,OM4,DM4,HK4,HM2⟩
        case measure=>simp[intOf];omega
       ·have hr:=zab (uq HF) (uq HLT) ((uq HG).trans ((uq HR2).trans (zab (uq HJ) (uq HJT) ((uq HH).trans ((uq HR3).trans (zab (uq HM) hmt (show grM NR N H MP p i j m=some (71,p) by unfold grM;rw[if_pos (uq HW),if_pos hh])))))));subst hr;clear HF hh
        go_upto_region 20 with fail
        refine wp_region_held_drew (S:=(fun w'=>w'.cell? ⟨q0,6,none⟩=some (.int .i64 p))) (by kernel_rfl) (by(obtain⟨_,_,_,_,_,_,g9⟩:=(uq HX0) _ (uq KM2).drew;exact g9)) (fun hHeld=>?_);refine tkk 0 85 hHeld ?_;try simp only[Act.put,Ya,Yb,Yc]
        refine tkk 1 86 hHeld ?_;try simp only[Act.put,Ya,Yb,Yc]
        refine tkk 2 2 hHeld ?_;try simp only[Act.put,Ya,Yb,Yc]
        refine tkk 3 3 hHeld ?_;try simp only[Act.put,Ya,Yb,Yc]
        refine wpAnyH_done (by kernel_rfl) ?_ _;clear hHeld;go_wp2_with fail
        go_ret2;exact⟨(uq K0).trans ((uq KM2).drew),rfl⟩
      ·have lm:¬(m:Int)<(N i j:Int):=by omega
       obtain rfl:m=N i j:=by omega
       have hr3:=zaF (uq HM) (by omega);have HJ2:=hide (zaY (uq HJ) (uq HJT) ((uq HH).trans ((uq HR3).trans hr3)));have OM2:Hid (Os w0.heap.size wr u4 (rgG NR N H i++rgR N H i (j+1))):=hide (by rw[show rgR N H i (j+1)=rgR N H i j++zb0 H i j (N i j)from rfl,← List.append_assoc];exact uq OM);have DM2:Hid (Gd MP (rgG NR N H i++rgR N H i (j+1))):=hide (by rw[show rgR N H i (j+1)=rgR N H i j++zb0 H i j (N i j)from rfl,← List.append_assoc];exact uq DM);clear hr3;go_wp2_with fail
       go_roundw
       case rel=>exact⟨j+1,by go_num,by have:=uq HJT;omega,OM2,DM2,KM,HJ2⟩
       case measure=>have:=uq HJT;simp[intOf];omega
    ·have lj:¬(j:Int)<(NR i:Int):=by omega
     obtain rfl:j=NR i:=by omega
     have hr2:=zaF (uq HJ) (by omega);have HF2:=hide (zaY (uq HF) (uq HLT) ((uq HG).trans ((uq HR2).trans hr2)));have OJ2:Hid (Os w0.heap.size wr u4 (rgG NR N H (i+1))):=OJ;have DJ2:Hid (Gd MP (rgG NR N H (i+1))):=DJ;clear hr2;go_wp2_with fail
     go_roundw
     case rel=>exact⟨i+1,by go_num,by have:=uq HLT;omega,OJ2,DJ2,KJ,HF2⟩
     case measure=>have:=uq HLT;simp[intOf];omega
  ·have li:¬(i:Int)<(n4:Int):=by omega
   obtain rfl:i=n4:=by omega
   have hr:=zaF (uq HF) (by omega);subst hr;have HJ1:Hid (fE (ltF (rgG NR N H i) T3 74 P3) 0 (n3 - 0)=r1):=HI1;have hlen:=(uq DI).len;go_wp2_with fail
   clear z0 z1 z2 z3 z4 z5 z6
   go_loopw [10] (fun vm wq=>∃ m:Nat,vm= .int .i64 (m:Int)∧m≤n3∧Hid (Keep w0 wq)∧Hid (Os w0.heap.size wq u4 (rgG NR N H i))∧Hid (fE (ltF (rgG NR N H i) T3 74 P3) m (n3 - m)=r1)) (fun vm _=>n3 - (intOf vm).toNat)
   case atStart=>exact⟨0,rfl,Nat.zero_le _,KW,OI,HJ1⟩
   case round=>
    obtain⟨m,rfl,hm,KM,OM,HG⟩:=hrel;obtain⟨z0,z1,z2,z3,z4,z5,z6⟩:=(uq HX0) wr (uq KM);by_cases hmt:m<n3
    ·have lm:(m:Int)<(n3:Int):=by omega
     obtain⟨ad,rfl,hb,e0,e1⟩:=(uq HC3) m hmt;have HD9:Hid (∀ w',Keep wr w'→(w'.cell? ⟨q0,0,none⟩=some (.string s)∧w'.cell? ⟨q0,1,none⟩=some (.slice x1 n1 c1)∧w'.cell? ⟨q0,2,none⟩=some (.slice x2 n2 c2)∧w'.cell? ⟨q0,3,none⟩=some (.slice (some ad) n3 c3)∧w'.cell? ⟨q0,4,none⟩=some (.slice x4 i c4)∧w'.cell? ⟨q0,5,none⟩=some (.slice x5 n5 c5)∧w'.cell? ⟨q0,6,none⟩=some (.int .i64 p))∧w'.cell? (ad.add (m * 3))=some (.string (sv (T3 m)))∧w'.cell? ⟨(ad.add (m * 3)).block,(ad.add (m * 3)).off+2,none⟩=some (.int .i64 (P3 m))):=hide (fun w' k9=>⟨(uq HX0) w' ((uq KM).trans k9),far_cell ((uq K0).trans ((uq KM).trans k9)) (by rw[add_block9];exact hb) e0,far_cell ((uq K0).trans ((uq KM).trans k9)) (by show(ad.add (m * 3)).block<_;rw[add_block9];exact hb) e1⟩);clear e0 e1;have y0:=((uq HD9) wr (Keep.refl _)).2.1;have TI:=hide (zi4 (T3 m) (uq OM) (by omega));go_wp2_with fail
     (refine(uq TI).mono ?_;rintro e w2 ⟨rfl,rfl⟩);cases hw:hs (rgG NR N H i) (T3 m)
     ·have hr:=zab (uq HG) hmt (show ltF (rgG NR N H i) T3 74 P3 m=some (74,P3 m) by unfold ltF;rw[if_neg (by rw[hw];decide)]);subst hr;clear HG hw y0 z0 z1 z2 z3 z4 z5 z6
      go_upto_region 26 with fail
      refine wp_region_held_drew (S:=(fun w'=>(w'.cell? ⟨q0,0,none⟩=some (.string s)∧w'.cell? ⟨q0,1,none⟩=some (.slice x1 n1 c1)∧w'.cell? ⟨q0,2,none⟩=some (.slice x2 n2 c2)∧w'.cell? ⟨q0,3,none⟩=some (.slice (some ad) n3 c3)∧w'.cell? ⟨q0,4,none⟩=some (.slice x4 i c4)∧w'.cell? ⟨q0,5,none⟩=some (.slice x5 n5 c5)∧w'.cell? ⟨q0,6,none⟩=some (.int .i64 p))∧w'.cell? (ad.add (m * 3))=some (.string (sv (T3 m)))∧w'.cell? ⟨(ad.add (m * 3)).block,(ad.add (m * 3)).off+2,none⟩=some (.int .i64 (P3 m)))) (by kernel_rfl) (by exact(uq HD9) _ (Keep.refl _).drew) (fun hHeld=>?_);refine tkk 0 107 hHeld ?_;try simp only[Act.put,Ya,Yb,Yc]
      refine tkk 1 108 hHeld ?_;try simp only[Act.put,Ya,Yb,Yc]
      refine tkk 2 109 hHeld ?_;try simp only[Act.put,Ya,Yb,Yc]
      refine tkk 3 110 hHeld ?_;try simp only[Act.put,Ya,Yb,Yc]
      refine tkk 4 111 hHeld ?_;try simp only[Act.put,Ya,Yb,Yc]
      refine tkk 5 112 hHeld ?_;try simp only[Act.put,Ya,Yb,Yc]
      refine tkk 6 2 hHeld ?_;try simp only[Act.put,Ya,Yb,Yc]
      refine tkk 7 3 hHeld ?_;try simp only[Act.put,Ya,Yb,Yc]
      refine wpAnyH_done (by kernel_rfl) ?_ _;clear hHeld;go_wp2_with fail
      go_ret2;exact⟨(uq K0).trans (uq KM).drew,rfl⟩
     ·have HG2:=hide (zaY (uq HG) hmt (show ltF (rgG NR N H i) T3 74 P3 m=none by unfold ltF;rw[if_pos hw]));clear HG hw;go_wp2_with fail
      go_roundw
      case rel=>exact⟨m+1,by go_num,by omega,KM,OM,HG2⟩
      case measure=>simp[intOf];omega
    ·have lm:¬(m:Int)<(n3:Int):=by omega
     have hr:=zaF (uq HG) (by omega);subst hr;go_wp2_with fail
     go_ret2;exact⟨(uq K0).trans (uq KM),rfl⟩
end V
end Go.Proofs.YtpmaonkelkmhbaaGreat
