/- Package valid: what an answer of no error says. No program is met here. -/
import Derived.Test.YthbfohohelflnaaVTc
import Derived.Test.YthbfohohelflnaaVHd
import Derived.Test.YthbfohohelflnaaVCh2
import Derived.Deep.DrawnRows
import Derived.Deep.RegionHeld3
namespace Go.Proofs.Ythbfohohelflnaa
open Go.RowKit
set_option linter.unusedVariables false
set_option linter.unusedSimpArgs false
set_option maxRecDepth 10000
namespace V
open S
theorem zcQ {f:Nat→Eq2} :∀(m k:Nat),fE f k m=none→∀ j,k≤j→j<k+m→f j=none
 |0,k,_,j,h1,h2=>by omega
 |m+1,k,h,j,h1,h2=>by
  unfold fE at h
  cases hf:f k with
  |some e=>rw[hf]at h;cases h
  |none=>
   rw[hf]at h;by_cases hj:j=k
   ·rw[hj];exact hf
   ·exact zcQ m (k+1) h j (by omega) (by omega)
def Nz (x:Eq2):Prop:=∀ e,x=some e→e.1≠0
theorem zbi:Nz none:=fun e h=>by cases h
theorem zaD {c p:Int} (h:c≠0):Nz (some (c,p)):=fun e he=>by cases he;exact h
theorem zbj {p:Prop} [Decidable p] {a b:Eq2} (ha:Nz a) (hb:Nz b):Nz (if p then a else b):=by split;exact ha;exact hb
theorem zbU {f:Nat→Eq2} (hf:∀ j,Nz (f j)):∀(m k:Nat),Nz (fE f k m)
 |0,k=>zbi
 |m+1,k=>by
  unfold fE
  cases h:f k with
  |some e=>have h9:=hf k;rw[h]at h9;exact h9
  |none=>exact zbU hf m (k+1)
theorem zcR:∀(l:List Eq2),ors l=none→∀ x∈l,x=none
 | [],_,x,hx=>by cases hx
 |none :: l,h,x,hx=>by
  rcases List.mem_cons.1 hx with rfl|hx
  ·rfl
  ·exact zcR l h x hx
 |some y :: l,h,x,hx=>by cases h
theorem zfn:∀(l:List Eq2),(∀ x∈l,Nz x)→Nz (ors l)
 | [],_=>zbi
 |none :: l,h=>zfn l (fun x hx=>h x (List.mem_cons_of_mem _ hx))
 |some y :: l,h=>h (some y) (by simp)
theorem zgh:∀(l:List (Bool×Int)),(∀ x∈l,x.2≠0)→∀ c,fst l=some c→c≠0
 | [],_,c,h=>by cases h
 |(b,d) :: l,hl,c,h=>by
  unfold fst at h
  split at h
  ·injection h with h;subst h;exact hl (b,d) (by simp)
  ·exact zgh l (fun x hx=>hl x (List.mem_cons_of_mem _ hx)) c h
theorem zkY (n1 n2 n3 n4 n5:Nat) (p:Int):Nz ((cnE n1 n2 n3 n4 n5).map (fun c=>(c,p))):=by
 intro e he
 cases h:cnE n1 n2 n3 n4 n5 with
 |none=>rw[h]at he;cases he
 |some c=>
  rw[h]at he;cases he
  exact zgh _ (by intro x hx;simp at hx;rcases hx with rfl|rfl|rfl<;>simp) c h
theorem zdU {M:List (List UInt8×Int)} {T:Nat→List UInt8} {c:Int} {P:Nat→Int} (hc:c≠0) (k:Nat):Nz (ltF M T c P k):=zbj zbi (zaD hc)
theorem zj8 (L:List (List D)):Nz (hdE L):=zbU (fun j=>zbj (zaD (by decide)) (zbj zbi (zaD (by decide)))) _ _
theorem zj9 (L:List (List D)) (MH:List (List UInt8×Int)):Nz (phE L MH):=zbU (fun j=>by
 unfold phF
 refine zbj (zaD (by decide)) ?_;have hi:Nz (fE (phI (ln L 1) (sb L 1) MH (iv L 2) j) 0 (ln L 1 j)):=zbU (fun k=>zbj (zbj (zaD (by decide)) zbi) (zaD (by decide))) _ _;cases h:fE (phI (ln L 1) (sb L 1) MH (iv L 2) j) 0 (ln L 1 j)with
 |some e=>rw[h]at hi;exact hi
 |none=>exact zbj (zaD (by decide)) zbi) _ _
theorem zka (L:List (List D)) (MP:List (List UInt8×Int)):Nz (wkE L MP):=zbU (fun j=>zbj (zaD (by decide)) (zbj (zbj (zbj (zbj zbi (zaD (by decide))) (zaD (by decide))) (zaD (by decide))) (zaD (by decide)))) _ _
theorem zkb (L:List (List D)) (MP:List (List UInt8×Int)) (p:Int):Nz (grE L MP p):=zbU (fun j=>zbj (zaD (by decide)) (zbU (fun k=>zbj (zaD (by decide)) (zbU (fun m=>zbj (zbj (zaD (by decide)) zbi) (zaD (by decide))) _ _)) _ _)) _ _
theorem zkZ (L:List (List D)) (M:List (List UInt8×Int)):Nz (foE L M):=zbU (fun j=>zbj (zbj (zbj (zaD (by decide)) zbi) (zaD (by decide))) (zaD (by decide))) _ _
theorem zis (ds:List D):Nz (zeb ds):=zfn _ (by
 intro x hx
 simp only[List.mem_cons,List.not_mem_nil,or_false]at hx;rcases hx with rfl|rfl|rfl|rfl|rfl|rfl|rfl|rfl
 ·exact zkY _ _ _ _ _ _
 ·exact zj8 _
 ·exact zj9 _ _
 ·exact zbU (fun j=>zdU (by decide) j) _ _
 ·exact zka _ _
 ·exact zkb _ _ _
 ·exact zbU (fun j=>zdU (by decide) j) _ _
 ·exact zkZ _ _)
end V
end Go.Proofs.Ythbfohohelflnaa
namespace Go.Proofs.Ythbfohohelflnaa
open Go.RowKit
attribute [local go_sem ↓] Go.wp_at_zero Go.wp_at_succ
set_option linter.unusedVariables false
set_option linter.unusedSimpArgs false
set_option maxRecDepth 10000
namespace V
def cq (f:Nat→Bool):Nat→Nat
 |0=>0
 |k+1=>cq f k+if f k then 1 else 0
end V
end Go.Proofs.Ythbfohohelflnaa
namespace Go.Proofs.Ythbfohohelflnaa
open Go.RowKit
set_option linter.unusedVariables false
set_option linter.unusedSimpArgs false
set_option maxRecDepth 10000
namespace V
open S
theorem zdv (H:Nat→Nat→List UInt8) (i k:Nat):(inn H i k).map Prod.fst=(List.range k).map (H i):=by simp[inn,List.map_map,Function.comp_def]
theorem zkc {M:List (List UInt8×Int)} {T:Nat→List UInt8} {c:Int} {P:Nat→Int} {n:Nat} (h:fE (ltF M T c P) 0 n=none) (k:Nat) (hk:k<n):hs M (T k)=true:=by
 have h1:=zcQ _ _ h k (Nat.zero_le _) (by omega);unfold ltF at h1
 split at h1
 ·assumption
 ·cases h1
theorem zaY {B:Nat→Bool} :∀(m k:Nat),0≤ix B k m↔∃ j,k≤j∧j<k+m∧B j=true
 |0,k=>by
  constructor
  ·intro h;simp[ix]at h
  ·rintro⟨j,h1,h2,_⟩;omega
 |m+1,k=>by
  unfold ix
  by_cases hb:B k=true
  ·rw[if_pos hb];exact⟨fun _=>⟨k,by omega,by omega,hb⟩,fun _=>by omega⟩
  ·rw[if_neg hb,zaY m (k+1)];constructor
   ·rintro⟨j,h1,h2,h3⟩;exact⟨j,by omega,by omega,h3⟩
   ·rintro⟨j,h1,h2,h3⟩;refine⟨j,?_,by omega,h3⟩;rcases Nat.eq_or_lt_of_le h1 with e|e
    ·rw[← e]at h3;exact absurd h3 hb
    ·omega
theorem zcS {B:Nat→Bool} :∀(m k:Nat),ix B k (m+1)=if 0≤ix B k m then ix B k m else if B (k+m)then((k+m:Nat):Int)else -1
 |0,k=>by simp[ix]
 |m+1,k=>by
  rw[show ix B k (m+1+1)=if B k then(k:Int)else ix B (k+1) (m+1)from rfl,show ix B k (m+1)=if B k then(k:Int)else ix B (k+1) m from rfl];by_cases hb:B k=true
  ·simp[hb]
  ·rw[if_neg hb,if_neg hb,zcS m (k+1),show k+1+m=k+(m+1) by omega]
theorem zdV (A B:List (List UInt8×Int)) (s:List UInt8):hs (A++B) s=(hs A s || hs B s):=by simp[hs]
theorem zgi (A B:List (List UInt8×Int)) (s:List UInt8):lk (A++B) s=if hs A s then lk A s else lk B s:=by
 unfold lk
 rw[List.find?_append];by_cases h:hs A s=true
 ·rw[if_pos h];have:(A.find? (fun p=>p.1==s)).isSome=true:=by
   rw[List.find?_isSome];obtain⟨p,hp,he⟩:=List.any_eq_true.1 h;exact⟨p,hp,he⟩
  obtain⟨p,hp⟩:=Option.isSome_iff_exists.1 this;rw[hp];rfl
 ·rw[if_neg h];have:A.find? (fun p=>p.1==s)=none:=by
   rw[List.find?_eq_none];intro p hp he
   exact h (List.any_eq_true.2 ⟨p,hp,he⟩)
  rw[this];rfl
theorem zkd {H:Nat→Nat→List UInt8} {i k:Nat} {s:List UInt8} (h:hs (inn H i k) s=true):lk (inn H i k) s=(i:Int):=by
 unfold lk
 have:((inn H i k).find? (fun p=>p.1==s)).isSome=true:=by
  rw[List.find?_isSome];obtain⟨p,hp,he⟩:=List.any_eq_true.1 h;exact⟨p,hp,he⟩
 obtain⟨p,hp⟩:=Option.isSome_iff_exists.1 this;rw[hp];have hm:=List.mem_of_find?_eq_some hp;simp only[inn,List.mem_map]at hm;obtain⟨j,_,rfl⟩:=hm
 rfl
theorem zcT {N:Nat→Nat} {H:Nat→Nat→List UInt8} {B:Nat→Bool} {s:List UInt8} (hB:∀ m,B m=hs (inn H m (N m)) s):∀ M,(hs (hmL N H M) s=true↔0≤ix B 0 M)∧(hs (hmL N H M) s=true→lk (hmL N H M) s=ix B 0 M)
 |0=>by simp[hmL,hs,ix]
 |M+1=>by
  obtain⟨h1,h2⟩:=zcT hB M;rw[hmL,zdV,zgi,zcS,Nat.zero_add];by_cases h:hs (hmL N H M) s=true
  ·have h0:=h1.1 h;rw[h,if_pos h0,if_pos rfl,h2 h];exact⟨by simpa using h0,fun _=>rfl⟩
  ·have h0:¬0≤ix B 0 M:=fun k=>h (h1.2 k)
   have hf:hs (hmL N H M) s=false:=by simpa using h
   rw[hf,if_neg h0,hB M,Bool.false_or];simp only[Bool.false_eq_true,if_false];by_cases h3:hs (inn H M (N M)) s=true
   ·rw[if_pos h3];exact⟨by simp[h3],fun _=>zkd h3⟩
   ·rw[if_neg h3];exact⟨⟨fun k=>absurd k h3,fun k=>by omega⟩,fun k=>absurd k h3⟩
theorem zfo (L:List (List D)) (m:Nat) (s:List UInt8):cI (sub L 1 m) s=hs (inn (sb L 1) m (ln L 1 m)) s:=by
 unfold cI
 cases hb:hs (inn (sb L 1) m (ln L 1 m)) s with
 |true=>
  rw[decide_eq_true_eq,zaY];obtain⟨p,hp,he⟩:=List.any_eq_true.1 hb;simp only[inn,List.mem_map,List.mem_range]at hp;obtain⟨j,hj,rfl⟩:=hp;have e:sb L 1 m j=s:=by simpa using he
  exact⟨j,Nat.zero_le _,by unfold ln at hj;omega,by rw[← e];simp[sb]⟩
 |false=>
  rw[decide_eq_false_iff_not,zaY];rintro⟨j,h1,h2,h3⟩;have e:s=tn (sub L 1 m) j:=by simpa using h3
  have:hs (inn (sb L 1) m (ln L 1 m)) s=true:=by
   refine List.any_eq_true.2 ⟨(sb L 1 m j,(m:Int)),?_,by simp[sb,← e]⟩;simp only[inn,List.mem_map,List.mem_range];exact⟨j,by unfold ln;omega,rfl⟩
  rw[this]at hb;cases hb
end V
end Go.Proofs.Ythbfohohelflnaa
