/- Package valid: what an answer of no error says. No program is met here. -/
import Derived.Test.YtpdcabfabghbkaaVTc
import Derived.Test.YtpdcabfabghbkaaVCt
namespace Go.Proofs.Ytpdcabfabghbkaa
open Go.RowKit
set_option linter.unusedVariables false
set_option linter.unusedSimpArgs false
set_option maxRecDepth 10000
namespace V
open S
theorem zbf {f:Nat→Eq2} :∀(m k:Nat),fE f k m=none→∀ j,k≤j→j<k+m→f j=none
 |0,k,_,j,h1,h2=>by omega
 |m+1,k,h,j,h1,h2=>by
  unfold fE at h
  cases hf:f k with
  |some e=>rw[hf]at h;cases h
  |none=>
   rw[hf]at h;by_cases hj:j=k
   ·rw[hj];exact hf
   ·exact zbf m (k+1) h j (by omega) (by omega)
def Nz (x:Eq2):Prop:=∀ e,x=some e→e.1≠0
theorem zaX:Nz none:=fun e h=>by cases h
theorem zap {c p:Int} (h:c≠0):Nz (some (c,p)):=fun e he=>by cases he;exact h
theorem zaO {p:Prop} [Decidable p] {a b:Eq2} (ha:Nz a) (hb:Nz b):Nz (if p then a else b):=by split;exact ha;exact hb
theorem zbQ {f:Nat→Eq2} (hf:∀ j,Nz (f j)):∀(m k:Nat),Nz (fE f k m)
 |0,k=>zaX
 |m+1,k=>by
  unfold fE
  cases h:f k with
  |some e=>have h9:=hf k;rw[h]at h9;exact h9
  |none=>exact zbQ hf m (k+1)
theorem zdF:∀(l:List Eq2),ors l=none→∀ x∈l,x=none
 | [],_,x,hx=>by cases hx
 |none :: l,h,x,hx=>by
  rcases List.mem_cons.1 hx with rfl|hx
  ·rfl
  ·exact zdF l h x hx
 |some y :: l,h,x,hx=>by cases h
theorem zf5:∀(l:List Eq2),(∀ x∈l,Nz x)→Nz (ors l)
 | [],_=>zaX
 |none :: l,h=>zf5 l (fun x hx=>h x (List.mem_cons_of_mem _ hx))
 |some y :: l,h=>h (some y) (by simp)
theorem ze9:∀(l:List (Bool×Int)),(∀ x∈l,x.2≠0)→∀ c,fst l=some c→c≠0
 | [],_,c,h=>by cases h
 |(b,d) :: l,hl,c,h=>by
  unfold fst at h
  split at h
  ·injection h with h;subst h;exact hl (b,d) (by simp)
  ·exact ze9 l (fun x hx=>hl x (List.mem_cons_of_mem _ hx)) c h
theorem zkR (n1 n2 n3 n4 n5:Nat) (p:Int):Nz ((cnE n1 n2 n3 n4 n5).map (fun c=>(c,p))):=by
 intro e he
 cases h:cnE n1 n2 n3 n4 n5 with
 |none=>rw[h]at he;cases he
 |some c=>
  rw[h]at he;cases he
  exact ze9 _ (by intro x hx;simp at hx;rcases hx with rfl|rfl|rfl<;>simp) c h
theorem zf6 {M:List (List UInt8×Int)} {T:Nat→List UInt8} {c:Int} {P:Nat→Int} (hc:c≠0) (k:Nat):Nz (ltF M T c P k):=zaO zaX (zap hc)
theorem zkS (L:List (List D)):Nz (hdE L):=zbQ (fun j=>zaO (zap (by decide)) (zaO zaX (zap (by decide)))) _ _
theorem zkT (L:List (List D)) (MH:List (List UInt8×Int)):Nz (phE L MH):=zbQ (fun j=>by
 unfold phF
 refine zaO (zap (by decide)) ?_;have hi:Nz (fE (phI (ln L 1) (sb L 1) MH (iv L 2) j) 0 (ln L 1 j)):=zbQ (fun k=>zaO (zaO (zap (by decide)) zaX) (zap (by decide))) _ _;cases h:fE (phI (ln L 1) (sb L 1) MH (iv L 2) j) 0 (ln L 1 j)with
 |some e=>rw[h]at hi;exact hi
 |none=>exact zaO (zap (by decide)) zaX) _ _
theorem zkU (L:List (List D)) (MP:List (List UInt8×Int)):Nz (wkE L MP):=zbQ (fun j=>zaO (zap (by decide)) (zaO (zaO (zaO (zaO zaX (zap (by decide))) (zap (by decide))) (zap (by decide))) (zap (by decide)))) _ _
theorem zkV (L:List (List D)) (MP:List (List UInt8×Int)) (p:Int):Nz (grE L MP p):=zbQ (fun j=>zaO (zap (by decide)) (zbQ (fun k=>zaO (zap (by decide)) (zbQ (fun m=>zaO (zaO (zap (by decide)) zaX) (zap (by decide))) _ _)) _ _)) _ _
theorem zkW (L:List (List D)) (M:List (List UInt8×Int)):Nz (foE L M):=zbQ (fun j=>zaO (zaO (zaO (zap (by decide)) zaX) (zap (by decide))) (zap (by decide))) _ _
theorem zih (ds:List D):Nz (zeE ds):=zf5 _ (by
 intro x hx
 simp only[List.mem_cons,List.not_mem_nil,or_false]at hx;rcases hx with rfl|rfl|rfl|rfl|rfl|rfl|rfl|rfl
 ·exact zkR _ _ _ _ _ _
 ·exact zkS _
 ·exact zkT _ _
 ·exact zbQ (fun j=>zf6 (by decide) j) _ _
 ·exact zkU _ _
 ·exact zkV _ _ _
 ·exact zbQ (fun j=>zf6 (by decide) j) _ _
 ·exact zkW _ _)
theorem zkX (LN:List (List D)):Nz (nsE LN):=zbQ (fun j=>zaO (zap (by decide)) (zih _)) _ _
theorem zkY (LN LS:List (List D)):Nz (stE LN LS):=zbQ (fun j=>by
 unfold stF
 exact zaO (zaO (zap (by decide)) (zaO (zap (by decide)) (zaO (zap (by decide)) (zaO (zaO (zaO (zaO (zaO zaX (zap (by decide))) (zap (by decide))) zaX) (zap (by decide))) (zap (by decide)))))) (zap (by decide))) _ _
theorem zj2 {a0 a1 a2 a3 a4:Int} {LN LS:List (List D)} {a5 a6:Int} (h:(zfz a0 a1 a2 a3 a4 LN LS a5 a6).1=0):whE a0 a1 a2 a3 a4 LN.length LS.length a5 a6=none∧nsE LN=none∧stE LN LS=none:=by
 unfold zfz at h
 cases h0:whE a0 a1 a2 a3 a4 LN.length LS.length a5 a6 with
 |some c=>
  rw[h0]at h;exact absurd h (ze9 _ (by intro x hx;simp at hx;rcases hx with rfl|rfl|rfl|rfl|rfl<;>simp) c h0)
 |none=>
  rw[h0]at h;cases h1:nsE LN with
  |some x=>rw[h1]at h;exact absurd h (zkX LN x h1)
  |none=>
   rw[h1]at h;cases h2:stE LN LS with
   |some x=>rw[h2]at h;exact absurd h (zkY LN LS x h2)
   |none=>exact⟨rfl,rfl,rfl⟩
theorem zj3 {a0 a1 a2 a3 a4:Int} {LN LS:List (List D)} {a5 a6:Int} (h0:whE a0 a1 a2 a3 a4 LN.length LS.length a5 a6=none) (h1:nsE LN=none) (h2:stE LN LS=none):zfz a0 a1 a2 a3 a4 LN LS a5 a6=(0,0):=by
 unfold zfz
 rw[h0,h1,h2]
theorem zii {LN:List (List D)} (h:nsE LN=none) (k:Nat) (hk:k<LN.length):zeE (LN.getD k [])=none:=by
 have:=zbf _ _ h k (Nat.zero_le _) (by omega);unfold nsF at this
 split at this
 ·cases this
 ·exact this
theorem zbR {L1 L2 L3 L4 L5:List (List D)} {p:Int} (h:zdg L1 L2 L3 L4 L5 p=none):
  cnE L1.length L2.length L3.length L4.length L5.length=none∧hdE L1=none∧phE L3 (mk (tn L1) L1.length)=none∧fE (ltF (hmL (ln L3 1) (sb L3 1) L3.length) (tn L1) 73 (iv L1 10)) 0 L1.length=none∧
  wkE L2 (mk (tn L3) L3.length)=none∧grE L4 (mk (tn L3) L3.length) p=none∧fE (ltF (rgG (ln L4 0) (gN L4) (gH L4) L4.length) (tn L3) 74 (iv L3 2)) 0 L3.length=none∧foE L5 (hmL (ln L3 1) (sb L3 1) L3.length)=none:=by
 have:=zdF _ h;refine⟨?_,this _ (by simp),this _ (by simp),this _ (by simp),this _ (by simp),this _ (by simp),this _ (by simp),this _ (by simp)⟩;have h0:=this ((cnE L1.length L2.length L3.length L4.length L5.length).map (fun c=>(c,p))) (by simp);cases hc:cnE L1.length L2.length L3.length L4.length L5.length with
 |none=>rfl
 |some c=>rw[hc]at h0;cases h0
end V
namespace V
open S
theorem zcO (H:Nat→List UInt8) (nm:List UInt8):∀ n,cq (fun o=>H o==nm) n=((List.range n).map H).count nm
 |0=>rfl
 |n+1=>by
  rw[List.range_succ,List.map_append,List.count_append,← zcO H nm n];show _+(if(H n==nm)then 1 else 0)=_;rw[List.map_cons,List.map_nil,List.count_singleton]
theorem zij (H:Nat→Nat→List UInt8) (i k:Nat):(inn H i k).map Prod.fst=(List.range k).map (H i):=by simp[inn,List.map_map,Function.comp_def]
theorem zdG (N:Nat→Nat) (H:Nat→Nat→List UInt8) (nm:List UInt8):∀ M,sm (fun m=>cq (fun o=>H m o==nm) (N m)) M=((hmL N H M).map Prod.fst).count nm
 |0=>rfl
 |M+1=>by
  show sm _ M+_=_;rw[zdG N H nm M,hmL,List.map_append,List.count_append,zij,← zcO]
theorem zc3 {M:List (List UInt8×Int)} {s:List UInt8} (n:Int) (h:(M.map Prod.fst).Nodup) (h2:hs M s=false):((M++ [(s,n)]).map Prod.fst).Nodup:=by
 rw[List.map_append,List.map_cons,List.map_nil];refine List.nodup_append.2 ⟨h,by simp,fun a ha b hb=>?_⟩;have:b=s:=by simpa using hb
 subst this;rintro rfl;rw[zcx.2 ha]at h2;cases h2
theorem zc4 {M:List (List UInt8×Int)} {H:Nat→Nat→List UInt8} {i:Nat} (h:(M.map Prod.fst).Nodup):∀ k,(∀ o,o<k→hs (M++inn H i o) (H i o)=false)→((M++inn H i k).map Prod.fst).Nodup
 |0,_=>by simpa [inn]using h
 |k+1,ho=>by
  rw[zcG,← List.append_assoc];exact zc3 _ (zc4 h k (fun o hk=>ho o (by omega))) (ho k (by omega))
theorem zdH {N:Nat→Nat} {H:Nat→Nat→List UInt8} :∀ M,(∀ m,m<M→∀ o,o<N m→hs (hmL N H m++inn H m o) (H m o)=false)→((hmL N H M).map Prod.fst).Nodup
 |0,_=>by simp[hmL]
 |M+1,h=>by
  rw[hmL];exact zc4 (zdH M (fun m hm=>h m (by omega))) _ (h M (by omega))
theorem zfM {L:List (List D)} {MH:List (List UInt8×Int)} (h:phE L MH=none):∀ m,m<L.length→∀ o,o<ln L 1 m→hs (hmL (ln L 1) (sb L 1) m++inn (sb L 1) m o) (sb L 1 m o)=false:=by
 intro m hm o ho
 have h1:=zbf _ _ h m (Nat.zero_le _) (by omega);unfold phF at h1
 split at h1
 ·cases h1
 ·cases h2:fE (phI (ln L 1) (sb L 1) MH (iv L 2) m) 0 (ln L 1 m)with
  |some e=>rw[h2]at h1;cases h1
  |none=>
   have h3:=zbf _ _ h2 o (Nat.zero_le _) (by omega);unfold phI at h3
   split at h3
   ·cases hb:hs (hmL (ln L 1) (sb L 1) m++inn (sb L 1) m o) (sb L 1 m o)with
    |false=>rfl
    |true=>rw[if_pos hb]at h3;cases h3
   ·cases h3
theorem zf7 {M:List (List UInt8×Int)} {T:Nat→List UInt8} {c:Int} {P:Nat→Int} {n:Nat} (h:fE (ltF M T c P) 0 n=none) (k:Nat) (hk:k<n):hs M (T k)=true:=by
 have h1:=zbf _ _ h k (Nat.zero_le _) (by omega);unfold ltF at h1
 split at h1
 ·assumption
 ·cases h1
theorem zfa {L1 L2 L3 L4 L5:List (List D)} {p:Int} (h:zdg L1 L2 L3 L4 L5 p=none) (k:Nat) (hk:k<L1.length):sm (fun m=>cq (fun o=>sb L3 1 m o==tn L1 k) (ln L3 1 m)) L3.length=1:=by
 obtain⟨h0,h1,h2,h3,h4,h5,h6,h7⟩:=zbR h;rw[zdG,List.Nodup.count (zdH _ (zfM h2)),if_pos (zcx.1 (zf7 h3 k hk))]
theorem zfN (H:Nat→Nat→Nat→List UInt8) (i j k:Nat):(zb3 H i j k).map Prod.fst=(List.range k).map (H i j):=by simp[zb3,List.map_map,Function.comp_def]
theorem zdI (N:Nat→Nat→Nat) (H:Nat→Nat→Nat→List UInt8) (nm:List UInt8) (i:Nat):∀ J,sm (fun j=>cq (fun m=>H i j m==nm) (N i j)) J=((rgR N H i J).map Prod.fst).count nm
 |0=>rfl
 |J+1=>by
  show sm _ J+_=_;rw[zdI N H nm i J,rgR,List.map_append,List.count_append,zfN,← zcO]
theorem zdJ (NR:Nat→Nat) (N:Nat→Nat→Nat) (H:Nat→Nat→Nat→List UInt8) (nm:List UInt8):∀ n,zir NR N H nm n=((rgG NR N H n).map Prod.fst).count nm
 |0=>rfl
 |n+1=>by
  show sm _ n+_=_;have:=zdJ NR N H nm n;unfold zir at this
  rw[this,rgG,List.map_append,List.count_append,← zdI]
theorem zcA {M:List (List UInt8×Int)} {H:Nat→Nat→Nat→List UInt8} {i j:Nat} (h:(M.map Prod.fst).Nodup):∀ k,(∀ o,o<k→hs (M++zb3 H i j o) (H i j o)=false)→((M++zb3 H i j k).map Prod.fst).Nodup
 |0,_=>by simpa [zb3]using h
 |k+1,ho=>by
  rw[zcl,← List.append_assoc];exact zc3 _ (zcA h k (fun o hk=>ho o (by omega))) (ho k (by omega))
theorem zdK {M:List (List UInt8×Int)} {N:Nat→Nat→Nat} {H:Nat→Nat→Nat→List UInt8} {i:Nat} (h:(M.map Prod.fst).Nodup):∀ J,(∀ j,j<J→∀ m,m<N i j→hs (M++rgR N H i j++zb3 H i j m) (H i j m)=false)→((M++rgR N H i J).map Prod.fst).Nodup
 |0,_=>by simpa [rgR]using h
 |J+1,hj=>by
  rw[rgR,← List.append_assoc];exact zcA (zdK h J (fun j hh=>hj j (by omega))) _ (hj J (by omega))
theorem zdL {NR:Nat→Nat} {N:Nat→Nat→Nat} {H:Nat→Nat→Nat→List UInt8} :∀ n,(∀ i,i<n→∀ j,j<NR i→∀ m,m<N i j→hs (rgG NR N H i++rgR N H i j++zb3 H i j m) (H i j m)=false)→((rgG NR N H n).map Prod.fst).Nodup
 |0,_=>by simp[rgG]
 |n+1,h=>by
  rw[rgG];exact zdK (zdL n (fun i hi=>h i (by omega))) _ (h n (by omega))
theorem zfO {L:List (List D)} {MP:List (List UInt8×Int)} {p:Int} (h:grE L MP p=none):∀ i,i<L.length→∀ j,j<ln L 0 i→∀ m,m<gN L i j→hs (rgG (ln L 0) (gN L) (gH L) i++rgR (gN L) (gH L) i j++zb3 (gH L) i j m) (gH L i j m)=false:=by
 intro i hi j hj m hm
 have h1:=zbf _ _ h i (Nat.zero_le _) (by omega);unfold grF at h1
 split at h1
 ·cases h1
 ·have h2:=zbf _ _ h1 j (Nat.zero_le _) (by omega);unfold grR at h2
  split at h2
  ·cases h2
  ·have h3:=zbf _ _ h2 m (Nat.zero_le _) (by omega);unfold grM at h3
   split at h3
   ·cases hb:hs (rgG (ln L 0) (gN L) (gH L) i++rgR (gN L) (gH L) i j++zb3 (gH L) i j m) (gH L i j m)with
    |false=>rfl
    |true=>rw[if_pos hb]at h3;cases h3
   ·cases h3
theorem zfb {L1 L2 L3 L4 L5:List (List D)} {p:Int} (h:zdg L1 L2 L3 L4 L5 p=none) (m:Nat) (hm:m<L3.length):zir (ln L4 0) (gN L4) (gH L4) (tn L3 m) L4.length=1:=by
 obtain⟨h0,h1,h2,h3,h4,h5,h6,h7⟩:=zbR h;rw[zdJ,List.Nodup.count (zdL _ (zfO h5)),if_pos (zcx.1 (zf7 h6 m hm))]
theorem zcn {B:Nat→Bool} :∀(m k:Nat),0≤ix B k m↔∃ j,k≤j∧j<k+m∧B j=true
 |0,k=>by
  constructor
  ·intro h;simp[ix]at h
  ·rintro⟨j,h1,h2,_⟩;omega
 |m+1,k=>by
  unfold ix
  by_cases hb:B k=true
  ·rw[if_pos hb];exact⟨fun _=>⟨k,by omega,by omega,hb⟩,fun _=>by omega⟩
  ·rw[if_neg hb,zcn m (k+1)];constructor
   ·rintro⟨j,h1,h2,h3⟩;exact⟨j,by omega,by omega,h3⟩
   ·rintro⟨j,h1,h2,h3⟩;refine⟨j,?_,by omega,h3⟩;rcases Nat.eq_or_lt_of_le h1 with e|e
    ·rw[← e]at h3;exact absurd h3 hb
    ·omega
theorem zfc {B:Nat→Bool} :∀(m k:Nat),ix B k (m+1)=if 0≤ix B k m then ix B k m else if B (k+m)then((k+m:Nat):Int)else -1
 |0,k=>by simp[ix]
 |m+1,k=>by
  rw[show ix B k (m+1+1)=if B k then(k:Int)else ix B (k+1) (m+1)from rfl,show ix B k (m+1)=if B k then(k:Int)else ix B (k+1) m from rfl];by_cases hb:B k=true
  ·simp[hb]
  ·rw[if_neg hb,if_neg hb,zfc m (k+1),show k+1+m=k+(m+1) by omega]
theorem zj4 (A B:List (List UInt8×Int)) (s:List UInt8):hs (A++B) s=(hs A s || hs B s):=by simp[hs]
theorem zj5 (A B:List (List UInt8×Int)) (s:List UInt8):lk (A++B) s=if hs A s then lk A s else lk B s:=by
 unfold lk
 rw[List.find?_append];by_cases h:hs A s=true
 ·rw[if_pos h];have:(A.find? (fun p=>p.1==s)).isSome=true:=by
   rw[List.find?_isSome];obtain⟨p,hp,he⟩:=List.any_eq_true.1 h;exact⟨p,hp,he⟩
  obtain⟨p,hp⟩:=Option.isSome_iff_exists.1 this;rw[hp];rfl
 ·rw[if_neg h];have:A.find? (fun p=>p.1==s)=none:=by
   rw[List.find?_eq_none];intro p hp he
   exact h (List.any_eq_true.2 ⟨p,hp,he⟩)
  rw[this];rfl
theorem zj6 {H:Nat→Nat→List UInt8} {i k:Nat} {s:List UInt8} (h:hs (inn H i k) s=true):lk (inn H i k) s=(i:Int):=by
 unfold lk
 have:((inn H i k).find? (fun p=>p.1==s)).isSome=true:=by
  rw[List.find?_isSome];obtain⟨p,hp,he⟩:=List.any_eq_true.1 h;exact⟨p,hp,he⟩
 obtain⟨p,hp⟩:=Option.isSome_iff_exists.1 this;rw[hp];have hm:=List.mem_of_find?_eq_some hp;simp only[inn,List.mem_map]at hm;obtain⟨j,_,rfl⟩:=hm
 rfl
theorem zdm {N:Nat→Nat} {H:Nat→Nat→List UInt8} {B:Nat→Bool} {s:List UInt8} (hB:∀ m,B m=hs (inn H m (N m)) s):∀ M,(hs (hmL N H M) s=true↔0≤ix B 0 M)∧(hs (hmL N H M) s=true→lk (hmL N H M) s=ix B 0 M)
 |0=>by simp[hmL,hs,ix]
 |M+1=>by
  obtain⟨h1,h2⟩:=zdm hB M;rw[hmL,zj4,zj5,zfc,Nat.zero_add];by_cases h:hs (hmL N H M) s=true
  ·have h0:=h1.1 h;rw[h,if_pos h0,if_pos rfl,h2 h];exact⟨by simpa using h0,fun _=>rfl⟩
  ·have h0:¬0≤ix B 0 M:=fun k=>h (h1.2 k)
   have hf:hs (hmL N H M) s=false:=by simpa using h
   rw[hf,if_neg h0,hB M,Bool.false_or];simp only[Bool.false_eq_true,if_false];by_cases h3:hs (inn H M (N M)) s=true
   ·rw[if_pos h3];exact⟨by simp[h3],fun _=>zj6 h3⟩
   ·rw[if_neg h3];exact⟨⟨fun k=>absurd k h3,fun k=>by omega⟩,fun k=>absurd k h3⟩
theorem zf8 (L:List (List D)) (m:Nat) (s:List UInt8):cI (sub L 1 m) s=hs (inn (sb L 1) m (ln L 1 m)) s:=by
 unfold cI
 cases hb:hs (inn (sb L 1) m (ln L 1 m)) s with
 |true=>
  rw[decide_eq_true_eq,zcn];obtain⟨p,hp,he⟩:=List.any_eq_true.1 hb;simp only[inn,List.mem_map,List.mem_range]at hp;obtain⟨j,hj,rfl⟩:=hp;have e:sb L 1 m j=s:=by simpa using he
  exact⟨j,Nat.zero_le _,by unfold ln at hj;omega,by rw[← e];simp[sb]⟩
 |false=>
  rw[decide_eq_false_iff_not,zcn];rintro⟨j,h1,h2,h3⟩;have e:s=tn (sub L 1 m) j:=by simpa using h3
  have:hs (inn (sb L 1) m (ln L 1 m)) s=true:=by
   refine List.any_eq_true.2 ⟨(sb L 1 m j,(m:Int)),?_,by simp[sb,← e]⟩;simp only[inn,List.mem_map,List.mem_range];exact⟨j,by unfold ln;omega,rfl⟩
  rw[this]at hb;cases hb
theorem zfP {L1 L2 L3 L4 L5:List (List D)} {p:Int} (h:zdg L1 L2 L3 L4 L5 p=none) (f:Nat) (hf:f<L5.length):(hI L3 (tn L5 f)==hI L3 (un L5 f))=false∧decide (hI L3 (tn L5 f)<0)=false:=by
 obtain⟨h0,h1,h2,h3,h4,h5,h6,h7⟩:=zbR h;have h8:=zbf _ _ h7 f (Nat.zero_le _) (by omega);unfold foF at h8
 split at h8
 ·rename_i a1
  split at h8
  ·rename_i a2
   split at h8
   ·cases h8
   ·rename_i a3
    have r1:=zdm (N:=ln L3 1) (H:=sb L3 1) (B:=fun k=>cI (sub L3 1 k) (tn L5 f)) (s:=tn L5 f) (fun m=>zf8 L3 m _) L3.length;have r2:=zdm (N:=ln L3 1) (H:=sb L3 1) (B:=fun k=>cI (sub L3 1 k) (un L5 f)) (s:=un L5 f) (fun m=>zf8 L3 m _) L3.length;have e1:=r1.2 a1;have e2:=r2.2 a2;rw[e1,e2]at a3;have g1:=r1.1.1 a1;unfold hI
    exact⟨by simpa using a3,by simp;omega⟩
  ·cases h8
 ·cases h8
end V
end Go.Proofs.Ytpdcabfabghbkaa
