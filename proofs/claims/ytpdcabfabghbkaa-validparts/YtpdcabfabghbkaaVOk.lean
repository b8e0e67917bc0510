/- Package valid: what an answer of no error says. No program is met here. -/
import Derived.Test.YtpdcabfabghbkaaVTc
namespace Go.Proofs.Ytpdcabfabghbkaa
open Go.RowKit
set_option linter.unusedVariables false
set_option linter.unusedSimpArgs false
set_option maxRecDepth 10000
namespace V
open S
theorem zeQ {f:Nat→Eq2} :∀(m k:Nat),fE f k m=none→∀ j,k≤j→j<k+m→f j=none
 |0,k,_,j,h1,h2=>by omega
 |m+1,k,h,j,h1,h2=>by
  unfold fE at h
  cases hf:f k with
  |some e=>rw[hf]at h;cases h
  |none=>
   rw[hf]at h;by_cases hj:j=k
   ·rw[hj];exact hf
   ·exact zeQ m (k+1) h j (by omega) (by omega)
theorem zjL {f:Nat→Eq2} :∀(m k:Nat),(∀ j,k≤j→j<k+m→f j=none)→fE f k m=none
 |0,k,_=>rfl
 |m+1,k,h=>by
  unfold fE
  rw[h k (by omega) (by omega)];exact zjL m (k+1) (fun j h1 h2=>h j (by omega) (by omega))
def Nz (x:Eq2):Prop:=∀ e,x=some e→e.1≠0
theorem zaX:Nz none:=fun e h=>by cases h
theorem zap {c p:Int} (h:c≠0):Nz (some (c,p)):=fun e he=>by cases he;exact h
theorem zaP {p:Prop} [Decidable p] {a b:Eq2} (ha:Nz a) (hb:Nz b):Nz (if p then a else b):=by split;exact ha;exact hb
theorem zbN {f:Nat→Eq2} (hf:∀ j,Nz (f j)):∀(m k:Nat),Nz (fE f k m)
 |0,k=>zaX
 |m+1,k=>by
  unfold fE
  cases h:f k with
  |some e=>have h9:=hf k;rw[h]at h9;exact h9
  |none=>exact zbN hf m (k+1)
theorem zds:∀(l:List Eq2),ors l=none→∀ x∈l,x=none
 | [],_,x,hx=>by cases hx
 |none :: l,h,x,hx=>by
  rcases List.mem_cons.1 hx with rfl|hx
  ·rfl
  ·exact zds l h x hx
 |some y :: l,h,x,hx=>by cases h
theorem zfO:∀(l:List Eq2),(∀ x∈l,x=none)→ors l=none
 | [],_=>rfl
 |none :: l,h=>zfO l (fun x hx=>h x (List.mem_cons_of_mem _ hx))
 |some y :: l,h=>by have:=h (some y) (by simp);cases this
theorem zfP:∀(l:List Eq2),(∀ x∈l,Nz x)→Nz (ors l)
 | [],_=>zaX
 |none :: l,h=>zfP l (fun x hx=>h x (List.mem_cons_of_mem _ hx))
 |some y :: l,h=>h (some y) (by simp)
theorem zeR:∀(l:List (Bool×Int)),(∀ x∈l,x.2≠0)→∀ c,fst l=some c→c≠0
 | [],_,c,h=>by cases h
 |(b,d) :: l,hl,c,h=>by
  unfold fst at h
  split at h
  ·injection h with h;subst h;exact hl (b,d) (by simp)
  ·exact zeR l (fun x hx=>hl x (List.mem_cons_of_mem _ hx)) c h
theorem zkw (n1 n2 n3 n4 n5:Nat) (p:Int):Nz ((cnE n1 n2 n3 n4 n5).map (fun c=>(c,p))):=by
 intro e he
 cases h:cnE n1 n2 n3 n4 n5 with
 |none=>rw[h]at he;cases he
 |some c=>
  rw[h]at he;cases he
  exact zeR _ (by intro x hx;simp at hx;rcases hx with rfl|rfl|rfl<;>simp) c h
theorem zfQ {M:List (List UInt8×Int)} {T:Nat→List UInt8} {c:Int} {P:Nat→Int} (hc:c≠0) (k:Nat):Nz (ltF M T c P k):=zaP zaX (zap hc)
theorem zkx (L:List (List D)):Nz (hdE L):=zbN (fun j=>zaP (zap (by decide)) (zaP zaX (zap (by decide)))) _ _
theorem zky (L:List (List D)) (MH:List (List UInt8×Int)):Nz (phE L MH):=zbN (fun j=>by
 unfold phF
 refine zaP (zap (by decide)) ?_;have hi:Nz (fE (phI (ln L 1) (sb L 1) MH (iv L 2) j) 0 (ln L 1 j)):=zbN (fun k=>zaP (zaP (zap (by decide)) zaX) (zap (by decide))) _ _;cases h:fE (phI (ln L 1) (sb L 1) MH (iv L 2) j) 0 (ln L 1 j)with
 |some e=>rw[h]at hi;exact hi
 |none=>exact zaP (zap (by decide)) zaX) _ _
theorem zkz (L:List (List D)) (MP:List (List UInt8×Int)):Nz (wkE L MP):=zbN (fun j=>zaP (zap (by decide)) (zaP (zaP (zaP (zaP zaX (zap (by decide))) (zap (by decide))) (zap (by decide))) (zap (by decide)))) _ _
theorem zkA (L:List (List D)) (MP:List (List UInt8×Int)) (p:Int):Nz (grE L MP p):=zbN (fun j=>zaP (zap (by decide)) (zbN (fun k=>zaP (zap (by decide)) (zbN (fun m=>zaP (zaP (zap (by decide)) zaX) (zap (by decide))) _ _)) _ _)) _ _
theorem zkB (L:List (List D)) (M:List (List UInt8×Int)):Nz (foE L M):=zbN (fun j=>zaP (zaP (zaP (zap (by decide)) zaX) (zap (by decide))) (zap (by decide))) _ _
theorem zh1 (ds:List D):Nz (zcy ds):=zfP _ (by
 intro x hx
 simp only[List.mem_cons,List.not_mem_nil,or_false]at hx;rcases hx with rfl|rfl|rfl|rfl|rfl|rfl|rfl|rfl
 ·exact zkw _ _ _ _ _ _
 ·exact zkx _
 ·exact zky _ _
 ·exact zbN (fun j=>zfQ (by decide) j) _ _
 ·exact zkz _ _
 ·exact zkA _ _ _
 ·exact zbN (fun j=>zfQ (by decide) j) _ _
 ·exact zkB _ _)
theorem zkC (LN:List (List D)):Nz (nsE LN):=zbN (fun j=>zaP (zap (by decide)) (zh1 _)) _ _
theorem zkD (LN LS:List (List D)):Nz (stE LN LS):=zbN (fun j=>by
 unfold stF
 exact zaP (zaP (zap (by decide)) (zaP (zap (by decide)) (zaP (zap (by decide)) (zaP (zaP (zaP (zaP (zaP zaX (zap (by decide))) (zap (by decide))) zaX) (zap (by decide))) (zap (by decide)))))) (zap (by decide))) _ _
theorem zfR {a0 a1 a2 a3 a4:Int} {LN LS:List (List D)} {a5 a6:Int} (h:(zfh a0 a1 a2 a3 a4 LN LS a5 a6).1=0):whE a0 a1 a2 a3 a4 LN.length LS.length a5 a6=none∧nsE LN=none∧stE LN LS=none:=by
 unfold zfh at h
 cases h0:whE a0 a1 a2 a3 a4 LN.length LS.length a5 a6 with
 |some c=>
  rw[h0]at h;exact absurd h (zeR _ (by intro x hx;simp at hx;rcases hx with rfl|rfl|rfl|rfl|rfl<;>simp) c h0)
 |none=>
  rw[h0]at h;cases h1:nsE LN with
  |some x=>rw[h1]at h;exact absurd h (zkC LN x h1)
  |none=>
   rw[h1]at h;cases h2:stE LN LS with
   |some x=>rw[h2]at h;exact absurd h (zkD LN LS x h2)
   |none=>exact⟨rfl,rfl,rfl⟩
theorem zeS {a0 a1 a2 a3 a4:Int} {LN LS:List (List D)} {a5 a6:Int} (h0:whE a0 a1 a2 a3 a4 LN.length LS.length a5 a6=none) (h1:nsE LN=none) (h2:stE LN LS=none):zfh a0 a1 a2 a3 a4 LN LS a5 a6=(0,0):=by
 unfold zfh
 rw[h0,h1,h2]
theorem zeT {LN:List (List D)} (h:nsE LN=none) (k:Nat) (hk:k<LN.length):zcy (LN.getD k [])=none:=by
 have:=zeQ _ _ h k (Nat.zero_le _) (by omega);unfold nsF at this
 split at this
 ·cases this
 ·exact this
theorem zfu {x:List D} (h:zcy x=none):nsE [x]=none:=by
 refine zjL _ _ (fun j h1 h2=>?_);have:j=0:=by simp at h2;omega
 subst this;unfold nsF
 rw[if_neg (by simp[mk,hs])];exact h
theorem zdt (LN:List (List D)):stE LN []=none:=rfl
theorem zda {a0 a1 a2 a3 a4:Int} {n s n2 s2:Nat} {a5 a6:Int} (h:whE a0 a1 a2 a3 a4 n s a5 a6=none) (hn:n2≤n) (hs:s2≤s) (h1:1≤n2):whE a0 a1 a2 a3 a4 n2 s2 a5 a6=none:=by
 unfold whE at h ⊢
 have g0:(decide ((12:Int)<(n:Int)) || decide ((12:Int)<(s:Int)))=false:=by
  cases hb:(decide ((12:Int)<(n:Int)) || decide ((12:Int)<(s:Int)))with
  |false=>rfl
  |true=>have:=zax h hb;cases this
 have h':=zbj h g0;have g1:(decide ((12:Int)<(n2:Int)) || decide ((12:Int)<(s2:Int)))=false:=by
  simp only[Bool.or_eq_false_iff,decide_eq_false_iff_not]at g0 ⊢;omega
 rw[show fst ((decide ((12:Int)<(n2:Int)) || decide ((12:Int)<(s2:Int)),4) :: [(decide (a0<1) || decide (a1<a0) || decide (6000<a1) || decide (a2<1),70),(!zhB a3 a4,70),(!btw 0 a5 1000000000 || !btw 0 a6 1000000000,70),((n2:Int)==0,73)])=_ from by rw[fst,if_neg (by rw[g1];decide)]]
 revert h'
 simp only[fst];split
 ·exact fun h=>h
 ·split
  ·exact fun h=>h
  ·split
   ·exact fun h=>h
   ·intro _
    rw[if_neg];simp;omega
theorem zdR {L1 L2 L3 L4 L5:List (List D)} {p:Int} (h:zdK L1 L2 L3 L4 L5 p=none):
  cnE L1.length L2.length L3.length L4.length L5.length=none∧hdE L1=none∧phE L3 (mk (tn L1) L1.length)=none∧fE (ltF (hmL (ln L3 1) (sb L3 1) L3.length) (tn L1) 73 (iv L1 10)) 0 L1.length=none∧
  wkE L2 (mk (tn L3) L3.length)=none∧grE L4 (mk (tn L3) L3.length) p=none∧fE (ltF (rgG (ln L4 0) (gN L4) (gH L4) L4.length) (tn L3) 74 (iv L3 2)) 0 L3.length=none∧foE L5 (hmL (ln L3 1) (sb L3 1) L3.length)=none:=by
 have:=zds _ h;refine⟨?_,this _ (by simp),this _ (by simp),this _ (by simp),this _ (by simp),this _ (by simp),this _ (by simp),this _ (by simp)⟩;have h0:=this ((cnE L1.length L2.length L3.length L4.length L5.length).map (fun c=>(c,p))) (by simp);cases hc:cnE L1.length L2.length L3.length L4.length L5.length with
 |none=>rfl
 |some c=>rw[hc]at h0;cases h0
theorem zh2 {n1 n2 n3 n4 n5:Nat} (h:cnE n1 n2 n3 n4 n5=none):cnE n1 0 n3 n4 0=none:=by
 unfold cnE at h ⊢
 have g0:(decide ((16:Int)<(n1:Int)) || decide ((16:Int)<(n3:Int)))=false:=by
  cases hb:(decide ((16:Int)<(n1:Int)) || decide ((16:Int)<(n3:Int)))with
  |false=>rfl
  |true=>have:=zax h hb;cases this
 have h1:=zbj h g0;have g1:(decide ((8:Int)<(n2:Int)) || decide ((4:Int)<(n4:Int)) || decide ((64:Int)<(n5:Int)))=false:=by
  cases hb:(decide ((8:Int)<(n2:Int)) || decide ((4:Int)<(n4:Int)) || decide ((64:Int)<(n5:Int)))with
  |false=>rfl
  |true=>have:=zax h1 hb;cases this
 have h2:=zbj h1 g1;have g2:(decide ((8:Int)<((0:Nat):Int)) || decide ((4:Int)<(n4:Int)) || decide ((64:Int)<((0:Nat):Int)))=false:=by
  simp only[Bool.or_eq_false_iff,decide_eq_false_iff_not]at g1 ⊢;omega
 simp only[fst]at h2 ⊢;rw[if_neg (by rw[g0];decide),if_neg (by rw[g2];decide)];exact h2
theorem zeU {L1 L2 L3 L4 L5:List (List D)} {p:Int} (h:zdK L1 L2 L3 L4 L5 p=none):zdK L1 [] L3 L4 [] p=none:=by
 obtain⟨h0,h1,h2,h3,h4,h5,h6,h7⟩:=zdR h;refine zfO _ (fun x hx=>?_);simp only[List.mem_cons,List.not_mem_nil,or_false]at hx;rcases hx with rfl|rfl|rfl|rfl|rfl|rfl|rfl|rfl
 ·rw[List.length_nil,zh2 h0];rfl
 ·exact h1
 ·exact h2
 ·exact h3
 ·rfl
 ·exact h5
 ·exact h6
 ·rfl
end V
end Go.Proofs.Ytpdcabfabghbkaa
