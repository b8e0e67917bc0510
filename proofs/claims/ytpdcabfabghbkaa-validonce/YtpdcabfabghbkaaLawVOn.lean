/- Proved: in every network that may be (greater networks than the law's Few lets in are let by) each head is in one phase, each phase stands once in the rings, and foes are never of one phase. -/
import Derived.Test.YtpdcabfabghbkaaRows
import Derived.Test.YtpdcabfabghbkaaLOnA
import Derived.Test.YtpdcabfabghbkaaVOn
import Derived.WalkKit
import Derived.ProofKit
import Derived.OpenShut
import Derived.ShutString
import Derived.ChangeOld
import Derived.ChangeMaps5
import Derived.Below
namespace Go.Proofs.Ytpdcabfabghbkaa.onc
open Go.ChangeShapes Go.WideShapes Go.ChangeAt Go.RowKit Go.Joins
open Go.WideMaps Go.WideElems
open Go.ChangeMaps (open_string)
set_option linter.unusedVariables false
set_option linter.unusedSimpArgs false
set_option maxRecDepth 10000
open S V
theorem zkf {w:World} {ds:List D} {us:List Value} (hs:ShL zdT ds) (hr:Rvs w ds us):Calls Try.prog 5 #[.agg us.toArray] w fun e w'=>e= .returned (.bool true)∧Below w.heap.size w w':=by
 have TF:∀ w',Keep w w'→Calls Try.prog 7 #[.agg us.toArray] w' (Ak w'):=fun w' k=>zie hs (Rvs.keep k _ _ hr)
 have TC:∀ w',Keep w w'→Calls Try.prog 8 #[.agg us.toArray] w' fun e w''=>e= .returned (.tuple #[.int .i64 (zfA ds).1,.int .i64 (zfA ds).2])∧Keep w' w'':=fun w' k=>zbG hs (Rvs.keep k _ _ hr)
 by_cases h0:(zfA ds).1=0
 ·simp only[ShL,Sh1,zdT]at hs;obtain⟨_,_,rfl,⟨a0,rfl,_,_⟩,⟨_,_,rfl,⟨a1,rfl,_,_⟩,⟨_,_,rfl,⟨a2,rfl,_,_⟩,⟨_,_,rfl,⟨a3,rfl,_,_⟩,⟨_,_,rfl,⟨a4,rfl,_,_⟩,⟨_,_,rfl,⟨LN,rfl,bN,qN⟩,⟨_,_,rfl,⟨LS,rfl,bS,qS⟩,⟨_,_,rfl,⟨a5,rfl,_,_⟩,⟨_,_,rfl,⟨a6,rfl,_,_⟩,rfl⟩⟩⟩⟩⟩⟩⟩⟩⟩:=hs;simp only[Rvs,Rv,dS,dI,dB]at hr;obtain⟨_,_,rfl,rfl,⟨_,_,rfl,rfl,⟨_,_,rfl,rfl,⟨_,_,rfl,rfl,⟨_,_,rfl,rfl,⟨_,_,rfl,⟨aN,cN,rfl,yN,mN⟩,⟨_,_,rfl,⟨aS,cS,rfl,yS,mS⟩,⟨_,_,rfl,rfl,⟨_,_,rfl,rfl,rfl⟩⟩⟩⟩⟩⟩⟩⟩⟩:=hr;obtain⟨k0,k1,k2⟩:=zj2 (a0:=a0) (a1:=a1) (a2:=a2) (a3:=a3) (a4:=a4) (LN:=LN) (LS:=LS) (a5:=a5) (a6:=a6) h0;have hc:zfz a0 a1 a2 a3 a4 LN LS a5 a6=(0,0):=zj3 k0 k1 k2;have hc2:∀(w':World),Keep w w'→Calls Try.prog 8 #[.agg #[.int .i64 a0,.int .i64 a1,.int .i64 a2,.int .i64 a3,.int .i64 a4,.slice aN LN.length cN,.slice aS LS.length cS,.int .i64 a5,.int .i64 a6]] w' fun e w''=>e= .returned (.tuple #[.int .i64 0,.int .i64 0])∧Keep w' w'':=fun w' k=>by
   have h:=TC w' k;have e:zfA [dI a0,dI a1,dI a2,dI a3,dI a4,.row 40 7 LN,.row 53 6 LS,dI a5,dI a6]=(0,0):=hc;rw[e]at h;exact h
  have hnd:∀ k,k<LN.length→zdg (V.sub LN 1 k) (V.sub LN 2 k) (V.sub LN 3 k) (V.sub LN 4 k) (V.sub LN 5 k) (fI (gt (LN.getD k []) 6))=none:=fun k hk=>zii k1 k hk
  have hlen:∀ j,j<LN.length→(V.sub LN 1 j).length≤maxLen∧(V.sub LN 3 j).length≤maxLen∧(V.sub LN 4 j).length≤maxLen∧(V.sub LN 5 j).length≤maxLen:=fun j hj=>by
   have hs:=qN _ (zaP hj);unfold V.sub
   generalize LN.getD j []=ds at hs ⊢;simp only[ShL,Sh1,zbh]at hs;obtain⟨_,_,rfl,_,⟨_,_,rfl,⟨L1,rfl,h1,_⟩,⟨_,_,rfl,_,⟨_,_,rfl,⟨L3,rfl,h3,_⟩,⟨_,_,rfl,⟨L4,rfl,h4,_⟩,⟨_,_,rfl,⟨L5,rfl,h5,_⟩,_⟩⟩⟩⟩⟩⟩:=hs;exact⟨h1,h3,h4,h5⟩
  refine ze8 a0 a1 a2 a3 a4 aN LN.length cN aS LS.length cS a5 a6 (V.tn LN) (sA w aN 7 1) (sA w aN 7 2) (sA w aN 7 3) (sA w aN 7 4) (sA w aN 7 5) (sN w aN 7 1) (sC w aN 7 1) (sN w aN 7 2) (sC w aN 7 2) (sN w aN 7 3) (sC w aN 7 3) (sN w aN 7 4) (sC w aN 7 4) (sN w aN 7 5) (sC w aN 7 5) (iv LN 6) (fun k h=>V.tn (V.sub LN 1 k) h) (fun k m=>V.tn (V.sub LN 3 k) m) (fun k m=>sA w (sA w aN 7 3 k) 3 1 m) (fun k m=>V.ln (V.sub LN 3 k) 1 m) (fun k m=>sC w (sA w aN 7 3 k) 3 1 m) (fun k m o=>V.sb (V.sub LN 3 k) 1 m o) (fun k f=>V.tn (V.sub LN 5 k) f) (fun k f=>V.un (V.sub LN 5 k) f) (fun k f=>hI (V.sub LN 3 k) (V.tn (V.sub LN 5 k) f)) (fun k f=>hI (V.sub LN 3 k) (V.un (V.sub LN 5 k) f)) w bN
   (hide fun k hk=>S.clNode (Keep.refl w) qN mN k hk) (hide fun k hk=>?_) (hide fun k hk h hh=>?_) (hide fun k hk m hm=>?_) (hide fun k hk m hm o ho=>?_) (hide fun k hk f hf=>?_) (hide fun k hk h hh=>?_) (hide fun k hk m hm w' kw=>?_) (hide fun k hk f hf w' kw=>?_) (hide fun k hk f hf=>?_) (hide TF) (hide hc2) (hide zf4)
  ·obtain⟨⟨r1,_⟩,_,⟨r3,_,q3,t3⟩,_,⟨r5,_⟩⟩:=zbs qN mN k hk;refine⟨r1▸(hlen k hk).1,r3▸(hlen k hk).2.1,r5▸(hlen k hk).2.2.2,fun m hm=>?_⟩;rw[r3]at hm;exact zdf (w:=w) (a:=aN) t3 m hm
  ·obtain⟨⟨r1,r2,r3,r4⟩,_⟩:=zbs qN mN k hk;rw[r1]at hh;obtain⟨ad,e,hb,c0,_⟩:=S.clHead (Keep.refl w) r4 r3 h hh;exact⟨ad,e,hb,c0⟩
  ·obtain⟨_,_,⟨r1,r2,r3,r4⟩,_⟩:=zbs qN mN k hk;rw[r1]at hm;obtain⟨ad,e,hb,c0,c1,_⟩:=S.clPhase (Keep.refl w) r4 r3 m hm;rw[(zbv r4 r3 m hm).1]at c1;exact⟨ad,e,hb,c0,c1⟩
  ·obtain⟨_,_,⟨r1,r2,r3,r4⟩,_⟩:=zbs qN mN k hk;rw[r1]at hm;obtain⟨t1,t2,t3,t4⟩:=zbv r4 r3 m hm;obtain⟨ad,e,hb,c0,_⟩:=V.clName t4 t3 o ho;exact⟨ad,e,hb,c0⟩
  ·obtain⟨_,_,_,_,⟨r1,r2,r3,r4⟩⟩:=zbs qN mN k hk;rw[r1]at hf;obtain⟨ad,e,hb,c0,c1,_⟩:=S.clFoe (Keep.refl w) r4 r3 f hf;exact⟨ad,e,hb,c0,c1⟩
  ·obtain⟨⟨r1,_⟩,_,⟨r3,_⟩,_⟩:=zbs qN mN k hk;rw[r1]at hh;rw[r3];exact zfa (hnd k hk) h hh
  ·obtain⟨_,_,⟨r3,_⟩,⟨r1,r2,q4,t4⟩,_⟩:=zbs qN mN k hk;rw[r3]at hm;have h1:=zfb (hnd k hk) m hm;have HA:=Rvss.keep kw _ _ _ _ q4;rw[r1];have hq:=zd9 (sv (V.tn LN k)) (sA w aN 7 1 k) (sN w aN 7 1 k) (sC w aN 7 1 k) (sA w aN 7 2 k) (sN w aN 7 2 k) (sC w aN 7 2 k) (sA w aN 7 3 k) (sN w aN 7 3 k) (sC w aN 7 3 k) (sA w aN 7 4 k) (V.sub LN 4 k).length (sC w aN 7 4 k) (sA w aN 7 5 k) (sN w aN 7 5 k) (sC w aN 7 5 k) (iv LN 6 k) (V.tn (V.sub LN 3 k) m)
    (sA w' (sA w aN 7 4 k) 1 0) (V.ln (V.sub LN 4 k) 0) (sC w' (sA w aN 7 4 k) 1 0) (fun i j=>fB (gt ((V.sub (V.sub LN 4 k) 0 i).getD j []) 0)) (fun i j=>sA w' (sA w' (sA w aN 7 4 k) 1 0 i) 2 1 j) (gN (V.sub LN 4 k)) (fun i j=>sC w' (sA w' (sA w aN 7 4 k) 1 0 i) 2 1 j) (gH (V.sub LN 4 k)) w' (hlen k hk).2.2.1
    (hide fun i hi=>⟨zeD t4 i hi,fun j hj=>?_⟩) (hide fun i hi=>?_) (hide fun i hi j hj=>?_) (hide fun i hi j hj m hm=>?_) (hide (by rw[h1];omega))
   ·rw[h1]at hq;exact hq
   ·obtain⟨a1,a2,a3,a4⟩:=zbe t4 HA i hi;exact V.row_len a4 j hj
   ·obtain⟨ad,e,hb,c0⟩:=S.clGroup (Keep.refl w') t4 HA i hi;rw[(zbe t4 HA i hi).1]at c0;exact⟨ad,e,hb,c0⟩
   ·obtain⟨a1,a2,a3,a4⟩:=zbe t4 HA i hi;obtain⟨ad,e,hb,c0,c1⟩:=S.clRow (Keep.refl w') a4 a3 j hj;rw[(zet a4 a3 j hj).1]at c1;exact⟨ad,e,hb,c0,c1⟩
   ·obtain⟨a1,a2,a3,a4⟩:=zbe t4 HA i hi;obtain⟨b1,b2,b3,b4⟩:=zet a4 a3 j hj;exact V.clName b4 b3 m hm
  ·obtain⟨_,_,⟨r1,r2,r3,r4⟩,_⟩:=zbs qN mN k hk;rw[r1];exact⟨zeJ _ r4 (Rvss.keep kw _ _ _ _ r3) (hlen k hk).2.1,zeJ _ r4 (Rvss.keep kw _ _ _ _ r3) (hlen k hk).2.1⟩
  ·obtain⟨_,_,_,_,⟨r1,_⟩⟩:=zbs qN mN k hk;rw[r1]at hf;exact zfP (hnd k hk) f hf
 ·simp only[ShL,Sh1,zdT]at hs;obtain⟨_,_,rfl,⟨a0,rfl,_,_⟩,⟨_,_,rfl,⟨a1,rfl,_,_⟩,⟨_,_,rfl,⟨a2,rfl,_,_⟩,⟨_,_,rfl,⟨a3,rfl,_,_⟩,⟨_,_,rfl,⟨a4,rfl,_,_⟩,⟨_,_,rfl,⟨LN,rfl,bN,qN⟩,⟨_,_,rfl,⟨LS,rfl,bS,qS⟩,⟨_,_,rfl,⟨a5,rfl,_,_⟩,⟨_,_,rfl,⟨a6,rfl,_,_⟩,rfl⟩⟩⟩⟩⟩⟩⟩⟩⟩:=hs;simp only[Rvs,Rv,dS,dI,dB]at hr;obtain⟨_,_,rfl,rfl,⟨_,_,rfl,rfl,⟨_,_,rfl,rfl,⟨_,_,rfl,rfl,⟨_,_,rfl,rfl,⟨_,_,rfl,⟨aN,cN,rfl,yN,mN⟩,⟨_,_,rfl,⟨aS,cS,rfl,yS,mS⟩,⟨_,_,rfl,rfl,⟨_,_,rfl,rfl,rfl⟩⟩⟩⟩⟩⟩⟩⟩⟩:=hr;exact zig a0 a1 a2 a3 a4 aN LN.length cN aS LS.length cS a5 a6 _ _ w h0 (hide TF) (hide TC) (hide zf4)
theorem zik:laidOutB Try.prog=true:=by kernel_rfl
theorem own:ownKnob Try.prog.godebug=none:=by kernel_rfl
set_option maxHeartbeats 400000 in
set_option maxRecDepth 100000 in
theorem zj7 (os:Os) (started:os.Started) (H:Type) (enc:TypeId×Value→H):
  ReturnsInHanded {} Try.checked os 5 .any (Rows.validOnceSpec.pre6 enc Try.prog Try.f5 Rows.validOnceRow.domain false) (Rows.validOnceSpec.post enc Try.prog Try.f5 false true false false):=by
 refine returnsInHanded_of_change (C:=Try.checked) own started (by kernel_rfl) Try.func5
  (ChangeSpec.witness6 (enc:=enc) (C:=Try.checked) false ⟨#[],#[.agg #[.int .i64 0,.int .i64 0,.int .i64 0,.int .i64 0,.int .i64 0,.slice none 0 0,.slice none 0 0,.int .i64 0,.int .i64 0]],[]⟩ 8 (by kernel_rfl) (by kernel_rfl) (by kernel_rfl) (by kernel_rfl)) ?_
 intro W base args ds gs before hval0 hW hcnd _
 have hval:∀(j:Nat) t v,Try.f5.params[j]? =some t→args[j]? =some v→Value.okWide Try.prog W .any base t v:=hval0;have hW':=hW;obtain⟨p,q,hA0,hV,rfl,hfz,hnd⟩:=hW;have hA:DataW.TrodAll enc Try.prog W 0 (fun _=>true) true Try.f5.params.toList args.toList ds p:=hA0;rw[Try.params5]at hA hval;obtain⟨v0,vs0,d0,ds0,p0,q0,hargs,rfl,rfl,h0,r0⟩:=trodAll_cons hA;obtain⟨rfl,rfl,rfl⟩:=trodAll_nil r0;obtain rfl:args=#[v0]:=by cases args;simp_all
 obtain⟨rfl,rfl⟩:=trodVars_none hV;have k0:=h0;have lt0:∀ x∈p0,x.block<W.heap.size:=by obtain⟨m,hm⟩:=k0;exact DataW.trod_lt m _ _ _ hm
 obtain⟨es0,us0,rfl,s0,x0⟩:=zda Try.underlying27 S.net_desc (hval 0 27 v0 rfl rfl) h0;clear h0;clear hA0 hval0;refine(zkf s0 x0).mono fun e W' ⟨he,bel⟩=>?_
 subst he;exact⟨_,rfl,_,_,_,[],_,[],hW',trodAll_mk1 (shut_bool Try.underlying4 _),(trodAll_cons_mk (Below.trod zik (by kernel_rfl) (of_decide_eq_true (by kernel_rfl)) k0 bel lt0) trodAll_mk0),rfl,bel.frame _,fun h=>by cases h⟩
theorem over:Rows.validOnceRow.holds Try.pinned (OpenSpec.ofChange Rows.validOnceSpec):=
 OpenClaim.holds_of_wide 5 Try.f5 rfl rfl rfl rfl rfl rfl rfl ⟨rfl,rfl,rfl,rfl,rfl⟩ rfl rfl rfl rfl rfl (by kernel_rfl) Try.func5 (by kernel_rfl)
  (of_decide_eq_true (by kernel_rfl)) (by unfold Func.isWrapper;first|(rw[if_pos (by decide+kernel)];kernel_rfl)|(rw[if_neg (by decide+kernel)];exact⟨rfl,rfl⟩))
  (fun os started H enc _=>zj7 os started H enc)
end Go.Proofs.Ytpdcabfabghbkaa.onc
namespace Go.Proofs.Ytpdcabfabghbkaa
theorem ValidOnce_holds:Rows.ValidOnceSaid:=onc.over
end Go.Proofs.Ytpdcabfabghbkaa
