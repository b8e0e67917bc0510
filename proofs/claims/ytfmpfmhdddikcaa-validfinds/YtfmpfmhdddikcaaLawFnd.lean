/- Proved: for every network and every name (greater networks than the law's Few lets in, and longer names, are let by): where the name's node, head, phase and home stand by package valid is where they stand by the document. -/
import Derived.Test.YtfmpfmhdddikcaaRows
import Derived.Test.YtfmpfmhdddikcaaLFdA
import Derived.WalkKit
import Derived.ProofKit
import Derived.OpenShut
import Derived.ShutString
import Derived.ChangeOld
import Derived.ChangeMaps5
import Derived.Below
namespace Go.Proofs.Ytfmpfmhdddikcaa.fnd
open Go.ChangeShapes Go.WideShapes Go.ChangeAt Go.RowKit Go.Joins
open Go.WideMaps Go.WideElems
open Go.ChangeMaps (open_string)
set_option linter.unusedVariables false
set_option linter.unusedSimpArgs false
set_option maxRecDepth 10000
open S V
theorem zjO {w:World} {ds:List D} {us:List Value} (hs:ShL zdT ds) (hr:Rvs w ds us) (t:ByteArray) (ht:t.size≤maxLen):Calls Try.prog 4 #[.agg us.toArray,.string t] w fun e w'=>e= .returned (.bool true)∧Below w.heap.size w w':=by
 have TF:∀ w',Keep w w'→Calls Try.prog 7 #[.agg us.toArray] w' (Ak w'):=fun w' k=>zhT hs (Rvs.keep k _ _ hr)
 obtain⟨nm,rfl⟩:∃ nm,t=sv nm:=⟨t.data.toList,(zjg t).symm⟩;simp only[ShL,Sh1,zdT]at hs;obtain⟨_,_,rfl,⟨a0,rfl,_,_⟩,⟨_,_,rfl,⟨a1,rfl,_,_⟩,⟨_,_,rfl,⟨a2,rfl,_,_⟩,⟨_,_,rfl,⟨a3,rfl,_,_⟩,⟨_,_,rfl,⟨a4,rfl,_,_⟩,⟨_,_,rfl,⟨LN,rfl,bN,qN⟩,⟨_,_,rfl,⟨LS,rfl,bS,qS⟩,⟨_,_,rfl,⟨a5,rfl,_,_⟩,⟨_,_,rfl,⟨a6,rfl,_,_⟩,rfl⟩⟩⟩⟩⟩⟩⟩⟩⟩:=hs;simp only[Rvs,Rv,dS,dI,dB]at hr;obtain⟨_,_,rfl,rfl,⟨_,_,rfl,rfl,⟨_,_,rfl,rfl,⟨_,_,rfl,rfl,⟨_,_,rfl,rfl,⟨_,_,rfl,⟨aN,cN,rfl,yN,mN⟩,⟨_,_,rfl,⟨aS,cS,rfl,yS,mS⟩,⟨_,_,rfl,rfl,⟨_,_,rfl,rfl,rfl⟩⟩⟩⟩⟩⟩⟩⟩⟩:=hr;have hlen:∀ j,j<LN.length→(sub LN 1 j).length≤maxLen∧(sub LN 3 j).length≤maxLen:=fun j hj=>by
  have hs:=qN _ (zaN hj);unfold sub
  generalize LN.getD j []=ds at hs ⊢;simp only[ShL,Sh1,zbc]at hs;obtain⟨_,_,rfl,_,⟨_,_,rfl,⟨L1,rfl,h1,_⟩,⟨_,_,rfl,_,⟨_,_,rfl,⟨L3,rfl,h3,_⟩,_⟩⟩⟩⟩:=hs;exact⟨h1,h3⟩
 refine zdR a0 a1 a2 a3 a4 aN LN.length cN aS LS.length cS a5 a6 (sv nm) (V.tn LN) (sA w aN 7 1) (sA w aN 7 2) (sA w aN 7 3) (sA w aN 7 4) (sA w aN 7 5) (sN w aN 7 1) (sC w aN 7 1) (sN w aN 7 2) (sC w aN 7 2) (sN w aN 7 3) (sC w aN 7 3) (sN w aN 7 4) (sC w aN 7 4) (sN w aN 7 5) (sC w aN 7 5) (iv LN 6) (nI LN nm) (fun k=>nI (sub LN 1 k) nm) (fun k=>nI (sub LN 3 k) nm) (fun k=>hI (sub LN 3 k) nm) w bN
  (hide fun k hk=>S.clNode (Keep.refl w) qN mN k hk) (hide TF) (hide fun w' k=>⟨zer nm qN (Rvss.keep k _ _ _ _ mN) bN,zft nm qN (Rvss.keep k _ _ _ _ mN) bN⟩) (hide fun j hj w' k=>?_) (hide fun j hj w' k=>?_) (hide fun j hj w' k=>?_) (hide zjD)
 ·obtain⟨⟨r1,r2,r3,r4⟩,_⟩:=zdm qN mN j hj;rw[r1];exact⟨zc8 nm r4 (Rvss.keep k _ _ _ _ r3) (hlen j hj).1,zfu nm r4 (Rvss.keep k _ _ _ _ r3) (hlen j hj).1⟩
 ·obtain⟨_,_,⟨r1,r2,r3,r4⟩,_⟩:=zdm qN mN j hj;rw[r1];exact⟨zfg nm r4 (Rvss.keep k _ _ _ _ r3) (hlen j hj).2,zeS nm r4 (Rvss.keep k _ _ _ _ r3) (hlen j hj).2⟩
 ·obtain⟨_,_,⟨r1,r2,r3,r4⟩,_⟩:=zdm qN mN j hj;rw[r1];exact⟨zhD nm r4 (Rvss.keep k _ _ _ _ r3) (hlen j hj).2,zfv nm r4 (Rvss.keep k _ _ _ _ r3) (hlen j hj).2⟩
theorem zeT:laidOutB Try.prog=true:=by kernel_rfl
theorem own:ownKnob Try.prog.godebug=none:=by kernel_rfl
set_option maxHeartbeats 400000 in
set_option maxRecDepth 100000 in
theorem zjF (os:Os) (started:os.Started) (H:Type) (enc:TypeId×Value→H):
  ReturnsInHanded {} Try.checked os 4 .any (Rows.validFindsSpec.pre6 enc Try.prog Try.f4 Rows.validFindsRow.domain false) (Rows.validFindsSpec.post enc Try.prog Try.f4 false true false false):=by
 refine returnsInHanded_of_change (C:=Try.checked) own started (by kernel_rfl) Try.func4
  (ChangeSpec.witness6 (enc:=enc) (C:=Try.checked) false ⟨#[],#[.agg #[.int .i64 0,.int .i64 0,.int .i64 0,.int .i64 0,.int .i64 0,.slice none 0 0,.slice none 0 0,.int .i64 0,.int .i64 0],.string ⟨#[]⟩],[]⟩ 8 (by kernel_rfl) (by kernel_rfl) (by kernel_rfl) (by kernel_rfl)) ?_
 intro W base args ds gs before hval0 hW hcnd _
 have hval:∀(j:Nat) t v,Try.f4.params[j]? =some t→args[j]? =some v→Value.okWide Try.prog W .any base t v:=hval0;have hW':=hW;obtain⟨p,q,hA0,hV,rfl,hfz,hnd⟩:=hW;have hA:DataW.TrodAll enc Try.prog W 0 (fun _=>true) true Try.f4.params.toList args.toList ds p:=hA0;rw[Try.params4]at hA hval;obtain⟨v0,vs0,d0,ds0,p0,q0,hargs,rfl,rfl,h0,r0⟩:=trodAll_cons hA;obtain⟨v1,vs1,d1,ds1,p1,q1,rfl,rfl,rfl,h1,r1⟩:=trodAll_cons r0;obtain⟨rfl,rfl,rfl⟩:=trodAll_nil r1;obtain rfl:args=#[v0,v1]:=by cases args;simp_all
 obtain⟨rfl,rfl⟩:=trodVars_none hV;have k0:=h0;have lt0:∀ x∈p0,x.block<W.heap.size:=by obtain⟨m,hm⟩:=k0;exact DataW.trod_lt m _ _ _ hm
 obtain⟨es0,us0,rfl,s0,x0⟩:=zcY Try.underlying27 S.net_desc (hval 0 27 v0 rfl rfl) h0;clear h0;have k1:=h1;have lt1:∀ x∈p1,x.block<W.heap.size:=by obtain⟨m,hm⟩:=k1;exact DataW.trod_lt m _ _ _ hm
 obtain⟨t1,rfl,z1⟩:∃ t,v1= .string t∧t.size≤maxLen:=by obtain⟨t,e1,e2,e3,e4⟩:=open_string Try.underlying9 (hval 1 9 v1 rfl rfl) h1;exact⟨t,by first|exact e1|exact e2,by first|exact e4|exact e3⟩
 clear h1;clear hA0 hval0;refine(zjO s0 x0 t1 z1).mono fun e W' ⟨he,bel⟩=>?_
 subst he;exact⟨_,rfl,_,_,_,[],_,[],hW',trodAll_mk1 (shut_bool Try.underlying4 _),(trodAll_cons_mk (Below.trod zeT (by kernel_rfl) (of_decide_eq_true (by kernel_rfl)) k0 bel lt0) (trodAll_cons_mk (Below.trod zeT (by kernel_rfl) (of_decide_eq_true (by kernel_rfl)) k1 bel lt1) trodAll_mk0)),rfl,bel.frame _,fun h=>by cases h⟩
theorem over:Rows.validFindsRow.holds Try.pinned (OpenSpec.ofChange Rows.validFindsSpec):=
 OpenClaim.holds_of_wide 4 Try.f4 rfl rfl rfl rfl rfl rfl rfl ⟨rfl,rfl,rfl,rfl,rfl⟩ rfl rfl rfl rfl rfl (by kernel_rfl) Try.func4 (by kernel_rfl)
  (of_decide_eq_true (by kernel_rfl)) (by unfold Func.isWrapper;first|(rw[if_pos (by decide+kernel)];kernel_rfl)|(rw[if_neg (by decide+kernel)];exact⟨rfl,rfl⟩))
  (fun os started H enc _=>zjF os started H enc)
end Go.Proofs.Ytfmpfmhdddikcaa.fnd
namespace Go.Proofs.Ytfmpfmhdddikcaa
theorem ValidFinds_holds:Rows.ValidFindsSaid:=fnd.over
end Go.Proofs.Ytfmpfmhdddikcaa
