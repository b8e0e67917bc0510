/- Proved: for every network that may be (greater networks than the law's Few lets in are let by): it may be without its artery, each of its nodes alone may be, with and without its walks and foes. -/
import Derived.Test.YtpdcabfabghbkaaRows
import Derived.Test.YtpdcabfabghbkaaLPtA
import Derived.Test.YtpdcabfabghbkaaVOk
import Derived.WalkKit
import Derived.ProofKit
import Derived.OpenShut
import Derived.ShutString
import Derived.ChangeOld
import Derived.ChangeMaps5
import Derived.Below
namespace Go.Proofs.Ytpdcabfabghbkaa.prt
open Go.ChangeShapes Go.WideShapes Go.ChangeAt Go.RowKit Go.Joins
open Go.WideMaps Go.WideElems
open Go.ChangeMaps (open_string)
set_option linter.unusedVariables false
set_option linter.unusedSimpArgs false
set_option maxRecDepth 10000
open S V
theorem zjM {w:World} {b:Nat} {v0 v1 v2 v3 v4 v5 v6:Value} (h:w.cell? ⟨b,0,none⟩=some v0∧w.cell? ⟨b,1,none⟩=some v1∧w.cell? ⟨b,2,none⟩=some v2∧w.cell? ⟨b,3,none⟩=some v3∧w.cell? ⟨b,4,none⟩=some v4∧w.cell? ⟨b,5,none⟩=some v5∧w.cell? ⟨b,6,none⟩=some v6):∀ j u,[v0,v1,v2,v3,v4,v5,v6][j]? =some u→w.cell? ⟨b,j,none⟩=some u:=by
 intro j u hu
 obtain⟨h0,h1,h2,h3,h4,h5,h6⟩:=h
 match j,hu with
 |0,hu=>cases hu;exact h0
 |1,hu=>cases hu;exact h1
 |2,hu=>cases hu;exact h2
 |3,hu=>cases hu;exact h3
 |4,hu=>cases hu;exact h4
 |5,hu=>cases hu;exact h5
 |6,hu=>cases hu;exact h6
 |(n+7),hu=>simp at hu
theorem zfv {w:World} {ds:List D} {s:ByteArray} {x1:Option Addr} {n1 c1:Nat} {x2:Option Addr} {n2 c2:Nat} {x3:Option Addr} {n3 c3:Nat} {x4:Option Addr} {n4 c4:Nat} {x5:Option Addr} {n5 c5:Nat} {p:Int} (hs:ShL zaY ds) (hr:Rvs w ds [.string s,.slice x1 n1 c1,.slice x2 n2 c2,.slice x3 n3 c3,.slice x4 n4 c4,.slice x5 n5 c5,.int .i64 p]) (hn:zcy ds=none):
  ∃ es,ShL zaY es∧Rvs w es [.string s,.slice x1 n1 c1,.slice none 0 0,.slice x3 n3 c3,.slice x4 n4 c4,.slice none 0 0,.int .i64 p]∧zcy es=none:=by
 simp only[ShL,Sh1,zaY]at hs;obtain⟨_,_,rfl,⟨s0,rfl,b0⟩,⟨_,_,rfl,⟨L1,rfl,b1,q1⟩,⟨_,_,rfl,⟨L2,rfl,b2,q2⟩,⟨_,_,rfl,⟨L3,rfl,b3,q3⟩,⟨_,_,rfl,⟨L4,rfl,b4,q4⟩,⟨_,_,rfl,⟨L5,rfl,b5,q5⟩,⟨_,_,rfl,⟨v6,rfl,b6,b7⟩,rfl⟩⟩⟩⟩⟩⟩⟩:=hs;have hn':zdK L1 [] L3 L4 [] v6=none:=zeU hn;refine⟨[dS s0,.row 47 11 L1,.row 77 6 [],.row 45 3 L3,.row 73 1 L4,.row 49 3 [],dI v6],?_,?_,hn'⟩
 ·simp only[ShL,Sh1,zaY];exact⟨_,_,rfl,⟨s0,rfl,b0⟩,⟨_,_,rfl,⟨L1,rfl,b1,q1⟩,⟨_,_,rfl,⟨[],rfl,Nat.zero_le _,fun _ h=>by cases h⟩,⟨_,_,rfl,⟨L3,rfl,b3,q3⟩,⟨_,_,rfl,⟨L4,rfl,b4,q4⟩,⟨_,_,rfl,⟨[],rfl,Nat.zero_le _,fun _ h=>by cases h⟩,⟨_,_,rfl,⟨v6,rfl,b6,b7⟩,rfl⟩⟩⟩⟩⟩⟩⟩
 ·simp only[Rvs,Rv,dS,dI,dB]at hr ⊢;obtain⟨u0,r0,e0,h0,u1,r1,e1,h1,u2,r2,e2,h2,u3,r3,e3,h3,u4,r4,e4,h4,u5,r5,e5,h5,u6,r6,e6,h6,h7⟩:=hr;simp only[List.cons.injEq]at e0;obtain⟨rfl,rfl⟩:=e0;simp only[List.cons.injEq]at e1;obtain⟨rfl,rfl⟩:=e1;simp only[List.cons.injEq]at e2;obtain⟨rfl,rfl⟩:=e2;simp only[List.cons.injEq]at e3;obtain⟨rfl,rfl⟩:=e3;simp only[List.cons.injEq]at e4;obtain⟨rfl,rfl⟩:=e4;simp only[List.cons.injEq]at e5;obtain⟨rfl,rfl⟩:=e5;simp only[List.cons.injEq]at e6;obtain⟨rfl,rfl⟩:=e6;exact⟨_,_,rfl,h0,_,_,rfl,h1,_,_,rfl,⟨none,0,rfl,Nat.le_refl _,trivial⟩,_,_,rfl,h3,_,_,rfl,h4,_,_,rfl,⟨none,0,rfl,Nat.le_refl _,trivial⟩,_,_,rfl,h6,rfl⟩
theorem zeV {w:World} {b:Nat} {x:List D} {us:List Value} (hb:b<w.heap.size) (hr:Rvs w x us) (hl:us.length=7) (hc:∀ j u,us[j]? =some u→w.cell? ⟨b,j,none⟩=some u):Rvss w (some ⟨b,0,none⟩) 7 [x] 0:=by
 refine zcw [x] 0 (fun i hi=>?_);have:i=0:=by simp at hi;omega
 subst this;refine⟨hb,us,hr,hl,fun j u hu=>?_⟩;have:=hc j u hu;have e:ati ((⟨b,0,none⟩:Addr).add ((0+0) * 7)) j=⟨b,j,none⟩:=by
  rw[← zd9];unfold Addr.add;split<;>simp_all
 rw[e];exact this
theorem zeW {w:World} {a0 a1 a2 a3 a4 a5 a6:Int} {b:Nat} {x:List D} (i0: -9223372036854775808≤a0∧a0≤9223372036854775807) (i1: -9223372036854775808≤a1∧a1≤9223372036854775807) (i2: -9223372036854775808≤a2∧a2≤9223372036854775807) (i3: -9223372036854775808≤a3∧a3≤9223372036854775807) (i4: -9223372036854775808≤a4∧a4≤9223372036854775807) (i5: -9223372036854775808≤a5∧a5≤9223372036854775807) (i6: -9223372036854775808≤a6∧a6≤9223372036854775807)
  (hw:whE a0 a1 a2 a3 a4 1 0 a5 a6=none) (hs:ShL zaY x) (hx:zcy x=none) (hr:Rvss w (some ⟨b,0,none⟩) 7 [x] 0):
  Calls Try.prog 8 #[.agg #[.int .i64 a0,.int .i64 a1,.int .i64 a2,.int .i64 a3,.int .i64 a4,.slice (some ⟨b,0,none⟩) 1 1,.slice none 0 0,.int .i64 a5,.int .i64 a6]] w fun e w'=>e= .returned (.tuple #[.int .i64 0,.int .i64 0])∧Keep w w':=by
 have h:=za8 (w:=w) (ds:= [dI a0,dI a1,dI a2,dI a3,dI a4,.row 40 7 [x],.row 53 6 [],dI a5,dI a6]) (us:= [.int .i64 a0,.int .i64 a1,.int .i64 a2,.int .i64 a3,.int .i64 a4,.slice (some ⟨b,0,none⟩) 1 1,.slice none 0 0,.int .i64 a5,.int .i64 a6])
  (by simp only[ShL,Sh1,zcZ];exact⟨_,_,rfl,⟨a0,rfl,i0⟩,_,_,rfl,⟨a1,rfl,i1⟩,_,_,rfl,⟨a2,rfl,i2⟩,_,_,rfl,⟨a3,rfl,i3⟩,_,_,rfl,⟨a4,rfl,i4⟩,_,_,rfl,⟨[x],rfl,by simp[maxLen],fun d hd=>by rw[List.mem_singleton.1 hd];exact hs⟩,_,_,rfl,⟨[],rfl,Nat.zero_le _,fun _ h=>by cases h⟩,_,_,rfl,⟨a5,rfl,i5⟩,_,_,rfl,⟨a6,rfl,i6⟩,rfl⟩)
  (by simp only[Rvs,Rv,dI];exact⟨_,_,rfl,rfl,_,_,rfl,rfl,_,_,rfl,rfl,_,_,rfl,rfl,_,_,rfl,rfl,_,_,rfl,⟨some ⟨b,0,none⟩,1,rfl,Nat.le_refl _,hr⟩,_,_,rfl,⟨none,0,rfl,Nat.le_refl _,trivial⟩,_,_,rfl,rfl,_,_,rfl,rfl,rfl⟩)
 have e:zeu [dI a0,dI a1,dI a2,dI a3,dI a4,.row 40 7 [x],.row 53 6 [],dI a5,dI a6]=(0,0):=zeS hw (zfu hx) (zdt _);rw[e]at h;exact h
theorem zjV {w:World} {ds:List D} {us:List Value} (hs:ShL zcZ ds) (hr:Rvs w ds us):Calls Try.prog 6 #[.agg us.toArray] w fun e w'=>e= .returned (.bool true)∧Below w.heap.size w w':=by
 have TF:∀ w',Keep w w'→Calls Try.prog 7 #[.agg us.toArray] w' (Ak w'):=fun w' k=>zh0 hs (Rvs.keep k _ _ hr)
 have TC:∀ w',Keep w w'→Calls Try.prog 8 #[.agg us.toArray] w' fun e w''=>e= .returned (.tuple #[.int .i64 (zeu ds).1,.int .i64 (zeu ds).2])∧Keep w' w'':=fun w' k=>za8 hs (Rvs.keep k _ _ hr)
 by_cases h0:(zeu ds).1=0
 ·simp only[ShL,Sh1,zcZ]at hs;obtain⟨_,_,rfl,⟨a0,rfl,i0⟩,⟨_,_,rfl,⟨a1,rfl,i1⟩,⟨_,_,rfl,⟨a2,rfl,i2⟩,⟨_,_,rfl,⟨a3,rfl,i3⟩,⟨_,_,rfl,⟨a4,rfl,i4⟩,⟨_,_,rfl,⟨LN,rfl,bN,qN⟩,⟨_,_,rfl,⟨LS,rfl,bS,qS⟩,⟨_,_,rfl,⟨a5,rfl,i5⟩,⟨_,_,rfl,⟨a6,rfl,i6⟩,rfl⟩⟩⟩⟩⟩⟩⟩⟩⟩:=hs;simp only[Rvs,Rv,dS,dI,dB]at hr;obtain⟨_,_,rfl,rfl,⟨_,_,rfl,rfl,⟨_,_,rfl,rfl,⟨_,_,rfl,rfl,⟨_,_,rfl,rfl,⟨_,_,rfl,⟨aN,cN,rfl,yN,mN⟩,⟨_,_,rfl,⟨aS,cS,rfl,yS,mS⟩,⟨_,_,rfl,rfl,⟨_,_,rfl,rfl,rfl⟩⟩⟩⟩⟩⟩⟩⟩⟩:=hr;have hc:zfh a0 a1 a2 a3 a4 LN LS a5 a6=(0,0):=by
   obtain⟨k0,k1,k2⟩:=zfR (a0:=a0) (a1:=a1) (a2:=a2) (a3:=a3) (a4:=a4) (LN:=LN) (LS:=LS) (a5:=a5) (a6:=a6) h0;exact zeS k0 k1 k2
  obtain⟨k0,k1,k2⟩:=zfR (a0:=a0) (a1:=a1) (a2:=a2) (a3:=a3) (a4:=a4) (LN:=LN) (LS:=LS) (a5:=a5) (a6:=a6) h0;have hc2:∀(w':World),Keep w w'→Calls Try.prog 8 #[.agg #[.int .i64 a0,.int .i64 a1,.int .i64 a2,.int .i64 a3,.int .i64 a4,.slice aN LN.length cN,.slice aS LS.length cS,.int .i64 a5,.int .i64 a6]] w' fun e w''=>e= .returned (.tuple #[.int .i64 0,.int .i64 0])∧Keep w' w'':=fun w' k=>by
   have h:=TC w' k;have e:zeu [dI a0,dI a1,dI a2,dI a3,dI a4,.row 40 7 LN,.row 53 6 LS,dI a5,dI a6]=(0,0):=hc;rw[e]at h;exact h
  have h1n:1≤LN.length:=by
   rcases Nat.eq_zero_or_pos LN.length with h|h
   ·exfalso;rw[h]at k0;unfold whE at k0
    simp only[fst]at k0;split at k0
    ·cases k0
    ·split at k0
     ·cases k0
     ·split at k0
      ·cases k0
      ·split at k0
       ·cases k0
       ·simp at k0
   ·exact h
  refine zdQ a0 a1 a2 a3 a4 aN LN.length cN aS LS.length cS a5 a6 (V.tn LN) (sA w aN 7 1) (sA w aN 7 2) (sA w aN 7 3) (sA w aN 7 4) (sA w aN 7 5) (sN w aN 7 1) (sC w aN 7 1) (sN w aN 7 2) (sC w aN 7 2) (sN w aN 7 3) (sC w aN 7 3) (sN w aN 7 4) (sC w aN 7 4) (sN w aN 7 5) (sC w aN 7 5) (iv LN 6) w bN
   (hide fun k hk=>S.clNode (Keep.refl w) qN mN k hk) (hide TF) (hide hc2) (hide fun w' k=>?_) (hide fun j hj w' b k hb hcs=>?_) (hide fun j hj w' b k hb hcs=>?_) (hide zfN)
  ·have h:=za8 (w:=w') (ds:= [dI a0,dI a1,dI a2,dI a3,dI a4,.row 40 7 LN,.row 53 6 [],dI a5,dI a6]) (us:= [.int .i64 a0,.int .i64 a1,.int .i64 a2,.int .i64 a3,.int .i64 a4,.slice aN LN.length cN,.slice none 0 0,.int .i64 a5,.int .i64 a6])
    (by simp only[ShL,Sh1,zcZ];exact⟨_,_,rfl,⟨a0,rfl,i0⟩,_,_,rfl,⟨a1,rfl,i1⟩,_,_,rfl,⟨a2,rfl,i2⟩,_,_,rfl,⟨a3,rfl,i3⟩,_,_,rfl,⟨a4,rfl,i4⟩,_,_,rfl,⟨LN,rfl,bN,qN⟩,_,_,rfl,⟨[],rfl,Nat.zero_le _,fun _ h=>by cases h⟩,_,_,rfl,⟨a5,rfl,i5⟩,_,_,rfl,⟨a6,rfl,i6⟩,rfl⟩)
    (by simp only[Rvs,Rv,dI];exact⟨_,_,rfl,rfl,_,_,rfl,rfl,_,_,rfl,rfl,_,_,rfl,rfl,_,_,rfl,rfl,_,_,rfl,⟨aN,cN,rfl,yN,Rvss.keep k _ _ _ _ mN⟩,_,_,rfl,⟨none,0,rfl,Nat.le_refl _,trivial⟩,_,_,rfl,rfl,_,_,rfl,rfl,rfl⟩)
   have e:zeu [dI a0,dI a1,dI a2,dI a3,dI a4,.row 40 7 LN,.row 53 6 [],dI a5,dI a6]=(0,0):=zeS (zda k0 (Nat.le_refl _) (Nat.zero_le _) h1n) k1 (zdt _);rw[e]at h;exact h
  ·have hv:=Rvs.keep k _ _ (V.node_rv qN mN j hj);exact zeW i0 i1 i2 i3 i4 i5 i6 (zda k0 h1n (Nat.zero_le _) (Nat.le_refl _)) (qN _ (zaO hj)) (zeT k1 j hj) (zeV hb hv rfl (zjM hcs))
  ·have hv:=Rvs.keep k _ _ (V.node_rv qN mN j hj);obtain⟨es,z1,z2,z3⟩:=zfv (qN _ (zaO hj)) hv (zeT k1 j hj);exact zeW i0 i1 i2 i3 i4 i5 i6 (zda k0 h1n (Nat.zero_le _) (Nat.le_refl _)) z1 z3 (zeV hb z2 rfl (zjM hcs))
 ·simp only[ShL,Sh1,zcZ]at hs;obtain⟨_,_,rfl,⟨a0,rfl,i0⟩,⟨_,_,rfl,⟨a1,rfl,i1⟩,⟨_,_,rfl,⟨a2,rfl,i2⟩,⟨_,_,rfl,⟨a3,rfl,i3⟩,⟨_,_,rfl,⟨a4,rfl,i4⟩,⟨_,_,rfl,⟨LN,rfl,bN,qN⟩,⟨_,_,rfl,⟨LS,rfl,bS,qS⟩,⟨_,_,rfl,⟨a5,rfl,i5⟩,⟨_,_,rfl,⟨a6,rfl,i6⟩,rfl⟩⟩⟩⟩⟩⟩⟩⟩⟩:=hs;simp only[Rvs,Rv,dS,dI,dB]at hr;obtain⟨_,_,rfl,rfl,⟨_,_,rfl,rfl,⟨_,_,rfl,rfl,⟨_,_,rfl,rfl,⟨_,_,rfl,rfl,⟨_,_,rfl,⟨aN,cN,rfl,yN,mN⟩,⟨_,_,rfl,⟨aS,cS,rfl,yS,mS⟩,⟨_,_,rfl,rfl,⟨_,_,rfl,rfl,rfl⟩⟩⟩⟩⟩⟩⟩⟩⟩:=hr;exact zft a0 a1 a2 a3 a4 aN LN.length cN aS LS.length cS a5 a6 _ _ w h0 (hide TF) (hide TC) (hide zfN)
theorem zh3:laidOutB Try.prog=true:=by kernel_rfl
theorem own:ownKnob Try.prog.godebug=none:=by kernel_rfl
set_option maxHeartbeats 400000 in
set_option maxRecDepth 100000 in
theorem zjN (os:Os) (started:os.Started) (H:Type) (enc:TypeId×Value→H):
  ReturnsInHanded {} Try.checked os 6 .any (Rows.validPartsSpec.pre6 enc Try.prog Try.f6 Rows.validPartsRow.domain false) (Rows.validPartsSpec.post enc Try.prog Try.f6 false true false false):=by
 refine returnsInHanded_of_change (C:=Try.checked) own started (by kernel_rfl) Try.func6
  (ChangeSpec.witness6 (enc:=enc) (C:=Try.checked) false ⟨#[],#[.agg #[.int .i64 0,.int .i64 0,.int .i64 0,.int .i64 0,.int .i64 0,.slice none 0 0,.slice none 0 0,.int .i64 0,.int .i64 0]],[]⟩ 8 (by kernel_rfl) (by kernel_rfl) (by kernel_rfl) (by kernel_rfl)) ?_
 intro W base args ds gs before hval0 hW hcnd _
 have hval:∀(j:Nat) t v,Try.f6.params[j]? =some t→args[j]? =some v→Value.okWide Try.prog W .any base t v:=hval0;have hW':=hW;obtain⟨p,q,hA0,hV,rfl,hfz,hnd⟩:=hW;have hA:DataW.TrodAll enc Try.prog W 0 (fun _=>true) true Try.f6.params.toList args.toList ds p:=hA0;rw[Try.params6]at hA hval;obtain⟨v0,vs0,d0,ds0,p0,q0,hargs,rfl,rfl,h0,r0⟩:=trodAll_cons hA;obtain⟨rfl,rfl,rfl⟩:=trodAll_nil r0;obtain rfl:args=#[v0]:=by cases args;simp_all
 obtain⟨rfl,rfl⟩:=trodVars_none hV;have k0:=h0;have lt0:∀ x∈p0,x.block<W.heap.size:=by obtain⟨m,hm⟩:=k0;exact DataW.trod_lt m _ _ _ hm
 obtain⟨es0,us0,rfl,s0,x0⟩:=zcY Try.underlying27 S.net_desc (hval 0 27 v0 rfl rfl) h0;clear h0;clear hA0 hval0;refine(zjV s0 x0).mono fun e W' ⟨he,bel⟩=>?_
 subst he;exact⟨_,rfl,_,_,_,[],_,[],hW',trodAll_mk1 (shut_bool Try.underlying4 _),(trodAll_cons_mk (Below.trod zh3 (by kernel_rfl) (of_decide_eq_true (by kernel_rfl)) k0 bel lt0) trodAll_mk0),rfl,bel.frame _,fun h=>by cases h⟩
theorem over:Rows.validPartsRow.holds Try.pinned (OpenSpec.ofChange Rows.validPartsSpec):=
 OpenClaim.holds_of_wide 6 Try.f6 rfl rfl rfl rfl rfl rfl rfl ⟨rfl,rfl,rfl,rfl,rfl⟩ rfl rfl rfl rfl rfl (by kernel_rfl) Try.func6 (by kernel_rfl)
  (of_decide_eq_true (by kernel_rfl)) (by unfold Func.isWrapper;first|(rw[if_pos (by decide+kernel)];kernel_rfl)|(rw[if_neg (by decide+kernel)];exact⟨rfl,rfl⟩))
  (fun os started H enc _=>zjN os started H enc)
end Go.Proofs.Ytpdcabfabghbkaa.prt
namespace Go.Proofs.Ytpdcabfabghbkaa
theorem ValidParts_holds:Rows.ValidPartsSaid:=prt.over
end Go.Proofs.Ytpdcabfabghbkaa
