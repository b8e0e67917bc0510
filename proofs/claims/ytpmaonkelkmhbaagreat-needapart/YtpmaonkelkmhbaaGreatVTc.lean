/- Package valid: Check, over letters. -/
import Derived.Test.YtpmaonkelkmhbaaGreatVCh2
import Derived.Test.YtpmaonkelkmhbaaGreatLSkip
import Derived.Deep.DrawnRows
import Derived.Deep.RegionHeld3
namespace Go.Proofs.YtpmaonkelkmhbaaGreat
open Go.RowKit
attribute [local go_sem ↓] Go.wp_at_zero Go.wp_at_succ
set_option linter.unusedVariables false
set_option linter.unusedSimpArgs false
set_option maxRecDepth 10000
namespace V
def Bx3 (w W:World) (b g:Nat):Prop:=b<W.heap.size∧g<W.heap.size∧W.cell? ⟨b,0,none⟩=some (.int .i64 0)∧W.frozen? ⟨b,0,none⟩=false∧W.cell? ⟨g,0,none⟩=some (.int .i64 0)∧W.frozen? ⟨g,0,none⟩=false∧w.heap.size≤b∧w.heap.size≤g∧¬b=g∧¬g=b
theorem Bx3.keep {w W W':World} {b g:Nat} (h:Bx3 w W b g) (k:Keep W W'):Bx3 w W' b g:=by
 obtain⟨h1,h2,h3,h4,h5,h6,h7⟩:=h;have hs:=k.size;exact⟨by omega,by omega,by rw[Below.cell (p:=⟨b,0,none⟩) k h1];exact h3,by rw[Below.frozen (p:=⟨b,0,none⟩) k h1];exact h4,by rw[Below.cell (p:=⟨g,0,none⟩) k h2];exact h5,by rw[Below.frozen (p:=⟨g,0,none⟩) k h2];exact h6,h7⟩
theorem zcm {P:Program} {fn:Func} {t t':Array Value} {R:Ending→World→Prop} (h:results fn t=results fn t'):∀(ds:List Deferred) (u:FrameMode) (w:World),Leaves P fn t R ds u w=Leaves P fn t' R ds u w
 | [],.returning,w=>by simp only[Leaves,h]
 | [],.panicking c,w=>by simp only[Leaves]
 | [],.run,w=>by simp only[Leaves]
 |d :: ds,u,w=>by
  have ih:=zcm (P:=P) (R:=R) h ds;simp only[Leaves,ih]
theorem hq8 {K:Act→World→Prop} {R:Ending→World→Prop} {c:List PanicEntry} {a:Act} {w:World} (d:Nat) (v:Value) (hd:4≤d) (h:Exit.then K (bodyPostD Tryz.prog Tryz.f37 R) (.panic c) (a.put (some d) v) w):Exit.then K (bodyPostD Tryz.prog Tryz.f37 R) (.panic c) a w:=by
 have h1:Leaves Tryz.prog Tryz.f37 (a.put (some d) v).tmps R a.defers (.panicking c) w:=h;have e:results Tryz.f37 (a.put (some d) v).tmps=results Tryz.f37 a.tmps:=by
  have g2:(a.tmps.setIfInBounds d v)[2]? =a.tmps[2]? :=by rw[Array.getElem?_setIfInBounds,if_neg (show ¬d=2 by omega)]
  have g3:(a.tmps.setIfInBounds d v)[3]? =a.tmps[3]? :=by rw[Array.getElem?_setIfInBounds,if_neg (show ¬d=3 by omega)]
  simp[results,Tryz.results37,Act.put,g2,g3]
 rw[zcm e]at h1;exact h1
theorem Below.trans9' {w W W':World} (h:Keep w W) (k:Below w.heap.size W W'):Keep w W':=Below.trans h k
set_option maxHeartbeats 4000000 in
theorem zh2 (a0 a1 a2 a3 a4:Int) (aN:Option Addr) (nN cN:Nat) (aS:Option Addr) (nS cS:Nat) (a5 a6:Int) (c:Int) (w:World)
  (TW:Hid (∀ w',Keep w w'→Calls Tryz.prog 52 #[.agg #[.int .i64 a0,.int .i64 a1,.int .i64 a2,.int .i64 a3,.int .i64 a4,.slice aN nN cN,.slice aS nS cS,.int .i64 a5,.int .i64 a6]] w' fun e w''=>e= .panicked [{ v:=ern c,recovered:=false }]∧Keep w' w'')):
  Calls Tryz.prog 37 #[.agg #[.int .i64 a0,.int .i64 a1,.int .i64 a2,.int .i64 a3,.int .i64 a4,.slice aN nN cN,.slice aS nS cS,.int .i64 a5,.int .i64 a6]] w fun e w'=>e= .returned (.tuple #[.int .i64 c,.int .i64 0])∧Keep w w':=by
 have hmf:∀(fn:Fn) (first cap:Array Value) (w:World),(Instr.makeFunc fn first cap).run Tryz.prog w= .ok (.func fn first cap) w:=fun _ _ _ _=>rfl
 have KB:=hide ((((Keep.refl w).alloc (.cells #[.int .i64 a0,.int .i64 a1,.int .i64 a2,.int .i64 a3,.int .i64 a4,.slice aN nN cN,.slice aS nS cS,.int .i64 a5,.int .i64 a6] 27)).alloc (.cells #[.int .i64 0] 28)).alloc (.cells #[.int .i64 0] 3));have BB:Hid (Bx3 w (((w.alloc (.cells #[.int .i64 a0,.int .i64 a1,.int .i64 a2,.int .i64 a3,.int .i64 a4,.slice aN nN cN,.slice aS nS cS,.int .i64 a5,.int .i64 a6] 27)).alloc (.cells #[.int .i64 0] 28)).alloc (.cells #[.int .i64 0] 3)) (w.heap.size+1) (w.heap.size+1+1)):=hide (by refine⟨?_,?_,?_,?_,?_,?_,?_,?_,?_,?_⟩<;>(try simp[go_sem])<;>omega);have HX:Hid (∀ w':World,Keep (((w.alloc (.cells #[.int .i64 a0,.int .i64 a1,.int .i64 a2,.int .i64 a3,.int .i64 a4,.slice aN nN cN,.slice aS nS cS,.int .i64 a5,.int .i64 a6] 27)).alloc (.cells #[.int .i64 0] 28)).alloc (.cells #[.int .i64 0] 3)) w'→w'.cell? ⟨w.heap.size,0,none⟩=some (.int .i64 a0)∧w'.cell? ⟨w.heap.size,1,none⟩=some (.int .i64 a1)∧w'.cell? ⟨w.heap.size,2,none⟩=some (.int .i64 a2)∧w'.cell? ⟨w.heap.size,3,none⟩=some (.int .i64 a3)∧w'.cell? ⟨w.heap.size,4,none⟩=some (.int .i64 a4)∧w'.cell? ⟨w.heap.size,5,none⟩=some (.slice aN nN cN)∧w'.cell? ⟨w.heap.size,6,none⟩=some (.slice aS nS cS)∧w'.cell? ⟨w.heap.size,7,none⟩=some (.int .i64 a5)∧w'.cell? ⟨w.heap.size,8,none⟩=some (.int .i64 a6)):=hide (fun w' k9=>by
  have h:=k9.block w.heap.size (by simp;omega);have e:(((w.alloc (.cells #[.int .i64 a0,.int .i64 a1,.int .i64 a2,.int .i64 a3,.int .i64 a4,.slice aN nN cN,.slice aS nS cS,.int .i64 a5,.int .i64 a6] 27)).alloc (.cells #[.int .i64 0] 28)).alloc (.cells #[.int .i64 0] 3)).heap[w.heap.size]? =some (.cells #[.int .i64 a0,.int .i64 a1,.int .i64 a2,.int .i64 a3,.int .i64 a4,.slice aN nN cN,.slice aS nS cS,.int .i64 a5,.int .i64 a6] 27 (0,0)):=by rw[Below.heap_alloc _ _ _ (by simp;omega),Below.heap_alloc _ _ _ (by simp)];exact heap_alloc_new _ _
  rw[e]at h;refine⟨?_,?_,?_,?_,?_,?_,?_,?_,?_⟩<;>simp[World.cell?,h])
 go_enter_defers Tryz.func37,Tryz.ntmps37
 go_upto_region 2 with fail
 generalize ((w.alloc (.cells #[.int .i64 a0,.int .i64 a1,.int .i64 a2,.int .i64 a3,.int .i64 a4,.slice aN nN cN,.slice aS nS cS,.int .i64 a5,.int .i64 a6] 27)).alloc (.cells #[.int .i64 0] 28)).alloc (.cells #[.int .i64 0] 3)=w3 at KB BB HX ⊢;obtain⟨x,HXX⟩:∃ x,Hid (w.heap.size=x):=⟨_,hide rfl⟩;obtain⟨b,HBB⟩:∃ x,Hid (w.heap.size+1=x):=⟨_,hide rfl⟩;obtain⟨g,HGG⟩:∃ x,Hid (w.heap.size+1+1=x):=⟨_,hide rfl⟩;rw[uq HGG,uq HBB]at BB ⊢;rw[uq HXX]at HX ⊢;obtain⟨f0,f1,f2,f3,f4,f5,f6,f7,f8⟩:=(uq HX) w3 (Keep.refl _);go_wp2_with fail
 (refine((uq TW) _ (uq KB)).mono ?_;rintro e w4 ⟨rfl,hk⟩;have KL:=hide hk;clear hk);go_wp2_with fail
 obtain⟨h1,h2,h3,h4,h5,h6,h7,h8,h9,h10⟩:=(uq BB).keep (uq KL);refine leaves_cons (f:=51) (args:=#[.pointer (some ⟨b,0,none⟩),.pointer (some ⟨g,0,none⟩)]) (by simp) (by simp[go_sem]) ?_;refine(zgK b g c _ _ h3 h4).mono ?_;rintro e u' w9 ⟨rfl,rfl,rfl⟩;have KE:=Below.trans9' ((uq KB).trans (uq KL)) (Below.setCell (Below.refl w.heap.size w4) (p:=⟨b,0,none⟩) h7 (.int .i64 c));simp[Leaves,settle,results,Tryz.results37,go_sem,h3,h4,h5,h6,h9,h10];exact KE
set_option maxHeartbeats 4000000 in
theorem zh3 (a0 a1 a2 a3 a4:Int) (aN:Option Addr) (nN cN:Nat) (aS:Option Addr) (nS cS:Nat) (a5 a6:Int) (z:Int×Int) (MN:List (List UInt8×Int)) (w:World)
  (TW:Hid (∀ w',Keep w w'→Calls Tryz.prog 52 #[.agg #[.int .i64 a0,.int .i64 a1,.int .i64 a2,.int .i64 a3,.int .i64 a4,.slice aN nN cN,.slice aS nS cS,.int .i64 a5,.int .i64 a6]] w' fun e w''=>e= .returned (.tuple #[])∧Keep w' w''))
  (TN:Hid (∀ w',Keep w w'→Calls Tryz.prog 54 #[.slice aN nN cN] w' (Hq (some z) MN w'))):
  Calls Tryz.prog 37 #[.agg #[.int .i64 a0,.int .i64 a1,.int .i64 a2,.int .i64 a3,.int .i64 a4,.slice aN nN cN,.slice aS nS cS,.int .i64 a5,.int .i64 a6]] w fun e w'=>e= .returned (.tuple #[.int .i64 z.1,.int .i64 z.2])∧Keep w w':=by
 have hmf:∀(fn:Fn) (first cap:Array Value) (w:World),(Instr.makeFunc fn first cap).run Tryz.prog w= .ok (.func fn first cap) w:=fun _ _ _ _=>rfl
 have KB:=hide ((((Keep.refl w).alloc (.cells #[.int .i64 a0,.int .i64 a1,.int .i64 a2,.int .i64 a3,.int .i64 a4,.slice aN nN cN,.slice aS nS cS,.int .i64 a5,.int .i64 a6] 27)).alloc (.cells #[.int .i64 0] 28)).alloc (.cells #[.int .i64 0] 3));have BB:Hid (Bx3 w (((w.alloc (.cells #[.int .i64 a0,.int .i64 a1,.int .i64 a2,.int .i64 a3,.int .i64 a4,.slice aN nN cN,.slice aS nS cS,.int .i64 a5,.int .i64 a6] 27)).alloc (.cells #[.int .i64 0] 28)).alloc (.cells #[.int .i64 0] 3)) (w.heap.size+1) (w.heap.size+1+1)):=hide (by refine⟨?_,?_,?_,?_,?_,?_,?_,?_,?_,?_⟩<;>(try simp[go_sem])<;>omega);have HX:Hid (∀ w':World,Keep (((w.alloc (.cells #[.int .i64 a0,.int .i64 a1,.int .i64 a2,.int .i64 a3,.int .i64 a4,.slice aN nN cN,.slice aS nS cS,.int .i64 a5,.int .i64 a6] 27)).alloc (.cells #[.int .i64 0] 28)).alloc (.cells #[.int .i64 0] 3)) w'→w'.cell? ⟨w.heap.size,0,none⟩=some (.int .i64 a0)∧w'.cell? ⟨w.heap.size,1,none⟩=some (.int .i64 a1)∧w'.cell? ⟨w.heap.size,2,none⟩=some (.int .i64 a2)∧w'.cell? ⟨w.heap.size,3,none⟩=some (.int .i64 a3)∧w'.cell? ⟨w.heap.size,4,none⟩=some (.int .i64 a4)∧w'.cell? ⟨w.heap.size,5,none⟩=some (.slice aN nN cN)∧w'.cell? ⟨w.heap.size,6,none⟩=some (.slice aS nS cS)∧w'.cell? ⟨w.heap.size,7,none⟩=some (.int .i64 a5)∧w'.cell? ⟨w.heap.size,8,none⟩=some (.int .i64 a6)):=hide (fun w' k9=>by
  have h:=k9.block w.heap.size (by simp;omega);have e:(((w.alloc (.cells #[.int .i64 a0,.int .i64 a1,.int .i64 a2,.int .i64 a3,.int .i64 a4,.slice aN nN cN,.slice aS nS cS,.int .i64 a5,.int .i64 a6] 27)).alloc (.cells #[.int .i64 0] 28)).alloc (.cells #[.int .i64 0] 3)).heap[w.heap.size]? =some (.cells #[.int .i64 a0,.int .i64 a1,.int .i64 a2,.int .i64 a3,.int .i64 a4,.slice aN nN cN,.slice aS nS cS,.int .i64 a5,.int .i64 a6] 27 (0,0)):=by rw[Below.heap_alloc _ _ _ (by simp;omega),Below.heap_alloc _ _ _ (by simp)];exact heap_alloc_new _ _
  rw[e]at h;refine⟨?_,?_,?_,?_,?_,?_,?_,?_,?_⟩<;>simp[World.cell?,h])
 go_enter_defers Tryz.func37,Tryz.ntmps37
 go_upto_region 2 with fail
 generalize ((w.alloc (.cells #[.int .i64 a0,.int .i64 a1,.int .i64 a2,.int .i64 a3,.int .i64 a4,.slice aN nN cN,.slice aS nS cS,.int .i64 a5,.int .i64 a6] 27)).alloc (.cells #[.int .i64 0] 28)).alloc (.cells #[.int .i64 0] 3)=w3 at KB BB HX ⊢;obtain⟨x,HXX⟩:∃ x,Hid (w.heap.size=x):=⟨_,hide rfl⟩;obtain⟨b,HBB⟩:∃ x,Hid (w.heap.size+1=x):=⟨_,hide rfl⟩;obtain⟨g,HGG⟩:∃ x,Hid (w.heap.size+1+1=x):=⟨_,hide rfl⟩;rw[uq HGG,uq HBB]at BB ⊢;rw[uq HXX]at HX ⊢;obtain⟨f0,f1,f2,f3,f4,f5,f6,f7,f8⟩:=(uq HX) w3 (Keep.refl _);go_wp2_with fail
 (refine((uq TW) _ (uq KB)).mono ?_;rintro e w4 ⟨rfl,hk⟩;have K4:=hide hk;clear hk);clear f0 f1 f2 f3 f4 f5 f6 f7 f8
 go_upto_region 3 with fail
 refine wp_region_held_drew (S:=(fun w'=>w'.cell? ⟨x,0,none⟩=some (.int .i64 a0)∧w'.cell? ⟨x,1,none⟩=some (.int .i64 a1)∧w'.cell? ⟨x,2,none⟩=some (.int .i64 a2)∧w'.cell? ⟨x,3,none⟩=some (.int .i64 a3)∧w'.cell? ⟨x,4,none⟩=some (.int .i64 a4)∧w'.cell? ⟨x,5,none⟩=some (.slice aN nN cN)∧w'.cell? ⟨x,6,none⟩=some (.slice aS nS cS)∧w'.cell? ⟨x,7,none⟩=some (.int .i64 a5)∧w'.cell? ⟨x,8,none⟩=some (.int .i64 a6))) (by kernel_rfl) (by exact(uq HX) _ (uq K4).drew) (fun hHeld=>?_);refine wpAnyH_take (i:=0) (v:=?_) rfl (by kernel_rfl) (by kernel_rfl) (by kernel_rfl) (fun c a w h=>hq8 _ _ (by decide) h) (Or.inl ⟨by rfl,?_⟩) hHeld ?_
 rotate_left
 ·intro w hSw
  try dsimp only at hSw
  go_simp;try with_reducible rfl
 show wpAnyH _ _ _ _ _ _ _ (Act.put _ (some 7) _) _;try simp only[Act.put,Ya,Yb,Yc]
 refine wpAnyH_take (i:=1) (v:=?_) rfl (by kernel_rfl) (by kernel_rfl) (by kernel_rfl) (fun c a w h=>hq8 _ _ (by decide) h) (Or.inl ⟨by rfl,?_⟩) hHeld ?_
 rotate_left
 ·intro w hSw
  try dsimp only at hSw
  go_simp;try with_reducible rfl
 show wpAnyH _ _ _ _ _ _ _ (Act.put _ (some 8) _) _;try simp only[Act.put,Ya,Yb,Yc]
 refine wpAnyH_take (i:=2) (v:=?_) rfl (by kernel_rfl) (by kernel_rfl) (by kernel_rfl) (fun c a w h=>hq8 _ _ (by decide) h) (Or.inl ⟨by rfl,?_⟩) hHeld ?_
 rotate_left
 ·intro w hSw
  try dsimp only at hSw
  go_simp;try with_reducible rfl
 show wpAnyH _ _ _ _ _ _ _ (Act.put _ (some 9) _) _;try simp only[Act.put,Ya,Yb,Yc]
 refine wpAnyH_ready (rs:= [3]) (by kernel_rfl) (by simp) ?_;refine AllReadyH.cons rfl (fun K hK=>?_) AllReadyH.nil;go_simp;clear hHeld;(refine((uq TN) _ ((uq KB).trans (uq K4).drew)).mono ?_;rintro e w5 ⟨hk,rfl⟩;have KL:=hide ((uq K4).drew.trans hk);clear hk);try go_wp2_with fail
 skip
 obtain⟨h1,h2,h3,h4,h5,h6,h7,h8,h9,h10⟩:=(uq BB).keep (uq KL);refine leaves_cons (f:=51) (args:=#[.pointer (some ⟨b,0,none⟩),.pointer (some ⟨g,0,none⟩)]) (by simp) (by simp[go_sem]) ?_;refine(zdS b g z.1 z.2 _ _ _ h9 h10 h1 h2 h3 h4 h5 h6).mono ?_;rintro e u' w9 ⟨rfl,rfl,r1,r2,r3⟩;have KE:=Below.trans9' ((uq KB).trans (uq KL)) (r3 w.heap.size h7 h8);simp[Leaves,settle,results,Tryz.results37,go_sem,r1,r2];exact KE
set_option maxHeartbeats 4000000 in
theorem zh4 (a0 a1 a2 a3 a4:Int) (aN:Option Addr) (nN cN:Nat) (aS:Option Addr) (nS cS:Nat) (a5 a6:Int) (z:Int×Int) (MN:List (List UInt8×Int)) (w:World)
  (TW:Hid (∀ w',Keep w w'→Calls Tryz.prog 52 #[.agg #[.int .i64 a0,.int .i64 a1,.int .i64 a2,.int .i64 a3,.int .i64 a4,.slice aN nN cN,.slice aS nS cS,.int .i64 a5,.int .i64 a6]] w' fun e w''=>e= .returned (.tuple #[])∧Keep w' w''))
  (TN:Hid (∀ w',Keep w w'→Calls Tryz.prog 54 #[.slice aN nN cN] w' (Hq none MN w')))
  (TS:Hid (∀ w' b,Keep w w'→Mp w' b MN→Calls Tryz.prog 53 #[.agg #[.int .i64 a0,.int .i64 a1,.int .i64 a2,.int .i64 a3,.int .i64 a4,.slice aN nN cN,.slice aS nS cS,.int .i64 a5,.int .i64 a6],.map (some b)] w' (Nq (some z) w'))):
  Calls Tryz.prog 37 #[.agg #[.int .i64 a0,.int .i64 a1,.int .i64 a2,.int .i64 a3,.int .i64 a4,.slice aN nN cN,.slice aS nS cS,.int .i64 a5,.int .i64 a6]] w fun e w'=>e= .returned (.tuple #[.int .i64 z.1,.int .i64 z.2])∧Keep w w':=by
 have hmf:∀(fn:Fn) (first cap:Array Value) (w:World),(Instr.makeFunc fn first cap).run Tryz.prog w= .ok (.func fn first cap) w:=fun _ _ _ _=>rfl
 have KB:=hide ((((Keep.refl w).alloc (.cells #[.int .i64 a0,.int .i64 a1,.int .i64 a2,.int .i64 a3,.int .i64 a4,.slice aN nN cN,.slice aS nS cS,.int .i64 a5,.int .i64 a6] 27)).alloc (.cells #[.int .i64 0] 28)).alloc (.cells #[.int .i64 0] 3));have BB:Hid (Bx3 w (((w.alloc (.cells #[.int .i64 a0,.int .i64 a1,.int .i64 a2,.int .i64 a3,.int .i64 a4,.slice aN nN cN,.slice aS nS cS,.int .i64 a5,.int .i64 a6] 27)).alloc (.cells #[.int .i64 0] 28)).alloc (.cells #[.int .i64 0] 3)) (w.heap.size+1) (w.heap.size+1+1)):=hide (by refine⟨?_,?_,?_,?_,?_,?_,?_,?_,?_,?_⟩<;>(try simp[go_sem])<;>omega);have HX:Hid (∀ w':World,Keep (((w.alloc (.cells #[.int .i64 a0,.int .i64 a1,.int .i64 a2,.int .i64 a3,.int .i64 a4,.slice aN nN cN,.slice aS nS cS,.int .i64 a5,.int .i64 a6] 27)).alloc (.cells #[.int .i64 0] 28)).alloc (.cells #[.int .i64 0] 3)) w'→w'.cell? ⟨w.heap.size,0,none⟩=some (.int .i64 a0)∧w'.cell? ⟨w.heap.size,1,none⟩=some (.int .i64 a1)∧w'.cell? ⟨w.heap.size,2,none⟩=some (.int .i64 a2)∧w'.cell? ⟨w.heap.size,3,none⟩=some (.int .i64 a3)∧w'.cell? ⟨w.heap.size,4,none⟩=some (.int .i64 a4)∧w'.cell? ⟨w.heap.size,5,none⟩=some (.slice aN nN cN)∧w'.cell? ⟨w.heap.size,6,none⟩=some (.slice aS nS cS)∧w'.cell? ⟨w.heap.size,7,none⟩=some (.int .i64 a5)∧w'.cell? ⟨w.heap.size,8,none⟩=some (.int .i64 a6)):=hide (fun w' k9=>by
  have h:=k9.block w.heap.size (by simp;omega);have e:(((w.alloc (.cells #[.int .i64 a0,.int .i64 a1,.int .i64 a2,.int .i64 a3,.int .i64 a4,.slice aN nN cN,.slice aS nS cS,.int .i64 a5,.int .i64 a6] 27)).alloc (.cells #[.int .i64 0] 28)).alloc (.cells #[.int .i64 0] 3)).heap[w.heap.size]? =some (.cells #[.int .i64 a0,.int .i64 a1,.int .i64 a2,.int .i64 a3,.int .i64 a4,.slice aN nN cN,.slice aS nS cS,.int .i64 a5,.int .i64 a6] 27 (0,0)):=by rw[Below.heap_alloc _ _ _ (by simp;omega),Below.heap_alloc _ _ _ (by simp)];exact heap_alloc_new _ _
  rw[e]at h;refine⟨?_,?_,?_,?_,?_,?_,?_,?_,?_⟩<;>simp[World.cell?,h])
 go_enter_defers Tryz.func37,Tryz.ntmps37
 go_upto_region 2 with fail
 generalize ((w.alloc (.cells #[.int .i64 a0,.int .i64 a1,.int .i64 a2,.int .i64 a3,.int .i64 a4,.slice aN nN cN,.slice aS nS cS,.int .i64 a5,.int .i64 a6] 27)).alloc (.cells #[.int .i64 0] 28)).alloc (.cells #[.int .i64 0] 3)=w3 at KB BB HX ⊢;obtain⟨x,HXX⟩:∃ x,Hid (w.heap.size=x):=⟨_,hide rfl⟩;obtain⟨b,HBB⟩:∃ x,Hid (w.heap.size+1=x):=⟨_,hide rfl⟩;obtain⟨g,HGG⟩:∃ x,Hid (w.heap.size+1+1=x):=⟨_,hide rfl⟩;rw[uq HGG,uq HBB]at BB ⊢;rw[uq HXX]at HX ⊢;obtain⟨f0,f1,f2,f3,f4,f5,f6,f7,f8⟩:=(uq HX) w3 (Keep.refl _);go_wp2_with fail
 (refine((uq TW) _ (uq KB)).mono ?_;rintro e w4 ⟨rfl,hk⟩;have K4:=hide hk;clear hk);clear f0 f1 f2 f3 f4 f5 f6 f7 f8
 go_upto_region 3 with fail
 refine wp_region_held_drew (S:=(fun w'=>w'.cell? ⟨x,0,none⟩=some (.int .i64 a0)∧w'.cell? ⟨x,1,none⟩=some (.int .i64 a1)∧w'.cell? ⟨x,2,none⟩=some (.int .i64 a2)∧w'.cell? ⟨x,3,none⟩=some (.int .i64 a3)∧w'.cell? ⟨x,4,none⟩=some (.int .i64 a4)∧w'.cell? ⟨x,5,none⟩=some (.slice aN nN cN)∧w'.cell? ⟨x,6,none⟩=some (.slice aS nS cS)∧w'.cell? ⟨x,7,none⟩=some (.int .i64 a5)∧w'.cell? ⟨x,8,none⟩=some (.int .i64 a6))) (by kernel_rfl) (by exact(uq HX) _ (uq K4).drew) (fun hHeld=>?_);refine wpAnyH_take (i:=0) (v:=?_) rfl (by kernel_rfl) (by kernel_rfl) (by kernel_rfl) (fun c a w h=>hq8 _ _ (by decide) h) (Or.inl ⟨by rfl,?_⟩) hHeld ?_
 rotate_left
 ·intro w hSw
  try dsimp only at hSw
  go_simp;try with_reducible rfl
 show wpAnyH _ _ _ _ _ _ _ (Act.put _ (some 7) _) _;try simp only[Act.put,Ya,Yb,Yc]
 refine wpAnyH_take (i:=1) (v:=?_) rfl (by kernel_rfl) (by kernel_rfl) (by kernel_rfl) (fun c a w h=>hq8 _ _ (by decide) h) (Or.inl ⟨by rfl,?_⟩) hHeld ?_
 rotate_left
 ·intro w hSw
  try dsimp only at hSw
  go_simp;try with_reducible rfl
 show wpAnyH _ _ _ _ _ _ _ (Act.put _ (some 8) _) _;try simp only[Act.put,Ya,Yb,Yc]
 refine wpAnyH_take (i:=2) (v:=?_) rfl (by kernel_rfl) (by kernel_rfl) (by kernel_rfl) (fun c a w h=>hq8 _ _ (by decide) h) (Or.inl ⟨by rfl,?_⟩) hHeld ?_
 rotate_left
 ·intro w hSw
  try dsimp only at hSw
  go_simp;try with_reducible rfl
 show wpAnyH _ _ _ _ _ _ _ (Act.put _ (some 9) _) _;try simp only[Act.put,Ya,Yb,Yc]
 refine zal 3 (fun K hK=>?_);go_simp;clear hHeld;(refine((uq TN) _ ((uq KB).trans (uq K4).drew)).mono ?_;rintro e w5 ⟨hk,bn,rfl,hbn,hM⟩;have K5:=hide ((uq K4).drew.trans hk);have HM:=hide hM;clear hk hM);try go_wp2_with fail
 refine hK.out _ _ ?_ (fun hHeld=>?_)
 ·exact(uq HX) _ (uq K5)
 clear hK K;try simp only[Act.put,Ya,Yb,Yc]
 refine wpAnyH_ready (rs:= [4]) (by kernel_rfl) (by simp) ?_;refine AllReadyH.cons rfl (fun K hK=>?_) AllReadyH.nil;go_simp;clear hHeld;(refine((uq TS) _ bn ((uq KB).trans (uq K5)) (uq HM)).mono ?_;rintro e w6 ⟨hk,rfl⟩;have KL:=hide ((uq K5).trans hk);clear hk);try go_wp2_with fail
 skip
 obtain⟨h1,h2,h3,h4,h5,h6,h7,h8,h9,h10⟩:=(uq BB).keep (uq KL);refine leaves_cons (f:=51) (args:=#[.pointer (some ⟨b,0,none⟩),.pointer (some ⟨g,0,none⟩)]) (by simp) (by simp[go_sem]) ?_;refine(zdS b g z.1 z.2 _ _ _ h9 h10 h1 h2 h3 h4 h5 h6).mono ?_;rintro e u' w9 ⟨rfl,rfl,r1,r2,r3⟩;have KE:=Below.trans9' ((uq KB).trans (uq KL)) (r3 w.heap.size h7 h8);simp[Leaves,settle,results,Tryz.results37,go_sem,r1,r2];exact KE
set_option maxHeartbeats 4000000 in
theorem zh5 (a0 a1 a2 a3 a4:Int) (aN:Option Addr) (nN cN:Nat) (aS:Option Addr) (nS cS:Nat) (a5 a6:Int) (MN:List (List UInt8×Int)) (w:World)
  (TW:Hid (∀ w',Keep w w'→Calls Tryz.prog 52 #[.agg #[.int .i64 a0,.int .i64 a1,.int .i64 a2,.int .i64 a3,.int .i64 a4,.slice aN nN cN,.slice aS nS cS,.int .i64 a5,.int .i64 a6]] w' fun e w''=>e= .returned (.tuple #[])∧Keep w' w''))
  (TN:Hid (∀ w',Keep w w'→Calls Tryz.prog 54 #[.slice aN nN cN] w' (Hq none MN w')))
  (TS:Hid (∀ w' b,Keep w w'→Mp w' b MN→Calls Tryz.prog 53 #[.agg #[.int .i64 a0,.int .i64 a1,.int .i64 a2,.int .i64 a3,.int .i64 a4,.slice aN nN cN,.slice aS nS cS,.int .i64 a5,.int .i64 a6],.map (some b)] w' (Nq none w'))):
  Calls Tryz.prog 37 #[.agg #[.int .i64 a0,.int .i64 a1,.int .i64 a2,.int .i64 a3,.int .i64 a4,.slice aN nN cN,.slice aS nS cS,.int .i64 a5,.int .i64 a6]] w fun e w'=>e= .returned (.tuple #[.int .i64 0,.int .i64 0])∧Keep w w':=by
 have hmf:∀(fn:Fn) (first cap:Array Value) (w:World),(Instr.makeFunc fn first cap).run Tryz.prog w= .ok (.func fn first cap) w:=fun _ _ _ _=>rfl
 have KB:=hide ((((Keep.refl w).alloc (.cells #[.int .i64 a0,.int .i64 a1,.int .i64 a2,.int .i64 a3,.int .i64 a4,.slice aN nN cN,.slice aS nS cS,.int .i64 a5,.int .i64 a6] 27)).alloc (.cells #[.int .i64 0] 28)).alloc (.cells #[.int .i64 0] 3));have BB:Hid (Bx3 w (((w.alloc (.cells #[.int .i64 a0,.int .i64 a1,.int .i64 a2,.int .i64 a3,.int .i64 a4,.slice aN nN cN,.slice aS nS cS,.int .i64 a5,.int .i64 a6] 27)).alloc (.cells #[.int .i64 0] 28)).alloc (.cells #[.int .i64 0] 3)) (w.heap.size+1) (w.heap.size+1+1)):=hide (by refine⟨?_,?_,?_,?_,?_,?_,?_,?_,?_,?_⟩<;>(try simp[go_sem])<;>omega);have HX:Hid (∀ w':World,Keep (((w.alloc (.cells #[.int .i64 a0,.int .i64 a1,.int .i64 a2,.int .i64 a3,.int .i64 a4,.slice aN nN cN,.slice aS nS cS,.int .i64 a5,.int .i64 a6] 27)).alloc (.cells #[.int .i64 0] 28)).alloc (.cells #[.int .i64 0] 3)) w'→w'.cell? ⟨w.heap.size,0,none⟩=some (.int .i64 a0)∧w'.cell? ⟨w.heap.size,1,none⟩=some (.int .i64 a1)∧w'.cell? ⟨w.heap.size,2,none⟩=some (.int .i64 a2)∧w'.cell? ⟨w.heap.size,3,none⟩=some (.int .i64 a3)∧w'.cell? ⟨w.heap.size,4,none⟩=some (.int .i64 a4)∧w'.cell? ⟨w.heap.size,5,none⟩=some (.slice aN nN cN)∧w'.cell? ⟨w.heap.size,6,none⟩=some (.slice aS nS cS)∧w'.cell? ⟨w.heap.size,7,none⟩=some (.int .i64 a5)∧w'.cell? ⟨w.heap.size,8,none⟩=some (.int .i64 a6)):=hide (fun w' k9=>by
  have h:=k9.block w.heap.size (by simp;omega);have e:(((w.alloc (.cells #[.int .i64 a0,.int .i64 a1,.int .i64 a2,.int .i64 a3,.int .i64 a4,.slice aN nN cN,.slice aS nS cS,.int .i64 a5,.int .i64 a6] 27)).alloc (.cells #[.int .i64 0] 28)).alloc (.cells #[.int .i64 0] 3)).heap[w.heap.size]? =some (.cells #[.int .i64 a0,.int .i64 a1,.int .i64 a2,.int .i64 a3,.int .i64 a4,.slice aN nN cN,.slice aS nS cS,.int .i64 a5,.int .i64 a6] 27 (0,0)):=by rw[Below.heap_alloc _ _ _ (by simp;omega),Below.heap_alloc _ _ _ (by simp)];exact heap_alloc_new _ _
  rw[e]at h;refine⟨?_,?_,?_,?_,?_,?_,?_,?_,?_⟩<;>simp[World.cell?,h])
 go_enter_defers Tryz.func37,Tryz.ntmps37
 go_upto_region 2 with fail
 generalize ((w.alloc (.cells #[.int .i64 a0,.int .i64 a1,.int .i64 a2,.int .i64 a3,.int .i64 a4,.slice aN nN cN,.slice aS nS cS,.int .i64 a5,.int .i64 a6] 27)).alloc (.cells #[.int .i64 0] 28)).alloc (.cells #[.int .i64 0] 3)=w3 at KB BB HX ⊢;obtain⟨x,HXX⟩:∃ x,Hid (w.heap.size=x):=⟨_,hide rfl⟩;obtain⟨b,HBB⟩:∃ x,Hid (w.heap.size+1=x):=⟨_,hide rfl⟩;obtain⟨g,HGG⟩:∃ x,Hid (w.heap.size+1+1=x):=⟨_,hide rfl⟩;rw[uq HGG,uq HBB]at BB ⊢;rw[uq HXX]at HX ⊢;obtain⟨f0,f1,f2,f3,f4,f5,f6,f7,f8⟩:=(uq HX) w3 (Keep.refl _);go_wp2_with fail
 (refine((uq TW) _ (uq KB)).mono ?_;rintro e w4 ⟨rfl,hk⟩;have K4:=hide hk;clear hk);clear f0 f1 f2 f3 f4 f5 f6 f7 f8
 go_upto_region 3 with fail
 refine wp_region_held_drew (S:=(fun w'=>w'.cell? ⟨x,0,none⟩=some (.int .i64 a0)∧w'.cell? ⟨x,1,none⟩=some (.int .i64 a1)∧w'.cell? ⟨x,2,none⟩=some (.int .i64 a2)∧w'.cell? ⟨x,3,none⟩=some (.int .i64 a3)∧w'.cell? ⟨x,4,none⟩=some (.int .i64 a4)∧w'.cell? ⟨x,5,none⟩=some (.slice aN nN cN)∧w'.cell? ⟨x,6,none⟩=some (.slice aS nS cS)∧w'.cell? ⟨x,7,none⟩=some (.int .i64 a5)∧w'.cell? ⟨x,8,none⟩=some (.int .i64 a6))) (by kernel_rfl) (by exact(uq HX) _ (uq K4).drew) (fun hHeld=>?_);refine wpAnyH_take (i:=0) (v:=?_) rfl (by kernel_rfl) (by kernel_rfl) (by kernel_rfl) (fun c a w h=>hq8 _ _ (by decide) h) (Or.inl ⟨by rfl,?_⟩) hHeld ?_
 rotate_left
 ·intro w hSw
  try dsimp only at hSw
  go_simp;try with_reducible rfl
 show wpAnyH _ _ _ _ _ _ _ (Act.put _ (some 7) _) _;try simp only[Act.put,Ya,Yb,Yc]
 refine wpAnyH_take (i:=1) (v:=?_) rfl (by kernel_rfl) (by kernel_rfl) (by kernel_rfl) (fun c a w h=>hq8 _ _ (by decide) h) (Or.inl ⟨by rfl,?_⟩) hHeld ?_
 rotate_left
 ·intro w hSw
  try dsimp only at hSw
  go_simp;try with_reducible rfl
 show wpAnyH _ _ _ _ _ _ _ (Act.put _ (some 8) _) _;try simp only[Act.put,Ya,Yb,Yc]
 refine wpAnyH_take (i:=2) (v:=?_) rfl (by kernel_rfl) (by kernel_rfl) (by kernel_rfl) (fun c a w h=>hq8 _ _ (by decide) h) (Or.inl ⟨by rfl,?_⟩) hHeld ?_
 rotate_left
 ·intro w hSw
  try dsimp only at hSw
  go_simp;try with_reducible rfl
 show wpAnyH _ _ _ _ _ _ _ (Act.put _ (some 9) _) _;try simp only[Act.put,Ya,Yb,Yc]
 refine zal 3 (fun K hK=>?_);go_simp;clear hHeld;(refine((uq TN) _ ((uq KB).trans (uq K4).drew)).mono ?_;rintro e w5 ⟨hk,bn,rfl,hbn,hM⟩;have K5:=hide ((uq K4).drew.trans hk);have HM:=hide hM;clear hk hM);try go_wp2_with fail
 refine hK.out _ _ ?_ (fun hHeld=>?_)
 ·exact(uq HX) _ (uq K5)
 clear hK K;try simp only[Act.put,Ya,Yb,Yc]
 refine zal 4 (fun K hK=>?_);go_simp;clear hHeld;(refine((uq TS) _ bn ((uq KB).trans (uq K5)) (uq HM)).mono ?_;rintro e w6 ⟨hk,rfl⟩;have KL:=hide ((uq K5).trans hk);clear hk);try go_wp2_with fail
 refine hK.out _ _ ?_ (fun hHeld=>?_)
 ·exact(uq HX) _ (uq KL)
 clear hK K;try simp only[Act.put,Ya,Yb,Yc]
 refine wpAnyH_done (by kernel_rfl) ?_ _;clear hHeld;obtain⟨h1,h2,h3,h4,h5,h6,h7,h8,h9,h10⟩:=(uq BB).keep (uq KL);go_wp2_with fail
 refine leaves_cons (f:=51) (args:=#[.pointer (some ⟨b,0,none⟩),.pointer (some ⟨g,0,none⟩)]) (by simp) (by simp[go_sem]) ?_;refine(zfB _ _ _).mono ?_;rintro e u' w9 ⟨rfl,rfl,rfl⟩;have KE:=Below.trans9' ((uq KB).trans (uq KL)) (Below.setCell (Below.setCell (Below.refl w.heap.size w6) (p:=⟨b,0,none⟩) h7 (.int .i64 0)) (p:=⟨g,0,none⟩) h8 (.int .i64 0));simp[Leaves,settle,results,Tryz.results37,go_sem,h3,h4,h5,h6,h9,h10];exact KE
end V
end Go.Proofs.YtpmaonkelkmhbaaGreat
namespace Go.Proofs.YtpmaonkelkmhbaaGreat
open Go.RowKit
set_option linter.unusedVariables false
set_option linter.unusedSimpArgs false
set_option maxRecDepth 10000
namespace V
open S
theorem zdp {w0:World} {a:Option Addr} {L:List (List D)} (hL:∀ ds∈L,ShL za5 ds) (HA:Rvss w0 a 7 L 0) (k:Nat) (hk:k<L.length):Rvs w0 (L.getD k []) [.string (sv (tS (S.gt (L.getD k []) 0))),.slice (sA w0 a 7 1 k) (sN w0 a 7 1 k) (sC w0 a 7 1 k),.slice (sA w0 a 7 2 k) (sN w0 a 7 2 k) (sC w0 a 7 2 k),.slice (sA w0 a 7 3 k) (sN w0 a 7 3 k) (sC w0 a 7 3 k),.slice (sA w0 a 7 4 k) (sN w0 a 7 4 k) (sC w0 a 7 4 k),.slice (sA w0 a 7 5 k) (sN w0 a 7 5 k) (sC w0 a 7 5 k),.int .i64 (fI (S.gt (L.getD k []) 6))]:=by
 obtain⟨ad,us,rfl,hb,h1,h2,h3⟩:=zaI L 0 HA k hk;have hs:=hL (L.getD k []) (zaR hk);generalize L.getD k []=ds at h1 hs ⊢;simp only[ShL,Sh1,za5]at hs;obtain⟨_,_,rfl,⟨s0,rfl,_⟩,⟨_,_,rfl,⟨L1,rfl,_,q1⟩,⟨_,_,rfl,⟨L2,rfl,_,q2⟩,⟨_,_,rfl,⟨L3,rfl,_,q3⟩,⟨_,_,rfl,⟨L4,rfl,_,q4⟩,⟨_,_,rfl,⟨L5,rfl,_,q5⟩,⟨_,_,rfl,⟨v6,rfl,_,_⟩,rfl⟩⟩⟩⟩⟩⟩⟩:=hs;have hr:=h1;simp only[Rvs,Rv,dS,dI,dB]at h1;obtain⟨_,_,rfl,rfl,⟨_,_,rfl,⟨x1,z1,rfl,y1,m1⟩,⟨_,_,rfl,⟨x2,z2,rfl,y2,m2⟩,⟨_,_,rfl,⟨x3,z3,rfl,y3,m3⟩,⟨_,_,rfl,⟨x4,z4,rfl,y4,m4⟩,⟨_,_,rfl,⟨x5,z5,rfl,y5,m5⟩,⟨_,_,rfl,rfl,rfl⟩⟩⟩⟩⟩⟩⟩:=h1;rw[Nat.zero_add]at h3;have e1:=h3 1 _ rfl;have g1:(.slice (sA w0 (some ad) 7 1 k) (sN w0 (some ad) 7 1 k) (sC w0 (some ad) 7 1 k):Value)= .slice x1 L1.length z1:=by have e:=e1;simp only[sA,sN,sC,slA,slN,slC,adO,Option.getD_some,e]
 have e2:=h3 2 _ rfl;have g2:(.slice (sA w0 (some ad) 7 2 k) (sN w0 (some ad) 7 2 k) (sC w0 (some ad) 7 2 k):Value)= .slice x2 L2.length z2:=by have e:=e2;simp only[sA,sN,sC,slA,slN,slC,adO,Option.getD_some,e]
 have e3:=h3 3 _ rfl;have g3:(.slice (sA w0 (some ad) 7 3 k) (sN w0 (some ad) 7 3 k) (sC w0 (some ad) 7 3 k):Value)= .slice x3 L3.length z3:=by have e:=e3;simp only[sA,sN,sC,slA,slN,slC,adO,Option.getD_some,e]
 have e4:=h3 4 _ rfl;have g4:(.slice (sA w0 (some ad) 7 4 k) (sN w0 (some ad) 7 4 k) (sC w0 (some ad) 7 4 k):Value)= .slice x4 L4.length z4:=by have e:=e4;simp only[sA,sN,sC,slA,slN,slC,adO,Option.getD_some,e]
 have e5:=h3 5 _ rfl;have g5:(.slice (sA w0 (some ad) 7 5 k) (sN w0 (some ad) 7 5 k) (sC w0 (some ad) 7 5 k):Value)= .slice x5 L5.length z5:=by have e:=e5;simp only[sA,sN,sC,slA,slN,slC,adO,Option.getD_some,e]
 rw[g1,g2,g3,g4,g5];exact hr
def nI (L:List (List D)) (nm:List UInt8):Int:=ix (fun k=>tn L k==nm) 0 L.length
def cI (L:List (List D)) (nm:List UInt8):Bool:=decide (0≤ix (fun k=>nm==tn L k) 0 L.length)
def hI (L:List (List D)) (nm:List UInt8):Int:=ix (fun k=>cI (sub L 1 k) nm) 0 L.length
theorem zdv {w:World} {s:ByteArray} {x1:Option Addr} {c1:Nat} {x2:Option Addr} {n2 c2:Nat} {x3:Option Addr} {n3 c3:Nat} {x4:Option Addr} {n4 c4:Nat} {x5:Option Addr} {n5 c5:Nat} {p:Int} {L:List (List D)} (nm:List UInt8)
  (hL:∀ ds∈L,ShL zcs ds) (HA:Rvss w x1 11 L 0) (hn:L.length≤maxLen):Calls Tryz.prog 58 #[.agg #[.string s,.slice x1 L.length c1,.slice x2 n2 c2,.slice x3 n3 c3,.slice x4 n4 c4,.slice x5 n5 c5,.int .i64 p],.string (sv nm)] w fun e w'=>e= .returned (.int .i64 (nI L nm))∧Keep w w':=
 zh0 s x1 L.length c1 x2 n2 c2 x3 n3 c3 x4 n4 c4 x5 n5 c5 p nm _ w (hide fun w' c k hc hcell=>zk2 x1 L.length c1 c (tn L) (iv L 1) (iv L 2) (iv L 3) (iv L 4) (iv L 5) (iv L 6) (iv L 7) (iv L 8) (iv L 9) (iv L 10) (fun k=>tn L k==nm) _ w' hn
  (hide fun j hj=>S.clHead (Keep.refl w') hL (Rvss.keep k _ _ _ _ HA) j hj)
  (hide fun j hj w'' k'=>V.clHead (tn L j) nm _ _ _ _ _ _ _ _ _ _ c w'' (by rw[Below.cell (p:=⟨c,0,none⟩) k' hc];exact hcell) (Nat.lt_of_lt_of_le hc k'.size)) (hide rfl))
theorem zh6 {w:World} {s:ByteArray} {x1:Option Addr} {n1 c1:Nat} {x2:Option Addr} {n2 c2:Nat} {x3:Option Addr} {c3:Nat} {x4:Option Addr} {n4 c4:Nat} {x5:Option Addr} {n5 c5:Nat} {p:Int} {L:List (List D)} (nm:List UInt8)
  (hL:∀ ds∈L,ShL zba ds) (HA:Rvss w x3 3 L 0) (hn:L.length≤maxLen):Calls Tryz.prog 61 #[.agg #[.string s,.slice x1 n1 c1,.slice x2 n2 c2,.slice x3 L.length c3,.slice x4 n4 c4,.slice x5 n5 c5,.int .i64 p],.string (sv nm)] w fun e w'=>e= .returned (.int .i64 (nI L nm))∧Keep w w':=
 zgJ s x1 n1 c1 x2 n2 c2 x3 L.length c3 x4 n4 c4 x5 n5 c5 p nm _ w (hide fun w' c k hc hcell=>zh1 x3 L.length c3 c (tn L) (sA w' x3 3 1) (sN w' x3 3 1) (sC w' x3 3 1) (iv L 2) (fun k=>tn L k==nm) _ w' hn
  (hide fun j hj=>S.clPhase (Keep.refl w') hL (Rvss.keep k _ _ _ _ HA) j hj)
  (hide fun j hj w'' k'=>V.clPhase (tn L j) nm _ _ c w'' (by rw[Below.cell (p:=⟨c,0,none⟩) k' hc];exact hcell) (Nat.lt_of_lt_of_le hc k'.size)) (hide rfl))
end V
namespace V
open S
def nsE (LN:List (List D)):Eq2:=fE (nsF (tn LN) (fun k=>zei (LN.getD k [])) (iv LN 6)) 0 LN.length
theorem zgL {w:World} {aN:Option Addr} {cN:Nat} {LN:List (List D)} (hL:∀ ds∈LN,ShL za5 ds) (HA:Rvss w aN 7 LN 0) (hn:LN.length≤maxLen):Calls Tryz.prog 54 #[.slice aN LN.length cN] w (Hq (nsE LN) (mk (tn LN) LN.length) w):=
 zfw aN LN.length cN (tn LN) (sA w aN 7 1) (sA w aN 7 2) (sA w aN 7 3) (sA w aN 7 4) (sA w aN 7 5) (sN w aN 7 1) (sC w aN 7 1) (sN w aN 7 2) (sC w aN 7 2) (sN w aN 7 3) (sC w aN 7 3) (sN w aN 7 4) (sC w aN 7 4) (sN w aN 7 5) (sC w aN 7 5) (iv LN 6) (fun k=>zei (LN.getD k [])) _ w hn (hide fun k hk=>nm0 (hL _ (zaR hk))) (hide fun k hk=>S.clNode (Keep.refl w) hL HA k hk)
  (hide fun k hk w' kw=>zcv (hL _ (zaR hk)) (Rvs.keep kw _ _ (zdp hL HA k hk))) (hide rfl)
def hdj (LN:List (List D)) (j:Int) (nm:List UInt8):Int:=nI (sub LN 1 j.toNat) nm
def s2 (L:List (List D)) (k:Nat):List UInt8:=tS (S.gt (L.getD k []) 2)
def stE (LN LS:List (List D)):Eq2:=fE (stF (mk (tn LN) LN.length) (tn LS) (un LS) (s2 LS) (hdj LN) (iv LS 3) (iv LS 4) (iv LS 5)) 0 LS.length
theorem zk4 {T:Nat→List UInt8} {s:List UInt8} :∀ n,hs (mk T n) s=true→∃ j:Nat,j<n∧lk (mk T n) s=(j:Int)
 |0,h=>by simp[mk,hs]at h
 |n+1,h=>by
  rw[zbO]at h ⊢;by_cases h':hs (mk T n) s=true
  ·obtain⟨j,h1,h2⟩:=zk4 n h';refine⟨j,by omega,?_⟩;rw[← h2];unfold lk
   rw[List.find?_append];have:((mk T n).find? (fun p=>p.1==s)).isSome=true:=by
    rw[List.find?_isSome];obtain⟨p,hp,he⟩:=List.any_eq_true.1 h';exact⟨p,hp,he⟩
   obtain⟨p,hp⟩:=Option.isSome_iff_exists.1 this;rw[hp];rfl
  ·refine⟨n,by omega,?_⟩;have h0:hs (mk T n) s=false:=by simpa using h'
   have h1:(T n==s)=true:=by rw[zgx,h0]at h;simpa using h
   have h2:T n=s:=by simpa using h1
   subst h2;rw[ziS _ _ h0,if_pos rfl]
theorem zgM {w:World} {a0 a1 a2 a3 a4:Int} {aN:Option Addr} {cN:Nat} {aS:Option Addr} {cS:Nat} {a5 a6:Int} {bn:Nat} {LN LS:List (List D)} (hL:∀ ds∈LN,ShL za5 ds) (HA:Rvss w aN 7 LN 0) (hn:LN.length≤maxLen) (hLS:∀ ds∈LS,ShL zhW ds) (HS:Rvss w aS 6 LS 0) (hnS:LS.length≤maxLen) (hM:Mp w bn (mk (tn LN) LN.length)):
  Calls Tryz.prog 53 #[.agg #[.int .i64 a0,.int .i64 a1,.int .i64 a2,.int .i64 a3,.int .i64 a4,.slice aN LN.length cN,.slice aS LS.length cS,.int .i64 a5,.int .i64 a6],.map (some bn)] w (Nq (stE LN LS) w):=by
 refine zfx a0 a1 a2 a3 a4 aN LN.length cN aS LS.length cS a5 a6 bn (mk (tn LN) LN.length) (tn LN) (sA w aN 7 1) (sA w aN 7 2) (sA w aN 7 3) (sA w aN 7 4) (sA w aN 7 5) (sN w aN 7 1) (sC w aN 7 1) (sN w aN 7 2) (sC w aN 7 2) (sN w aN 7 3) (sC w aN 7 3) (sN w aN 7 4) (sC w aN 7 4) (sN w aN 7 5) (sC w aN 7 5) (iv LN 6) (tn LS) (un LS) (s2 LS) (iv LS 3) (iv LS 4) (iv LS 5) (hdj LN) _ w hnS hn (hide hM) (hide fun k hk=>nm0 (hLS _ (zaR hk))) (hide fun k hk h=>zk4 _ h) (hide fun k hk=>S.clStop (Keep.refl w) hLS HS k hk) (hide fun j hj=>S.clNode (Keep.refl w) hL HA j hj) (hide fun j hj k hk w' kw=>?_) (hide rfl);obtain⟨⟨r1,r2,r3,r4⟩,_⟩:=zeV hL HA j hj;have hl:(sub LN 1 j).length≤maxLen:=by
  have hs:=hL _ (zaR hj);unfold sub
  generalize LN.getD j []=ds at hs ⊢;simp only[ShL,Sh1,za5]at hs;obtain⟨_,_,rfl,_,⟨_,_,rfl,⟨L1,rfl,hl,_⟩,_⟩⟩:=hs;exact hl
 rw[r1];have e:∀ nm,hdj LN (j:Int) nm=nI (sub LN 1 j) nm:=fun nm=>by unfold hdj;rw[Int.toNat_natCast]
 rw[e,e];exact⟨zdv _ r4 (Rvss.keep kw _ _ _ _ r3) hl,zdv _ r4 (Rvss.keep kw _ _ _ _ r3) hl⟩
def zhL (a0 a1 a2 a3 a4:Int) (LN LS:List (List D)) (a5 a6:Int):Int×Int:=match whE a0 a1 a2 a3 a4 LN.length LS.length a5 a6 with
 |some c=>(c,0)
 |none=>match nsE LN with
  |some x=>x
  |none=>match stE LN LS with
   |some x=>x
   |none=>(0,0)
def zk5 (ds:List D):Int×Int:=zhL (fI (gt ds 0)) (fI (gt ds 1)) (fI (gt ds 2)) (fI (gt ds 3)) (fI (gt ds 4)) (fL (gt ds 5)) (fL (gt ds 6)) (fI (gt ds 7)) (fI (gt ds 8))
set_option maxHeartbeats 1000000 in
theorem zgN {w:World} {ds:List D} {us:List Value} (hs:ShL zgo ds) (hr:Rvs w ds us):Calls Tryz.prog 37 #[.agg us.toArray] w fun e w'=>e= .returned (.tuple #[.int .i64 (zk5 ds).1,.int .i64 (zk5 ds).2])∧Keep w w':=by
 simp only[ShL,Sh1,zgo]at hs;obtain⟨_,_,rfl,⟨a0,rfl,_,_⟩,⟨_,_,rfl,⟨a1,rfl,_,_⟩,⟨_,_,rfl,⟨a2,rfl,_,_⟩,⟨_,_,rfl,⟨a3,rfl,_,_⟩,⟨_,_,rfl,⟨a4,rfl,_,_⟩,⟨_,_,rfl,⟨LN,rfl,bN,qN⟩,⟨_,_,rfl,⟨LS,rfl,bS,qS⟩,⟨_,_,rfl,⟨a5,rfl,_,_⟩,⟨_,_,rfl,⟨a6,rfl,_,_⟩,rfl⟩⟩⟩⟩⟩⟩⟩⟩⟩:=hs;simp only[Rvs,Rv,dS,dI,dB]at hr;obtain⟨_,_,rfl,rfl,⟨_,_,rfl,rfl,⟨_,_,rfl,rfl,⟨_,_,rfl,rfl,⟨_,_,rfl,rfl,⟨_,_,rfl,⟨aN,cN,rfl,yN,mN⟩,⟨_,_,rfl,⟨aS,cS,rfl,yS,mS⟩,⟨_,_,rfl,rfl,⟨_,_,rfl,rfl,rfl⟩⟩⟩⟩⟩⟩⟩⟩⟩:=hr;show Calls _ _ #[.agg #[.int .i64 a0,.int .i64 a1,.int .i64 a2,.int .i64 a3,.int .i64 a4,.slice aN LN.length cN,.slice aS LS.length cS,.int .i64 a5,.int .i64 a6]] w fun e w'=>e= .returned (.tuple #[.int .i64 (zhL a0 a1 a2 a3 a4 LN LS a5 a6).1,.int .i64 (zhL a0 a1 a2 a3 a4 LN LS a5 a6).2])∧Keep w w'
 have TW:∀ w',Keep w w'→Calls Tryz.prog 52 #[.agg #[.int .i64 a0,.int .i64 a1,.int .i64 a2,.int .i64 a3,.int .i64 a4,.slice aN LN.length cN,.slice aS LS.length cS,.int .i64 a5,.int .i64 a6]] w' fun e w''=>e=En ((whE a0 a1 a2 a3 a4 LN.length LS.length a5 a6).map ern) (.tuple #[])∧Keep w' w'':=fun w' k=>zft a0 a1 a2 a3 a4 aN LN.length cN aS LS.length cS a5 a6 w' _ (hide rfl)
 have TN:∀ w',Keep w w'→Calls Tryz.prog 54 #[.slice aN LN.length cN] w' (Hq (nsE LN) (mk (tn LN) LN.length) w'):=fun w' k=>zgL qN (Rvss.keep k _ _ _ _ mN) bN
 have TS:∀ w' b,Keep w w'→Mp w' b (mk (tn LN) LN.length)→Calls Tryz.prog 53 #[.agg #[.int .i64 a0,.int .i64 a1,.int .i64 a2,.int .i64 a3,.int .i64 a4,.slice aN LN.length cN,.slice aS LS.length cS,.int .i64 a5,.int .i64 a6],.map (some b)] w' (Nq (stE LN LS) w'):=fun w' b k hM=>zgM qN (Rvss.keep k _ _ _ _ mN) bN qS (Rvss.keep k _ _ _ _ mS) bS hM
 unfold zhL
 cases h0:whE a0 a1 a2 a3 a4 LN.length LS.length a5 a6 with
 |some c=>rw[h0]at TW;exact zh2 a0 a1 a2 a3 a4 aN LN.length cN aS LS.length cS a5 a6 c w (hide TW)
 |none=>
  rw[h0]at TW;cases h1:nsE LN with
  |some x=>rw[h1]at TN;exact zh3 a0 a1 a2 a3 a4 aN LN.length cN aS LS.length cS a5 a6 x _ w (hide TW) (hide TN)
  |none=>
   rw[h1]at TN;cases h2:stE LN LS with
   |some x=>rw[h2]at TS;exact zh4 a0 a1 a2 a3 a4 aN LN.length cN aS LS.length cS a5 a6 x _ w (hide TW) (hide TN) (hide TS)
   |none=>rw[h2]at TS;exact zh5 a0 a1 a2 a3 a4 aN LN.length cN aS LS.length cS a5 a6 _ w (hide TW) (hide TN) (hide TS)
end V
end Go.Proofs.YtpmaonkelkmhbaaGreat
