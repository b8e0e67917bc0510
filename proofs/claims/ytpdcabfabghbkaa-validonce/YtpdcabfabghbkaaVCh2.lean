/- Package valid: Check: what a panic bears is handed back. -/
import Derived.Test.YtpdcabfabghbkaaVSt
import Derived.Test.YtpdcabfabghbkaaVNs
import Derived.Defers
import Derived.Recover
import Derived.Deep.DrawnRows
import Derived.Deep.RegionHeld3
import Derived.Test.YtpdcabfabghbkaaLMath
namespace Go.Proofs.Ytpdcabfabghbkaa
open Go.RowKit
attribute [local go_sem ↓] Go.wp_at_zero Go.wp_at_succ
set_option linter.unusedVariables false
set_option linter.unusedSimpArgs false
set_option maxRecDepth 10000
namespace V
theorem zjN (c:Int) (w:World):(Instr.typeAssert (.iface 29 (.int .i64 c)) 20 29 true).run Try.prog w= .ok (.tuple #[.int .i64 c,.bool true]) w:=by kernel_rfl
theorem zjO (c p:Int) (w:World):(Instr.typeAssert (.iface 55 (.agg #[.int .i64 c,.int .i64 p])) 20 29 true).run Try.prog w= .ok (.tuple #[.int .i64 0,.bool false]) w:=by kernel_rfl
theorem zhX (c p:Int) (w:World):(Instr.typeAssert (.iface 55 (.agg #[.int .i64 c,.int .i64 p])) 20 55 true).run Try.prog w= .ok (.tuple #[.agg #[.int .i64 c,.int .i64 p],.bool true]) w:=by kernel_rfl
set_option maxHeartbeats 2000000 in
theorem zd4 (p q:Addr) (w:World):
  CallsD Try.prog 22 #[.pointer (some p),.pointer (some q)] .returning w fun e u' w'=>e= .returned (.tuple #[])∧u'= .returning∧w'=w:=by
 refine callsD_of_wpS Try.func22 rfl fun c₀ cs hu=>?_
 apply wpS_seq;apply wpS_region;simp[wpOpsS,go_sem,recoverD,hu,Try.ntmps22,Exit.thenS];rw[show #[Value.pointer (some p),Value.pointer (some q)]++(Array.replicate 18 undef).setIfInBounds 4 Value.nilIface=#[.pointer (some p),.pointer (some q),undef,undef,undef,undef,Value.nilIface,undef,undef,undef,undef,undef,undef,undef,undef,undef,undef,undef,undef,undef]from rfl];refine wpS_of_wp ?_;refine(?_:∀ Q:Exit→Act→World→Prop,(∀ t,Q Exit.normal ⟨t,[]⟩ w)→Code.wp Try.prog _ Q _ w) _ ?_
 ·clear hu;intro Q hQ
  have HQ:=hide hQ;clear hQ;go_wp2_with fail
  exact(uq HQ) _
 ·intro t
  cases c₀
  simp_all [bodyPostS,results,Try.results22]
set_option maxHeartbeats 2000000 in
theorem zeH (b g:Nat) (c:Int) (v:Value) (w:World) (hc:w.cell? ⟨b,0,none⟩=some v) (hz:w.frozen? ⟨b,0,none⟩=false):
  CallsD Try.prog 22 #[.pointer (some ⟨b,0,none⟩),.pointer (some ⟨g,0,none⟩)] (.panicking [{ v:=ern c,recovered:=false }]) w fun e u' w'=>e= .returned (.tuple #[])∧u'= .panicking [{ v:=ern c,recovered:=true }]∧w'=w.setCell ⟨b,0,none⟩ (.int .i64 c):=by
 refine callsD_of_wpS Try.func22 rfl fun c₀ cs hu=>?_
 apply wpS_seq;apply wpS_region;simp[wpOpsS,go_sem,recoverD,hu,Try.ntmps22,Exit.thenS];rw[show #[Value.pointer (some ⟨b,0,none⟩),Value.pointer (some ⟨g,0,none⟩)]++(Array.replicate 18 undef).setIfInBounds 4 (ern c)=#[.pointer (some ⟨b,0,none⟩),.pointer (some ⟨g,0,none⟩),undef,undef,undef,undef,(ern c),undef,undef,undef,undef,undef,undef,undef,undef,undef,undef,undef,undef,undef]from rfl];refine wpS_of_wp ?_;refine(?_:∀ Q:Exit→Act→World→Prop,(∀ t,Q Exit.normal ⟨t,[]⟩ (w.setCell ⟨b,0,none⟩ (.int .i64 c)))→Code.wp Try.prog _ Q _ w) _ ?_
 ·clear hu;intro Q hQ
  have HQ:=hide hQ;clear hQ;have h1:=zjN;unfold ern
  go_wp2_with fail
  exact(uq HQ) _
 ·intro t
  simp[bodyPostS,results,Try.results22,hu]
end V
namespace V
def Fq (b g:Nat) (c p:Int) (w:World) (e:Exit) (a:Act) (W:World):Prop:=match e with
 | .normal=>a.defers= []∧W.cell? ⟨b,0,none⟩=some (.int .i64 c)∧W.cell? ⟨g,0,none⟩=some (.int .i64 p)∧∀ B,B≤b→B≤g→Below B w W
 | _=>False
set_option maxHeartbeats 2000000 in
theorem zcY (b g:Nat) (c p:Int) (v v2:Value) (w:World) (hbg:¬b=g) (hgb:¬g=b) (hb:b<w.heap.size) (hg:g<w.heap.size) (hc:w.cell? ⟨b,0,none⟩=some v) (hz:w.frozen? ⟨b,0,none⟩=false) (hc2:w.cell? ⟨g,0,none⟩=some v2) (hz2:w.frozen? ⟨g,0,none⟩=false):
  CallsD Try.prog 22 #[.pointer (some ⟨b,0,none⟩),.pointer (some ⟨g,0,none⟩)] (.panicking [{ v:=flt c p,recovered:=false }]) w fun e u' w'=>e= .returned (.tuple #[])∧u'= .panicking [{ v:=flt c p,recovered:=true }]∧(w'.cell? ⟨b,0,none⟩=some (.int .i64 c)∧w'.cell? ⟨g,0,none⟩=some (.int .i64 p)∧∀ B,B≤b→B≤g→Below B w w'):=by
 refine callsD_of_wpS Try.func22 rfl fun c₀ cs hu=>?_
 apply wpS_seq;apply wpS_region;simp[wpOpsS,go_sem,recoverD,hu,Try.ntmps22,Exit.thenS];rw[show #[Value.pointer (some ⟨b,0,none⟩),Value.pointer (some ⟨g,0,none⟩)]++(Array.replicate 18 undef).setIfInBounds 4 (flt c p)=#[.pointer (some ⟨b,0,none⟩),.pointer (some ⟨g,0,none⟩),undef,undef,undef,undef,(flt c p),undef,undef,undef,undef,undef,undef,undef,undef,undef,undef,undef,undef,undef]from rfl];refine wpS_of_wp ?_;refine wp_mono (Q:=Fq b g c p w) ?_ ?_
 ·clear hu;have h1:=zjO;have h2:=zhX;unfold flt
  have nb:¬b=w.heap.size:=by omega
  have ng:¬g=w.heap.size:=by omega
  have nb':¬w.heap.size=b:=by omega
  have ng':¬w.heap.size=g:=by omega
  go_upto_region 10 with fail
  refine wp_region_held_drew (S:=(fun w'=>w'.cell? ⟨w.heap.size,0,none⟩=some (.int .i64 c)∧w'.cell? ⟨w.heap.size,1,none⟩=some (.int .i64 p))) (by kernel_rfl) (by simp[go_sem]) (fun hHeld=>?_);refine tkk 0 16 hHeld ?_;try simp only[Act.put,Ya,Yb,Yc]
  refine tkk 1 17 hHeld ?_;try simp only[Act.put,Ya,Yb,Yc]
  refine tkk 2 18 hHeld ?_;try simp only[Act.put,Ya,Yb,Yc]
  refine tkk 3 19 hHeld ?_;try simp only[Act.put,Ya,Yb,Yc]
  refine zaz 4 (fun K hK=>?_);go_simp;clear hHeld;refine hK.out _ _ ?_ (fun hHeld=>?_)
  ·simp[go_sem,nb,ng,nb',ng',hb,hg]
  clear hK K;try simp only[Act.put,Ya,Yb,Yc]
  refine zaz 5 (fun K hK=>?_);go_simp;clear hHeld;refine hK.out _ _ ?_ (fun hHeld=>?_)
  ·simp[go_sem,nb,ng,nb',ng',hb,hg]
  clear hK K;try simp only[Act.put,Ya,Yb,Yc]
  refine wpAnyH_done (by kernel_rfl) ?_ _;clear hHeld;go_wp2_with fail
  refine⟨rfl,?_,?_,?_⟩
  ·simp[go_sem,hbg,hgb,hb,hg,hc,hz,hc2,hz2]
  ·simp[go_sem,hbg,hgb,hb,hg,hc,hz,hc2,hz2]
  ·intro B h3 h4
   repeat(first|exact Below.refl _ _|(refine Below.setCell ?_ (by first|exact h3|exact h4) _)|apply Below.drew|(refine Below.alloc ?_ (by simp;omega) _))
 ·intro e a W hq
  cases e with
  |normal=>
   obtain⟨q0,q1,q2,q3⟩:=hq;obtain⟨t,d⟩:=a;simp only at q0;subst q0;simp[bodyPostS,results,Try.results22,hu,q1,q2];exact q3
  | _=>exact hq.elim
end V
end Go.Proofs.Ytpdcabfabghbkaa
