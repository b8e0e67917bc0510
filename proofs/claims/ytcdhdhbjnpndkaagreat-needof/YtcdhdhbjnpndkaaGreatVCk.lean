/- The document's words. -/
import Derived.Test.YtcdhdhbjnpndkaaGreatLReadA
import Derived.Test.YtcdhdhbjnpndkaaGreatNVal
import Derived.Test.YtcdhdhbjnpndkaaGreatVGr
import Derived.LoopTactic
import Derived.Test.YtcdhdhbjnpndkaaGreatVTn
import Derived.Test.YtcdhdhbjnpndkaaGreatVNs
import Derived.Defers
import Derived.Recover
import Derived.Deep.DrawnRows
import Derived.Deep.RegionHeld3
import Derived.Test.YtcdhdhbjnpndkaaGreatLSkip
namespace Go.Proofs.YtcdhdhbjnpndkaaGreat
open Go.RowKit
attribute [local go_sem ↓] Go.wp_at_zero Go.wp_at_succ
set_option linter.unusedVariables false
set_option linter.unusedSimpArgs false
set_option maxRecDepth 10000
set_option maxHeartbeats 4000000 in
theorem zik (w:World):Calls Tryz.prog 145 #[] w fun e w'=>e= .returned (.slice (some ⟨w.heap.size,0,none⟩) 42 42)∧w'=w.alloc (.cells ((words.map fun x=>Value.string (sv x)).toArray) 9):=by
 go_enter Tryz.func145,Tryz.ntmps145;go_wp2_with fail
 go_ret;exact⟨rfl,rfl⟩
set_option maxHeartbeats 4000000 in
theorem zni (s:ByteArray) (ad:Addr) (n cap:Nat) (X:Nat→ByteArray) (B:Nat→Bool) (r:Bool) (w:World) (hn:n≤100000)
  (HC:Hid (∀ k,k<n→w.cell? (ad.add k)=some (.string (X k))))
  (HB:Hid (∀ k,k<n→((X k).toList==s.toList)=B k))
  (H1:Hid (∀ k,k<n→B k=true→r=true))
  (H2:Hid ((∀ k,k<n→B k=false)→r=false)):
  Calls Tryz.prog 31 #[.string s,.slice (some ad) n cap] w fun e w'=>e= .returned (.bool r)∧w'=w:=by
 go_enter Tryz.func31,Tryz.ntmps31;go_wp2_with fail
 go_loop [5] (fun vi=>∃ k:Nat,k≤n∧vi= .int .i64 (k:Int)∧Hid (∀ j,j<k→B j=false)) (fun vi=>n - (intOf vi).toNat)
 case atStart=>exact⟨0,Nat.zero_le _,rfl,hide fun j hj=>by omega⟩
 case round=>
  obtain⟨k,hk,rfl,HN⟩:=hrel;by_cases hlt:k<n
  ·have li:(k:Int)<(n:Int):=by omega
   have ck:=(uq HC) k hlt;have hb:=(uq HB) k hlt;have HQ:=hide ((uq H1) k hlt);generalize X k=x at *;obtain⟨b,hbk⟩:∃ b,B k=b:=⟨_,rfl⟩;rw[hbk]at hb;have HBK:=hide hbk;clear hbk;cases b with
   |true=>
    have hr:=(uq HQ) (uq HBK);subst hr;go_wp2_with fail
    go_ret;exact⟨rfl,rfl⟩
   |false=>
    go_wp2_with fail
    exact⟨⟨k+1,hlt,by go_num,hide fun j hj=>(Nat.lt_succ_iff_lt_or_eq.1 hj).elim ((uq HN) j) (fun e=>e▸uq HBK)⟩,by simp[intOf];omega⟩
  ·have hr:=(uq H2) (fun j hj=>(uq HN) j (by omega));subst hr;go_wp2_with fail
   go_ret;exact⟨rfl,rfl⟩
theorem zfi (l:List UInt8):(sv l).toList=l:=ByteArray.toList_mk l
theorem zjZ (s:ByteArray) (g:Nat) (w:World) (HC:∀ k,k<42→w.cell? ⟨g,k,none⟩=some (.string (sv (words.getD k [])))):
  Calls Tryz.prog 31 #[.string s,.slice (some ⟨g,0,none⟩) 42 42] w fun e w'=>e= .returned (.bool (decide (s.toList∈words)))∧w'=w:=by
 refine zni s ⟨g,0,none⟩ 42 42 (fun k=>sv (words.getD k [])) (fun k=>words.getD k []==s.toList) _ w (by decide) (hide fun k hk=>?_) (hide fun k hk=>by rw[zfi]) (hide fun k hk hb=>?_) (hide fun h=>?_)
 ·rw[zaV,Nat.zero_add];exact HC k hk
 ·rw[decide_eq_true_iff,← eq_of_beq hb,List.getD_eq_getElem?_getD,List.getElem?_eq_getElem (show k<words.length from hk)];exact List.getElem_mem _
 ·rw[decide_eq_false_iff_not];intro hm
  obtain⟨k,hk,e⟩:=List.getElem_of_mem hm;have:=h k hk;rw[List.getD_eq_getElem?_getD,List.getElem?_eq_getElem hk,Option.getD_some,e]at this;simp at this
set_option maxHeartbeats 4000000 in
theorem zil (s:ByteArray) (r:Bool) (w:World) (o:Obj)
  (T1:Hid (∀ w:World,Calls Tryz.prog 145 #[] w fun e w'=>e= .returned (.slice (some ⟨w.heap.size,0,none⟩) 42 42)∧w'=w.alloc o))
  (T2:Hid (∀ w:World,Calls Tryz.prog 31 #[.string s,.slice (some ⟨w.heap.size,0,none⟩) 42 42] (w.alloc o) fun e w'=>e= .returned (.bool r)∧w'=w.alloc o)):
  Calls Tryz.prog 127 #[.string s] w fun e w'=>e= .returned (.bool r)∧Keep w w':=by
 go_enter Tryz.func127,Tryz.ntmps127;go_wp2_with fail
 (refine((uq T1) _).mono ?_;rintro e w2 ⟨rfl,rfl⟩);go_wp2_with fail
 (refine((uq T2) _).mono ?_;rintro e w2 ⟨rfl,rfl⟩);go_wp2_with fail
 go_ret;exact⟨rfl,(Keep.refl w).alloc _⟩
theorem zef (s:ByteArray) (w:World):Calls Tryz.prog 127 #[.string s] w fun e w'=>e= .returned (.bool (decide (s.toList∈words)))∧Keep w w':=by
 refine zil s _ w _ (hide fun w=>zik w) (hide fun w=>zjZ s w.heap.size _ fun k hk=>?_);rw[World.cell?_alloc_mark,List.getElem?_toArray,List.getElem?_map,List.getD_eq_getElem?_getD,List.getElem?_eq_getElem (show k<words.length from hk)]
 rfl
end Go.Proofs.YtcdhdhbjnpndkaaGreat
namespace Go.Proofs.YtcdhdhbjnpndkaaGreat
open Go.RowKit
set_option linter.unusedVariables false
set_option linter.unusedSimpArgs false
set_option maxRecDepth 10000
namespace V
def ix (B:Nat→Bool):Nat→Nat→Int
 | _,0=> -1
 |k,m+1=>if B k then(k:Int)else ix B (k+1) m
theorem zdQ {B:Nat→Bool} {k n:Nat} {r:Int} (h:ix B k (n - k)=r) (hk:k<n) (hb:B k=true):r=(k:Int):=by
 rw[show n - k=(n - (k+1))+1 by omega,ix,if_pos hb]at h;exact h.symm
theorem zg4 {B:Nat→Bool} {k n:Nat} {r:Int} (h:ix B k (n - k)=r) (hk:k<n) (hb:B k=false):ix B (k+1) (n - (k+1))=r:=by
 rw[show n - k=(n - (k+1))+1 by omega,ix,if_neg (by rw[hb];decide)]at h;exact h
theorem zdR {B:Nat→Bool} {k n:Nat} {r:Int} (h:ix B k (n - k)=r) (hk:n≤k):r= -1:=by
 rw[show n - k=0 by omega]at h;exact h.symm
theorem sv_beq (a b:List UInt8):((sv a).toList==(sv b).toList)=(a==b):=by rw[zfi,zfi]
set_option maxHeartbeats 1000000 in
theorem clHead (t nm:List UInt8) (u1 u2 u3 u4 u5 u6 u7 u8 u9 u10:Value) (c:Nat) (w:World) (hc:w.cell? ⟨c,0,none⟩=some (.string (sv nm))) (hcl:c<w.heap.size):
  Calls Tryz.prog 80 #[.agg #[.string (sv t),u1,u2,u3,u4,u5,u6,u7,u8,u9,u10],.pointer (some ⟨c,0,none⟩)] w fun e w'=>e= .returned (.bool (t==nm))∧Keep w w':=by
 rw[← sv_beq];go_enter Tryz.func80,Tryz.ntmps80;go_wp2_with fail
 go_ret;exact⟨rfl,(Keep.refl w).alloc _⟩
set_option maxHeartbeats 1000000 in
theorem clPhase (t nm:List UInt8) (u1 u2:Value) (c:Nat) (w:World) (hc:w.cell? ⟨c,0,none⟩=some (.string (sv nm))) (hcl:c<w.heap.size):
  Calls Tryz.prog 129 #[.agg #[.string (sv t),u1,u2],.pointer (some ⟨c,0,none⟩)] w fun e w'=>e= .returned (.bool (t==nm))∧Keep w w':=by
 rw[← sv_beq];go_enter Tryz.func129,Tryz.ntmps129;go_wp2_with fail
 go_ret;exact⟨rfl,(Keep.refl w).alloc _⟩
theorem zeg (B:Nat→Bool):∀ m k,ix B k m= -1∨(k:Int)≤ix B k m∧ix B k m<(k:Int)+(m:Int)
 |0,k=> .inl rfl
 |m+1,k=>by
  unfold ix
  split
  ·right;omega
  ·rcases zeg B m (k+1)with h|⟨h1,h2⟩
   ·exact .inl h
   ·right;omega
set_option maxHeartbeats 2000000 in
theorem znj (a:Option Addr) (n cap c:Nat) (T:Nat→List UInt8) (V1 V2 V3 V4 V5 V6 V7 V8 V9 V10:Nat→Int) (B:Nat→Bool) (r:Int) (w:World) (hn:n≤9223372036854775807)
  (HC:Hid (∀ k,k<n→∃ ad,a=some ad∧ad.block<w.heap.size∧w.cell? (ad.add (k * 11))=some (.string (sv (T k)))∧w.cell? ⟨(ad.add (k * 11)).block,(ad.add (k * 11)).off+1,none⟩=some (.int .i64 (V1 k))∧w.cell? ⟨(ad.add (k * 11)).block,(ad.add (k * 11)).off+2,none⟩=some (.int .i64 (V2 k))∧w.cell? ⟨(ad.add (k * 11)).block,(ad.add (k * 11)).off+3,none⟩=some (.int .i64 (V3 k))∧w.cell? ⟨(ad.add (k * 11)).block,(ad.add (k * 11)).off+4,none⟩=some (.int .i64 (V4 k))∧w.cell? ⟨(ad.add (k * 11)).block,(ad.add (k * 11)).off+5,none⟩=some (.int .i64 (V5 k))∧w.cell? ⟨(ad.add (k * 11)).block,(ad.add (k * 11)).off+6,none⟩=some (.int .i64 (V6 k))∧w.cell? ⟨(ad.add (k * 11)).block,(ad.add (k * 11)).off+7,none⟩=some (.int .i64 (V7 k))∧w.cell? ⟨(ad.add (k * 11)).block,(ad.add (k * 11)).off+8,none⟩=some (.int .i64 (V8 k))∧w.cell? ⟨(ad.add (k * 11)).block,(ad.add (k * 11)).off+9,none⟩=some (.int .i64 (V9 k))∧w.cell? ⟨(ad.add (k * 11)).block,(ad.add (k * 11)).off+10,none⟩=some (.int .i64 (V10 k))))
  (TF:Hid (∀ k,k<n→∀ w',Keep w w'→Calls Tryz.prog 80 #[.agg #[.string (sv (T k)),.int .i64 (V1 k),.int .i64 (V2 k),.int .i64 (V3 k),.int .i64 (V4 k),.int .i64 (V5 k),.int .i64 (V6 k),.int .i64 (V7 k),.int .i64 (V8 k),.int .i64 (V9 k),.int .i64 (V10 k)],.pointer (some ⟨c,0,none⟩)] w' fun e w''=>e= .returned (.bool (B k))∧Keep w' w''))
  (HI:Hid (ix B 0 n=r)):
  Calls Tryz.prog 79 #[.slice a n cap,.func (.func 80) #[] #[.pointer (some ⟨c,0,none⟩)]] w fun e w'=>e= .returned (.int .i64 r)∧Keep w w':=by
 go_enter Tryz.func79,Tryz.ntmps79;go_wp2_with fail
 go_loopw [8] (fun vi wr=>∃ k:Nat,vi= .int .i64 (k:Int)∧k≤n∧Hid (Keep w wr)∧Hid (ix B k (n - k)=r)) (fun vi _=>n - (intOf vi).toNat)
 case atStart=>exact⟨0,rfl,Nat.zero_le _,hide (Keep.refl _),HI⟩
 case round=>
  obtain⟨k,rfl,hk,KW,HF⟩:=hrel;by_cases hlt:k<n
  ·have li:(k:Int)<(n:Int):=by omega
   obtain⟨ad,rfl,hb,e0,e1,e2,e3,e4,e5,e6,e7,e8,e9,e10⟩:=(uq HC) k hlt;have x0:=far_cell (uq KW) (by rw[add_block9];exact hb) e0;have x1:=far_cell (uq KW) (by show(ad.add (k * 11)).block<_;rw[add_block9];exact hb) e1;have x2:=far_cell (uq KW) (by show(ad.add (k * 11)).block<_;rw[add_block9];exact hb) e2;have x3:=far_cell (uq KW) (by show(ad.add (k * 11)).block<_;rw[add_block9];exact hb) e3;have x4:=far_cell (uq KW) (by show(ad.add (k * 11)).block<_;rw[add_block9];exact hb) e4;have x5:=far_cell (uq KW) (by show(ad.add (k * 11)).block<_;rw[add_block9];exact hb) e5;have x6:=far_cell (uq KW) (by show(ad.add (k * 11)).block<_;rw[add_block9];exact hb) e6;have x7:=far_cell (uq KW) (by show(ad.add (k * 11)).block<_;rw[add_block9];exact hb) e7;have x8:=far_cell (uq KW) (by show(ad.add (k * 11)).block<_;rw[add_block9];exact hb) e8;have x9:=far_cell (uq KW) (by show(ad.add (k * 11)).block<_;rw[add_block9];exact hb) e9;have x10:=far_cell (uq KW) (by show(ad.add (k * 11)).block<_;rw[add_block9];exact hb) e10;clear e0 e1 e2 e3 e4 e5 e6 e7 e8 e9 e10;have TK:=hide ((uq TF) k hlt _ (uq KW));cases hB:B k
   ·have HF2:=hide (zg4 (uq HF) hlt hB);rw[hB]at TK;clear hB HF;go_wp2_with fail
    (refine(uq TK).mono ?_;rintro e w2 ⟨rfl,hk9⟩;have K2:=hide ((uq KW).trans hk9);clear hk9);go_wp2_with fail
    go_roundw
    case rel=>exact⟨k+1,by go_num,by omega,K2,HF2⟩
    case measure=>simp[intOf];omega
   ·have hr:=zdQ (uq HF) hlt hB;rw[hB]at TK;subst hr;clear hB HF;go_wp2_with fail
    (refine(uq TK).mono ?_;rintro e w2 ⟨rfl,hk9⟩;have K2:=hide ((uq KW).trans hk9);clear hk9);go_wp2_with fail
    go_ret;exact⟨rfl,uq K2⟩
  ·have li:¬(k:Int)<(n:Int):=by omega
   have hr:=zdR (uq HF) (by omega);subst hr;go_wp2_with fail
   go_ret;exact⟨rfl,uq KW⟩
set_option maxHeartbeats 2000000 in
theorem zj0 (s:ByteArray) (x1:Option Addr) (n1 c1:Nat) (x2:Option Addr) (n2 c2:Nat) (x3:Option Addr) (n3 c3:Nat) (x4:Option Addr) (n4 c4:Nat) (x5:Option Addr) (n5 c5:Nat) (p:Int) (nm:List UInt8) (r:Int) (w:World)
  (TI:Hid (∀ w' c,Keep w w'→c<w'.heap.size→w'.cell? ⟨c,0,none⟩=some (.string (sv nm))→Calls Tryz.prog 79 #[.slice x1 n1 c1,.func (.func 80) #[] #[.pointer (some ⟨c,0,none⟩)]] w' fun e w''=>e= .returned (.int .i64 r)∧Keep w' w'')):
  Calls Tryz.prog 39 #[.agg #[.string s,.slice x1 n1 c1,.slice x2 n2 c2,.slice x3 n3 c3,.slice x4 n4 c4,.slice x5 n5 c5,.int .i64 p],.string (sv nm)] w fun e w'=>e= .returned (.int .i64 r)∧Keep w w':=by
 have hmf:∀(fn:Fn) (first cap:Array Value) (w:World),(Instr.makeFunc fn first cap).run Tryz.prog w= .ok (.func fn first cap) w:=fun _ _ _ _=>rfl
 have K:=hide (((Keep.refl w).alloc (.cells #[.string s,.slice x1 n1 c1,.slice x2 n2 c2,.slice x3 n3 c3,.slice x4 n4 c4,.slice x5 n5 c5,.int .i64 p] 47)).alloc (.cells #[.string (sv nm)] 9));go_enter Tryz.func39,Tryz.ntmps39;go_wp2_with fail
 (refine((uq TI) _ _ (uq K) (by simp) (by simp[go_sem])).mono ?_;rintro e w1 ⟨rfl,hk⟩);go_wp2_with fail
 go_ret;exact⟨rfl,(uq K).trans hk⟩
end V
end Go.Proofs.YtcdhdhbjnpndkaaGreat
namespace Go.Proofs.YtcdhdhbjnpndkaaGreat
open Go.RowKit
attribute [local go_sem ↓] Go.wp_at_zero Go.wp_at_succ
set_option linter.unusedVariables false
set_option linter.unusedSimpArgs false
set_option maxRecDepth 10000
namespace V
theorem zps (c:Int) (w:World):(Instr.typeAssert (.iface 30 (.int .i64 c)) 20 30 true).run Tryz.prog w= .ok (.tuple #[.int .i64 c,.bool true]) w:=by kernel_rfl
theorem zpt (c p:Int) (w:World):(Instr.typeAssert (.iface 99 (.agg #[.int .i64 c,.int .i64 p])) 20 30 true).run Tryz.prog w= .ok (.tuple #[.int .i64 0,.bool false]) w:=by kernel_rfl
theorem znk (c p:Int) (w:World):(Instr.typeAssert (.iface 99 (.agg #[.int .i64 c,.int .i64 p])) 20 99 true).run Tryz.prog w= .ok (.tuple #[.agg #[.int .i64 c,.int .i64 p],.bool true]) w:=by kernel_rfl
set_option maxHeartbeats 2000000 in
theorem zg5 (p q:Addr) (w:World):
  CallsD Tryz.prog 32 #[.pointer (some p),.pointer (some q)] .returning w fun e u' w'=>e= .returned (.tuple #[])∧u'= .returning∧w'=w:=by
 refine callsD_of_wpS Tryz.func32 rfl fun c₀ cs hu=>?_
 apply wpS_seq;apply wpS_region;simp[wpOpsS,go_sem,recoverD,hu,Tryz.ntmps32,Exit.thenS];rw[show #[Value.pointer (some p),Value.pointer (some q)]++(Array.replicate 18 undef).setIfInBounds 4 Value.nilIface=#[.pointer (some p),.pointer (some q),undef,undef,undef,undef,Value.nilIface,undef,undef,undef,undef,undef,undef,undef,undef,undef,undef,undef,undef,undef]from rfl];refine wpS_of_wp ?_;refine(?_:∀ Q:Exit→Act→World→Prop,(∀ t,Q Exit.normal ⟨t,[]⟩ w)→Code.wp Tryz.prog _ Q _ w) _ ?_
 ·clear hu;intro Q hQ
  have HQ:=hide hQ;clear hQ;go_wp2_with fail
  exact(uq HQ) _
 ·intro t
  cases c₀
  simp_all [bodyPostS,results,Tryz.results32]
set_option maxHeartbeats 2000000 in
theorem zim (b g:Nat) (c:Int) (v:Value) (w:World) (hc:w.cell? ⟨b,0,none⟩=some v) (hz:w.frozen? ⟨b,0,none⟩=false):
  CallsD Tryz.prog 32 #[.pointer (some ⟨b,0,none⟩),.pointer (some ⟨g,0,none⟩)] (.panicking [{ v:=ern c,recovered:=false }]) w fun e u' w'=>e= .returned (.tuple #[])∧u'= .panicking [{ v:=ern c,recovered:=true }]∧w'=w.setCell ⟨b,0,none⟩ (.int .i64 c):=by
 refine callsD_of_wpS Tryz.func32 rfl fun c₀ cs hu=>?_
 apply wpS_seq;apply wpS_region;simp[wpOpsS,go_sem,recoverD,hu,Tryz.ntmps32,Exit.thenS];rw[show #[Value.pointer (some ⟨b,0,none⟩),Value.pointer (some ⟨g,0,none⟩)]++(Array.replicate 18 undef).setIfInBounds 4 (ern c)=#[.pointer (some ⟨b,0,none⟩),.pointer (some ⟨g,0,none⟩),undef,undef,undef,undef,(ern c),undef,undef,undef,undef,undef,undef,undef,undef,undef,undef,undef,undef,undef]from rfl];refine wpS_of_wp ?_;refine(?_:∀ Q:Exit→Act→World→Prop,(∀ t,Q Exit.normal ⟨t,[]⟩ (w.setCell ⟨b,0,none⟩ (.int .i64 c)))→Code.wp Tryz.prog _ Q _ w) _ ?_
 ·clear hu;intro Q hQ
  have HQ:=hide hQ;clear hQ;have h1:=zps;unfold ern
  go_wp2_with fail
  exact(uq HQ) _
 ·intro t
  simp[bodyPostS,results,Tryz.results32,hu]
end V
namespace V
def Fq (b g:Nat) (c p:Int) (w:World) (e:Exit) (a:Act) (W:World):Prop:=match e with
 | .normal=>a.defers= []∧W.cell? ⟨b,0,none⟩=some (.int .i64 c)∧W.cell? ⟨g,0,none⟩=some (.int .i64 p)∧∀ B,B≤b→B≤g→Below B w W
 | _=>False
set_option maxHeartbeats 2000000 in
theorem zeI (b g:Nat) (c p:Int) (v v2:Value) (w:World) (hbg:¬b=g) (hgb:¬g=b) (hb:b<w.heap.size) (hg:g<w.heap.size) (hc:w.cell? ⟨b,0,none⟩=some v) (hz:w.frozen? ⟨b,0,none⟩=false) (hc2:w.cell? ⟨g,0,none⟩=some v2) (hz2:w.frozen? ⟨g,0,none⟩=false):
  CallsD Tryz.prog 32 #[.pointer (some ⟨b,0,none⟩),.pointer (some ⟨g,0,none⟩)] (.panicking [{ v:=flt c p,recovered:=false }]) w fun e u' w'=>e= .returned (.tuple #[])∧u'= .panicking [{ v:=flt c p,recovered:=true }]∧(w'.cell? ⟨b,0,none⟩=some (.int .i64 c)∧w'.cell? ⟨g,0,none⟩=some (.int .i64 p)∧∀ B,B≤b→B≤g→Below B w w'):=by
 refine callsD_of_wpS Tryz.func32 rfl fun c₀ cs hu=>?_
 apply wpS_seq;apply wpS_region;simp[wpOpsS,go_sem,recoverD,hu,Tryz.ntmps32,Exit.thenS];rw[show #[Value.pointer (some ⟨b,0,none⟩),Value.pointer (some ⟨g,0,none⟩)]++(Array.replicate 18 undef).setIfInBounds 4 (flt c p)=#[.pointer (some ⟨b,0,none⟩),.pointer (some ⟨g,0,none⟩),undef,undef,undef,undef,(flt c p),undef,undef,undef,undef,undef,undef,undef,undef,undef,undef,undef,undef,undef]from rfl];refine wpS_of_wp ?_;refine wp_mono (Q:=Fq b g c p w) ?_ ?_
 ·clear hu;have h1:=zpt;have h2:=znk;unfold flt
  have nb:¬b=w.heap.size:=by omega
  have ng:¬g=w.heap.size:=by omega
  have nb':¬w.heap.size=b:=by omega
  have ng':¬w.heap.size=g:=by omega
  go_upto_region 10 with fail
  refine wp_region_held_drew (S:=(fun w'=>w'.cell? ⟨w.heap.size,0,none⟩=some (.int .i64 c)∧w'.cell? ⟨w.heap.size,1,none⟩=some (.int .i64 p))) (by kernel_rfl) (by simp[go_sem]) (fun hHeld=>?_);refine tkk 0 16 hHeld ?_;try simp only[Act.put,Ya,Yb,Yc]
  refine tkk 1 17 hHeld ?_;try simp only[Act.put,Ya,Yb,Yc]
  refine tkk 2 18 hHeld ?_;try simp only[Act.put,Ya,Yb,Yc]
  refine tkk 3 19 hHeld ?_;try simp only[Act.put,Ya,Yb,Yc]
  refine zak 4 (fun K hK=>?_);go_simp;clear hHeld;refine hK.out _ _ ?_ (fun hHeld=>?_)
  ·simp[go_sem,nb,ng,nb',ng',hb,hg]
  clear hK K;try simp only[Act.put,Ya,Yb,Yc]
  refine zak 5 (fun K hK=>?_);go_simp;clear hHeld;refine hK.out _ _ ?_ (fun hHeld=>?_)
  ·simp[go_sem,nb,ng,nb',ng',hb,hg]
  clear hK K;try simp only[Act.put,Ya,Yb,Yc]
  refine wpAnyH_done (by kernel_rfl) ?_ _;clear hHeld;go_wp2_with fail
  refine⟨rfl,?_,?_,?_⟩
  ·simp[go_sem,hbg,hgb,hb,hg,hc,hz,hc2,hz2]
  ·simp[go_sem,hbg,hgb,hb,hg,hc,hz,hc2,hz2]
  ·intro B h3 h4
   repeat(first|exact Below.refl _ _|(refine Below.setCell ?_ (by first|exact h3|exact h4) _)|apply Below.drew|(refine Below.alloc ?_ (by simp;omega) _))
 ·intro e a W hq
  cases e with
  |normal=>
   obtain⟨q0,q1,q2,q3⟩:=hq;obtain⟨t,d⟩:=a;simp only at q0;subst q0;simp[bodyPostS,results,Tryz.results32,hu,q1,q2];exact q3
  | _=>exact hq.elim
end V
namespace V
def Bx3 (w W:World) (b g:Nat):Prop:=b<W.heap.size∧g<W.heap.size∧W.cell? ⟨b,0,none⟩=some (.int .i64 0)∧W.frozen? ⟨b,0,none⟩=false∧W.cell? ⟨g,0,none⟩=some (.int .i64 0)∧W.frozen? ⟨g,0,none⟩=false∧w.heap.size≤b∧w.heap.size≤g∧¬b=g∧¬g=b
theorem Bx3.keep {w W W':World} {b g:Nat} (h:Bx3 w W b g) (k:Keep W W'):Bx3 w W' b g:=by
 obtain⟨h1,h2,h3,h4,h5,h6,h7⟩:=h;have hs:=k.size;exact⟨by omega,by omega,by rw[Below.cell (p:=⟨b,0,none⟩) k h1];exact h3,by rw[Below.frozen (p:=⟨b,0,none⟩) k h1];exact h4,by rw[Below.cell (p:=⟨g,0,none⟩) k h2];exact h5,by rw[Below.frozen (p:=⟨g,0,none⟩) k h2];exact h6,h7⟩
theorem zcT {P:Program} {fn:Func} {t t':Array Value} {R:Ending→World→Prop} (h:results fn t=results fn t'):∀(ds:List Deferred) (u:FrameMode) (w:World),Leaves P fn t R ds u w=Leaves P fn t' R ds u w
 | [],.returning,w=>by simp only[Leaves,h]
 | [],.panicking c,w=>by simp only[Leaves]
 | [],.run,w=>by simp only[Leaves]
 |d :: ds,u,w=>by
  have ih:=zcT (P:=P) (R:=R) h ds;simp only[Leaves,ih]
theorem hq8 {K:Act→World→Prop} {R:Ending→World→Prop} {c:List PanicEntry} {a:Act} {w:World} (d:Nat) (v:Value) (hd:4≤d) (h:Exit.then K (bodyPostD Tryz.prog Tryz.f19 R) (.panic c) (a.put (some d) v) w):Exit.then K (bodyPostD Tryz.prog Tryz.f19 R) (.panic c) a w:=by
 have h1:Leaves Tryz.prog Tryz.f19 (a.put (some d) v).tmps R a.defers (.panicking c) w:=h;have e:results Tryz.f19 (a.put (some d) v).tmps=results Tryz.f19 a.tmps:=by
  have g2:(a.tmps.setIfInBounds d v)[2]? =a.tmps[2]? :=by rw[Array.getElem?_setIfInBounds,if_neg (show ¬d=2 by omega)]
  have g3:(a.tmps.setIfInBounds d v)[3]? =a.tmps[3]? :=by rw[Array.getElem?_setIfInBounds,if_neg (show ¬d=3 by omega)]
  simp[results,Tryz.results19,Act.put,g2,g3]
 rw[zcT e]at h1;exact h1
theorem Below.trans9' {w W W':World} (h:Keep w W) (k:Below w.heap.size W W'):Keep w W':=Below.trans h k
set_option maxHeartbeats 4000000 in
theorem zj1 (a0 a1 a2 a3 a4:Int) (aN:Option Addr) (nN cN:Nat) (aS:Option Addr) (nS cS:Nat) (a5 a6:Int) (c:Int) (w:World)
  (TW:Hid (∀ w',Keep w w'→Calls Tryz.prog 33 #[.agg #[.int .i64 a0,.int .i64 a1,.int .i64 a2,.int .i64 a3,.int .i64 a4,.slice aN nN cN,.slice aS nS cS,.int .i64 a5,.int .i64 a6]] w' fun e w''=>e= .panicked [{ v:=ern c,recovered:=false }]∧Keep w' w'')):
  Calls Tryz.prog 19 #[.agg #[.int .i64 a0,.int .i64 a1,.int .i64 a2,.int .i64 a3,.int .i64 a4,.slice aN nN cN,.slice aS nS cS,.int .i64 a5,.int .i64 a6]] w fun e w'=>e= .returned (.tuple #[.int .i64 c,.int .i64 0])∧Keep w w':=by
 have hmf:∀(fn:Fn) (first cap:Array Value) (w:World),(Instr.makeFunc fn first cap).run Tryz.prog w= .ok (.func fn first cap) w:=fun _ _ _ _=>rfl
 have KB:=hide ((((Keep.refl w).alloc (.cells #[.int .i64 a0,.int .i64 a1,.int .i64 a2,.int .i64 a3,.int .i64 a4,.slice aN nN cN,.slice aS nS cS,.int .i64 a5,.int .i64 a6] 27)).alloc (.cells #[.int .i64 0] 30)).alloc (.cells #[.int .i64 0] 3));have BB:Hid (Bx3 w (((w.alloc (.cells #[.int .i64 a0,.int .i64 a1,.int .i64 a2,.int .i64 a3,.int .i64 a4,.slice aN nN cN,.slice aS nS cS,.int .i64 a5,.int .i64 a6] 27)).alloc (.cells #[.int .i64 0] 30)).alloc (.cells #[.int .i64 0] 3)) (w.heap.size+1) (w.heap.size+1+1)):=hide (by refine⟨?_,?_,?_,?_,?_,?_,?_,?_,?_,?_⟩<;>(try simp[go_sem])<;>omega);have HX:Hid (∀ w':World,Keep (((w.alloc (.cells #[.int .i64 a0,.int .i64 a1,.int .i64 a2,.int .i64 a3,.int .i64 a4,.slice aN nN cN,.slice aS nS cS,.int .i64 a5,.int .i64 a6] 27)).alloc (.cells #[.int .i64 0] 30)).alloc (.cells #[.int .i64 0] 3)) w'→w'.cell? ⟨w.heap.size,0,none⟩=some (.int .i64 a0)∧w'.cell? ⟨w.heap.size,1,none⟩=some (.int .i64 a1)∧w'.cell? ⟨w.heap.size,2,none⟩=some (.int .i64 a2)∧w'.cell? ⟨w.heap.size,3,none⟩=some (.int .i64 a3)∧w'.cell? ⟨w.heap.size,4,none⟩=some (.int .i64 a4)∧w'.cell? ⟨w.heap.size,5,none⟩=some (.slice aN nN cN)∧w'.cell? ⟨w.heap.size,6,none⟩=some (.slice aS nS cS)∧w'.cell? ⟨w.heap.size,7,none⟩=some (.int .i64 a5)∧w'.cell? ⟨w.heap.size,8,none⟩=some (.int .i64 a6)):=hide (fun w' k9=>by
  have h:=k9.block w.heap.size (by simp;omega);have e:(((w.alloc (.cells #[.int .i64 a0,.int .i64 a1,.int .i64 a2,.int .i64 a3,.int .i64 a4,.slice aN nN cN,.slice aS nS cS,.int .i64 a5,.int .i64 a6] 27)).alloc (.cells #[.int .i64 0] 30)).alloc (.cells #[.int .i64 0] 3)).heap[w.heap.size]? =some (.cells #[.int .i64 a0,.int .i64 a1,.int .i64 a2,.int .i64 a3,.int .i64 a4,.slice aN nN cN,.slice aS nS cS,.int .i64 a5,.int .i64 a6] 27 (0,0)):=by rw[Below.heap_alloc _ _ _ (by simp;omega),Below.heap_alloc _ _ _ (by simp)];exact heap_alloc_new _ _
  rw[e]at h;refine⟨?_,?_,?_,?_,?_,?_,?_,?_,?_⟩<;>simp[World.cell?,h])
 go_enter_defers Tryz.func19,Tryz.ntmps19
 go_upto_region 2 with fail
 generalize ((w.alloc (.cells #[.int .i64 a0,.int .i64 a1,.int .i64 a2,.int .i64 a3,.int .i64 a4,.slice aN nN cN,.slice aS nS cS,.int .i64 a5,.int .i64 a6] 27)).alloc (.cells #[.int .i64 0] 30)).alloc (.cells #[.int .i64 0] 3)=w3 at KB BB HX ⊢;obtain⟨x,HXX⟩:∃ x,Hid (w.heap.size=x):=⟨_,hide rfl⟩;obtain⟨b,HBB⟩:∃ x,Hid (w.heap.size+1=x):=⟨_,hide rfl⟩;obtain⟨g,HGG⟩:∃ x,Hid (w.heap.size+1+1=x):=⟨_,hide rfl⟩;rw[uq HGG,uq HBB]at BB ⊢;rw[uq HXX]at HX ⊢;obtain⟨f0,f1,f2,f3,f4,f5,f6,f7,f8⟩:=(uq HX) w3 (Keep.refl _);go_wp2_with fail
 (refine((uq TW) _ (uq KB)).mono ?_;rintro e w4 ⟨rfl,hk⟩;have KL:=hide hk;clear hk);go_wp2_with fail
 obtain⟨h1,h2,h3,h4,h5,h6,h7,h8,h9,h10⟩:=(uq BB).keep (uq KL);refine leaves_cons (f:=32) (args:=#[.pointer (some ⟨b,0,none⟩),.pointer (some ⟨g,0,none⟩)]) (by simp) (by simp[go_sem]) ?_;refine(zim b g c _ _ h3 h4).mono ?_;rintro e u' w9 ⟨rfl,rfl,rfl⟩;have KE:=Below.trans9' ((uq KB).trans (uq KL)) (Below.setCell (Below.refl w.heap.size w4) (p:=⟨b,0,none⟩) h7 (.int .i64 c));simp[Leaves,settle,results,Tryz.results19,go_sem,h3,h4,h5,h6,h9,h10];exact KE
set_option maxHeartbeats 4000000 in
theorem zj2 (a0 a1 a2 a3 a4:Int) (aN:Option Addr) (nN cN:Nat) (aS:Option Addr) (nS cS:Nat) (a5 a6:Int) (z:Int×Int) (MN:List (List UInt8×Int)) (w:World)
  (TW:Hid (∀ w',Keep w w'→Calls Tryz.prog 33 #[.agg #[.int .i64 a0,.int .i64 a1,.int .i64 a2,.int .i64 a3,.int .i64 a4,.slice aN nN cN,.slice aS nS cS,.int .i64 a5,.int .i64 a6]] w' fun e w''=>e= .returned (.tuple #[])∧Keep w' w''))
  (TN:Hid (∀ w',Keep w w'→Calls Tryz.prog 35 #[.slice aN nN cN] w' (Hq (some z) MN w'))):
  Calls Tryz.prog 19 #[.agg #[.int .i64 a0,.int .i64 a1,.int .i64 a2,.int .i64 a3,.int .i64 a4,.slice aN nN cN,.slice aS nS cS,.int .i64 a5,.int .i64 a6]] w fun e w'=>e= .returned (.tuple #[.int .i64 z.1,.int .i64 z.2])∧Keep w w':=by
 have hmf:∀(fn:Fn) (first cap:Array Value) (w:World),(Instr.makeFunc fn first cap).run Tryz.prog w= .ok (.func fn first cap) w:=fun _ _ _ _=>rfl
 have KB:=hide ((((Keep.refl w).alloc (.cells #[.int .i64 a0,.int .i64 a1,.int .i64 a2,.int .i64 a3,.int .i64 a4,.slice aN nN cN,.slice aS nS cS,.int .i64 a5,.int .i64 a6] 27)).alloc (.cells #[.int .i64 0] 30)).alloc (.cells #[.int .i64 0] 3));have BB:Hid (Bx3 w (((w.alloc (.cells #[.int .i64 a0,.int .i64 a1,.int .i64 a2,.int .i64 a3,.int .i64 a4,.slice aN nN cN,.slice aS nS cS,.int .i64 a5,.int .i64 a6] 27)).alloc (.cells #[.int .i64 0] 30)).alloc (.cells #[.int .i64 0] 3)) (w.heap.size+1) (w.heap.size+1+1)):=hide (by refine⟨?_,?_,?_,?_,?_,?_,?_,?_,?_,?_⟩<;>(try simp[go_sem])<;>omega);have HX:Hid (∀ w':World,Keep (((w.alloc (.cells #[.int .i64 a0,.int .i64 a1,.int .i64 a2,.int .i64 a3,.int .i64 a4,.slice aN nN cN,.slice aS nS cS,.int .i64 a5,.int .i64 a6] 27)).alloc (.cells #[.int .i64 0] 30)).alloc (.cells #[.int .i64 0] 3)) w'→w'.cell? ⟨w.heap.size,0,none⟩=some (.int .i64 a0)∧w'.cell? ⟨w.heap.size,1,none⟩=some (.int .i64 a1)∧w'.cell? ⟨w.heap.size,2,none⟩=some (.int .i64 a2)∧w'.cell? ⟨w.heap.size,3,none⟩=some (.int .i64 a3)∧w'.cell? ⟨w.heap.size,4,none⟩=some (.int .i64 a4)∧w'.cell? ⟨w.heap.size,5,none⟩=some (.slice aN nN cN)∧w'.cell? ⟨w.heap.size,6,none⟩=some (.slice aS nS cS)∧w'.cell? ⟨w.heap.size,7,none⟩=some (.int .i64 a5)∧w'.cell? ⟨w.heap.size,8,none⟩=some (.int .i64 a6)):=hide (fun w' k9=>by
  have h:=k9.block w.heap.size (by simp;omega);have e:(((w.alloc (.cells #[.int .i64 a0,.int .i64 a1,.int .i64 a2,.int .i64 a3,.int .i64 a4,.slice aN nN cN,.slice aS nS cS,.int .i64 a5,.int .i64 a6] 27)).alloc (.cells #[.int .i64 0] 30)).alloc (.cells #[.int .i64 0] 3)).heap[w.heap.size]? =some (.cells #[.int .i64 a0,.int .i64 a1,.int .i64 a2,.int .i64 a3,.int .i64 a4,.slice aN nN cN,.slice aS nS cS,.int .i64 a5,.int .i64 a6] 27 (0,0)):=by rw[Below.heap_alloc _ _ _ (by simp;omega),Below.heap_alloc _ _ _ (by simp)];exact heap_alloc_new _ _
  rw[e]at h;refine⟨?_,?_,?_,?_,?_,?_,?_,?_,?_⟩<;>simp[World.cell?,h])
 go_enter_defers Tryz.func19,Tryz.ntmps19
 go_upto_region 2 with fail
 generalize ((w.alloc (.cells #[.int .i64 a0,.int .i64 a1,.int .i64 a2,.int .i64 a3,.int .i64 a4,.slice aN nN cN,.slice aS nS cS,.int .i64 a5,.int .i64 a6] 27)).alloc (.cells #[.int .i64 0] 30)).alloc (.cells #[.int .i64 0] 3)=w3 at KB BB HX ⊢;obtain⟨x,HXX⟩:∃ x,Hid (w.heap.size=x):=⟨_,hide rfl⟩;obtain⟨b,HBB⟩:∃ x,Hid (w.heap.size+1=x):=⟨_,hide rfl⟩;obtain⟨g,HGG⟩:∃ x,Hid (w.heap.size+1+1=x):=⟨_,hide rfl⟩;rw[uq HGG,uq HBB]at BB ⊢;rw[uq HXX]at HX ⊢;obtain⟨f0,f1,f2,f3,f4,f5,f6,f7,f8⟩:=(uq HX) w3 (Keep.refl _);go_wp2_with fail
 (refine((uq TW) _ (uq KB)).mono ?_;rintro e w4 ⟨rfl,hk⟩;have K4:=hide hk;clear hk);clear f0 f1 f2 f3 f4 f5 f6 f7 f8
 go_upto_region 3 with fail
 refine wp_region_held_drew (S:=(fun w'=>w'.cell? ⟨x,0,none⟩=some (.int .i64 a0)∧w'.cell? ⟨x,1,none⟩=some (.int .i64 a1)∧w'.cell? ⟨x,2,none⟩=some (.int .i64 a2)∧w'.cell? ⟨x,3,none⟩=some (.int .i64 a3)∧w'.cell? ⟨x,4,none⟩=some (.int .i64 a4)∧w'.cell? ⟨x,5,none⟩=some (.slice aN nN cN)∧w'.cell? ⟨x,6,none⟩=some (.slice aS nS cS)∧w'.cell? ⟨x,7,none⟩=some (.int .i64 a5)∧w'.cell? ⟨x,8,none⟩=some (.int .i64 a6))) (by kernel_rfl) (by exact(uq HX) _ (uq K4).drew) (fun hHeld=>?_);refine wpAnyH_take (i:=0) (v:=?_) rfl (by kernel_rfl) (by kernel_rfl) (by kernel_rfl) (fun c a w h=>hq8 _ _ (by decide) h) (Or.inl ⟨by rfl,?_⟩) hHeld ?_
 rotate_left
 ·intro w hSw
  try dsimp only at hSw
  go_simp;try with_reducible rfl
 show wpAnyH _ _ _ _ _ _ _ (Act.put _ (some 7) _) _;try simp only[Act.put,Ya,Yb,Yc]
 refine wpAnyH_take (i:=1) (v:=?_) rfl (by kernel_rfl) (by kernel_rfl) (by kernel_rfl) (fun c a w h=>hq8 _ _ (by decide) h) (Or.inl ⟨by rfl,?_⟩) hHeld ?_
 rotate_left
 ·intro w hSw
  try dsimp only at hSw
  go_simp;try with_reducible rfl
 show wpAnyH _ _ _ _ _ _ _ (Act.put _ (some 8) _) _;try simp only[Act.put,Ya,Yb,Yc]
 refine wpAnyH_take (i:=2) (v:=?_) rfl (by kernel_rfl) (by kernel_rfl) (by kernel_rfl) (fun c a w h=>hq8 _ _ (by decide) h) (Or.inl ⟨by rfl,?_⟩) hHeld ?_
 rotate_left
 ·intro w hSw
  try dsimp only at hSw
  go_simp;try with_reducible rfl
 show wpAnyH _ _ _ _ _ _ _ (Act.put _ (some 9) _) _;try simp only[Act.put,Ya,Yb,Yc]
 refine wpAnyH_ready (rs:= [3]) (by kernel_rfl) (by simp) ?_;refine AllReadyH.cons rfl (fun K hK=>?_) AllReadyH.nil;go_simp;clear hHeld;(refine((uq TN) _ ((uq KB).trans (uq K4).drew)).mono ?_;rintro e w5 ⟨hk,rfl⟩;have KL:=hide ((uq K4).drew.trans hk);clear hk);try go_wp2_with fail
 skip
 obtain⟨h1,h2,h3,h4,h5,h6,h7,h8,h9,h10⟩:=(uq BB).keep (uq KL);refine leaves_cons (f:=32) (args:=#[.pointer (some ⟨b,0,none⟩),.pointer (some ⟨g,0,none⟩)]) (by simp) (by simp[go_sem]) ?_;refine(zeI b g z.1 z.2 _ _ _ h9 h10 h1 h2 h3 h4 h5 h6).mono ?_;rintro e u' w9 ⟨rfl,rfl,r1,r2,r3⟩;have KE:=Below.trans9' ((uq KB).trans (uq KL)) (r3 w.heap.size h7 h8);simp[Leaves,settle,results,Tryz.results19,go_sem,r1,r2];exact KE
set_option maxHeartbeats 4000000 in
theorem zj3 (a0 a1 a2 a3 a4:Int) (aN:Option Addr) (nN cN:Nat) (aS:Option Addr) (nS cS:Nat) (a5 a6:Int) (z:Int×Int) (MN:List (List UInt8×Int)) (w:World)
  (TW:Hid (∀ w',Keep w w'→Calls Tryz.prog 33 #[.agg #[.int .i64 a0,.int .i64 a1,.int .i64 a2,.int .i64 a3,.int .i64 a4,.slice aN nN cN,.slice aS nS cS,.int .i64 a5,.int .i64 a6]] w' fun e w''=>e= .returned (.tuple #[])∧Keep w' w''))
  (TN:Hid (∀ w',Keep w w'→Calls Tryz.prog 35 #[.slice aN nN cN] w' (Hq none MN w')))
  (TS:Hid (∀ w' b,Keep w w'→Mp w' b MN→Calls Tryz.prog 34 #[.agg #[.int .i64 a0,.int .i64 a1,.int .i64 a2,.int .i64 a3,.int .i64 a4,.slice aN nN cN,.slice aS nS cS,.int .i64 a5,.int .i64 a6],.map (some b)] w' (Nq (some z) w'))):
  Calls Tryz.prog 19 #[.agg #[.int .i64 a0,.int .i64 a1,.int .i64 a2,.int .i64 a3,.int .i64 a4,.slice aN nN cN,.slice aS nS cS,.int .i64 a5,.int .i64 a6]] w fun e w'=>e= .returned (.tuple #[.int .i64 z.1,.int .i64 z.2])∧Keep w w':=by
 have hmf:∀(fn:Fn) (first cap:Array Value) (w:World),(Instr.makeFunc fn first cap).run Tryz.prog w= .ok (.func fn first cap) w:=fun _ _ _ _=>rfl
 have KB:=hide ((((Keep.refl w).alloc (.cells #[.int .i64 a0,.int .i64 a1,.int .i64 a2,.int .i64 a3,.int .i64 a4,.slice aN nN cN,.slice aS nS cS,.int .i64 a5,.int .i64 a6] 27)).alloc (.cells #[.int .i64 0] 30)).alloc (.cells #[.int .i64 0] 3));have BB:Hid (Bx3 w (((w.alloc (.cells #[.int .i64 a0,.int .i64 a1,.int .i64 a2,.int .i64 a3,.int .i64 a4,.slice aN nN cN,.slice aS nS cS,.int .i64 a5,.int .i64 a6] 27)).alloc (.cells #[.int .i64 0] 30)).alloc (.cells #[.int .i64 0] 3)) (w.heap.size+1) (w.heap.size+1+1)):=hide (by refine⟨?_,?_,?_,?_,?_,?_,?_,?_,?_,?_⟩<;>(try simp[go_sem])<;>omega);have HX:Hid (∀ w':World,Keep (((w.alloc (.cells #[.int .i64 a0,.int .i64 a1,.int .i64 a2,.int .i64 a3,.int .i64 a4,.slice aN nN cN,.slice aS nS cS,.int .i64 a5,.int .i64 a6] 27)).alloc (.cells #[.int .i64 0] 30)).alloc (.cells #[.int .i64 0] 3)) w'→w'.cell? ⟨w.heap.size,0,none⟩=some (.int .i64 a0)∧w'.cell? ⟨w.heap.size,1,none⟩=some (.int .i64 a1)∧w'.cell? ⟨w.heap.size,2,none⟩=some (.int .i64 a2)∧w'.cell? ⟨w.heap.size,3,none⟩=some (.int .i64 a3)∧w'.cell? ⟨w.heap.size,4,none⟩=some (.int .i64 a4)∧w'.cell? ⟨w.heap.size,5,none⟩=some (.slice aN nN cN)∧w'.cell? ⟨w.heap.size,6,none⟩=some (.slice aS nS cS)∧w'.cell? ⟨w.heap.size,7,none⟩=some (.int .i64 a5)∧w'.cell? ⟨w.heap.size,8,none⟩=some (.int .i64 a6)):=hide (fun w' k9=>by
  have h:=k9.block w.heap.size (by simp;omega);have e:(((w.alloc (.cells #[.int .i64 a0,.int .i64 a1,.int .i64 a2,.int .i64 a3,.int .i64 a4,.slice aN nN cN,.slice aS nS cS,.int .i64 a5,.int .i64 a6] 27)).alloc (.cells #[.int .i64 0] 30)).alloc (.cells #[.int .i64 0] 3)).heap[w.heap.size]? =some (.cells #[.int .i64 a0,.int .i64 a1,.int .i64 a2,.int .i64 a3,.int .i64 a4,.slice aN nN cN,.slice aS nS cS,.int .i64 a5,.int .i64 a6] 27 (0,0)):=by rw[Below.heap_alloc _ _ _ (by simp;omega),Below.heap_alloc _ _ _ (by simp)];exact heap_alloc_new _ _
  rw[e]at h;refine⟨?_,?_,?_,?_,?_,?_,?_,?_,?_⟩<;>simp[World.cell?,h])
 go_enter_defers Tryz.func19,Tryz.ntmps19
 go_upto_region 2 with fail
 generalize ((w.alloc (.cells #[.int .i64 a0,.int .i64 a1,.int .i64 a2,.int .i64 a3,.int .i64 a4,.slice aN nN cN,.slice aS nS cS,.int .i64 a5,.int .i64 a6] 27)).alloc (.cells #[.int .i64 0] 30)).alloc (.cells #[.int .i64 0] 3)=w3 at KB BB HX ⊢;obtain⟨x,HXX⟩:∃ x,Hid (w.heap.size=x):=⟨_,hide rfl⟩;obtain⟨b,HBB⟩:∃ x,Hid (w.heap.size+1=x):=⟨_,hide rfl⟩;obtain⟨g,HGG⟩:∃ x,Hid (w.heap.size+1+1=x):=⟨_,hide rfl⟩;rw[uq HGG,uq HBB]at BB ⊢;rw[uq HXX]at HX ⊢;obtain⟨f0,f1,f2,f3,f4,f5,f6,f7,f8⟩:=(uq HX) w3 (Keep.refl _);go_wp2_with fail
 (refine((uq TW) _ (uq KB)).mono ?_;rintro e w4 ⟨rfl,hk⟩;have K4:=hide hk;clear hk);clear f0 f1 f2 f3 f4 f5 f6 f7 f8
 go_upto_region 3 with fail
 refine wp_region_held_drew (S:=(fun w'=>w'.cell? ⟨x,0,none⟩=some (.int .i64 a0)∧w'.cell? ⟨x,1,none⟩=some (.int .i64 a1)∧w'.cell? ⟨x,2,none⟩=some (.int .i64 a2)∧w'.cell? ⟨x,3,none⟩=some (.int .i64 a3)∧w'.cell? ⟨x,4,none⟩=some (.int .i64 a4)∧w'.cell? ⟨x,5,none⟩=some (.slice aN nN cN)∧w'.cell? ⟨x,6,none⟩=some (.slice aS nS cS)∧w'.cell? ⟨x,7,none⟩=some (.int .i64 a5)∧w'.cell? ⟨x,8,none⟩=some (.int .i64 a6))) (by kernel_rfl) (by exact(uq HX) _ (uq K4).drew) (fun hHeld=>?_);refine wpAnyH_take (i:=0) (v:=?_) rfl (by kernel_rfl) (by kernel_rfl) (by kernel_rfl) (fun c a w h=>hq8 _ _ (by decide) h) (Or.inl ⟨by rfl,?_⟩) hHeld ?_
 rotate_left
 ·intro w hSw
  try dsimp only at hSw
  go_simp;try with_reducible rfl
 show wpAnyH _ _ _ _ _ _ _ (Act.put _ (some 7) _) _;try simp only[Act.put,Ya,Yb,Yc]
 refine wpAnyH_take (i:=1) (v:=?_) rfl (by kernel_rfl) (by kernel_rfl) (by kernel_rfl) (fun c a w h=>hq8 _ _ (by decide) h) (Or.inl ⟨by rfl,?_⟩) hHeld ?_
 rotate_left
 ·intro w hSw
  try dsimp only at hSw
  go_simp;try with_reducible rfl
 show wpAnyH _ _ _ _ _ _ _ (Act.put _ (some 8) _) _;try simp only[Act.put,Ya,Yb,Yc]
 refine wpAnyH_take (i:=2) (v:=?_) rfl (by kernel_rfl) (by kernel_rfl) (by kernel_rfl) (fun c a w h=>hq8 _ _ (by decide) h) (Or.inl ⟨by rfl,?_⟩) hHeld ?_
 rotate_left
 ·intro w hSw
  try dsimp only at hSw
  go_simp;try with_reducible rfl
 show wpAnyH _ _ _ _ _ _ _ (Act.put _ (some 9) _) _;try simp only[Act.put,Ya,Yb,Yc]
 refine zak 3 (fun K hK=>?_);go_simp;clear hHeld;(refine((uq TN) _ ((uq KB).trans (uq K4).drew)).mono ?_;rintro e w5 ⟨hk,bn,rfl,hbn,hM⟩;have K5:=hide ((uq K4).drew.trans hk);have HM:=hide hM;clear hk hM);try go_wp2_with fail
 refine hK.out _ _ ?_ (fun hHeld=>?_)
 ·exact(uq HX) _ (uq K5)
 clear hK K;try simp only[Act.put,Ya,Yb,Yc]
 refine wpAnyH_ready (rs:= [4]) (by kernel_rfl) (by simp) ?_;refine AllReadyH.cons rfl (fun K hK=>?_) AllReadyH.nil;go_simp;clear hHeld;(refine((uq TS) _ bn ((uq KB).trans (uq K5)) (uq HM)).mono ?_;rintro e w6 ⟨hk,rfl⟩;have KL:=hide ((uq K5).trans hk);clear hk);try go_wp2_with fail
 skip
 obtain⟨h1,h2,h3,h4,h5,h6,h7,h8,h9,h10⟩:=(uq BB).keep (uq KL);refine leaves_cons (f:=32) (args:=#[.pointer (some ⟨b,0,none⟩),.pointer (some ⟨g,0,none⟩)]) (by simp) (by simp[go_sem]) ?_;refine(zeI b g z.1 z.2 _ _ _ h9 h10 h1 h2 h3 h4 h5 h6).mono ?_;rintro e u' w9 ⟨rfl,rfl,r1,r2,r3⟩;have KE:=Below.trans9' ((uq KB).trans (uq KL)) (r3 w.heap.size h7 h8);simp[Leaves,settle,results,Tryz.results19,go_sem,r1,r2];exact KE
set_option maxHeartbeats 4000000 in
theorem zj4 (a0 a1 a2 a3 a4:Int) (aN:Option Addr) (nN cN:Nat) (aS:Option Addr) (nS cS:Nat) (a5 a6:Int) (MN:List (List UInt8×Int)) (w:World)
  (TW:Hid (∀ w',Keep w w'→Calls Tryz.prog 33 #[.agg #[.int .i64 a0,.int .i64 a1,.int .i64 a2,.int .i64 a3,.int .i64 a4,.slice aN nN cN,.slice aS nS cS,.int .i64 a5,.int .i64 a6]] w' fun e w''=>e= .returned (.tuple #[])∧Keep w' w''))
  (TN:Hid (∀ w',Keep w w'→Calls Tryz.prog 35 #[.slice aN nN cN] w' (Hq none MN w')))
  (TS:Hid (∀ w' b,Keep w w'→Mp w' b MN→Calls Tryz.prog 34 #[.agg #[.int .i64 a0,.int .i64 a1,.int .i64 a2,.int .i64 a3,.int .i64 a4,.slice aN nN cN,.slice aS nS cS,.int .i64 a5,.int .i64 a6],.map (some b)] w' (Nq none w'))):
  Calls Tryz.prog 19 #[.agg #[.int .i64 a0,.int .i64 a1,.int .i64 a2,.int .i64 a3,.int .i64 a4,.slice aN nN cN,.slice aS nS cS,.int .i64 a5,.int .i64 a6]] w fun e w'=>e= .returned (.tuple #[.int .i64 0,.int .i64 0])∧Keep w w':=by
 have hmf:∀(fn:Fn) (first cap:Array Value) (w:World),(Instr.makeFunc fn first cap).run Tryz.prog w= .ok (.func fn first cap) w:=fun _ _ _ _=>rfl
 have KB:=hide ((((Keep.refl w).alloc (.cells #[.int .i64 a0,.int .i64 a1,.int .i64 a2,.int .i64 a3,.int .i64 a4,.slice aN nN cN,.slice aS nS cS,.int .i64 a5,.int .i64 a6] 27)).alloc (.cells #[.int .i64 0] 30)).alloc (.cells #[.int .i64 0] 3));have BB:Hid (Bx3 w (((w.alloc (.cells #[.int .i64 a0,.int .i64 a1,.int .i64 a2,.int .i64 a3,.int .i64 a4,.slice aN nN cN,.slice aS nS cS,.int .i64 a5,.int .i64 a6] 27)).alloc (.cells #[.int .i64 0] 30)).alloc (.cells #[.int .i64 0] 3)) (w.heap.size+1) (w.heap.size+1+1)):=hide (by refine⟨?_,?_,?_,?_,?_,?_,?_,?_,?_,?_⟩<;>(try simp[go_sem])<;>omega);have HX:Hid (∀ w':World,Keep (((w.alloc (.cells #[.int .i64 a0,.int .i64 a1,.int .i64 a2,.int .i64 a3,.int .i64 a4,.slice aN nN cN,.slice aS nS cS,.int .i64 a5,.int .i64 a6] 27)).alloc (.cells #[.int .i64 0] 30)).alloc (.cells #[.int .i64 0] 3)) w'→w'.cell? ⟨w.heap.size,0,none⟩=some (.int .i64 a0)∧w'.cell? ⟨w.heap.size,1,none⟩=some (.int .i64 a1)∧w'.cell? ⟨w.heap.size,2,none⟩=some (.int .i64 a2)∧w'.cell? ⟨w.heap.size,3,none⟩=some (.int .i64 a3)∧w'.cell? ⟨w.heap.size,4,none⟩=some (.int .i64 a4)∧w'.cell? ⟨w.heap.size,5,none⟩=some (.slice aN nN cN)∧w'.cell? ⟨w.heap.size,6,none⟩=some (.slice aS nS cS)∧w'.cell? ⟨w.heap.size,7,none⟩=some (.int .i64 a5)∧w'.cell? ⟨w.heap.size,8,none⟩=some (.int .i64 a6)):=hide (fun w' k9=>by
  have h:=k9.block w.heap.size (by simp;omega);have e:(((w.alloc (.cells #[.int .i64 a0,.int .i64 a1,.int .i64 a2,.int .i64 a3,.int .i64 a4,.slice aN nN cN,.slice aS nS cS,.int .i64 a5,.int .i64 a6] 27)).alloc (.cells #[.int .i64 0] 30)).alloc (.cells #[.int .i64 0] 3)).heap[w.heap.size]? =some (.cells #[.int .i64 a0,.int .i64 a1,.int .i64 a2,.int .i64 a3,.int .i64 a4,.slice aN nN cN,.slice aS nS cS,.int .i64 a5,.int .i64 a6] 27 (0,0)):=by rw[Below.heap_alloc _ _ _ (by simp;omega),Below.heap_alloc _ _ _ (by simp)];exact heap_alloc_new _ _
  rw[e]at h;refine⟨?_,?_,?_,?_,?_,?_,?_,?_,?_⟩<;>simp[World.cell?,h])
 go_enter_defers Tryz.func19,Tryz.ntmps19
 go_upto_region 2 with fail
 generalize ((w.alloc (.cells #[.int .i64 a0,.int .i64 a1,.int .i64 a2,.int .i64 a3,.int .i64 a4,.slice aN nN cN,.slice aS nS cS,.int .i64 a5,.int .i64 a6] 27)).alloc (.cells #[.int .i64 0] 30)).alloc (.cells #[.int .i64 0] 3)=w3 at KB BB HX ⊢;obtain⟨x,HXX⟩:∃ x,Hid (w.heap.size=x):=⟨_,hide rfl⟩;obtain⟨b,HBB⟩:∃ x,Hid (w.heap.size+1=x):=⟨_,hide rfl⟩;obtain⟨g,HGG⟩:∃ x,Hid (w.heap.size+1+1=x):=⟨_,hide rfl⟩;rw[uq HGG,uq HBB]at BB ⊢;rw[uq HXX]at HX ⊢;obtain⟨f0,f1,f2,f3,f4,f5,f6,f7,f8⟩:=(uq HX) w3 (Keep.refl _);go_wp2_with fail
 (refine((uq TW) _ (uq KB)).mono ?_;rintro e w4 ⟨rfl,hk⟩;have K4:=hide hk;clear hk);clear f0 f1 f2 f3 f4 f5 f6 f7 f8
 go_upto_region 3 with fail
 refine wp_region_held_drew (S:=(fun w'=>w'.cell? ⟨x,0,none⟩=some (.int .i64 a0)∧w'.cell? ⟨x,1,none⟩=some (.int .i64 a1)∧w'.cell? ⟨x,2,none⟩=some (.int .i64 a2)∧w'.cell? ⟨x,3,none⟩=some (.int .i64 a3)∧w'.cell? ⟨x,4,none⟩=some (.int .i64 a4)∧w'.cell? ⟨x,5,none⟩=some (.slice aN nN cN)∧w'.cell? ⟨x,6,none⟩=some (.slice aS nS cS)∧w'.cell? ⟨x,7,none⟩=some (.int .i64 a5)∧w'.cell? ⟨x,8,none⟩=some (.int .i64 a6))) (by kernel_rfl) (by exact(uq HX) _ (uq K4).drew) (fun hHeld=>?_);refine wpAnyH_take (i:=0) (v:=?_) rfl (by kernel_rfl) (by kernel_rfl) (by kernel_rfl) (fun c a w h=>hq8 _ _ (by decide) h) (Or.inl ⟨by rfl,?_⟩) hHeld ?_
 rotate_left
 ·intro w hSw
  try dsimp only at hSw
  go_simp;try with_reducible rfl
 show wpAnyH _ _ _ _ _ _ _ (Act.put _ (some 7) _) _;try simp only[Act.put,Ya,Yb,Yc]
 refine wpAnyH_take (i:=1) (v:=?_) rfl (by kernel_rfl) (by kernel_rfl) (by kernel_rfl) (fun c a w h=>hq8 _ _ (by decide) h) (Or.inl ⟨by rfl,?_⟩) hHeld ?_
 rotate_left
 ·intro w hSw
  try dsimp only at hSw
  go_simp;try with_reducible rfl
 show wpAnyH _ _ _ _ _ _ _ (Act.put _ (some 8) _) _;try simp only[Act.put,Ya,Yb,Yc]
 refine wpAnyH_take (i:=2) (v:=?_) rfl (by kernel_rfl) (by kernel_rfl) (by kernel_rfl) (fun c a w h=>hq8 _ _ (by decide) h) (Or.inl ⟨by rfl,?_⟩) hHeld ?_
 rotate_left
 ·intro w hSw
  try dsimp only at hSw
  go_simp;try with_reducible rfl
 show wpAnyH _ _ _ _ _ _ _ (Act.put _ (some 9) _) _;try simp only[Act.put,Ya,Yb,Yc]
 refine zak 3 (fun K hK=>?_);go_simp;clear hHeld;(refine((uq TN) _ ((uq KB).trans (uq K4).drew)).mono ?_;rintro e w5 ⟨hk,bn,rfl,hbn,hM⟩;have K5:=hide ((uq K4).drew.trans hk);have HM:=hide hM;clear hk hM);try go_wp2_with fail
 refine hK.out _ _ ?_ (fun hHeld=>?_)
 ·exact(uq HX) _ (uq K5)
 clear hK K;try simp only[Act.put,Ya,Yb,Yc]
 refine zak 4 (fun K hK=>?_);go_simp;clear hHeld;(refine((uq TS) _ bn ((uq KB).trans (uq K5)) (uq HM)).mono ?_;rintro e w6 ⟨hk,rfl⟩;have KL:=hide ((uq K5).trans hk);clear hk);try go_wp2_with fail
 refine hK.out _ _ ?_ (fun hHeld=>?_)
 ·exact(uq HX) _ (uq KL)
 clear hK K;try simp only[Act.put,Ya,Yb,Yc]
 refine wpAnyH_done (by kernel_rfl) ?_ _;clear hHeld;obtain⟨h1,h2,h3,h4,h5,h6,h7,h8,h9,h10⟩:=(uq BB).keep (uq KL);go_wp2_with fail
 refine leaves_cons (f:=32) (args:=#[.pointer (some ⟨b,0,none⟩),.pointer (some ⟨g,0,none⟩)]) (by simp) (by simp[go_sem]) ?_;refine(zg5 _ _ _).mono ?_;rintro e u' w9 ⟨rfl,rfl,rfl⟩;have KE:=Below.trans9' ((uq KB).trans (uq KL)) (Below.setCell (Below.setCell (Below.refl w.heap.size w6) (p:=⟨b,0,none⟩) h7 (.int .i64 0)) (p:=⟨g,0,none⟩) h8 (.int .i64 0));simp[Leaves,settle,results,Tryz.results19,go_sem,h3,h4,h5,h6,h9,h10];exact KE
end V
end Go.Proofs.YtcdhdhbjnpndkaaGreat
