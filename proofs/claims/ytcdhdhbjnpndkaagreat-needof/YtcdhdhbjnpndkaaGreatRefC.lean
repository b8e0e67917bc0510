/- The document's answer, by parts of 16 bits: the walks of Parts, Plus, Order, Minus, Times, Quotient. -/
import Derived.Test.YtcdhdhbjnpndkaaGreatProg
import Derived.Test.YtcdhdhbjnpndkaaGreatDigits
import Derived.WalkKit
import Derived.ProofKit
import Derived.OwnWalk
import Derived.Laws.OwnMore
import Derived.LoopTactic
import Derived.Maps.AppendAt
import Derived.Deep.QuietTactic
import Derived.BigQuiet
namespace Go.Proofs.YtcdhdhbjnpndkaaGreat
open Go.RowKit
set_option linter.unusedVariables false
set_option maxRecDepth 10000
theorem zhx:(Tryz.prog.info? 157).map (fun i=>(i.zero,i.size,i.bytes))=some (some (.int .u64 0),1,8):=by kernel_rfl
def RowB (B:Nat) (w:World) (v:Value) (l:List Int):Prop:=w.ownsRow B 157 1 v l.length (l.map (Value.int .u64))
theorem RowB.mono {B B':Nat} {w:World} {v:Value} {l:List Int} (h:RowB B w v l) (hb:B'≤B):RowB B' w v l:=by
 obtain⟨h1,h2⟩:=h;refine⟨h1,?_⟩;rcases h2 with h2|⟨g,cap,cur,e,hg,r⟩
 ·exact .inl h2
 ·exact .inr ⟨g,cap,cur,e,by omega,r⟩
theorem RowB.keep {B:Nat} {w w':World} {v:Value} {l:List Int} (h:RowB B w v l) (hk:Keep w w'):RowB B w' v l:=by
 obtain⟨h1,h2⟩:=h;refine⟨h1,?_⟩;rcases h2 with h2|⟨g,cap,cur,e,hg,hh,r⟩
 ·exact .inl h2
 ·have hlt:g<w.heap.size:=by
   by_cases hc:g<w.heap.size
   ·exact hc
   ·rw[Array.getElem?_eq_none (by omega)]at hh;cases hh
  exact .inr ⟨g,cap,cur,e,hg,by rw[Below.block hk g hlt];exact hh,r⟩
theorem RowB.shape {B:Nat} {w:World} {v:Value} {l:List Int} (h:RowB B w v l):
  (v= .slice none 0 0∧l= [])∨∃ g cap,v= .slice (some ⟨g,0,none⟩) l.length cap∧g<w.heap.size∧B≤g∧∀ j,j<l.length→w.cell? ⟨g,j,none⟩=some (.int .u64 (l.getD j 0)):=by
 have h':=h;obtain⟨h1,h2⟩:=h;rcases h2 with ⟨h2,h3⟩|⟨g,cap,cur,e,hg,hh,r⟩
 ·exact .inl ⟨h2,List.length_eq_zero_iff.1 h3⟩
 ·have hlt:g<w.heap.size:=by
   by_cases hc:g<w.heap.size
   ·exact hc
   ·rw[Array.getElem?_eq_none (by omega)]at hh;cases hh
  refine .inr ⟨g,cap,e,hlt,hg,fun j hj=>?_⟩;subst e;have:=World.ownsRow.cellAt h' j (by omega);rw[this,List.getElem?_map,List.getElem?_eq_getElem hj,List.getD_eq_getElem?_getD,List.getElem?_eq_getElem hj]
  rfl
theorem RowB.snoc {B:Nat} {w:World} {v:Value} {l:List Int} {d:Int} (h:w.ownsRow B 157 1 v (l.length+1) (l.map (Value.int .u64)++ [.int .u64 d])):RowB B w v (l++ [d]):=by
 unfold RowB
 simpa using h
theorem zaw {w wr w1:World} {v:Value} {l:List Int} {o:Obj} (hown:RowB w.heap.size wr v l) (hb:Below w.heap.size w wr) (hg:(wr.alloc o).grownBy w1 v.ownBlock):Below w.heap.size w w1:=
 Below.grown (hb.alloc hb.size o) hg (by have:=hb.size;simp;omega) (fun k hk=>(World.ownsRow.lt hown k hk).1)
def za3 (w w':World) (e:Ending) (P:List Int→Prop):Prop:=∃ v l,e= .returned v∧RowB w.heap.size w' v l∧Dig l∧P l∧Below w.heap.size w w'
set_option maxHeartbeats 1000000 in
theorem zjf (u:Int) (w:World) (h0:0≤u) (h1:u<18446744073709551616):
  Calls Tryz.prog 118 #[.int .u64 u] w fun e w'=>za3 w w' e fun l=>l.length=4∧val l=u:=by
 obtain⟨i0,hi,hz0,hz1,hz2⟩:=zan zhx;go_enter Tryz.func118,Tryz.ntmps118;go_wp2
 go_loopw [0,3,4] (fun p v i wr=>∃(k:Nat) (l:List Int) (x:Int),k≤4∧i= .int .i64 k∧p= .int .u64 x∧0≤x∧x<18446744073709551616∧Hid (l.length=k)∧Dig l∧Hid (val l+pw k * x=u)∧RowB w.heap.size wr v l∧Below w.heap.size w wr) (fun _ _ i _=>4 - (intOf i).toNat)
 case atStart=>exact⟨0,[],u,by omega,rfl,rfl,h0,h1,hide rfl,zce,hide (by simp[val,zes]),World.ownsRow_nil _ _ _ _,Below.refl _ _⟩
 case round=>
  obtain⟨k,l,x,hk,rfl,rfl,hx0,hx1,Hl,hd,Hv,hown,hnx⟩:=hrel;by_cases hlt:k<4
  ·have hll:=uq Hl;have hsz:=hnx.size;go_wp2_with (first|(at_builtin;refine wpList_append_own _ rfl _ _ 154 rfl w.heap.size 157 i0 (.int .u64 0) 1 8 Tryz.underlying154 hi hz0 hz1 hz2 rfl (by decide) _ _ _ rfl (World.ownsRow.alloc hown _) ⟨wr.heap.size,0,none⟩ 1 1 [.int .u64 (x % 65536)] rfl rfl ?c1 ?c2 ?c3 ?c4 ?c5 ?_)|go_in)
   case c1=>
    intro j u hj
    match j,hj with
    |0,hj=>simp at hj;subst hj;simp[Addr.add]
   case c2=>intro u hu;simp at hu;subst hu;rfl
   case c3=>unfold maxLen;omega
   case c4=>omega
   case c5=>simp;omega
   ·intro v' w1 hown' hgrow _
    have hb1:=zaw hown hnx hgrow;rw[← hll]at hown';have hrow:=RowB.snoc hown';have hd2:=zcu hd (show 0≤x % 65536 by omega) (show x % 65536<65536 by omega);have hv2:val (l++ [x % 65536])+pw (k+1) * (x / 65536)=u:=by
     have:=uq Hv;have cn:=zdA (pw k) x;rw[zbW,hll,zbN,Int.mul_comm _ (x / 65536)];omega
    have HV2:=hide hv2;have HL2:Hid ((l++ [x % 65536]).length=k+1):=hide (by simp[hll]);clear hown' hgrow hown hnx hv2 hll;go_wp2;go_roundw
    case rel=>exact⟨k+1,l++ [x % 65536],x / 65536,by omega,by go_num,rfl,by omega,by omega,HL2,hd2,HV2,hrow,hb1⟩
    case measure=>simp[intOf];omega
  ·have hk4:k=4:=by omega
   subst hk4;have hx:x=0:=by
    have h:=uq Hv;have hb:=zbh hd;rw[uq Hl]at hb;have e:pw 4=18446744073709551616:=by unfold pw;decide
    rw[e]at hb h;omega
   have hval:val l=u:=by
    have h:=uq Hv;rw[hx]at h;omega
   have HX:=hide hx;have HV3:=hide hval;clear hx hval;go_wp2;go_ret;exact⟨u3,l,rfl,hown,hd,⟨uq Hl,uq HV3⟩,hnx⟩
set_option maxHeartbeats 2000000 in
theorem zdB (A B:List Int) (m:Nat) (w:World) (hA:Dig A) (hB:Dig B) (ha:A.length≤m) (hb:B.length≤m) (hm:A.length=m∨B.length=m) (hm2:m≤1000) (ga capa:Nat) (hga:ga<w.heap.size) (hca:∀ j,j<A.length→w.cell? ⟨ga,j,none⟩=some (.int .u64 (A.getD j 0))) (gb capb:Nat) (hgb:gb<w.heap.size) (hcb:∀ j,j<B.length→w.cell? ⟨gb,j,none⟩=some (.int .u64 (B.getD j 0))):
  Calls Tryz.prog 119 #[.slice (some ⟨ga,0,none⟩) A.length capa,.slice (some ⟨gb,0,none⟩) B.length capb] w fun e w'=>za3 w w' e fun l=>B.length≤l.length∧l.length≤m+1∧val l=val A+val B:=by
 obtain⟨i0,hi,hz0,hz1,hz2⟩:=zan zhx;go_enter Tryz.func119,Tryz.ntmps119;go_wp2
 go_loopw [5,6,7] (fun v cv i wr=>∃(k:Nat) (l:List Int) (c:Int),cv= .int .u64 c∧i= .int .i64 k∧(k≤m∨(k=m+1∧c=0))∧zbO A B l k c∧RowB w.heap.size wr v l∧Below w.heap.size w wr) (fun _ _ i _=>m+1 - (intOf i).toNat)
 case atStart=>exact⟨0,[],0,rfl,rfl,by omega,zd1 A B,World.ownsRow_nil _ _ _ _,Below.refl _ _⟩
 case round=>
  obtain⟨k,l,c,rfl,rfl,hk,hinv,hown,hnx⟩:=hrel;have hll:l.length=k:=hinv.1;have hc0:0≤c:=hinv.2.2.1;have hc9:c≤1:=hinv.2.2.2.1;have hsz:=hnx.size;have dx:=zay hA k;have dy:=zay hB k;obtain⟨x,hx⟩:∃ x,x=A.getD k 0:=⟨_,rfl⟩;obtain⟨y,hy⟩:∃ y,y=B.getD k 0:=⟨_,rfl⟩;rw[← hx]at dx;rw[← hy]at dy;obtain⟨dx0,dx1⟩:=dx;obtain⟨dy0,dy1⟩:=dy;by_cases ka:k<A.length
  ·by_cases kb:k<B.length
   ·have hcx:wr.cell? ⟨ga,k,none⟩=some (.int .u64 x):=by rw[hnx.cell (p:=⟨ga,k,none⟩) hga,hx];exact hca k ka
    have hcy:wr.cell? ⟨gb,k,none⟩=some (.int .u64 y):=by rw[hnx.cell (p:=⟨gb,k,none⟩) hgb,hy];exact hcb k kb
    have HX:=hide hx;have HY:=hide hy;clear hx hy;have hstep:=zbv (s:=c+x+y) hinv hA hB (uq HX) (uq HY) (by omega);have HS:=hide hstep;have hl2:(l++ [(c+x+y) % 65536]).length=k+1:=by simp[hll]
    have HL2:=hide hl2;have hbd:=hstep.2.2;have hc1:0≤(c+x+y) / 65536:=hbd.1;have hc2:(c+x+y) / 65536≤1:=hbd.2.1;clear hstep hl2 hbd;go_wp2_with (first|(at_builtin;refine wpList_append_own _ rfl _ _ 154 rfl w.heap.size 157 i0 (.int .u64 0) 1 8 Tryz.underlying154 hi hz0 hz1 hz2 rfl (by decide) _ _ _ rfl (World.ownsRow.alloc hown _) ⟨wr.heap.size,0,none⟩ 1 1 [.int .u64 ((c+x+y) % 65536)] rfl rfl ?c1 ?c2 ?c3 ?c4 ?c5 ?_)|go_in)
    case c1=>
     intro j u hj
     match j,hj with
     |0,hj=>simp at hj;subst hj;simp[Addr.add]
    case c2=>intro u hu;simp at hu;subst hu;rfl
    case c3=>unfold maxLen;omega
    case c4=>omega
    case c5=>simp;omega
    ·intro v' w1 hown' hgrow _
     have hb1:=zaw hown hnx hgrow;rw[← hll]at hown';have hrow:=RowB.snoc hown';clear hown' hgrow hown hnx hll hcx hcy;go_wp2;go_roundw
     case rel=>exact⟨k+1,_,_,rfl,by go_num,.inl (by omega),uq HS,hrow,hb1⟩
     case measure=>simp[intOf];omega
   ·have hcx:wr.cell? ⟨ga,k,none⟩=some (.int .u64 x):=by rw[hnx.cell (p:=⟨ga,k,none⟩) hga,hx];exact hca k ka
    have y0:y=0:=by rw[hy,List.getD_eq_getElem?_getD,List.getElem?_eq_none (by omega)];rfl
    have h00:(0:Int)=B.getD k 0:=by rw[← hy];exact y0.symm
    have HX:=hide hx;have HY:=hide h00;clear hx hy y0 h00 dy0 dy1;have hstep:=zbv (s:=c+x) hinv hA hB (uq HX) (uq HY) (by omega);have HS:=hide hstep;have hl2:(l++ [(c+x) % 65536]).length=k+1:=by simp[hll]
    have HL2:=hide hl2;have hbd:=hstep.2.2;have hc1:0≤(c+x) / 65536:=hbd.1;have hc2:(c+x) / 65536≤1:=hbd.2.1;clear hstep hl2 hbd;go_wp2_with (first|(at_builtin;refine wpList_append_own _ rfl _ _ 154 rfl w.heap.size 157 i0 (.int .u64 0) 1 8 Tryz.underlying154 hi hz0 hz1 hz2 rfl (by decide) _ _ _ rfl (World.ownsRow.alloc hown _) ⟨wr.heap.size,0,none⟩ 1 1 [.int .u64 ((c+x) % 65536)] rfl rfl ?c1 ?c2 ?c3 ?c4 ?c5 ?_)|go_in)
    case c1=>
     intro j u hj
     match j,hj with
     |0,hj=>simp at hj;subst hj;simp[Addr.add]
    case c2=>intro u hu;simp at hu;subst hu;rfl
    case c3=>unfold maxLen;omega
    case c4=>omega
    case c5=>simp;omega
    ·intro v' w1 hown' hgrow _
     have hb1:=zaw hown hnx hgrow;rw[← hll]at hown';have hrow:=RowB.snoc hown';clear hown' hgrow hown hnx hll hcx;go_wp2;go_roundw
     case rel=>exact⟨k+1,_,_,rfl,by go_num,.inl (by omega),uq HS,hrow,hb1⟩
     case measure=>simp[intOf];omega
  ·by_cases kb:k<B.length
   ·have hcy:wr.cell? ⟨gb,k,none⟩=some (.int .u64 y):=by rw[hnx.cell (p:=⟨gb,k,none⟩) hgb,hy];exact hcb k kb
    have x0:x=0:=by rw[hx,List.getD_eq_getElem?_getD,List.getElem?_eq_none (by omega)];rfl
    have h00:(0:Int)=A.getD k 0:=by rw[← hx];exact x0.symm
    have HX:=hide h00;have HY:=hide hy;clear hx hy x0 h00 dx0 dx1;have hstep:=zbv (s:=c+y) hinv hA hB (uq HX) (uq HY) (by omega);have HS:=hide hstep;have hl2:(l++ [(c+y) % 65536]).length=k+1:=by simp[hll]
    have HL2:=hide hl2;have hbd:=hstep.2.2;have hc1:0≤(c+y) / 65536:=hbd.1;have hc2:(c+y) / 65536≤1:=hbd.2.1;clear hstep hl2 hbd;go_wp2_with (first|(at_builtin;refine wpList_append_own _ rfl _ _ 154 rfl w.heap.size 157 i0 (.int .u64 0) 1 8 Tryz.underlying154 hi hz0 hz1 hz2 rfl (by decide) _ _ _ rfl (World.ownsRow.alloc hown _) ⟨wr.heap.size,0,none⟩ 1 1 [.int .u64 ((c+y) % 65536)] rfl rfl ?c1 ?c2 ?c3 ?c4 ?c5 ?_)|go_in)
    case c1=>
     intro j u hj
     match j,hj with
     |0,hj=>simp at hj;subst hj;simp[Addr.add]
    case c2=>intro u hu;simp at hu;subst hu;rfl
    case c3=>unfold maxLen;omega
    case c4=>omega
    case c5=>simp;omega
    ·intro v' w1 hown' hgrow _
     have hb1:=zaw hown hnx hgrow;rw[← hll]at hown';have hrow:=RowB.snoc hown';clear hown' hgrow hown hnx hll hcy;go_wp2;go_roundw
     case rel=>exact⟨k+1,_,_,rfl,by go_num,.inl (by omega),uq HS,hrow,hb1⟩
     case measure=>simp[intOf];omega
   ·have h00:(0:Int)=A.getD k 0:=by rw[List.getD_eq_getElem?_getD,List.getElem?_eq_none (by omega)];rfl
    have h01:(0:Int)=B.getD k 0:=by rw[List.getD_eq_getElem?_getD,List.getElem?_eq_none (by omega)];rfl
    have HX:=hide h00;have HY:=hide h01;clear hx hy h00 h01 dx0 dx1 dy0 dy1;by_cases hc:c=0
    ·subst hc;have he:=zgD hinv (by omega) (by omega);have HE:=hide he;have hd:=hinv.2.1;clear he;go_wp2;go_ret;exact⟨u5,l,rfl,hown,hd,⟨by omega,by omega,uq HE⟩,hnx⟩
    ·have hc1':c=1:=by omega
     subst hc1';have hstep:=zbv (s:=1) hinv hA hB (uq HX) (uq HY) (by omega);have HS:Hid (zbO A B (l++ [1]) (k+1) 0):=hide hstep;clear hstep;go_wp2_with (first|(at_builtin;refine wpList_append_own _ rfl _ _ 154 rfl w.heap.size 157 i0 (.int .u64 0) 1 8 Tryz.underlying154 hi hz0 hz1 hz2 rfl (by decide) _ _ _ rfl (World.ownsRow.alloc hown _) ⟨wr.heap.size,0,none⟩ 1 1 [.int .u64 (1)] rfl rfl ?c1 ?c2 ?c3 ?c4 ?c5 ?_)|go_in)
     case c1=>
      intro j u hj
      match j,hj with
      |0,hj=>simp at hj;subst hj;simp[Addr.add]
     case c2=>intro u hu;simp at hu;subst hu;rfl
     case c3=>unfold maxLen;omega
     case c4=>omega
     case c5=>simp;omega
     ·intro v' w1 hown' hgrow _
      have hb1:=zaw hown hnx hgrow;rw[← hll]at hown';have hrow:=RowB.snoc hown';clear hown' hgrow hown hnx hll;go_wp2;go_roundw
      case rel=>exact⟨k+1,l++ [1],0,rfl,by go_num,by omega,uq HS,hrow,hb1⟩
      case measure=>simp[intOf];omega
set_option maxHeartbeats 2000000 in
theorem zkE (A B:List Int) (m:Nat) (w:World) (hA0:Hid (A= [])) (hA:Dig A) (hB:Dig B) (ha:A.length≤m) (hb:B.length≤m) (hm:A.length=m∨B.length=m) (hm2:m≤1000) (gb capb:Nat) (hgb:gb<w.heap.size) (hcb:∀ j,j<B.length→w.cell? ⟨gb,j,none⟩=some (.int .u64 (B.getD j 0))):
  Calls Tryz.prog 119 #[.slice none 0 0,.slice (some ⟨gb,0,none⟩) B.length capb] w fun e w'=>za3 w w' e fun l=>B.length≤l.length∧l.length≤m+1∧val l=val A+val B:=by
 obtain⟨i0,hi,hz0,hz1,hz2⟩:=zan zhx;go_enter Tryz.func119,Tryz.ntmps119;go_wp2
 go_loopw [5,6,7] (fun v cv i wr=>∃(k:Nat) (l:List Int) (c:Int),cv= .int .u64 c∧i= .int .i64 k∧(k≤m∨(k=m+1∧c=0))∧zbO A B l k c∧RowB w.heap.size wr v l∧Below w.heap.size w wr) (fun _ _ i _=>m+1 - (intOf i).toNat)
 case atStart=>exact⟨0,[],0,rfl,rfl,by omega,zd1 A B,World.ownsRow_nil _ _ _ _,Below.refl _ _⟩
 case round=>
  obtain⟨k,l,c,rfl,rfl,hk,hinv,hown,hnx⟩:=hrel;have hll:l.length=k:=hinv.1;have hc0:0≤c:=hinv.2.2.1;have hc9:c≤1:=hinv.2.2.2.1;have hsz:=hnx.size;have dx:=zay hA k;have dy:=zay hB k;obtain⟨x,hx⟩:∃ x,x=A.getD k 0:=⟨_,rfl⟩;obtain⟨y,hy⟩:∃ y,y=B.getD k 0:=⟨_,rfl⟩;rw[← hx]at dx;rw[← hy]at dy;obtain⟨dx0,dx1⟩:=dx;obtain⟨dy0,dy1⟩:=dy;have ka:¬k<A.length:=by rw[uq hA0];simp
  ·by_cases kb:k<B.length
   ·have hcy:wr.cell? ⟨gb,k,none⟩=some (.int .u64 y):=by rw[hnx.cell (p:=⟨gb,k,none⟩) hgb,hy];exact hcb k kb
    have x0:x=0:=by rw[hx,List.getD_eq_getElem?_getD,List.getElem?_eq_none (by omega)];rfl
    have h00:(0:Int)=A.getD k 0:=by rw[← hx];exact x0.symm
    have HX:=hide h00;have HY:=hide hy;clear hx hy x0 h00 dx0 dx1;have hstep:=zbv (s:=c+y) hinv hA hB (uq HX) (uq HY) (by omega);have HS:=hide hstep;have hl2:(l++ [(c+y) % 65536]).length=k+1:=by simp[hll]
    have HL2:=hide hl2;have hbd:=hstep.2.2;have hc1:0≤(c+y) / 65536:=hbd.1;have hc2:(c+y) / 65536≤1:=hbd.2.1;clear hstep hl2 hbd;go_wp2_with (first|(at_builtin;refine wpList_append_own _ rfl _ _ 154 rfl w.heap.size 157 i0 (.int .u64 0) 1 8 Tryz.underlying154 hi hz0 hz1 hz2 rfl (by decide) _ _ _ rfl (World.ownsRow.alloc hown _) ⟨wr.heap.size,0,none⟩ 1 1 [.int .u64 ((c+y) % 65536)] rfl rfl ?c1 ?c2 ?c3 ?c4 ?c5 ?_)|go_in)
    case c1=>
     intro j u hj
     match j,hj with
     |0,hj=>simp at hj;subst hj;simp[Addr.add]
    case c2=>intro u hu;simp at hu;subst hu;rfl
    case c3=>unfold maxLen;omega
    case c4=>omega
    case c5=>simp;omega
    ·intro v' w1 hown' hgrow _
     have hb1:=zaw hown hnx hgrow;rw[← hll]at hown';have hrow:=RowB.snoc hown';clear hown' hgrow hown hnx hll hcy;go_wp2;go_roundw
     case rel=>exact⟨k+1,_,_,rfl,by go_num,.inl (by omega),uq HS,hrow,hb1⟩
     case measure=>simp[intOf];omega
   ·have h00:(0:Int)=A.getD k 0:=by rw[List.getD_eq_getElem?_getD,List.getElem?_eq_none (by omega)];rfl
    have h01:(0:Int)=B.getD k 0:=by rw[List.getD_eq_getElem?_getD,List.getElem?_eq_none (by omega)];rfl
    have HX:=hide h00;have HY:=hide h01;clear hx hy h00 h01 dx0 dx1 dy0 dy1;by_cases hc:c=0
    ·subst hc;have he:=zgD hinv (by omega) (by omega);have HE:=hide he;have hd:=hinv.2.1;clear he;go_wp2;go_ret;exact⟨u5,l,rfl,hown,hd,⟨by omega,by omega,uq HE⟩,hnx⟩
    ·have hc1':c=1:=by omega
     subst hc1';have hstep:=zbv (s:=1) hinv hA hB (uq HX) (uq HY) (by omega);have HS:Hid (zbO A B (l++ [1]) (k+1) 0):=hide hstep;clear hstep;go_wp2_with (first|(at_builtin;refine wpList_append_own _ rfl _ _ 154 rfl w.heap.size 157 i0 (.int .u64 0) 1 8 Tryz.underlying154 hi hz0 hz1 hz2 rfl (by decide) _ _ _ rfl (World.ownsRow.alloc hown _) ⟨wr.heap.size,0,none⟩ 1 1 [.int .u64 (1)] rfl rfl ?c1 ?c2 ?c3 ?c4 ?c5 ?_)|go_in)
     case c1=>
      intro j u hj
      match j,hj with
      |0,hj=>simp at hj;subst hj;simp[Addr.add]
     case c2=>intro u hu;simp at hu;subst hu;rfl
     case c3=>unfold maxLen;omega
     case c4=>omega
     case c5=>simp;omega
     ·intro v' w1 hown' hgrow _
      have hb1:=zaw hown hnx hgrow;rw[← hll]at hown';have hrow:=RowB.snoc hown';clear hown' hgrow hown hnx hll;go_wp2;go_roundw
      case rel=>exact⟨k+1,l++ [1],0,rfl,by go_num,by omega,uq HS,hrow,hb1⟩
      case measure=>simp[intOf];omega
theorem zjg (va vb:Value) (A B:List Int) (Ba Bb m:Nat) (w:World) (ra:RowB Ba w va A) (rb:RowB Bb w vb B) (hA:Dig A) (hB:Dig B) (hb0:0<B.length) (ha:A.length≤m) (hb:B.length≤m) (hm:m≤1000):
  Calls Tryz.prog 119 #[va,vb] w fun e w'=>za3 w w' e fun l=>B.length≤l.length∧l.length≤m+1∧val l=val A+val B:=by
 rcases rb.shape with ⟨_,e⟩|⟨gb,capb,rfl,hgb,_,hcb⟩
 ·rw[e]at hb0;simp at hb0
 ·have key:∀ m',A.length≤m'→B.length≤m'→(A.length=m'∨B.length=m')→m'≤m→Calls Tryz.prog 119 #[va,.slice (some ⟨gb,0,none⟩) B.length capb] w fun e w'=>za3 w w' e fun l=>B.length≤l.length∧l.length≤m+1∧val l=val A+val B:=by
   intro m' g1 g2 g3 g4
   rcases ra.shape with ⟨rfl,e⟩|⟨ga,capa,rfl,hga,_,hca⟩
   ·refine(zkE A B m' w (hide e) hA hB g1 g2 g3 (by omega) gb capb hgb hcb).mono ?_;rintro e w' ⟨v,l,h1,h2,h3,⟨h0,h4,h5⟩,h6⟩;exact⟨v,l,h1,h2,h3,⟨h0,by omega,h5⟩,h6⟩
   ·refine(zdB A B m' w hA hB g1 g2 g3 (by omega) ga capa hga hca gb capb hgb hcb).mono ?_;rintro e w' ⟨v,l,h1,h2,h3,⟨h0,h4,h5⟩,h6⟩;exact⟨v,l,h1,h2,h3,⟨h0,by omega,h5⟩,h6⟩
  by_cases h:A.length≤B.length
  ·exact key B.length h (by omega) (.inr rfl) hb
  ·exact key A.length (by omega) (by omega) (.inl rfl) ha
theorem zcM (d:Int):∀ u∈ [Value.int .u64 d],u.oneCell'=true:=by intro u hu;simp at hu;subst hu;rfl
set_option maxHeartbeats 2000000 in
theorem zjh (A B:List Int) (w:World) (hA:Dig A) (hB:Dig B) (hab:A.length<B.length) (hm1:A.length≤1000) (hm2:B.length≤1000) (ga capa:Nat) (hca:∀ j,j<A.length→w.cell? ⟨ga,j,none⟩=some (.int .u64 (A.getD j 0))) (gb capb:Nat) (hcb:∀ j,j<B.length→w.cell? ⟨gb,j,none⟩=some (.int .u64 (B.getD j 0))):
  Calls Tryz.prog 120 #[.slice (some ⟨ga,0,none⟩) A.length capa,.slice (some ⟨gb,0,none⟩) B.length capb] w fun e w'=>e= .returned (.int .i64 (cm (val A) (val B)))∧w'=w:=by
 have HCA:=hide hca;have HCB:=hide hcb;clear hca hcb;go_enter Tryz.func120,Tryz.ntmps120;go_wp2
 go_loop [6] (fun i=>∃ k:Nat,i= .int .i64 ((k:Int) - 1)∧k≤B.length∧Hid (val (A.drop k)=val (B.drop k))) (fun i=>(intOf i+1).toNat)
 case atStart=>exact⟨B.length,rfl,by omega,hide (by rw[List.drop_of_length_le (by omega),List.drop_of_length_le (by omega)])⟩
 case round=>
  obtain⟨k,rfl,hk,HD⟩:=hrel;by_cases hk0:k=0
  ·subst hk0;have he:cm (val A) (val B)=0:=by
    have:=uq HD;simp at this;simp[cm,this]
   have HE:=hide he;clear he;rw[show(((0:Nat):Int) - 1)= -1 by rfl];go_wp2;go_ret;exact⟨zaA (uq HE).symm,rfl⟩
  ·obtain⟨j,rfl⟩:∃ j,k=j+1:=⟨k - 1,by omega⟩;rw[show(((j+1:Nat):Int) - 1)=(j:Int) by omega];have dx:=zay hA j;have dy:=zay hB j;have lt:=zcw hA hB (uq HD);have gt:=zcw hB hA (uq HD).symm;have eq:=zcL (A:=A) (B:=B) (uq HD);obtain⟨x,hx⟩:∃ x,x=A.getD j 0:=⟨_,rfl⟩;obtain⟨y,hy⟩:∃ y,y=B.getD j 0:=⟨_,rfl⟩;rw[← hx]at dx;rw[← hy]at dy;rw[← hx,← hy]at lt gt eq;obtain⟨dx0,dx1⟩:=dx;obtain⟨dy0,dy1⟩:=dy;have LT:=hide lt;have GT:=hide gt;have EQ:=hide eq;clear lt gt eq;by_cases ka:j<A.length
   ·by_cases kb:j<B.length
    ·have hcx:w.cell? ⟨ga,j,none⟩=some (.int .u64 x):=by rw[hx];exact uq HCA j ka
     have hcy:w.cell? ⟨gb,j,none⟩=some (.int .u64 y):=by rw[hy];exact uq HCB j kb
     clear hx hy;rcases Int.lt_trichotomy x y with hc|hc|hc
     ·have he:cm (val A) (val B)= -1:=by
       have:=uq LT hc;simp[cm,this,Int.ne_of_lt this]
      have HE:=hide he;clear he;go_wp2;go_ret;exact⟨zaA (uq HE).symm,rfl⟩
     ·have HD2:=hide (uq EQ hc);subst hc;go_wp2
      go_round
      case rel=>exact⟨j,by go_num,by omega,HD2⟩
      case measure=>simp[intOf]<;>omega
     ·have he:cm (val A) (val B)=1:=by
       have:=uq GT hc;have h2:¬val A<val B:=by omega
       have h3:¬val A=val B:=by omega
       simp[cm,h2,h3]
      have HE:=hide he;clear he;go_wp2;go_ret;exact⟨zaA (uq HE).symm,rfl⟩
    ·exact absurd ka (by omega)
   ·by_cases kb:j<B.length
    ·have hcy:w.cell? ⟨gb,j,none⟩=some (.int .u64 y):=by rw[hy];exact uq HCB j kb
     have x0:x=0:=by rw[hx,List.getD_eq_getElem?_getD,List.getElem?_eq_none (by omega)];rfl
     clear hx hy;subst x0;rcases Int.lt_trichotomy 0 y with hc|hc|hc
     ·have he:cm (val A) (val B)= -1:=by
       have:=uq LT hc;simp[cm,this,Int.ne_of_lt this]
      have HE:=hide he;clear he;go_wp2;go_ret;exact⟨zaA (uq HE).symm,rfl⟩
     ·have HD2:=hide (uq EQ hc);subst hc;go_wp2
      go_round
      case rel=>exact⟨j,by go_num,by omega,HD2⟩
      case measure=>simp[intOf]<;>omega
     ·exact absurd hc (by omega)
    ·exact absurd hk (by omega)
set_option maxHeartbeats 2000000 in
theorem zji (A B:List Int) (w:World) (hA:Dig A) (hB:Dig B) (hab:B.length≤A.length) (hm1:A.length≤1000) (hm2:B.length≤1000) (ga capa:Nat) (hca:∀ j,j<A.length→w.cell? ⟨ga,j,none⟩=some (.int .u64 (A.getD j 0))) (gb capb:Nat) (hcb:∀ j,j<B.length→w.cell? ⟨gb,j,none⟩=some (.int .u64 (B.getD j 0))):
  Calls Tryz.prog 120 #[.slice (some ⟨ga,0,none⟩) A.length capa,.slice (some ⟨gb,0,none⟩) B.length capb] w fun e w'=>e= .returned (.int .i64 (cm (val A) (val B)))∧w'=w:=by
 have HCA:=hide hca;have HCB:=hide hcb;clear hca hcb;go_enter Tryz.func120,Tryz.ntmps120;go_wp2
 go_loop [6] (fun i=>∃ k:Nat,i= .int .i64 ((k:Int) - 1)∧k≤A.length∧Hid (val (A.drop k)=val (B.drop k))) (fun i=>(intOf i+1).toNat)
 case atStart=>exact⟨A.length,rfl,by omega,hide (by rw[List.drop_of_length_le (by omega),List.drop_of_length_le (by omega)])⟩
 case round=>
  obtain⟨k,rfl,hk,HD⟩:=hrel;by_cases hk0:k=0
  ·subst hk0;have he:cm (val A) (val B)=0:=by
    have:=uq HD;simp at this;simp[cm,this]
   have HE:=hide he;clear he;rw[show(((0:Nat):Int) - 1)= -1 by rfl];go_wp2;go_ret;exact⟨zaA (uq HE).symm,rfl⟩
  ·obtain⟨j,rfl⟩:∃ j,k=j+1:=⟨k - 1,by omega⟩;rw[show(((j+1:Nat):Int) - 1)=(j:Int) by omega];have dx:=zay hA j;have dy:=zay hB j;have lt:=zcw hA hB (uq HD);have gt:=zcw hB hA (uq HD).symm;have eq:=zcL (A:=A) (B:=B) (uq HD);obtain⟨x,hx⟩:∃ x,x=A.getD j 0:=⟨_,rfl⟩;obtain⟨y,hy⟩:∃ y,y=B.getD j 0:=⟨_,rfl⟩;rw[← hx]at dx;rw[← hy]at dy;rw[← hx,← hy]at lt gt eq;obtain⟨dx0,dx1⟩:=dx;obtain⟨dy0,dy1⟩:=dy;have LT:=hide lt;have GT:=hide gt;have EQ:=hide eq;clear lt gt eq;by_cases ka:j<A.length
   ·by_cases kb:j<B.length
    ·have hcx:w.cell? ⟨ga,j,none⟩=some (.int .u64 x):=by rw[hx];exact uq HCA j ka
     have hcy:w.cell? ⟨gb,j,none⟩=some (.int .u64 y):=by rw[hy];exact uq HCB j kb
     clear hx hy;rcases Int.lt_trichotomy x y with hc|hc|hc
     ·have he:cm (val A) (val B)= -1:=by
       have:=uq LT hc;simp[cm,this,Int.ne_of_lt this]
      have HE:=hide he;clear he;go_wp2;go_ret;exact⟨zaA (uq HE).symm,rfl⟩
     ·have HD2:=hide (uq EQ hc);subst hc;go_wp2
      go_round
      case rel=>exact⟨j,by go_num,by omega,HD2⟩
      case measure=>simp[intOf]<;>omega
     ·have he:cm (val A) (val B)=1:=by
       have:=uq GT hc;have h2:¬val A<val B:=by omega
       have h3:¬val A=val B:=by omega
       simp[cm,h2,h3]
      have HE:=hide he;clear he;go_wp2;go_ret;exact⟨zaA (uq HE).symm,rfl⟩
    ·have hcx:w.cell? ⟨ga,j,none⟩=some (.int .u64 x):=by rw[hx];exact uq HCA j ka
     have y0:y=0:=by rw[hy,List.getD_eq_getElem?_getD,List.getElem?_eq_none (by omega)];rfl
     clear hx hy;subst y0;rcases Int.lt_trichotomy x 0 with hc|hc|hc
     ·exact absurd hc (by omega)
     ·have HD2:=hide (uq EQ hc);subst hc;go_wp2
      go_round
      case rel=>exact⟨j,by go_num,by omega,HD2⟩
      case measure=>simp[intOf]<;>omega
     ·have he:cm (val A) (val B)=1:=by
       have:=uq GT hc;have h2:¬val A<val B:=by omega
       have h3:¬val A=val B:=by omega
       simp[cm,h2,h3]
      have HE:=hide he;clear he;go_wp2;go_ret;exact⟨zaA (uq HE).symm,rfl⟩
   ·by_cases kb:j<B.length
    ·exact absurd kb (by omega)
    ·exact absurd hk (by omega)
theorem zcx (va vb:Value) (A B:List Int) (Ba Bb:Nat) (w:World) (ra:RowB Ba w va A) (rb:RowB Bb w vb B) (hA:Dig A) (hB:Dig B) (ha0:0<A.length) (hb0:0<B.length) (ha:A.length≤1000) (hb:B.length≤1000):
  Calls Tryz.prog 120 #[va,vb] w fun e w'=>e= .returned (.int .i64 (cm (val A) (val B)))∧w'=w:=by
 rcases rb.shape with ⟨_,e⟩|⟨gb,capb,rfl,hgb,_,hcb⟩
 ·rw[e]at hb0;simp at hb0
 ·rcases ra.shape with ⟨_,e⟩|⟨ga,capa,rfl,hga,_,hca⟩
  ·rw[e]at ha0;simp at ha0
  ·by_cases h:A.length<B.length
   ·exact zjh A B w hA hB h ha hb ga capa hca gb capb hcb
   ·exact zji A B w hA hB (by omega) ha hb ga capa hca gb capb hcb
set_option maxHeartbeats 2000000 in
theorem zhy (A B:List Int) (w:World) (hA:Dig A) (hB:Dig B) (hm2:A.length≤1000) (hm3:B.length≤1000) (HLE:Hid (val B≤val A)) (ga capa:Nat) (hga:ga<w.heap.size) (hca:∀ j,j<A.length→w.cell? ⟨ga,j,none⟩=some (.int .u64 (A.getD j 0))) (gb capb:Nat) (hgb:gb<w.heap.size) (hcb:∀ j,j<B.length→w.cell? ⟨gb,j,none⟩=some (.int .u64 (B.getD j 0))):
  Calls Tryz.prog 144 #[.slice (some ⟨ga,0,none⟩) A.length capa,.slice (some ⟨gb,0,none⟩) B.length capb] w fun e w'=>za3 w w' e fun l=>l.length=A.length∧val l=val A - val B:=by
 obtain⟨i0,hi,hz0,hz1,hz2⟩:=zan zhx;go_enter Tryz.func144,Tryz.ntmps144;go_wp2
 go_loopw [5,6,7] (fun v cv i wr=>∃(k:Nat) (l:List Int) (c:Int),cv= .int .u64 c∧i= .int .i64 k∧k≤A.length∧zcv A B l k c∧RowB w.heap.size wr v l∧Below w.heap.size w wr) (fun _ _ i _=>A.length - (intOf i).toNat)
 case atStart=>exact⟨0,[],0,rfl,rfl,by omega,zfN A B,World.ownsRow_nil _ _ _ _,Below.refl _ _⟩
 case round=>
  obtain⟨k,l,c,rfl,rfl,hk,hinv,hown,hnx⟩:=hrel;have hll:l.length=k:=hinv.1;have hc0:0≤c:=hinv.2.2.1;have hc9:c≤1:=hinv.2.2.2.1;have hsz:=hnx.size;by_cases ka:k<A.length
  ·have dx:=zay hA k;have dy:=zay hB k;obtain⟨x,hx⟩:∃ x,x=A.getD k 0:=⟨_,rfl⟩;obtain⟨y,hy⟩:∃ y,y=B.getD k 0:=⟨_,rfl⟩;rw[← hx]at dx;rw[← hy]at dy;obtain⟨dx0,dx1⟩:=dx;obtain⟨dy0,dy1⟩:=dy;have hcx:wr.cell? ⟨ga,k,none⟩=some (.int .u64 x):=by rw[hnx.cell (p:=⟨ga,k,none⟩) hga,hx];exact hca k ka
   have HX:=hide hx;by_cases kb:k<B.length
   ·have hcy:wr.cell? ⟨gb,k,none⟩=some (.int .u64 y):=by rw[hnx.cell (p:=⟨gb,k,none⟩) hgb,hy];exact hcb k kb
    have HY:=hide hy;clear hx hy;by_cases hc:c+y≤x
    ·have HS:=hide (zbX (d:=x - (c+y)) (n:=0) hinv hA hB (uq HX) (uq HY) (.inl ⟨by omega,by omega,rfl⟩));have a3:k+1≤maxLen:=by unfold maxLen;omega
     have hownk:=hown;unfold RowB at hownk
     rw[hll]at hownk;go_wp2_with (first|(at_builtin;refine wpList_append_own _ rfl _ _ 154 rfl w.heap.size 157 i0 (.int .u64 0) 1 8 Tryz.underlying154 hi hz0 hz1 hz2 rfl (by decide) _ _ _ rfl (World.ownsRow.alloc hownk _) ⟨wr.heap.size,0,none⟩ 1 1 [.int .u64 (x - (c+y))] rfl rfl (cell_one_new _ _ _) (zcM _) a3 (by omega) (by simp;omega) ?_)|go_in)
     ·intro v' w1 hown' hgrow _
      have hb1:=zaw hown hnx hgrow;rw[← hll]at hown';have hrow:=RowB.snoc hown';clear hown' hgrow hown hnx hll hownk;go_wp2;go_roundw
      case rel=>exact⟨k+1,_,0,rfl,by go_num,by omega,uq HS,hrow,hb1⟩
      case measure=>simp[intOf];omega
    ·have HS:=hide (zbX (d:=x+65536 - (c+y)) (n:=1) hinv hA hB (uq HX) (uq HY) (.inr ⟨by omega,by omega,rfl⟩));have a3:k+1≤maxLen:=by unfold maxLen;omega
     have hownk:=hown;unfold RowB at hownk
     rw[hll]at hownk;go_wp2_with (first|(at_builtin;refine wpList_append_own _ rfl _ _ 154 rfl w.heap.size 157 i0 (.int .u64 0) 1 8 Tryz.underlying154 hi hz0 hz1 hz2 rfl (by decide) _ _ _ rfl (World.ownsRow.alloc hownk _) ⟨wr.heap.size,0,none⟩ 1 1 [.int .u64 (x+65536 - (c+y))] rfl rfl (cell_one_new _ _ _) (zcM _) a3 (by omega) (by simp;omega) ?_)|go_in)
     ·intro v' w1 hown' hgrow _
      have hb1:=zaw hown hnx hgrow;rw[← hll]at hown';have hrow:=RowB.snoc hown';clear hown' hgrow hown hnx hll hownk;go_wp2;go_roundw
      case rel=>exact⟨k+1,_,1,rfl,by go_num,by omega,uq HS,hrow,hb1⟩
      case measure=>simp[intOf];omega
   ·have h00:(0:Int)=B.getD k 0:=by rw[List.getD_eq_getElem?_getD,List.getElem?_eq_none (by omega)];rfl
    have HY:=hide h00;clear hx hy h00 dy0 dy1;by_cases hc:c≤x
    ·have HS:=hide (zbX (d:=x - c) (n:=0) hinv hA hB (uq HX) (uq HY) (.inl ⟨by omega,by omega,rfl⟩));have a3:k+1≤maxLen:=by unfold maxLen;omega
     have hownk:=hown;unfold RowB at hownk
     rw[hll]at hownk;go_wp2_with (first|(at_builtin;refine wpList_append_own _ rfl _ _ 154 rfl w.heap.size 157 i0 (.int .u64 0) 1 8 Tryz.underlying154 hi hz0 hz1 hz2 rfl (by decide) _ _ _ rfl (World.ownsRow.alloc hownk _) ⟨wr.heap.size,0,none⟩ 1 1 [.int .u64 (x - c)] rfl rfl (cell_one_new _ _ _) (zcM _) a3 (by omega) (by simp;omega) ?_)|go_in)
     ·intro v' w1 hown' hgrow _
      have hb1:=zaw hown hnx hgrow;rw[← hll]at hown';have hrow:=RowB.snoc hown';clear hown' hgrow hown hnx hll hownk;go_wp2;go_roundw
      case rel=>exact⟨k+1,_,0,rfl,by go_num,by omega,uq HS,hrow,hb1⟩
      case measure=>simp[intOf];omega
    ·have HS:=hide (zbX (d:=x+65536 - c) (n:=1) hinv hA hB (uq HX) (uq HY) (.inr ⟨by omega,by omega,rfl⟩));have a3:k+1≤maxLen:=by unfold maxLen;omega
     have hownk:=hown;unfold RowB at hownk
     rw[hll]at hownk;go_wp2_with (first|(at_builtin;refine wpList_append_own _ rfl _ _ 154 rfl w.heap.size 157 i0 (.int .u64 0) 1 8 Tryz.underlying154 hi hz0 hz1 hz2 rfl (by decide) _ _ _ rfl (World.ownsRow.alloc hownk _) ⟨wr.heap.size,0,none⟩ 1 1 [.int .u64 (x+65536 - c)] rfl rfl (cell_one_new _ _ _) (zcM _) a3 (by omega) (by simp;omega) ?_)|go_in)
     ·intro v' w1 hown' hgrow _
      have hb1:=zaw hown hnx hgrow;rw[← hll]at hown';have hrow:=RowB.snoc hown';clear hown' hgrow hown hnx hll hownk;go_wp2;go_roundw
      case rel=>exact⟨k+1,_,1,rfl,by go_num,by omega,uq HS,hrow,hb1⟩
      case measure=>simp[intOf];omega
  ·have he:=zjd hinv hA hB (by omega) (uq HLE);have HE:=hide he;have hd:=hinv.2.1;clear he;go_wp2;go_ret;exact⟨u5,l,rfl,hown,hd,⟨by omega,uq HE⟩,hnx⟩
def zjj (w w':World) (e:Ending) (u:Int):Prop:=∃ g cap X,e= .returned (.slice (some ⟨g,0,none⟩) 4 cap)∧w.heap.size≤g∧g<w'.heap.size∧(∀ j,j<4→w'.cell? ⟨g,j,none⟩=some (.int .u64 (X.getD j 0)))∧Dig X∧X.length=4∧val X=u∧Below w.heap.size w w'
theorem zgF (u:Int) (w:World) (h0:0≤u) (h1:u<18446744073709551616):Calls Tryz.prog 118 #[.int .u64 u] w fun e w'=>zjj w w' e u:=by
 refine(zjf u w h0 h1).mono ?_;rintro e w' ⟨v,l,rfl,hr,hd,⟨hl,hv⟩,hb⟩;rcases hr.shape with ⟨_,e⟩|⟨g,cap,rfl,hg,hB,hc⟩
 ·rw[e]at hl;simp at hl
 ·rw[hl]at hc ⊢;exact⟨g,cap,l,rfl,hB,hg,hc,hd,hl,hv,hb⟩
theorem zjk (k:Nat):(madeCells (Value.int .u64 0).cells (k * 1)).toList=(List.replicate k (0:Int)).map (Value.int .u64):=by
 simp[madeCells,Value.cells,Nat.mod_one];rw[List.map_const',List.length_range]
theorem zkF {w:World} {v:Value} {B k:Nat} (h:w.ownsRow B 157 1 v k (madeCells (Value.int .u64 0).cells (k * 1)).toList):RowB B w v (List.replicate k 0):=by
 unfold RowB
 rw[zjk]at h;rw[List.length_replicate];exact h
theorem zc0 {w wr w1:World} {v:Value} {l:List Int} {o:Obj} (hown:RowB w.heap.size wr v l) (hb:Below w.heap.size w wr) (hg:(wr.alloc o).drew.grownBy w1 v.ownBlock):Below w.heap.size w w1:=
 Below.grown (hb.alloc hb.size o).drew hg (by have:=hb.size;simp;omega) (fun k hk=>(World.ownsRow.lt hown k hk).1)
set_option maxHeartbeats 4000000 in
theorem zaL (a b:Int) (w:World) (h0:0≤a) (h1:a<18446744073709551616) (h2:0≤b) (h3:b<18446744073709551616):
  Calls Tryz.prog 88 #[.int .u64 a,.int .u64 b] w fun e w'=>za3 w w' e fun l=>0<l.length∧l.length≤9∧val l=a * b:=by
 obtain⟨i0,hi,hz0,hz1,hz2⟩:=zan zhx;go_enter Tryz.func88,Tryz.ntmps88;go_wp2_with fail
 refine(zgF a _ h0 h1).mono ?_;rintro e w1 ⟨gx,cx,X,rfl,hgx0,hgx,hcX,dX,lX,vX,bX⟩;have HcX:=hide hcX;have HlX:=hide lX;have HvX:=hide vX;clear hcX lX vX;go_wp2_with fail
 refine(zgF b _ h2 h3).mono ?_;rintro e w2 ⟨gy,cy,Y,rfl,hgy0,hgy,hcY,dY,lY,vY,bY⟩;have HcY:=hide hcY;have HlY:=hide lY;have HvY:=hide vY;clear hcY lY vY;have hs1:=bX.size;have hs2:=bY.size;go_wp2_with fail
 go_loopw [7,8] (fun v i wr=>∃(k:Nat) (O:List Int),k≤4∧i= .int .i64 k∧RowB w2.heap.size wr v O∧Dig O∧O.length≤k+5∧(0<k→0<O.length)∧Hid (val O=val (X.take k) * val Y)∧Below w2.heap.size w2 wr) (fun _ i _=>4 - (intOf i).toNat)
 case atStart=>exact⟨0,[],by omega,rfl,World.ownsRow_nil _ _ _ _,zce,by simp,by omega,hide (by simp[val]),Below.refl _ _⟩
 case round=>
  obtain⟨wo,rfl⟩:∃ wo,wo=wr:=⟨wr,rfl⟩;obtain⟨k,O,hk,rfl,rO,dO,lO,pO,HO,bO⟩:=hrel;have hso:=bO.size;by_cases hk4:k<4
  ·have dx:=zay dX k;obtain⟨x,hx⟩:∃ x,x=X.getD k 0:=⟨_,rfl⟩;rw[← hx]at dx;obtain⟨dx0,dx1⟩:=dx;have hcx:wo.cell? ⟨gx,k,none⟩=some (.int .u64 x):=by
    rw[bO.cell (p:=⟨gx,k,none⟩) (by show gx<_;omega),bY.cell (p:=⟨gx,k,none⟩) hgx,hx];exact uq HcX k hk4
   have HX:=hide hx;have PO:=hide pO;clear hx pO;go_wp2_with (at_make;refine wpList_make_full _ rfl _ _ 154 rfl wo.heap.size 157 i0 (.int .u64 0) 1 Tryz.underlying154 hi hz0 hz1 .i64 .i64 _ _ k rfl rfl rfl rfl (by rw[hz2];omega) (by unfold maxLen;omega) (Nat.le_refl _) ?_;intro wm hownm hgrowm)
   have rM:=zkF hownm;have bM:Below wo.heap.size wo wm:=Below.grown (Below.refl _ _) hgrowm (Nat.le_refl _) (fun q hq=>by cases hq);clear hownm hgrowm
   go_loopw [9,10,11] (fun rv cv jv wi=>∃(j:Nat) (R:List Int) (c:Int),j≤4∧jv= .int .i64 j∧cv= .int .u64 c∧zeV Y R k j x c∧RowB wo.heap.size wi rv R∧Below wo.heap.size wo wi) (fun _ _ jv _=>4 - (intOf jv).toNat)
   case atStart=>exact⟨0,List.replicate k 0,0,by omega,rfl,rfl,zje Y k x,rM,bM⟩
   case round=>
    obtain⟨j,R,c,hj,rfl,rfl,inv,rR,bR⟩:=hrel;have hlR:R.length=k+j:=inv.1;have hc0:0≤c:=inv.2.2.1;have hc1:c<65536:=inv.2.2.2.1;have hsr:=bR.size;by_cases hj4:j<4
    ·have dy:=zay dY j;obtain⟨y,hy⟩:∃ y,y=Y.getD j 0:=⟨_,rfl⟩;rw[← hy]at dy;obtain⟨dy0,dy1⟩:=dy;have hcxi:wr.cell? ⟨gx,k,none⟩=some (.int .u64 x):=by
      rw[bR.cell (p:=⟨gx,k,none⟩) (by show gx<_;omega)];exact hcx
     have hcyi:wr.cell? ⟨gy,j,none⟩=some (.int .u64 y):=by
      rw[bR.cell (p:=⟨gy,j,none⟩) (by show gy<_;omega),bO.cell (p:=⟨gy,j,none⟩) hgy,hy];exact uq HcY j hj4
     have hp:=zgE dx0 dx1 dy0 dy1 hc0 hc1;have HS:=hide (zkD inv dY dx0 dx1 hy rfl);obtain⟨P,hP⟩:∃ P,P=x * y:=⟨_,rfl⟩;rw[← hP]at hp HS;have eP:IntKind.u64.wrap (x * y)=P:=by rw[IntKind.wrap_u64];omega
     obtain⟨hp1,hp2,hp3,hp4⟩:=hp;have HP:=hide hP;have HY:=hide hy;clear hy hP;have a3:k+j+1≤maxLen:=by unfold maxLen;omega
     have hownk:=rR;unfold RowB at hownk
     rw[hlR]at hownk;go_wp2_with fail
     go_region
     have hownd:(wr.drew).ownsRow wo.heap.size 157 1 u9 (k+j) (List.map (Value.int .u64) R):=hownk;go_wp2_with (first|(at_builtin;refine wpList_append_own _ rfl _ _ 154 rfl wo.heap.size 157 i0 (.int .u64 0) 1 8 Tryz.underlying154 hi hz0 hz1 hz2 rfl (by decide) _ _ _ rfl (World.ownsRow.alloc hownd _) ⟨wr.heap.size,0,none⟩ 1 1 [.int .u64 ((P+c) % 65536)] rfl rfl (cell_one_new _ _ _) (zcM _) a3 (by omega) (by simp;omega) ?_)|go_in)
     intro v' w1 hown' hgrow _
     have hb1:=zc0 rR bR hgrow;rw[← hlR]at hown';have hrow:=RowB.snoc hown';clear hown' hgrow rR bR hlR hownk hownd;go_wp2;go_roundw
     case rel=>exact⟨j+1,_,_,by omega,by go_num,rfl,uq HS,hrow,hb1⟩
     case measure=>simp[intOf];omega
    ·have hj4':j=Y.length:=by rw[uq HlY];omega
     have he:val (R++ [c])=pw k * (x * val Y)∧Dig (R++ [c])∧(R++ [c]).length=k+Y.length+1:=by
      rw[hj4']at inv;exact znO inv
     rw[uq HlY]at he hj4';obtain⟨he1,he2,he3⟩:=he;have HE1:=hide he1;have HE3:=hide he3;have a3:k+j+1≤maxLen:=by unfold maxLen;omega
     have hownk:=rR;unfold RowB at hownk
     rw[hlR]at hownk;have HJ:=hide hj4';clear he1 he3 hj4';go_wp2_with (first|(at_builtin;refine wpList_append_own _ rfl (.tmp 46) (.tmp 48) 154 rfl wo.heap.size 157 i0 (.int .u64 0) 1 8 Tryz.underlying154 hi hz0 hz1 hz2 rfl (by decide) _ _ _ rfl (World.ownsRow.alloc hownk _) ⟨wr.heap.size,0,none⟩ 1 1 [.int .u64 c] rfl rfl (cell_one_new _ _ _) (zcM _) a3 (by omega) (by simp;omega) ?_))
     intro v' w3 hown' hgrow _
     have hb3:=zaw rR bR hgrow;rw[← hlR]at hown';have hrow:=RowB.snoc hown';have rO3:RowB w2.heap.size w3 u7 O:=rO.keep hb3;have PL:Hid (∀ w',w'=w3→Calls Tryz.prog 119 #[u7,v'] w' fun e w4=>za3 w' w4 e fun l=>(R++ [c]).length≤l.length∧l.length≤k+5+1∧val l=val O+val (R++ [c])):=by
      intro w' e;subst e
      exact zjg u7 v' O (R++ [c]) _ _ (k+5) w' rO3 hrow dO he2 (by rw[uq HE3];omega) lO (by rw[uq HE3];omega) (by omega)
     have hs3:=hb3.size;clear hown' hgrow rR hownk hrow rO3 rO;go_wp2_with fail
     refine(uq PL _ rfl).mono ?_;rintro e w4 ⟨v4,l4,rfl,r4,d4,⟨q1,q2,q3⟩,b4⟩;have H4:=hide (zhw (uq HO) ((uq HE1).trans (by rw[uq HX])));have q3':val l4=val (X.take (k+1)) * val Y:=by rw[q3];exact uq H4
     have HQ:=hide q3';have q1':0<l4.length:=by rw[uq HE3]at q1;omega
     have r4':=r4.mono (show w2.heap.size≤w3.heap.size by omega);have b4':Below w2.heap.size w2 w4:=(bO.trans (hb3.mono hso)).trans (b4.mono (by omega));clear q1 q3 q3' r4;go_wp2;go_roundw
     case rel=>exact⟨k+1,l4,by omega,by go_num,r4',d4,by omega,fun _=>q1',HQ,b4'⟩
     case measure=>simp[intOf];omega
  ·have hk4':k=4:=by omega
   subst hk4';have hv:val O=a * b:=by
    rw[uq HO,za8 (by rw[uq HlX];omega),uq HvX,uq HvY]
   have HV:=hide hv;have p0:=pO (by omega);clear hv pO;go_wp2;go_ret;exact⟨u7,O,rfl,rO.mono (by omega),dO,⟨p0,by omega,uq HV⟩,(bX.trans (bY.mono (by omega))).trans (bO.mono (by omega))⟩
end Go.Proofs.YtcdhdhbjnpndkaaGreat
