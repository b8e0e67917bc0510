/- Package show: names, numbers, grades. -/
import Derived.Test.YtfepanidippjlaaGreatDoorQOne
namespace Go.Proofs.YtfepanidippjlaaGreatDoor
open Go.RowKit
attribute [local go_sem ↓] Go.wp_at_zero Go.wp_at_succ
set_option linter.unusedVariables false
set_option linter.unusedSimpArgs false
set_option maxRecDepth 10000
namespace S
theorem zjm (v:Value) (l:List UInt8) (w:World) (h:By w v l):Calls Tryz.prog 71 #[v] w (Tp (T l) w):=by
 by_cases hl:l.length≤70000
 ·exact zfL v l w hl h
 ·obtain⟨a,cap,rfl⟩:=h.shape;have e:T l= .error (4,65536):=by unfold T;rw[if_pos (by omega)]
  rw[e];refine(zeJ a l.length cap w (by omega)).mono ?_;rintro e w' ⟨rfl,rfl⟩;exact⟨_,rfl,zdH _,zd3 _,Keep.refl _⟩
theorem zhN (v:Value) (l:List UInt8) (w:World) (h:By w v l):Calls Tryz.prog 61 #[v] w (Tp (T l) w):=by
 by_cases hl:l.length≤70000
 ·exact zdR v l w hl h
 ·obtain⟨a,cap,rfl⟩:=h.shape;have e:T l= .error (4,65536):=by unfold T;rw[if_pos (by omega)]
  rw[e];refine(zd2 a l.length cap w (by omega)).mono ?_;rintro e w' ⟨rfl,rfl⟩;exact⟨_,rfl,zdH _,zd3 _,Keep.refl _⟩
set_option maxHeartbeats 2000000 in
theorem zhO (s:ByteArray) (x y:Bool) (w:World)
  (T1:Hid (Calls Tryz.prog 86 #[.agg #[.int .i64 1,.string s,.int .i64 0,.int .i64 0]] w fun e w'=>e= .returned (.bool x)∧Keep w w'))
  (T2:Hid (∀ w',Calls Tryz.prog 87 #[.string s] w' fun e w''=>e= .returned (.bool y)∧w''=w')):
  Calls Tryz.prog 47 #[.string s] w fun e w'=>e= .returned (.bool (x&& !y))∧Keep w w':=by
 cases x with
 |false=>
  go_enter Tryz.func47,Tryz.ntmps47;go_wp2_with fail
  (refine(uq T1).mono ?_;rintro e w2 ⟨rfl,hk⟩;have HK:=hide hk;clear hk);go_wp2_with fail
  go_ret;exact⟨rfl,uq HK⟩
 |true=>
  go_enter Tryz.func47,Tryz.ntmps47;go_wp2_with fail
  (refine(uq T1).mono ?_;rintro e w2 ⟨rfl,hk⟩;have HK:=hide hk;clear hk);go_wp2_with fail
  (refine((uq T2) _).mono ?_;rintro e w3 ⟨rfl,rfl⟩);go_wp2_with fail
  go_ret;refine⟨?_,uq HK⟩;cases y<;>rfl
theorem zhP (t:Tok) (w:World):Calls Tryz.prog 86 #[tv t] w fun e w'=>e= .returned (.bool (rg t))∧Keep w w':=by
 by_cases hl:t.s.length≤70000
 ·exact zhr t w hl
 ·have e:T t.s= .error (4,65536):=by unfold T;rw[if_pos (by omega)]
  rw[zgd (fun x y h=>by rw[e]at h;cases h)];refine zeq _ _ _ 4 65536 0 _ w (.inl (by simp)) (hide fun w' v h=>?_);have:=zjm v t.s w' h;rw[e]at this;refine this.mono ?_;rintro _ w'' ⟨u,rfl,h1,_,h3⟩;obtain⟨b,cap,rfl⟩:=h1.shape;exact⟨b,cap,rfl,h3⟩
theorem zaz (s:ByteArray) (w:World):Calls Tryz.prog 47 #[.string s] w fun e w'=>e= .returned (.bool (nmB s.data.toList))∧Keep w w':=by
 refine zhO s (rg ⟨1,s.data.toList,0,0⟩) (decide (s.data.toList∈words)) w (hide ?_) (hide fun w'=>?_)
 ·have:=zhP ⟨1,s.data.toList,0,0⟩ w;simp only[tv,zhp]at this;exact this
 ·have:=zlY s w';rwa[show s.toList=s.data.toList from by have h9:=zgc s.data.toList;rwa[zhp]at h9]at this
set_option maxHeartbeats 2000000 in
theorem zhQ (n:Int) (w:World):Calls Tryz.prog 88 #[.int .i64 n] w fun e w'=>e= .returned (.bool (grB n))∧w'=w:=by
 by_cases h1: -999999999999999999≤n
 ·by_cases h2:n≤999999999999999999
  ·rw[show grB n=true by unfold grB;rw[decide_eq_true ⟨h1,h2⟩]];go_enter Tryz.func88,Tryz.ntmps88;go_wp2_with fail
   go_ret;exact⟨rfl,rfl⟩
  ·rw[show grB n=false by unfold grB;rw[decide_eq_false (fun x=>h2 x.2)]];go_enter Tryz.func88,Tryz.ntmps88;go_wp2_with fail
   go_ret;exact⟨rfl,rfl⟩
 ·rw[show grB n=false by unfold grB;rw[decide_eq_false (fun x=>h1 x.1)]];go_enter Tryz.func88,Tryz.ntmps88;go_wp2_with fail
  go_ret;exact⟨rfl,rfl⟩
set_option maxHeartbeats 4000000 in
theorem zhR (g n cap:Nat) (X:Nat→Int) (r:Bool) (w:World) (hn:n≤100)
  (HC:Hid (∀ k,k<n→w.cell? ⟨g,k,none⟩=some (.int .i64 (X k))))
  (H1:Hid (∀ k,k<n→nuB (X k)=false→r=false)) (H2:Hid ((∀ k,k<n→nuB (X k)=true)→r=true)):
  Calls Tryz.prog 22 #[.slice (some ⟨g,0,none⟩) n cap] w fun e w'=>e= .returned (.bool r)∧w'=w:=by
 go_enter Tryz.func22,Tryz.ntmps22;go_wp2_with fail
 go_loop [7] (fun vi=>∃ k:Nat,k≤n∧vi= .int .i64 (k:Int)∧Hid (∀ j,j<k→nuB (X j)=true)) (fun vi=>n - (intOf vi).toNat)
 case atStart=>exact⟨0,Nat.zero_le _,rfl,hide fun j hj=>by omega⟩
 case round=>
  obtain⟨k,hk,rfl,HN⟩:=hrel;by_cases hlt:k<n
  ·have li:(k:Int)<(n:Int):=by omega
   have ck:=(uq HC) k hlt;have HB:=hide ((uq H1) k hlt);have HX:Hid (∀ b,nuB (X k)=b→nuB (X k)=b):=hide fun _ h=>h
   generalize hx:X k=x at ck HB HX;by_cases h1:x<0
   ·have hr:=(uq HB) (by unfold nuB;simp;omega);subst hr;go_wp2_with fail
    go_ret;exact⟨rfl,rfl⟩
   ·by_cases h2:999999999999999999<x
    ·have hr:=(uq HB) (by unfold nuB;simp;omega);subst hr;go_wp2_with fail
     go_ret;exact⟨rfl,rfl⟩
    ·have HB2:Hid (nuB (X k)=true):=hide (by rw[hx];unfold nuB;simp;omega);clear hx HB HX;go_wp2_with fail
     exact⟨⟨k+1,hlt,by go_num,hide fun j hj=>(Nat.lt_succ_iff_lt_or_eq.1 hj).elim ((uq HN) j) (fun e=>e▸uq HB2)⟩,by simp[intOf];omega⟩
  ·have hr:=(uq H2) (fun j hj=>(uq HN) j (by omega));subst hr;go_wp2_with fail
   go_ret;exact⟨rfl,rfl⟩
theorem zdC (l:List Int) (g cap:Nat) (w:World) (hn:l.length≤100) (HC:∀ k u,(l.map (Value.int .i64))[k]? =some u→w.cell? ⟨g,k,none⟩=some u):Calls Tryz.prog 22 #[.slice (some ⟨g,0,none⟩) l.length cap] w fun e w'=>e= .returned (.bool (zbs l))∧w'=w:=by
 have at_:∀ k,k<l.length→l.getD k 0∈l:=fun k hk=>by rw[List.getD_eq_getElem?_getD,List.getElem?_eq_getElem hk];exact List.getElem_mem hk
 refine zhR g l.length cap (fun k=>l.getD k 0) _ w hn (hide fun k hk=>?_) (hide fun k hk h=>?_) (hide fun h=>?_)
 ·refine HC k _ ?_;rw[List.getElem?_map,List.getElem?_eq_getElem hk,List.getD_eq_getElem?_getD,List.getElem?_eq_getElem hk]
  rfl
 ·unfold zbs
  rw[List.all_eq_false];exact⟨_,at_ k hk,by rw[h];simp⟩
 ·unfold zbs
  rw[List.all_eq_true];intro x hx
  obtain⟨k,hk,rfl⟩:=List.getElem_of_mem hx;have:=h k hk;rwa[List.getD_eq_getElem?_getD,List.getElem?_eq_getElem hk]at this
end S
end Go.Proofs.YtfepanidippjlaaGreatDoor
