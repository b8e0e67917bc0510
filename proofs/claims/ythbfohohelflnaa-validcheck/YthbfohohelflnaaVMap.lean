/- Package valid's small calls: refusals (panics), names in maps, numbers between bounds. -/
import Derived.Test.YthbfohohelflnaaProg
import Derived.Test.YthbfohohelflnaaLMath
import Derived.Test.YthbfohohelflnaaLVal
import Derived.Test.YthbfohohelflnaaNMath
import Derived.Maps.OwnSet
import Derived.WalkKit
import Derived.ProofKit
namespace Go.Proofs.Ythbfohohelflnaa
open Go.RowKit Go.Maps
set_option linter.unusedVariables false
set_option linter.unusedSimpArgs false
set_option maxRecDepth 10000
namespace V
theorem law:Keyed Try.prog 9:=string_keyed Try.underlying9
theorem zh3 (w:World):(zeroValue 3).run Try.prog w= .ok (.int .i64 0) w:=by kernel_rfl
def lk (M:List (List UInt8×Int)) (s:List UInt8):Int:=match M.find? (fun p=>p.1==s)with|some p=>p.2|none=>0
def hs (M:List (List UInt8×Int)) (s:List UInt8):Bool:=M.any (fun p=>p.1==s)
def Mp (w:World) (b:Nat) (M:List (List UInt8×Int)):Prop:=∃ D:DataW Unit,w.ownsMap Try.prog 9 (plainElem Try.prog 3) b M.length D
 ∧(∀ s:List UInt8,Maps.has D (.string s)=hs M s)∧(∀ s:List UInt8,D.atKey (.string s) (.lit (.int .i64 0))= .lit (.int .i64 (lk M s)))
theorem Mp.kept {w w':World} {b:Nat} {M:List (List UInt8×Int)} {row:Option Nat} (h:Mp w b M) (hg:w.grownBy w' row) (hne:some b≠row):Mp w' b M:=by
 obtain⟨D,h1,h2⟩:=h;exact⟨D,h1.kept hg hne,h2⟩
theorem zd2 {w w':World} (h:Keep w w'):w.grownBy w' none:=⟨h.os,h.tape,h.output,h.size,fun k hk _=>h.block k hk⟩
theorem Mp.keep {w w':World} {b:Nat} {M:List (List UInt8×Int)} (h:Mp w b M) (hk:Keep w w'):Mp w' b M:=h.kept (zd2 hk) (by simp)
theorem Mp.lt {w:World} {b:Nat} {M:List (List UInt8×Int)} (h:Mp w b M):b<w.heap.size:=by obtain⟨D,h1,h2⟩:=h;exact h1.lt
theorem zby (w:World):Mp (w.alloc (.map #[] 0)) w.heap.size []:=⟨_,World.ownsMap_made _ _ _ _,fun s=>rfl,fun s=>rfl⟩
theorem zgd {M:List (List UInt8×Int)} {s:List UInt8} (n:Int) (t:List UInt8) (h:hs M s=false):lk (M++ [(s,n)]) t=if s=t then n else lk M t:=by
 unfold lk
 rw[List.find?_append];by_cases e:s=t
 ·subst e;have:M.find? (fun p=>p.1==s)=none:=by
   rw[List.find?_eq_none];intro p hp
   have:=List.any_eq_false.1 h p hp;simpa using this
  simp[this]
 ·have e2:(s==t)=false:=by simpa using e
  simp[e,e2]
theorem zeG (M:List (List UInt8×Int)) (s:List UInt8) (n:Int) (t:List UInt8):hs (M++ [(s,n)]) t=(hs M t || s==t):=by simp[hs]
theorem zc4 {s:List UInt8} (hl:s.length≤maxLen):keyOf Try.prog 9 (.string (sv s))=some (.string s):=Go.WideMaps.keyOf_string_mk Try.underlying9 (s:=sv s) (by rw[zep];exact hl)
set_option maxHeartbeats 1000000 in
theorem zcl (b:Nat) (M:List (List UInt8×Int)) (s:List UInt8) (w:World) (hM:Mp w b M) (hl:s.length≤maxLen):
  Calls Try.prog 37 #[.map (some b),.string (sv s)] w fun e w'=>e= .returned (.bool (hs M s))∧w'=w:=by
 obtain⟨D,hown,h1,h2⟩:=hM;have hkey:=zc4 hl;have H1:=hide h1;clear h1 h2;go_enter Try.func37,Try.ntmps37;go_wp2_with (first
  |(at_lookup;refine wpList_lookup_own_ok_int _ rfl _ _ 50 rfl 9 3 .i64 law Try.underlying50 Try.underlying3 (zh3 _) b _ D rfl hown _ _ rfl hkey ?_;intro c hat hwc)
  |fail)
 go_ret;first|exact⟨rfl,rfl⟩|exact⟨by rw[← (uq H1) s];rfl,rfl⟩
def flt (c p:Int):Value:= .iface 46 (.agg #[.int .i64 c,.int .i64 p])
theorem pan (t:TypeId) (v:Value) (w:World):(Instr.panic (.iface t v)).run Try.prog w= .halt (.panic (.iface t v)) w:=rfl
theorem zaP (p c:Int) (w:World):Calls Try.prog 25 #[.int .i64 p,.int .i64 c,.bool false] w fun e w'=>e= .returned (.tuple #[])∧w'=w:=by
 have hp:=pan;go_enter Try.func25,Try.ntmps25;go_wp2_with fail
 go_end0
 exact⟨rfl,rfl⟩
theorem zaJ (p c:Int) (w:World):Calls Try.prog 25 #[.int .i64 p,.int .i64 c,.bool true] w fun e w'=>e= .panicked [{ v:=flt c p,recovered:=false }]∧w'=w:=by
 have hp:=pan;go_enter Try.func25,Try.ntmps25;go_wp2_with fail
 exact⟨rfl,rfl,rfl⟩
def ern (c:Int):Value:= .iface 29 (.int .i64 c)
theorem zeH (c:Int) (w:World):Calls Try.prog 20 #[.int .i64 c,.bool false] w fun e w'=>e= .returned (.tuple #[])∧w'=w:=by
 have hp:=pan;go_enter Try.func20,Try.ntmps20;go_wp2_with fail
 go_end0
 exact⟨rfl,rfl⟩
theorem zd3 (c:Int) (w:World):Calls Try.prog 20 #[.int .i64 c,.bool true] w fun e w'=>e= .panicked [{ v:=ern c,recovered:=false }]∧w'=w:=by
 have hp:=pan;go_enter Try.func20,Try.ntmps20;go_wp2_with fail
 exact⟨rfl,rfl,rfl⟩
def En (r:Option Value) (v:Value):Ending:=match r with|none=> .returned v|some x=> .panicked [{ v:=x,recovered:=false }]
def fl (b:Bool) (c p:Int):Option Value:=if b then some (flt c p)else none
set_option maxHeartbeats 1000000 in
theorem zcm (b:Nat) (p:Int) (s:ByteArray) (r:Bool) (w:World) (TH:Hid (∀ w',w'=w→Calls Try.prog 37 #[.map (some b),.string s] w' fun e w''=>e= .returned (.bool r)∧w''=w')):
  Calls Try.prog 23 #[.map (some b),.int .i64 p,.string s] w fun e w'=>e=En (fl (!r) 72 p) (.tuple #[])∧w'=w:=by
 have TN:=hide zaP;have TY:=hide zaJ;go_enter Try.func23,Try.ntmps23;go_wp2_with fail
 (refine((uq TH) _ rfl).mono ?_;rintro e w1 ⟨rfl,rfl⟩);cases r
 ·go_wp2_with fail
  (refine((uq TY) _ _ _).mono ?_;rintro e w2 ⟨rfl,rfl⟩);go_wp2_with fail
  exact⟨rfl,rfl,rfl⟩
 ·go_wp2_with fail
  (refine((uq TN) _ _ _).mono ?_;rintro e w2 ⟨rfl,rfl⟩);go_wp2_with fail
  go_end0
  exact⟨rfl,rfl⟩
theorem zag (b:Nat) (M:List (List UInt8×Int)) (p:Int) (s:List UInt8) (w:World) (hM:Mp w b M) (hl:s.length≤maxLen):
  Calls Try.prog 23 #[.map (some b),.int .i64 p,.string (sv s)] w fun e w'=>e=En (fl (!hs M s) 72 p) (.tuple #[])∧w'=w:=
 zcm b p (sv s) (hs M s) w (hide fun w' h=>by subst h;exact zcl b M s _ hM hl)
set_option maxHeartbeats 1000000 in
theorem zbV (b:Nat) (M:List (List UInt8×Int)) (p n:Int) (s:List UInt8) (w:World) (hM:Mp w b M) (hl:s.length≤maxLen) (hn:M.length<maxLen) (hw:(Lit.int .i64 n).wf=true) (hh:hs M s=false):
  Calls Try.prog 24 #[.map (some b),.int .i64 p,.string (sv s),.int .i64 n] w fun e w'=>e= .returned (.tuple #[])∧Mp w' b (M++ [(s,n)])∧w.grownBy w' (some b):=by
 have TH:=hide (zcl b M s w hM hl);rw[hh]at TH;have TN:=hide zaP;obtain⟨D,hown,h1,h2⟩:=hM;have hkey:=zc4 hl;have H1:=hide h1;have H2:=hide h2;have HH:=hide hh;clear h1 h2 hh;generalize sv s=x at TH hkey ⊢;go_enter Try.func24,Try.ntmps24;go_wp2_with fail
 (refine(uq TH).mono ?_;rintro e w1 ⟨rfl,rfl⟩);go_wp2_with fail
 (refine((uq TN) _ _ _).mono ?_;rintro e w2 ⟨rfl,rfl⟩);go_wp2_with (first|(at_mapUpdate;refine wpList_mapUpdate_own _ rfl _ _ _ 50 rfl 9 3 law Try.underlying50 _ b _ D rfl hown hn _ _ _ rfl rfl hkey _ [] (plainElem_int Try.underlying3 hw) ?_;intro w3 hown3 hgrow3)|fail)
 go_end0
 refine⟨rfl,⟨_,by rw[List.length_append];exact hown3,fun t=>?_,fun t=>?_⟩,hgrow3⟩
 ·have hD:IsMap D:=(hown.tidy law).isMap;rw[zeG];by_cases e:t=s
  ·subst e;rw[has_put_same hD (show WideAt.IsKeyLit (.string t)from trivial)];simp
  ·rw[has_put_other (by simpa using e),(uq H1) t];have:(s==t)=false:=by simpa using fun h=>e h.symm
   simp[this]
 ·have hD:IsMap D:=(hown.tidy law).isMap;rw[zgd n t (uq HH)];by_cases e:t=s
  ·subst e;rw[atKey_put_same hD (show WideAt.IsKeyLit (.string t)from trivial)];simp
  ·rw[atKey_put_other (by simpa using e),(uq H2) t,if_neg (fun h=>e h.symm)]
set_option maxHeartbeats 1000000 in
theorem zbz (b:Nat) (M:List (List UInt8×Int)) (p n:Int) (s:List UInt8) (w:World) (hM:Mp w b M) (hl:s.length≤maxLen) (hh:hs M s=true):
  Calls Try.prog 24 #[.map (some b),.int .i64 p,.string (sv s),.int .i64 n] w fun e w'=>e= .panicked [{ v:=flt 71 p,recovered:=false }]∧w'=w:=by
 have TH:=hide (zcl b M s w hM hl);rw[hh]at TH;have TN:=hide zaJ;clear hM hh;generalize sv s=x at TH ⊢;go_enter Try.func24,Try.ntmps24;go_wp2_with fail
 (refine(uq TH).mono ?_;rintro e w1 ⟨rfl,rfl⟩);go_wp2_with fail
 (refine((uq TN) _ _ _).mono ?_;rintro e w2 ⟨rfl,rfl⟩);go_wp2_with fail
 exact⟨rfl,rfl,rfl⟩
theorem zdj (a n b:Int) (w:World):Calls Try.prog 22 #[.int .i64 a,.int .i64 n,.int .i64 b] w fun e w'=>e= .returned (.bool (decide (a≤n∧n≤b)))∧w'=w:=by
 by_cases h1:a≤n
 ·by_cases h2:n≤b
  ·rw[decide_eq_true ⟨h1,h2⟩];go_enter Try.func22,Try.ntmps22;go_wp2_with fail
   go_ret;exact⟨rfl,rfl⟩
  ·rw[decide_eq_false (fun h=>h2 h.2)];go_enter Try.func22,Try.ntmps22;go_wp2_with fail
   go_ret;exact⟨rfl,rfl⟩
 ·rw[decide_eq_false (fun h=>h1 h.1)];go_enter Try.func22,Try.ntmps22;go_wp2_with fail
  go_ret;exact⟨rfl,rfl⟩
end V
end Go.Proofs.Ythbfohohelflnaa
