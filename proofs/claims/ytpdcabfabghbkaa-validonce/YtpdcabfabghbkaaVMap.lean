/- Package valid's small calls: refusals (panics), names in maps, numbers between bounds. -/
import Derived.Test.YtpdcabfabghbkaaProg
import Derived.Test.YtpdcabfabghbkaaLMath
import Derived.Test.YtpdcabfabghbkaaExt
import Derived.Test.YtpdcabfabghbkaaLRes
import Derived.Maps.OwnSet
import Derived.WalkKit
import Derived.ProofKit
namespace Go.Proofs.Ytpdcabfabghbkaa
open Go.RowKit Go.Maps
set_option linter.unusedVariables false
set_option linter.unusedSimpArgs false
set_option maxRecDepth 10000
namespace V
theorem law:Keyed Try.prog 9:=string_keyed Try.underlying9
theorem zhR (w:World):(zeroValue 3).run Try.prog w= .ok (.int .i64 0) w:=by kernel_rfl
def lk (M:List (List UInt8×Int)) (s:List UInt8):Int:=match M.find? (fun p=>p.1==s)with|some p=>p.2|none=>0
def hs (M:List (List UInt8×Int)) (s:List UInt8):Bool:=M.any (fun p=>p.1==s)
def Mp (w:World) (b:Nat) (M:List (List UInt8×Int)):Prop:=∃ D:DataW Unit,w.ownsMap Try.prog 9 (plainElem Try.prog 3) b M.length D
 ∧(∀ s:List UInt8,Maps.has D (.string s)=hs M s)∧(∀ s:List UInt8,D.atKey (.string s) (.lit (.int .i64 0))= .lit (.int .i64 (lk M s)))
theorem Mp.kept {w w':World} {b:Nat} {M:List (List UInt8×Int)} {row:Option Nat} (h:Mp w b M) (hg:w.grownBy w' row) (hne:some b≠row):Mp w' b M:=by
 obtain⟨D,h1,h2⟩:=h;exact⟨D,h1.kept hg hne,h2⟩
theorem zdU {w w':World} (h:Keep w w'):w.grownBy w' none:=⟨h.os,h.tape,h.output,h.size,fun k hk _=>h.block k hk⟩
theorem Mp.keep {w w':World} {b:Nat} {M:List (List UInt8×Int)} (h:Mp w b M) (hk:Keep w w'):Mp w' b M:=h.kept (zdU hk) (by simp)
theorem Mp.lt {w:World} {b:Nat} {M:List (List UInt8×Int)} (h:Mp w b M):b<w.heap.size:=by obtain⟨D,h1,h2⟩:=h;exact h1.lt
theorem zbw (w:World):Mp (w.alloc (.map #[] 0)) w.heap.size []:=⟨_,World.ownsMap_made _ _ _ _,fun s=>rfl,fun s=>rfl⟩
theorem zf0 {M:List (List UInt8×Int)} {s:List UInt8} (n:Int) (t:List UInt8) (h:hs M s=false):lk (M++ [(s,n)]) t=if s=t then n else lk M t:=by
 unfold lk
 rw[List.find?_append];by_cases e:s=t
 ·subst e;have:M.find? (fun p=>p.1==s)=none:=by
   rw[List.find?_eq_none];intro p hp
   have:=List.any_eq_false.1 h p hp;simpa using this
  simp[this]
 ·have e2:(s==t)=false:=by simpa using e
  simp[e,e2]
theorem zeu (M:List (List UInt8×Int)) (s:List UInt8) (n:Int) (t:List UInt8):hs (M++ [(s,n)]) t=(hs M t || s==t):=by simp[hs]
theorem zcX {s:List UInt8} (hl:s.length≤maxLen):keyOf Try.prog 9 (.string (sv s))=some (.string s):=Go.WideMaps.keyOf_string_mk Try.underlying9 (s:=sv s) (by rw[zed];exact hl)
set_option maxHeartbeats 1000000 in
theorem zch (b:Nat) (M:List (List UInt8×Int)) (s:List UInt8) (w:World) (hM:Mp w b M) (hl:s.length≤maxLen):
  Calls Try.prog 53 #[.map (some b),.string (sv s)] w fun e w'=>e= .returned (.bool (hs M s))∧w'=w:=by
 obtain⟨D,hown,h1,h2⟩:=hM;have hkey:=zcX hl;have H1:=hide h1;clear h1 h2;go_enter Try.func53,Try.ntmps53;go_wp2_with (first
  |(at_lookup;refine wpList_lookup_own_ok_int _ rfl _ _ 59 rfl 9 3 .i64 law Try.underlying59 Try.underlying3 (zhR _) b _ D rfl hown _ _ rfl hkey ?_;intro c hat hwc)
  |fail)
 go_ret;first|exact⟨rfl,rfl⟩|exact⟨by rw[← (uq H1) s];rfl,rfl⟩
def flt (c p:Int):Value:= .iface 55 (.agg #[.int .i64 c,.int .i64 p])
theorem pan (t:TypeId) (v:Value) (w:World):(Instr.panic (.iface t v)).run Try.prog w= .halt (.panic (.iface t v)) w:=rfl
theorem zaN (p c:Int) (w:World):Calls Try.prog 44 #[.int .i64 p,.int .i64 c,.bool false] w fun e w'=>e= .returned (.tuple #[])∧w'=w:=by
 have hp:=pan;go_enter Try.func44,Try.ntmps44;go_wp2_with fail
 go_end0
 exact⟨rfl,rfl⟩
theorem zaI (p c:Int) (w:World):Calls Try.prog 44 #[.int .i64 p,.int .i64 c,.bool true] w fun e w'=>e= .panicked [{ v:=flt c p,recovered:=false }]∧w'=w:=by
 have hp:=pan;go_enter Try.func44,Try.ntmps44;go_wp2_with fail
 exact⟨rfl,rfl,rfl⟩
def ern (c:Int):Value:= .iface 29 (.int .i64 c)
theorem zev (c:Int) (w:World):Calls Try.prog 39 #[.int .i64 c,.bool false] w fun e w'=>e= .returned (.tuple #[])∧w'=w:=by
 have hp:=pan;go_enter Try.func39,Try.ntmps39;go_wp2_with fail
 go_end0
 exact⟨rfl,rfl⟩
theorem zdV (c:Int) (w:World):Calls Try.prog 39 #[.int .i64 c,.bool true] w fun e w'=>e= .panicked [{ v:=ern c,recovered:=false }]∧w'=w:=by
 have hp:=pan;go_enter Try.func39,Try.ntmps39;go_wp2_with fail
 exact⟨rfl,rfl,rfl⟩
def En (r:Option Value) (v:Value):Ending:=match r with|none=> .returned v|some x=> .panicked [{ v:=x,recovered:=false }]
def fl (b:Bool) (c p:Int):Option Value:=if b then some (flt c p)else none
set_option maxHeartbeats 1000000 in
theorem zci (b:Nat) (p:Int) (s:ByteArray) (r:Bool) (w:World) (TH:Hid (∀ w',w'=w→Calls Try.prog 53 #[.map (some b),.string s] w' fun e w''=>e= .returned (.bool r)∧w''=w')):
  Calls Try.prog 42 #[.map (some b),.int .i64 p,.string s] w fun e w'=>e=En (fl (!r) 72 p) (.tuple #[])∧w'=w:=by
 have TN:=hide zaN;have TY:=hide zaI;go_enter Try.func42,Try.ntmps42;go_wp2_with fail
 (refine((uq TH) _ rfl).mono ?_;rintro e w1 ⟨rfl,rfl⟩);cases r
 ·go_wp2_with fail
  (refine((uq TY) _ _ _).mono ?_;rintro e w2 ⟨rfl,rfl⟩);go_wp2_with fail
  exact⟨rfl,rfl,rfl⟩
 ·go_wp2_with fail
  (refine((uq TN) _ _ _).mono ?_;rintro e w2 ⟨rfl,rfl⟩);go_wp2_with fail
  go_end0
  exact⟨rfl,rfl⟩
theorem zaf (b:Nat) (M:List (List UInt8×Int)) (p:Int) (s:List UInt8) (w:World) (hM:Mp w b M) (hl:s.length≤maxLen):
  Calls Try.prog 42 #[.map (some b),.int .i64 p,.string (sv s)] w fun e w'=>e=En (fl (!hs M s) 72 p) (.tuple #[])∧w'=w:=
 zci b p (sv s) (hs M s) w (hide fun w' h=>by subst h;exact zch b M s _ hM hl)
set_option maxHeartbeats 1000000 in
theorem zbS (b:Nat) (M:List (List UInt8×Int)) (p n:Int) (s:List UInt8) (w:World) (hM:Mp w b M) (hl:s.length≤maxLen) (hn:M.length<maxLen) (hw:(Lit.int .i64 n).wf=true) (hh:hs M s=false):
  Calls Try.prog 43 #[.map (some b),.int .i64 p,.string (sv s),.int .i64 n] w fun e w'=>e= .returned (.tuple #[])∧Mp w' b (M++ [(s,n)])∧w.grownBy w' (some b):=by
 have TH:=hide (zch b M s w hM hl);rw[hh]at TH;have TN:=hide zaN;obtain⟨D,hown,h1,h2⟩:=hM;have hkey:=zcX hl;have H1:=hide h1;have H2:=hide h2;have HH:=hide hh;clear h1 h2 hh;generalize sv s=x at TH hkey ⊢;go_enter Try.func43,Try.ntmps43;go_wp2_with fail
 (refine(uq TH).mono ?_;rintro e w1 ⟨rfl,rfl⟩);go_wp2_with fail
 (refine((uq TN) _ _ _).mono ?_;rintro e w2 ⟨rfl,rfl⟩);go_wp2_with (first|(at_mapUpdate;refine wpList_mapUpdate_own _ rfl _ _ _ 59 rfl 9 3 law Try.underlying59 _ b _ D rfl hown hn _ _ _ rfl rfl hkey _ [] (plainElem_int Try.underlying3 hw) ?_;intro w3 hown3 hgrow3)|fail)
 go_end0
 refine⟨rfl,⟨_,by rw[List.length_append];exact hown3,fun t=>?_,fun t=>?_⟩,hgrow3⟩
 ·have hD:IsMap D:=(hown.tidy law).isMap;rw[zeu];by_cases e:t=s
  ·subst e;rw[has_put_same hD (show WideAt.IsKeyLit (.string t)from trivial)];simp
  ·rw[has_put_other (by simpa using e),(uq H1) t];have:(s==t)=false:=by simpa using fun h=>e h.symm
   simp[this]
 ·have hD:IsMap D:=(hown.tidy law).isMap;rw[zf0 n t (uq HH)];by_cases e:t=s
  ·subst e;rw[atKey_put_same hD (show WideAt.IsKeyLit (.string t)from trivial)];simp
  ·rw[atKey_put_other (by simpa using e),(uq H2) t,if_neg (fun h=>e h.symm)]
set_option maxHeartbeats 1000000 in
theorem zbx (b:Nat) (M:List (List UInt8×Int)) (p n:Int) (s:List UInt8) (w:World) (hM:Mp w b M) (hl:s.length≤maxLen) (hh:hs M s=true):
  Calls Try.prog 43 #[.map (some b),.int .i64 p,.string (sv s),.int .i64 n] w fun e w'=>e= .panicked [{ v:=flt 71 p,recovered:=false }]∧w'=w:=by
 have TH:=hide (zch b M s w hM hl);rw[hh]at TH;have TN:=hide zaI;clear hM hh;generalize sv s=x at TH ⊢;go_enter Try.func43,Try.ntmps43;go_wp2_with fail
 (refine(uq TH).mono ?_;rintro e w1 ⟨rfl,rfl⟩);go_wp2_with fail
 (refine((uq TN) _ _ _).mono ?_;rintro e w2 ⟨rfl,rfl⟩);go_wp2_with fail
 exact⟨rfl,rfl,rfl⟩
theorem zdb (a n b:Int) (w:World):Calls Try.prog 41 #[.int .i64 a,.int .i64 n,.int .i64 b] w fun e w'=>e= .returned (.bool (decide (a≤n∧n≤b)))∧w'=w:=by
 by_cases h1:a≤n
 ·by_cases h2:n≤b
  ·rw[decide_eq_true ⟨h1,h2⟩];go_enter Try.func41,Try.ntmps41;go_wp2_with fail
   go_ret;exact⟨rfl,rfl⟩
  ·rw[decide_eq_false (fun h=>h2 h.2)];go_enter Try.func41,Try.ntmps41;go_wp2_with fail
   go_ret;exact⟨rfl,rfl⟩
 ·rw[decide_eq_false (fun h=>h1 h.1)];go_enter Try.func41,Try.ntmps41;go_wp2_with fail
  go_ret;exact⟨rfl,rfl⟩
end V
end Go.Proofs.Ytpdcabfabghbkaa
