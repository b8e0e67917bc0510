/- Package valid: numbers within bounds; the network as a whole, a node's counts. -/
import Derived.Test.YtpmaonkelkmhbaaGreatVMap
import Derived.Test.YtpmaonkelkmhbaaGreatLSkip
import Derived.Deep.DrawnRows
import Derived.Deep.RegionHeld3
namespace Go.Proofs.YtpmaonkelkmhbaaGreat
open Go.RowKit
set_option linter.unusedVariables false
set_option linter.unusedSimpArgs false
set_option maxRecDepth 10000
namespace V
def btw (a n b:Int):Bool:=decide (a≤n∧n≤b)
theorem zaO (a n b:Int) (w:World):Calls Tryz.prog 70 #[.int .i64 a,.int .i64 n,.int .i64 b] w fun e w'=>e= .returned (.bool (btw a n b))∧w'=w:=zed a n b w
def zcY (a b:Int):Bool:=btw 1 a 1000000000&&btw 1 b 1000000000
def fbx (a b:Int):Obj:= .cells #[.int .i64 a,.int .i64 b] 23
set_option maxHeartbeats 1000000 in
theorem zgz (a b:Int) (w:World):Calls Tryz.prog 69 #[.agg #[.int .i64 a,.int .i64 b]] w fun e w'=>e= .returned (.bool (zcY a b))∧w'=w.alloc (fbx a b):=by
 have B1:=hide (zaO 1 a 1000000000);have B2:=hide (zaO 1 b 1000000000);unfold zcY fbx
 generalize btw 1 a 1000000000=b1 at B1 ⊢;generalize btw 1 b 1000000000=b2 at B2 ⊢;go_enter Tryz.func69,Tryz.ntmps69;go_wp2_with fail
 (refine((uq B1) _).mono ?_;rintro e w1 ⟨rfl,rfl⟩);cases b1
 ·go_wp2_with fail
  go_ret;exact⟨rfl,rfl⟩
 ·go_wp2_with fail
  (refine((uq B2) _).mono ?_;rintro e w2 ⟨rfl,rfl⟩);cases b2
  ·go_wp2_with fail
   go_ret;exact⟨rfl,rfl⟩
  ·go_wp2_with fail
   go_ret;exact⟨rfl,rfl⟩
def zbs (v1 v2 v3 v4 v5 v6 v7 v8 v9:Int):Bool:=btw 0 v1 1000000000&&(btw 1 v2 1000000000&&(zcY v3 v4&&(btw 1 v5 10000&&(btw (-200) v6 200&&(btw 0 v7 100000&&(btw 0 v8 100000&&(btw 1 v9 6000)))))))
set_option maxHeartbeats 4000000 in
theorem zgA (s:ByteArray) (v1 v2 v3 v4 v5 v6 v7 v8 v9 v10:Int) (w:World):Calls Tryz.prog 104 #[.agg #[.string s,.int .i64 v1,.int .i64 v2,.int .i64 v3,.int .i64 v4,.int .i64 v5,.int .i64 v6,.int .i64 v7,.int .i64 v8,.int .i64 v9,.int .i64 v10]] w fun e w'=>e= .returned (.bool (zbs v1 v2 v3 v4 v5 v6 v7 v8 v9))∧Keep w w':=by
 have B0:=hide (zaO 0 v1 1000000000);have B1:=hide (zaO 1 v2 1000000000);have B2:=hide (zgz v3 v4);have B3:=hide (zaO 1 v5 10000);have B4:=hide (zaO (-200) v6 200);have B5:=hide (zaO 0 v7 100000);have B6:=hide (zaO 0 v8 100000);have B7:=hide (zaO 1 v9 6000);unfold zbs
 generalize btw 0 v1 1000000000=b0 at B0 ⊢;generalize btw 1 v2 1000000000=b1 at B1 ⊢;generalize zcY v3 v4=b2 at B2 ⊢;generalize btw 1 v5 10000=b3 at B3 ⊢;generalize btw (-200) v6 200=b4 at B4 ⊢;generalize btw 0 v7 100000=b5 at B5 ⊢;generalize btw 0 v8 100000=b6 at B6 ⊢;generalize btw 1 v9 6000=b7 at B7 ⊢;go_enter Tryz.func104,Tryz.ntmps104;go_wp2_with fail
 (refine((uq B0) _).mono ?_;rintro e w1 ⟨rfl,rfl⟩);cases b0
 ·go_wp2_with fail
  go_ret;exact⟨by simp,by repeat(first|exact Keep.refl _|apply Keep.alloc)⟩
 go_wp2_with fail
 (refine((uq B1) _).mono ?_;rintro e w2 ⟨rfl,rfl⟩);cases b1
 ·go_wp2_with fail
  go_ret;exact⟨by simp,by repeat(first|exact Keep.refl _|apply Keep.alloc)⟩
 go_wp2_with fail
 (refine((uq B2) _).mono ?_;rintro e w3 ⟨rfl,rfl⟩;unfold fbx);cases b2
 ·go_wp2_with fail
  go_ret;exact⟨by simp,by repeat(first|exact Keep.refl _|apply Keep.alloc)⟩
 go_wp2_with fail
 (refine((uq B3) _).mono ?_;rintro e w4 ⟨rfl,rfl⟩);cases b3
 ·go_wp2_with fail
  go_ret;exact⟨by simp,by repeat(first|exact Keep.refl _|apply Keep.alloc)⟩
 go_wp2_with fail
 (refine((uq B4) _).mono ?_;rintro e w5 ⟨rfl,rfl⟩);cases b4
 ·go_wp2_with fail
  go_ret;exact⟨by simp,by repeat(first|exact Keep.refl _|apply Keep.alloc)⟩
 go_wp2_with fail
 (refine((uq B5) _).mono ?_;rintro e w6 ⟨rfl,rfl⟩);cases b5
 ·go_wp2_with fail
  go_ret;exact⟨by simp,by repeat(first|exact Keep.refl _|apply Keep.alloc)⟩
 go_wp2_with fail
 (refine((uq B6) _).mono ?_;rintro e w7 ⟨rfl,rfl⟩);cases b6
 ·go_wp2_with fail
  go_ret;exact⟨by simp,by repeat(first|exact Keep.refl _|apply Keep.alloc)⟩
 go_wp2_with fail
 (refine((uq B7) _).mono ?_;rintro e w8 ⟨rfl,rfl⟩);cases b7
 ·go_wp2_with fail
  go_ret;exact⟨by simp,by repeat(first|exact Keep.refl _|apply Keep.alloc)⟩
 go_wp2_with fail
 go_ret;exact⟨rfl,by repeat(first|exact Keep.refl _|apply Keep.alloc)⟩
theorem zhY (c:Int) (b:Bool) (w:World):Calls Tryz.prog 68 #[.int .i64 c,.bool b] w fun e w'=>((b=true∧e= .panicked [{ v:=ern c,recovered:=false }])∨(b=false∧e= .returned (.tuple #[])))∧w'=w:=by
 cases b
 ·refine(zgy c w).mono ?_;rintro e w' ⟨rfl,rfl⟩;exact⟨.inr ⟨rfl,rfl⟩,rfl⟩
 ·refine(zfs c w).mono ?_;rintro e w' ⟨rfl,rfl⟩;exact⟨.inl ⟨rfl,rfl⟩,rfl⟩
theorem zbD (p c:Int) (b:Bool) (w:World):Calls Tryz.prog 73 #[.int .i64 p,.int .i64 c,.bool b] w fun e w'=>((b=true∧e= .panicked [{ v:=flt c p,recovered:=false }])∨(b=false∧e= .returned (.tuple #[])))∧w'=w:=by
 cases b
 ·refine(zaQ p c w).mono ?_;rintro e w' ⟨rfl,rfl⟩;exact⟨.inr ⟨rfl,rfl⟩,rfl⟩
 ·refine(zaJ p c w).mono ?_;rintro e w' ⟨rfl,rfl⟩;exact⟨.inl ⟨rfl,rfl⟩,rfl⟩
def fst:List (Bool×Int)→Option Int
 | []=>none
 |(b,c) :: r=>if b then some c else fst r
theorem zaz {b:Bool} {c:Int} {r:List (Bool×Int)} {o:Option Int} (h:fst ((b,c) :: r)=o) (hb:b=true):o=some c:=by rw[← h,fst,if_pos hb]
theorem zbI {b:Bool} {c:Int} {r:List (Bool×Int)} {o:Option Int} (h:fst ((b,c) :: r)=o) (hb:b=false):fst r=o:=by rw[fst,if_neg (by rw[hb];decide)]at h;exact h
def whE (a0 a1 a2 a3 a4:Int) (nN nS:Nat) (a5 a6:Int):Option Int:=
 fst [(decide ((12:Int)<(nN:Int)) || decide ((12:Int)<(nS:Int)),4),(decide (a0<1) || decide (a1<a0) || decide (6000<a1) || decide (a2<1),70),(!zcY a3 a4,70),(!btw 0 a5 1000000000 || !btw 0 a6 1000000000,70),((nN:Int)==0,73)]
set_option maxHeartbeats 4000000 in
theorem zft (a0 a1 a2 a3 a4:Int) (aN:Option Addr) (nN cN:Nat) (aS:Option Addr) (nS cS:Nat) (a5 a6:Int) (w:World) (r:Option Int) (HR:Hid (whE a0 a1 a2 a3 a4 nN nS a5 a6=r)):
  Calls Tryz.prog 52 #[.agg #[.int .i64 a0,.int .i64 a1,.int .i64 a2,.int .i64 a3,.int .i64 a4,.slice aN nN cN,.slice aS nS cS,.int .i64 a5,.int .i64 a6]] w fun e w'=>e=En (r.map ern) (.tuple #[])∧Keep w w':=by
 have RX:=hide zhY;have B1:=hide (zgz a3 a4);have B2:=hide (zaO 0 a5 1000000000);have B3:=hide (zaO 0 a6 1000000000);unfold whE at HR
 generalize zcY a3 a4=f1 at B1 HR;generalize btw 0 a5 1000000000=f2 at B2 HR;generalize btw 0 a6 1000000000=f3 at B3 HR;go_enter Tryz.func52,Tryz.ntmps52;by_cases g0:(12:Int)<(nN:Int)
 ·have HS:=hide (zaz (uq HR) (by simp[g0]));clear HR;go_wp2_with fail
  (refine((uq RX) _ _ _).mono ?_;rintro e w1 ⟨⟨hb,rfl⟩|⟨hb,rfl⟩,rfl⟩)
  ·have hr:=uq HS;subst hr;clear hb HS;go_wp2_with fail
   exact⟨rfl,rfl,by repeat(first|exact Keep.refl _|apply Keep.alloc)⟩
  ·cases hb
 go_wp2_with fail
 (refine((uq RX) _ _ _).mono ?_;rintro e w1 ⟨⟨hb,rfl⟩|⟨hb,rfl⟩,rfl⟩)
 ·have hr:=zaz (uq HR) (by simp at hb ⊢;omega);subst hr;clear HR hb;go_wp2_with fail
  exact⟨rfl,rfl,by repeat(first|exact Keep.refl _|apply Keep.alloc)⟩
 replace HR:=hide (zbI (uq HR) (by simp at hb ⊢;omega));clear hb g0;by_cases g0:a0<1
 ·have HS:=hide (zaz (uq HR) (by simp[g0]));clear HR;go_wp2_with fail
  (refine((uq RX) _ _ _).mono ?_;rintro e w2 ⟨⟨hb,rfl⟩|⟨hb,rfl⟩,rfl⟩)
  ·have hr:=uq HS;subst hr;clear hb HS;go_wp2_with fail
   exact⟨rfl,rfl,by repeat(first|exact Keep.refl _|apply Keep.alloc)⟩
  ·cases hb
 by_cases g1:a1<a0
 ·have HS:=hide (zaz (uq HR) (by simp[g1]));clear HR;go_wp2_with fail
  (refine((uq RX) _ _ _).mono ?_;rintro e w2 ⟨⟨hb,rfl⟩|⟨hb,rfl⟩,rfl⟩)
  ·have hr:=uq HS;subst hr;clear hb HS;go_wp2_with fail
   exact⟨rfl,rfl,by repeat(first|exact Keep.refl _|apply Keep.alloc)⟩
  ·cases hb
 by_cases g2:6000<a1
 ·have HS:=hide (zaz (uq HR) (by simp[g2]));clear HR;go_wp2_with fail
  (refine((uq RX) _ _ _).mono ?_;rintro e w2 ⟨⟨hb,rfl⟩|⟨hb,rfl⟩,rfl⟩)
  ·have hr:=uq HS;subst hr;clear hb HS;go_wp2_with fail
   exact⟨rfl,rfl,by repeat(first|exact Keep.refl _|apply Keep.alloc)⟩
  ·cases hb
 go_wp2_with fail
 (refine((uq RX) _ _ _).mono ?_;rintro e w2 ⟨⟨hb,rfl⟩|⟨hb,rfl⟩,rfl⟩)
 ·have hr:=zaz (uq HR) (by simp at hb ⊢;omega);subst hr;clear HR hb;go_wp2_with fail
  exact⟨rfl,rfl,by repeat(first|exact Keep.refl _|apply Keep.alloc)⟩
 replace HR:=hide (zbI (uq HR) (by simp at hb ⊢;omega));clear hb g0 g1 g2;go_wp2_with fail
 (refine((uq B1) _).mono ?_;rintro e w3 ⟨rfl,rfl⟩;unfold fbx);go_wp2_with fail
 (refine((uq RX) _ _ _).mono ?_;rintro e w4 ⟨⟨hb,rfl⟩|⟨hb,rfl⟩,rfl⟩)
 ·have hr:=zaz (uq HR) hb;subst hr;clear HR hb;go_wp2_with fail
  exact⟨rfl,rfl,by repeat(first|exact Keep.refl _|apply Keep.alloc)⟩
 replace HR:=hide (zbI (uq HR) hb);clear hb;go_wp2_with fail
 (refine((uq B2) _).mono ?_;rintro e w5 ⟨rfl,rfl⟩);cases f2
 ·go_wp2_with fail
  (refine((uq RX) _ _ _).mono ?_;rintro e w6 ⟨⟨hb,rfl⟩|⟨hb,rfl⟩,rfl⟩)
  ·have hr:=zaz (uq HR) (by simp);subst hr;clear HR hb;go_wp2_with fail
   exact⟨rfl,rfl,by repeat(first|exact Keep.refl _|apply Keep.alloc)⟩
  ·cases hb
 go_wp2_with fail
 (refine((uq B3) _).mono ?_;rintro e w6 ⟨rfl,rfl⟩);go_wp2_with fail
 (refine((uq RX) _ _ _).mono ?_;rintro e w7 ⟨⟨hb,rfl⟩|⟨hb,rfl⟩,rfl⟩)
 ·have hr:=zaz (uq HR) (by simpa using hb);subst hr;clear HR hb;go_wp2_with fail
  exact⟨rfl,rfl,by repeat(first|exact Keep.refl _|apply Keep.alloc)⟩
 replace HR:=hide (zbI (uq HR) (by simpa using hb));clear hb;go_wp2_with fail
 (refine((uq RX) _ _ _).mono ?_;rintro e w8 ⟨⟨hb,rfl⟩|⟨hb,rfl⟩,rfl⟩)
 ·have hr:=zaz (uq HR) hb;subst hr;clear HR hb;go_wp2_with fail
  exact⟨rfl,rfl,by repeat(first|exact Keep.refl _|apply Keep.alloc)⟩
 replace HR:=hide (zbI (uq HR) hb);clear hb;go_wp2_with fail
 have hr:r=none:=(uq HR).symm;subst hr
 go_end0
 exact⟨rfl,by repeat(first|exact Keep.refl _|apply Keep.alloc)⟩
def cnE (n1 n2 n3 n4 n5:Nat):Option Int:=
 fst [(decide ((16:Int)<(n1:Int)) || decide ((16:Int)<(n3:Int)),4),(decide ((8:Int)<(n2:Int)) || decide ((4:Int)<(n4:Int)) || decide ((64:Int)<(n5:Int)),4),((n1:Int)==0 || (n3:Int)==0 || (n4:Int)==0,73)]
set_option maxHeartbeats 4000000 in
theorem zee (s:ByteArray) (x1:Option Addr) (n1 c1:Nat) (x2:Option Addr) (n2 c2:Nat) (x3:Option Addr) (n3 c3:Nat) (x4:Option Addr) (n4 c4:Nat) (x5:Option Addr) (n5 c5:Nat) (p:Int) (w:World) (r:Option Int) (HR:Hid (cnE n1 n2 n3 n4 n5=r)):
  Calls Tryz.prog 92 #[.agg #[.string s,.slice x1 n1 c1,.slice x2 n2 c2,.slice x3 n3 c3,.slice x4 n4 c4,.slice x5 n5 c5,.int .i64 p]] w fun e w'=>e=En (r.map (fun c=>flt c p)) (.tuple #[])∧Keep w w':=by
 have RX:=hide zbD;unfold cnE at HR
 go_enter Tryz.func92,Tryz.ntmps92;by_cases g0:(16:Int)<(n1:Int)
 ·have HS:=hide (zaz (uq HR) (by simp[g0]));clear HR;go_wp2_with fail
  (refine((uq RX) _ _ _ _).mono ?_;rintro e w1 ⟨⟨hb,rfl⟩|⟨hb,rfl⟩,rfl⟩)
  ·have hr:=uq HS;subst hr;clear hb HS;go_wp2_with fail
   exact⟨rfl,rfl,by repeat(first|exact Keep.refl _|apply Keep.alloc)⟩
  ·cases hb
 go_wp2_with fail
 (refine((uq RX) _ _ _ _).mono ?_;rintro e w1 ⟨⟨hb,rfl⟩|⟨hb,rfl⟩,rfl⟩)
 ·have hr:=zaz (uq HR) (by simp at hb ⊢;omega);subst hr;clear HR hb;go_wp2_with fail
  exact⟨rfl,rfl,by repeat(first|exact Keep.refl _|apply Keep.alloc)⟩
 replace HR:=hide (zbI (uq HR) (by simp at hb ⊢;omega));clear hb g0;by_cases g0:(8:Int)<(n2:Int)
 ·have HS:=hide (zaz (uq HR) (by simp[g0]));clear HR;go_wp2_with fail
  (refine((uq RX) _ _ _ _).mono ?_;rintro e w2 ⟨⟨hb,rfl⟩|⟨hb,rfl⟩,rfl⟩)
  ·have hr:=uq HS;subst hr;clear hb HS;go_wp2_with fail
   exact⟨rfl,rfl,by repeat(first|exact Keep.refl _|apply Keep.alloc)⟩
  ·cases hb
 by_cases g1:(4:Int)<(n4:Int)
 ·have HS:=hide (zaz (uq HR) (by simp[g1]));clear HR;go_wp2_with fail
  (refine((uq RX) _ _ _ _).mono ?_;rintro e w2 ⟨⟨hb,rfl⟩|⟨hb,rfl⟩,rfl⟩)
  ·have hr:=uq HS;subst hr;clear hb HS;go_wp2_with fail
   exact⟨rfl,rfl,by repeat(first|exact Keep.refl _|apply Keep.alloc)⟩
  ·cases hb
 go_wp2_with fail
 (refine((uq RX) _ _ _ _).mono ?_;rintro e w2 ⟨⟨hb,rfl⟩|⟨hb,rfl⟩,rfl⟩)
 ·have hr:=zaz (uq HR) (by simp at hb ⊢;omega);subst hr;clear HR hb;go_wp2_with fail
  exact⟨rfl,rfl,by repeat(first|exact Keep.refl _|apply Keep.alloc)⟩
 replace HR:=hide (zbI (uq HR) (by simp at hb ⊢;omega));clear hb g0 g1;by_cases g0:((n1:Int)==0)=true
 ·have HS:=hide (zaz (uq HR) (by simp[g0]));clear HR;go_wp2_with fail
  (refine((uq RX) _ _ _ _).mono ?_;rintro e w3 ⟨⟨hb,rfl⟩|⟨hb,rfl⟩,rfl⟩)
  ·have hr:=uq HS;subst hr;clear hb HS;go_wp2_with fail
   exact⟨rfl,rfl,by repeat(first|exact Keep.refl _|apply Keep.alloc)⟩
  ·cases hb
 have h0:(((n1:Int)==0))=false:=by simpa using g0
 by_cases g1:((n3:Int)==0)=true
 ·have HS:=hide (zaz (uq HR) (by simp[g1]));clear HR;go_wp2_with fail
  (refine((uq RX) _ _ _ _).mono ?_;rintro e w3 ⟨⟨hb,rfl⟩|⟨hb,rfl⟩,rfl⟩)
  ·have hr:=uq HS;subst hr;clear hb HS;go_wp2_with fail
   exact⟨rfl,rfl,by repeat(first|exact Keep.refl _|apply Keep.alloc)⟩
  ·cases hb
 have h1:(((n3:Int)==0))=false:=by simpa using g1
 go_wp2_with fail
 (refine((uq RX) _ _ _ _).mono ?_;rintro e w3 ⟨⟨hb,rfl⟩|⟨hb,rfl⟩,rfl⟩)
 ·have hr:=zaz (uq HR) (by simp[h0,h1,hb]);subst hr;clear HR hb;go_wp2_with fail
  exact⟨rfl,rfl,by repeat(first|exact Keep.refl _|apply Keep.alloc)⟩
 replace HR:=hide (zbI (uq HR) (by simp[h0,h1,hb]));clear hb g0 g1 h0 h1;go_wp2_with fail
 have hr:r=none:=(uq HR).symm;subst hr
 go_end0
 exact⟨rfl,by repeat(first|exact Keep.refl _|apply Keep.alloc)⟩
end V
end Go.Proofs.YtpmaonkelkmhbaaGreat
namespace Go.Proofs.YtpmaonkelkmhbaaGreat
open Go.RowKit
set_option linter.unusedVariables false
set_option linter.unusedSimpArgs false
namespace V
abbrev Eq2:=Option (Int×Int)
def fE (f:Nat→Eq2):Nat→Nat→Eq2
 | _,0=>none
 |k,m+1=>match f k with|some e=>some e|none=>fE f (k+1) m
theorem zm6 {f:Nat→Eq2} {k n:Nat} (h:k<n):fE f k (n - k)=match f k with|some e=>some e|none=>fE f (k+1) (n - (k+1)):=by
 rw[show n - k=(n - (k+1))+1 by omega]
 rfl
theorem zab {f:Nat→Eq2} {k n:Nat} {r:Eq2} {e:Int×Int} (h:fE f k (n - k)=r) (hk:k<n) (he:f k=some e):r=some e:=by
 rw[zm6 hk,he]at h;exact h.symm
theorem zaY {f:Nat→Eq2} {k n:Nat} {r:Eq2} (h:fE f k (n - k)=r) (hk:k<n) (he:f k=none):fE f (k+1) (n - (k+1))=r:=by
 rw[zm6 hk,he]at h;exact h
theorem zaF {f:Nat→Eq2} {k n:Nat} {r:Eq2} (h:fE f k (n - k)=r) (hk:n≤k):r=none:=by
 rw[show n - k=0 by omega]at h;exact h.symm
def mk (T:Nat→List UInt8) (k:Nat):List (List UInt8×Int):=(List.range k).map (fun j=>(T j,(j:Int)))
theorem zbO (T:Nat→List UInt8) (k:Nat):mk T (k+1)=mk T k++ [(T k,(k:Int))]:=by simp[mk,List.range_succ]
theorem zbZ (T:Nat→List UInt8) (k:Nat):(mk T k).length=k:=by simp[mk]
def Hq (r:Eq2) (M:List (List UInt8×Int)) (w:World) (e:Ending) (w':World):Prop:=Keep w w'∧match r with
 |none=>∃ b,e= .returned (.map (some b))∧w.heap.size≤b∧Mp w' b M
 |some x=>e= .panicked [{ v:=flt x.1 x.2,recovered:=false }]
def Nq (r:Eq2) (w:World) (e:Ending) (w':World):Prop:=Keep w w'∧match r with
 |none=>e= .returned (.tuple #[])
 |some x=>e= .panicked [{ v:=flt x.1 x.2,recovered:=false }]
theorem zav {w W W':World} {b:Nat} (h:Keep w W) (hg:W.grownBy W' (some b)) (hb:w.heap.size≤b):Keep w W':=Below.grown h hg h.size (fun k hk=>by cases hk;exact hb)
theorem zcQ {k:Nat} (h:k≤9223372036854775807):(Lit.int .i64 (k:Int)).wf=true:=WalkArith.wf_i64 (by omega)
def Gd (MH M:List (List UInt8×Int)):Prop:=(∀ s,hs M s=true→hs MH s=true)∧(M.map Prod.fst).Nodup
theorem zbb {M:List (List UInt8×Int)} {s:List UInt8} :hs M s=true↔s∈M.map Prod.fst:=by
 unfold hs
 rw[List.any_eq_true];constructor
 ·rintro⟨p,hp,h⟩;have:p.1=s:=by simpa using h
  exact List.mem_map.2 ⟨p,hp,this⟩
 ·intro h
  obtain⟨p,hp,rfl⟩:=List.mem_map.1 h;exact⟨p,hp,by simp⟩
theorem zgB {α:Type} [DecidableEq α]:∀(a b:List α),a.Nodup→(∀ x∈a,x∈b)→a.length≤b.length
 | [],b,_,_=>Nat.zero_le _
 |x :: a,b,hn,hs=>by
  have hx:x∈b:=hs x (by simp);have h1:=zgB a (b.erase x) (List.nodup_cons.1 hn).2 (fun y hy=>by
   have hne:y≠x:=fun e=>(List.nodup_cons.1 hn).1 (e▸hy)
   exact(List.mem_erase_of_ne hne).2 (hs y (by simp[hy])))
  have h2:=List.length_erase_of_mem hx;have h3:0<b.length:=List.length_pos_of_mem hx;simp only[List.length_cons];omega
theorem Gd.len {MH M:List (List UInt8×Int)} (h:Gd MH M):M.length≤MH.length:=by
 have:=zgB (M.map Prod.fst) (MH.map Prod.fst) h.2 (fun x hx=>zbb.1 (h.1 x (zbb.2 hx)));simpa using this
theorem Gd.nil (MH:List (List UInt8×Int)):Gd MH []:=⟨fun s h=>by simp[hs]at h,by simp⟩
theorem Gd.add {MH M:List (List UInt8×Int)} {s:List UInt8} (n:Int) (h:Gd MH M) (h1:hs MH s=true) (h2:hs M s=false):Gd MH (M++ [(s,n)]):=by
 refine⟨fun t ht=>?_,?_⟩
 ·rw[zgx]at ht;rcases Bool.or_eq_true_iff.1 ht with h'|h'
  ·exact h.1 t h'
  ·have:s=t:=by simpa using h'
   exact this▸h1
 ·rw[List.map_append,List.map_cons,List.map_nil];refine List.nodup_append.2 ⟨h.2,by simp,fun a ha b hb=>?_⟩;have:b=s:=by simpa using hb
  subst this;rintro rfl;rw[zbb.2 ha]at h2;cases h2
def hdF (T:Nat→List UInt8) (R:Nat→Bool) (P:Nat→Int) (k:Nat):Eq2:=if hs (mk T k) (T k)then some (71,P k)else if R k then none else some (70,P k)
end V
end Go.Proofs.YtpmaonkelkmhbaaGreat
namespace Go.Proofs.YtpmaonkelkmhbaaGreat
open Go.RowKit
attribute [local go_sem ↓] Go.wp_at_zero Go.wp_at_succ
set_option linter.unusedVariables false
set_option linter.unusedSimpArgs false
set_option maxRecDepth 10000
namespace V
theorem add_block9 (ad:Addr) (n:Nat):(ad.add n).block=ad.block:=by unfold Addr.add;split<;>rfl
theorem far_cell {w W:World} {a:Addr} {v:Value} (h:Keep w W) (hb:a.block<w.heap.size) (hc:w.cell? a=some v):W.cell? a=some v:=by rw[Below.cell h hb];exact hc
set_option maxHeartbeats 4000000 in
theorem zfu (a:Option Addr) (n cap:Nat) (T:Nat→List UInt8) (V1 V2 V3 V4 V5 V6 V7 V8 V9 P:Nat→Int) (r:Eq2) (w:World) (hn:n≤9223372036854775807)
  (HT:Hid (∀ k,k<n→(T k).length≤maxLen))
  (HC:Hid (∀ k,k<n→∃ ad,a=some ad∧ad.block<w.heap.size∧w.cell? (ad.add (k * 11))=some (.string (sv (T k)))∧w.cell? ⟨(ad.add (k * 11)).block,(ad.add (k * 11)).off+1,none⟩=some (.int .i64 (V1 k))∧w.cell? ⟨(ad.add (k * 11)).block,(ad.add (k * 11)).off+2,none⟩=some (.int .i64 (V2 k))∧w.cell? ⟨(ad.add (k * 11)).block,(ad.add (k * 11)).off+3,none⟩=some (.int .i64 (V3 k))∧w.cell? ⟨(ad.add (k * 11)).block,(ad.add (k * 11)).off+4,none⟩=some (.int .i64 (V4 k))∧w.cell? ⟨(ad.add (k * 11)).block,(ad.add (k * 11)).off+5,none⟩=some (.int .i64 (V5 k))∧w.cell? ⟨(ad.add (k * 11)).block,(ad.add (k * 11)).off+6,none⟩=some (.int .i64 (V6 k))∧w.cell? ⟨(ad.add (k * 11)).block,(ad.add (k * 11)).off+7,none⟩=some (.int .i64 (V7 k))∧w.cell? ⟨(ad.add (k * 11)).block,(ad.add (k * 11)).off+8,none⟩=some (.int .i64 (V8 k))∧w.cell? ⟨(ad.add (k * 11)).block,(ad.add (k * 11)).off+9,none⟩=some (.int .i64 (V9 k))∧w.cell? ⟨(ad.add (k * 11)).block,(ad.add (k * 11)).off+10,none⟩=some (.int .i64 (P k))))
  (HI:Hid (fE (hdF T (fun k=>zbs (V1 k) (V2 k) (V3 k) (V4 k) (V5 k) (V6 k) (V7 k) (V8 k) (V9 k)) P) 0 n=r)):
  Calls Tryz.prog 93 #[.slice a n cap] w (Hq r (mk T n) w):=by
 have RX:=hide zaJ;have RN:=hide zaQ;have hmm:=@run_makeMap Tryz.prog;go_enter Tryz.func93,Tryz.ntmps93;go_wp2_with fail
 obtain⟨b,HB⟩:∃ b,Hid (b=w.heap.size):=⟨_,hide rfl⟩;have M0:Hid (Mp (w.alloc (.map #[] 0)) b (mk T 0)):=hide (by rw[uq HB];exact zbM w);have K0:Hid (Keep w (w.alloc (.map #[] 0))):=hide ((Keep.refl w).alloc _);rw[← uq HB];generalize w.alloc (.map #[] 0)=w0 at M0 K0 ⊢
 go_loopw [9] (fun iv wr=>∃ k:Nat,iv= .int .i64 (k:Int)∧k≤n∧Hid (Mp wr b (mk T k))∧Hid (Keep w wr)∧Hid (fE (hdF T (fun k=>zbs (V1 k) (V2 k) (V3 k) (V4 k) (V5 k) (V6 k) (V7 k) (V8 k) (V9 k)) P) k (n - k)=r)) (fun iv _=>n - (intOf iv).toNat)
 case atStart=>exact⟨0,rfl,by omega,M0,K0,HI⟩
 case round=>
  obtain⟨k,rfl,hk,MK,KW,HF⟩:=hrel;by_cases hlt:k<n
  ·have li:(k:Int)<(n:Int):=by omega
   obtain⟨ad,rfl,hb,e0,e1,e2,e3,e4,e5,e6,e7,e8,e9,e10⟩:=(uq HC) k hlt;have tl:=hide ((uq HT) k hlt);have x0:=far_cell (uq KW) (by rw[add_block9];exact hb) e0;have x1:=far_cell (uq KW) (by show(ad.add (k * 11)).block<_;rw[add_block9];exact hb) e1;have x2:=far_cell (uq KW) (by show(ad.add (k * 11)).block<_;rw[add_block9];exact hb) e2;have x3:=far_cell (uq KW) (by show(ad.add (k * 11)).block<_;rw[add_block9];exact hb) e3;have x4:=far_cell (uq KW) (by show(ad.add (k * 11)).block<_;rw[add_block9];exact hb) e4;have x5:=far_cell (uq KW) (by show(ad.add (k * 11)).block<_;rw[add_block9];exact hb) e5;have x6:=far_cell (uq KW) (by show(ad.add (k * 11)).block<_;rw[add_block9];exact hb) e6;have x7:=far_cell (uq KW) (by show(ad.add (k * 11)).block<_;rw[add_block9];exact hb) e7;have x8:=far_cell (uq KW) (by show(ad.add (k * 11)).block<_;rw[add_block9];exact hb) e8;have x9:=far_cell (uq KW) (by show(ad.add (k * 11)).block<_;rw[add_block9];exact hb) e9;have x10:=far_cell (uq KW) (by show(ad.add (k * 11)).block<_;rw[add_block9];exact hb) e10;clear e0 e1 e2 e3 e4 e5 e6 e7 e8 e9 e10;have hbx:=heap_alloc_new wr (.cells #[.string (sv (T k)),.int .i64 (V1 k),.int .i64 (V2 k),.int .i64 (V3 k),.int .i64 (V4 k),.int .i64 (V5 k),.int .i64 (V6 k),.int .i64 (V7 k),.int .i64 (V8 k),.int .i64 (V9 k),.int .i64 (P k)] 84);have HKB:=hide ((uq KW).alloc (.cells #[.string (sv (T k)),.int .i64 (V1 k),.int .i64 (V2 k),.int .i64 (V3 k),.int .i64 (V4 k),.int .i64 (V5 k),.int .i64 (V6 k),.int .i64 (V7 k),.int .i64 (V8 k),.int .i64 (V9 k),.int .i64 (P k)] 84));have HMB:=hide ((uq MK).keep ((Keep.refl wr).alloc (.cells #[.string (sv (T k)),.int .i64 (V1 k),.int .i64 (V2 k),.int .i64 (V3 k),.int .i64 (V4 k),.int .i64 (V5 k),.int .i64 (V6 k),.int .i64 (V7 k),.int .i64 (V8 k),.int .i64 (V9 k),.int .i64 (P k)] 84)))
   go_upto_region 5 with fail
   generalize hwa:wr.alloc (.cells #[.string (sv (T k)),.int .i64 (V1 k),.int .i64 (V2 k),.int .i64 (V3 k),.int .i64 (V4 k),.int .i64 (V5 k),.int .i64 (V6 k),.int .i64 (V7 k),.int .i64 (V8 k),.int .i64 (V9 k),.int .i64 (P k)] 84)=wa at hbx HKB HMB ⊢;obtain⟨q,HQ⟩:∃ q,Hid (wr.heap.size=q):=⟨_,hide rfl⟩;rw[uq HQ]at hbx ⊢;have HX:Hid (∀ w':World,w'.heap[q]? =wa.heap[q]? →w'.cell? ⟨q,0,none⟩=some (.string (sv (T k)))∧w'.cell? ⟨q,1,none⟩=some (.int .i64 (V1 k))∧w'.cell? ⟨q,2,none⟩=some (.int .i64 (V2 k))∧w'.cell? ⟨q,3,none⟩=some (.int .i64 (V3 k))∧w'.cell? ⟨q,4,none⟩=some (.int .i64 (V4 k))∧w'.cell? ⟨q,5,none⟩=some (.int .i64 (V5 k))∧w'.cell? ⟨q,6,none⟩=some (.int .i64 (V6 k))∧w'.cell? ⟨q,7,none⟩=some (.int .i64 (V7 k))∧w'.cell? ⟨q,8,none⟩=some (.int .i64 (V8 k))∧w'.cell? ⟨q,9,none⟩=some (.int .i64 (V9 k))∧w'.cell? ⟨q,10,none⟩=some (.int .i64 (P k))):=hide (fun w' h9=>by rw[hbx]at h9;refine⟨?_,?_,?_,?_,?_,?_,?_,?_,?_,?_,?_⟩<;>simp[World.cell?,h9]);have hql:q<wa.heap.size:=(Array.getElem?_eq_some_iff.1 hbx).1;have HQL:=hide hql;have hqb:q≠b:=by have:=(uq MK).lt;have:=uq HQ;omega
   have HQB:=hide hqb;clear hbx hwa hqb hql x0 x1 x2 x3 x4 x5 x6 x7 x8 x9 x10;obtain⟨f0,f1,f2,f3,f4,f5,f6,f7,f8,f9,f10⟩:=(uq HX) wa rfl;by_cases hh:hs (mk T k) (T k)=true
   ·have hr:=zab (uq HF) hlt (show hdF T _ P k=some (71,P k) by unfold hdF;rw[if_pos hh]);subst hr;clear HF;go_wp2_with fail
    (refine(zbN b (mk T k) (P k) _ (T k) _ (uq HMB) (uq tl) hh).mono ?_;rintro e w2 ⟨rfl,rfl⟩);go_wp2_with fail
    exact⟨rfl,uq HKB,rfl⟩
   ·have hh0:hs (mk T k) (T k)=false:=by simpa using hh
    have HH0:=hide hh0;clear hh hh0;go_wp2_with fail
    (refine(zcj b (mk T k) (P k) _ (T k) _ (uq HMB) (uq tl) (by rw[zbZ];unfold maxLen;omega) (zcQ (by omega)) (uq HH0)).mono ?_;rintro e w2 ⟨rfl,hM2,hG2⟩);have HM2:Hid (Mp w2 b (mk T (k+1))):=hide (by rw[zbO];exact hM2);have HK2:=hide (zav (uq HKB) hG2 (by have:=uq HB;omega));have HX2:Hid (∀ w':World,Keep w2 w'→w'.cell? ⟨q,0,none⟩=some (.string (sv (T k)))∧w'.cell? ⟨q,1,none⟩=some (.int .i64 (V1 k))∧w'.cell? ⟨q,2,none⟩=some (.int .i64 (V2 k))∧w'.cell? ⟨q,3,none⟩=some (.int .i64 (V3 k))∧w'.cell? ⟨q,4,none⟩=some (.int .i64 (V4 k))∧w'.cell? ⟨q,5,none⟩=some (.int .i64 (V5 k))∧w'.cell? ⟨q,6,none⟩=some (.int .i64 (V6 k))∧w'.cell? ⟨q,7,none⟩=some (.int .i64 (V7 k))∧w'.cell? ⟨q,8,none⟩=some (.int .i64 (V8 k))∧w'.cell? ⟨q,9,none⟩=some (.int .i64 (V9 k))∧w'.cell? ⟨q,10,none⟩=some (.int .i64 (P k))):=hide (fun w' k9=>(uq HX) w' ((k9.block q (Nat.lt_of_lt_of_le (uq HQL) hG2.size)).trans (hG2.block q (uq HQL) (by simpa using uq HQB))));clear hM2 hG2 f0 f1 f2 f3 f4 f5 f6 f7 f8 f9 f10;by_cases hR:(zbs (V1 k) (V2 k) (V3 k) (V4 k) (V5 k) (V6 k) (V7 k) (V8 k) (V9 k))=true
    ·have hf:=zaY (uq HF) hlt (show hdF T _ P k=none by unfold hdF;rw[if_neg (by rw[uq HH0];decide),if_pos hR]);have HF2:=hide hf;have TR:=hide (zgA (sv (T k)) (V1 k) (V2 k) (V3 k) (V4 k) (V5 k) (V6 k) (V7 k) (V8 k) (V9 k) (P k));rw[hR]at TR;clear hf hR HF
     go_upto_region 6 with fail
     refine wp_region_held_drew (S:=(fun w'=>w'.cell? ⟨q,0,none⟩=some (.string (sv (T k)))∧w'.cell? ⟨q,1,none⟩=some (.int .i64 (V1 k))∧w'.cell? ⟨q,2,none⟩=some (.int .i64 (V2 k))∧w'.cell? ⟨q,3,none⟩=some (.int .i64 (V3 k))∧w'.cell? ⟨q,4,none⟩=some (.int .i64 (V4 k))∧w'.cell? ⟨q,5,none⟩=some (.int .i64 (V5 k))∧w'.cell? ⟨q,6,none⟩=some (.int .i64 (V6 k))∧w'.cell? ⟨q,7,none⟩=some (.int .i64 (V7 k))∧w'.cell? ⟨q,8,none⟩=some (.int .i64 (V8 k))∧w'.cell? ⟨q,9,none⟩=some (.int .i64 (V9 k))∧w'.cell? ⟨q,10,none⟩=some (.int .i64 (P k)))) (by kernel_rfl) (by exact(uq HX2) _ (Keep.refl w2).drew) (fun hHeld=>?_);refine tkk 0 21 hHeld ?_;try simp only[Act.put,Ya,Yb,Yc]
     refine tkk 1 22 hHeld ?_;try simp only[Act.put,Ya,Yb,Yc]
     refine tkk 2 23 hHeld ?_;try simp only[Act.put,Ya,Yb,Yc]
     refine zal 3 (fun K hK=>?_);go_simp;clear hHeld;(refine((uq TR) _).mono ?_;rintro e w3 ⟨rfl,hk9⟩;have K3:=hide (((Keep.refl w2).drew).trans hk9);clear hk9);try go_wp2_with fail
     refine hK.out _ _ ?_ (fun hHeld=>?_)
     ·exact(uq HX2) _ (uq K3)
     clear hK K;try simp only[Act.put,Ya,Yb,Yc]
     refine tkk 4 25 hHeld ?_;try simp only[Act.put,Ya,Yb,Yc]
     refine zal 5 (fun K hK=>?_);go_simp;clear hHeld;(refine((uq RN) _ _ _).mono ?_;rintro e w4 ⟨rfl,rfl⟩);try go_wp2_with fail
     refine hK.out _ _ ?_ (fun hHeld=>?_)
     ·exact(uq HX2) _ (uq K3)
     clear hK K;try simp only[Act.put,Ya,Yb,Yc]
     refine wpAnyH_done (by kernel_rfl) ?_ _;clear hHeld;go_wp2_with fail
     go_roundw
     case rel=>exact⟨k+1,by go_num,by omega,hide ((uq HM2).keep (uq K3)),hide ((uq HK2).trans (uq K3)),HF2⟩
     case measure=>simp[intOf];omega
    ·have hR0:(zbs (V1 k) (V2 k) (V3 k) (V4 k) (V5 k) (V6 k) (V7 k) (V8 k) (V9 k))=false:=by simpa using hR
     have hr:=zab (uq HF) hlt (show hdF T _ P k=some (70,P k) by unfold hdF;rw[if_neg (by rw[uq HH0];decide),if_neg hR]);subst hr;have TR:=hide (zgA (sv (T k)) (V1 k) (V2 k) (V3 k) (V4 k) (V5 k) (V6 k) (V7 k) (V8 k) (V9 k) (P k));rw[hR0]at TR;clear hR hR0 HF
     go_upto_region 6 with fail
     refine wp_region_held_drew (S:=(fun w'=>w'.cell? ⟨q,0,none⟩=some (.string (sv (T k)))∧w'.cell? ⟨q,1,none⟩=some (.int .i64 (V1 k))∧w'.cell? ⟨q,2,none⟩=some (.int .i64 (V2 k))∧w'.cell? ⟨q,3,none⟩=some (.int .i64 (V3 k))∧w'.cell? ⟨q,4,none⟩=some (.int .i64 (V4 k))∧w'.cell? ⟨q,5,none⟩=some (.int .i64 (V5 k))∧w'.cell? ⟨q,6,none⟩=some (.int .i64 (V6 k))∧w'.cell? ⟨q,7,none⟩=some (.int .i64 (V7 k))∧w'.cell? ⟨q,8,none⟩=some (.int .i64 (V8 k))∧w'.cell? ⟨q,9,none⟩=some (.int .i64 (V9 k))∧w'.cell? ⟨q,10,none⟩=some (.int .i64 (P k)))) (by kernel_rfl) (by exact(uq HX2) _ (Keep.refl w2).drew) (fun hHeld=>?_);refine tkk 0 21 hHeld ?_;try simp only[Act.put,Ya,Yb,Yc]
     refine tkk 1 22 hHeld ?_;try simp only[Act.put,Ya,Yb,Yc]
     refine tkk 2 23 hHeld ?_;try simp only[Act.put,Ya,Yb,Yc]
     refine zal 3 (fun K hK=>?_);go_simp;clear hHeld;(refine((uq TR) _).mono ?_;rintro e w3 ⟨rfl,hk9⟩;have K3:=hide (((Keep.refl w2).drew).trans hk9);clear hk9);try go_wp2_with fail
     refine hK.out _ _ ?_ (fun hHeld=>?_)
     ·exact(uq HX2) _ (uq K3)
     clear hK K;try simp only[Act.put,Ya,Yb,Yc]
     refine tkk 4 25 hHeld ?_;try simp only[Act.put,Ya,Yb,Yc]
     refine wpAnyH_ready (rs:= [5]) (by kernel_rfl) (by simp) ?_;refine AllReadyH.cons rfl (fun K hK=>?_) AllReadyH.nil;go_simp;clear hHeld;(refine((uq RX) _ _ _).mono ?_;rintro e w4 ⟨rfl,rfl⟩);try go_wp2_with fail
     exact⟨rfl,(uq HK2).trans (uq K3),rfl⟩
  ·have li:¬(k:Int)<(n:Int):=by omega
   have hr:=zaF (uq HF) (by omega);subst hr;obtain rfl:k=n:=by omega
   go_wp2_with fail
   go_ret;exact⟨uq KW,b,rfl,by have:=uq HB;omega,uq MK⟩
end V
end Go.Proofs.YtpmaonkelkmhbaaGreat
