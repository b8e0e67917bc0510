/- Package need: walks with a phase, ratios of a node's heads. -/
import Derived.Test.YtpmaonkelkmhbaaGreatVTc
import Derived.Test.YtpmaonkelkmhbaaGreatKClr
import Derived.Test.YtpmaonkelkmhbaaGreatNdX
import Derived.Deep.DrawnRows
import Derived.Deep.RegionHeld3
import Derived.Test.YtpmaonkelkmhbaaGreatLOpn
import Derived.Test.YtpmaonkelkmhbaaGreatVCh2
namespace Go.Proofs.YtpmaonkelkmhbaaGreat
open Go.RowKit
attribute [local go_sem ↓] Go.wp_at_zero Go.wp_at_succ
set_option linter.unusedVariables false
set_option linter.unusedSimpArgs false
set_option maxRecDepth 10000
namespace Nd
theorem zoC:(Tryz.prog.info? 137).map (fun i=>(i.zero,i.size,i.bytes))=some (some (.agg #[.string ⟨#[]⟩,.int .i64 0,.int .i64 0]),3,32):=by kernel_rfl
def wlk (T U:Nat→List UInt8) (V F:Nat→Int) (nm:List UInt8):Nat→List (List UInt8×Int×Int)
 |0=> []
 |m+1=>wlk T U V F nm m++(if U m==nm then [(T m,V m,F m)]else [])
theorem zeu (T U:Nat→List UInt8) (V F:Nat→Int) (nm:List UInt8):∀ m,(wlk T U V F nm m).length≤m
 |0=>Nat.le_refl _
 |m+1=>by
  have:=zeu T U V F nm m;rw[wlk,List.length_append];split<;>simp<;>omega
def wcs:List (List UInt8×Int×Int)→List Value
 | []=> []
 |x :: L=> .string (sv x.1) :: .int .i64 x.2.1 :: .int .i64 x.2.2 :: wcs L
theorem zhc:∀(L M:List (List UInt8×Int×Int)),wcs (L++M)=wcs L++wcs M
 | [],M=>rfl
 |x :: L,M=>by rw[List.cons_append,wcs,wcs,zhc L M];rfl
def Wq (L:List (List UInt8×Int×Int)) (w:World) (e:Ending) (w':World):Prop:=∃ v,e= .returned v∧Keep w w'∧w'.ownsRow w.heap.size 137 3 v L.length (wcs L)
theorem new_v (w:World) (vs:List Value) (t:TypeId):∀ j u,vs[j]? =some u→(w.alloc (.cells vs.toArray t)).cell? ((⟨w.heap.size,0,none⟩:Addr).add j)=some u:=by
 intro j u hj
 rw[W.add_pl,Nat.zero_add];have h:=heap_alloc_new w (.cells vs.toArray t);simp only[World.cell?,h];simpa using hj
theorem own_cell {w:World} {B:Nat} {e:TypeId} {z n:Nat} {v:Value} {xs:List Value} (h:w.ownsRow B e z v n xs) (hn:0<n):∃ g cap,v= .slice (some ⟨g,0,none⟩) n cap∧g<w.heap.size∧B≤g∧n≤cap∧∀ j u,xs[j]? =some u→w.cell? ⟨g,j,none⟩=some u:=by
 rcases h.2 with ⟨rfl,h0⟩|⟨g,cap,cur,rfl,hb,hg,hc,hm,hs,ht⟩
 ·omega
 ·refine⟨g,cap,rfl,(Array.getElem?_eq_some_iff.1 hg).1,hb,hc,fun j u hu=>?_⟩;rw[← ht,List.getElem?_take]at hu;simp only[World.cell?,hg];split at hu
  ·simpa using hu
  ·cases hu
set_option maxHeartbeats 4000000 in
theorem zc3 (s:ByteArray) (x1:Option Addr) (n1 c1:Nat) (x2:Option Addr) (n2 c2:Nat) (x3:Option Addr) (n3 c3:Nat) (x4:Option Addr) (n4 c4:Nat) (x5:Option Addr) (n5 c5:Nat) (p:Int) (T U:Nat→List UInt8) (V2 V3 V4 P F FE:Nat→Int) (nm:List UInt8) (w:World) (hn:n2≤1000)
  (HC:Hid (∀ k,k<n2→∃ ad,x2=some ad∧ad.block<w.heap.size∧w.cell? (ad.add (k * 6))=some (.string (sv (T k)))∧w.cell? ⟨(ad.add (k * 6)).block,(ad.add (k * 6)).off+1,none⟩=some (.string (sv (U k)))∧w.cell? ⟨(ad.add (k * 6)).block,(ad.add (k * 6)).off+2,none⟩=some (.int .i64 (V2 k))∧w.cell? ⟨(ad.add (k * 6)).block,(ad.add (k * 6)).off+3,none⟩=some (.int .i64 (V3 k))∧w.cell? ⟨(ad.add (k * 6)).block,(ad.add (k * 6)).off+4,none⟩=some (.int .i64 (V4 k))∧w.cell? ⟨(ad.add (k * 6)).block,(ad.add (k * 6)).off+5,none⟩=some (.int .i64 (P k))))
  (TF:Hid (∀ m,m<n2→∀ w',Calls Tryz.prog 79 #[.int .i64 (V2 m),.int .i64 (V3 m)] w' fun e w''=>e= .returned (.tuple #[.int .i64 (F m),.int .i64 (FE m)])∧Keep w' w'')):
  Calls Tryz.prog 57 #[.agg #[.string s,.slice x1 n1 c1,.slice x2 n2 c2,.slice x3 n3 c3,.slice x4 n4 c4,.slice x5 n5 c5,.int .i64 p],.string (sv nm)] w (Wq (wlk T U V4 F nm n2) w):=by
 obtain⟨i0,hi0,hz0,hz1,hz2⟩:=W.info_f zoC;have hnw0:=heap_alloc_new w (.cells #[.string s,.slice x1 n1 c1,.slice x2 n2 c2,.slice x3 n3 c3,.slice x4 n4 c4,.slice x5 n5 c5,.int .i64 p] 39);have K0:=hide ((Keep.refl w).alloc (.cells #[.string s,.slice x1 n1 c1,.slice x2 n2 c2,.slice x3 n3 c3,.slice x4 n4 c4,.slice x5 n5 c5,.int .i64 p] 39));go_enter Tryz.func57,Tryz.ntmps57
 go_upto_region 1 with fail
 generalize w.alloc (.cells #[.string s,.slice x1 n1 c1,.slice x2 n2 c2,.slice x3 n3 c3,.slice x4 n4 c4,.slice x5 n5 c5,.int .i64 p] 39)=w0 at hnw0 K0 ⊢;obtain⟨q0,HQ0⟩:∃ q,Hid (w.heap.size=q):=⟨_,hide rfl⟩;rw[uq HQ0]at hnw0 ⊢;have HX0:Hid (∀ w':World,Keep w0 w'→w'.cell? ⟨q0,0,none⟩=some (.string s)∧w'.cell? ⟨q0,1,none⟩=some (.slice x1 n1 c1)∧w'.cell? ⟨q0,2,none⟩=some (.slice x2 n2 c2)∧w'.cell? ⟨q0,3,none⟩=some (.slice x3 n3 c3)∧w'.cell? ⟨q0,4,none⟩=some (.slice x4 n4 c4)∧w'.cell? ⟨q0,5,none⟩=some (.slice x5 n5 c5)∧w'.cell? ⟨q0,6,none⟩=some (.int .i64 p)):=hide (fun w' k9=>by
  have h1:=k9.block q0 (Array.getElem?_eq_some_iff.1 hnw0).1;rw[hnw0]at h1;refine⟨?_,?_,?_,?_,?_,?_,?_⟩<;>simp[World.cell?,h1])
 clear hnw0;obtain⟨z0,z1,z2,z3,z4,z5,z6⟩:=(uq HX0) w0 (Keep.refl _);go_wp2_with fail
 clear z0 z1 z2 z3 z4 z5 z6
 go_loopw [5,13] (fun vs vi wr=>∃ k:Nat,k≤n2∧vi= .int .i64 (k:Int)∧Hid (wr.ownsRow w0.heap.size 137 3 vs (wlk T U V4 F nm k).length (wcs (wlk T U V4 F nm k)))∧Hid (Keep w0 wr)) (fun vs vi _=>n2 - (intOf vi).toNat)
 case atStart=>exact⟨0,Nat.zero_le _,rfl,hide (World.ownsRow_nil _ _ _ _),hide (Keep.refl _)⟩
 case round=>
  obtain⟨k,hk,rfl,HOW,KW⟩:=hrel;by_cases hlt:k<n2
  ·have li:(k:Int)<(n2:Int):=by omega
   have KWW:=hide ((uq K0).trans (uq KW));obtain⟨ad,rfl,hb,e0,e1,e2,e3,e4,e5⟩:=(uq HC) k hlt;have y0:=V.far_cell (uq KWW) (by rw[V.add_block9];exact hb) e0;have y1:=V.far_cell (uq KWW) (by show(ad.add (k * 6)).block<_;rw[V.add_block9];exact hb) e1;have y2:=V.far_cell (uq KWW) (by show(ad.add (k * 6)).block<_;rw[V.add_block9];exact hb) e2;have y3:=V.far_cell (uq KWW) (by show(ad.add (k * 6)).block<_;rw[V.add_block9];exact hb) e3;have y4:=V.far_cell (uq KWW) (by show(ad.add (k * 6)).block<_;rw[V.add_block9];exact hb) e4;have y5:=V.far_cell (uq KWW) (by show(ad.add (k * 6)).block<_;rw[V.add_block9];exact hb) e5;clear e0 e1 e2 e3 e4 e5;have hbx:=heap_alloc_new wr (.cells #[.string (sv (T k)),.string (sv (U k)),.int .i64 (V2 k),.int .i64 (V3 k),.int .i64 (V4 k),.int .i64 (P k)] 86);have KB:=hide ((uq KW).alloc (.cells #[.string (sv (T k)),.string (sv (U k)),.int .i64 (V2 k),.int .i64 (V3 k),.int .i64 (V4 k),.int .i64 (P k)] 86));have KA:=hide ((Keep.refl wr).alloc (.cells #[.string (sv (T k)),.string (sv (U k)),.int .i64 (V2 k),.int .i64 (V3 k),.int .i64 (V4 k),.int .i64 (P k)] 86))
   go_upto_region 5 with fail
   generalize wr.alloc (.cells #[.string (sv (T k)),.string (sv (U k)),.int .i64 (V2 k),.int .i64 (V3 k),.int .i64 (V4 k),.int .i64 (P k)] 86)=wa at hbx KB KA ⊢;obtain⟨q,HQ⟩:∃ q,Hid (wr.heap.size=q):=⟨_,hide rfl⟩;rw[uq HQ]at hbx ⊢;have HXq:Hid (∀ w':World,Keep wa w'→w'.cell? ⟨q,0,none⟩=some (.string (sv (T k)))∧w'.cell? ⟨q,1,none⟩=some (.string (sv (U k)))∧w'.cell? ⟨q,2,none⟩=some (.int .i64 (V2 k))∧w'.cell? ⟨q,3,none⟩=some (.int .i64 (V3 k))∧w'.cell? ⟨q,4,none⟩=some (.int .i64 (V4 k))∧w'.cell? ⟨q,5,none⟩=some (.int .i64 (P k))):=hide (fun w' k9=>by
    have h1:=k9.block q (Array.getElem?_eq_some_iff.1 hbx).1;rw[hbx]at h1;refine⟨?_,?_,?_,?_,?_,?_⟩<;>simp[World.cell?,h1])
   clear hbx y0 y1 y2 y3 y4 y5;obtain⟨f0,f1,f2,f3,f4,f5⟩:=(uq HXq) wa (Keep.refl wa);have e9:=V.sv_beq (U k) nm;have HW1:Hid (wlk T U V4 F nm (k+1)=wlk T U V4 F nm k++(if U k==nm then [(T k,V4 k,F k)]else [])):=hide rfl;have hln:=zeu T U V4 F nm k;cases hB:(U k==nm)
   ·rw[hB]at e9 HW1;have HW2:Hid (wlk T U V4 F nm (k+1)=wlk T U V4 F nm k):=hide (by rw[uq HW1];simp);clear HW1;go_wp2_with fail
    go_roundw
    case rel=>exact⟨k+1,hlt,by go_num,hide (by rw[uq HW2];exact W.own_k (uq HOW) (uq KA)),KB⟩
    case measure=>simp[intOf];omega
   ·rw[hB]at e9 HW1;have HW2:Hid (wlk T U V4 F nm (k+1)=wlk T U V4 F nm k++ [(T k,V4 k,F k)]):=hide (by rw[uq HW1];simp);clear HW1;have TK:=hide ((uq TF) k hlt);go_wp2_with fail
    (refine((uq TK) _).mono ?_;rintro e w2 ⟨rfl,hk9⟩;have K2:=hide hk9;clear hk9);clear f0 f1 f2 f3 f4 f5;obtain⟨f0,f1,f2,f3,f4,f5⟩:=(uq HXq) w2 (uq K2);have KW2:=hide ((uq KB).trans (uq K2));have HOW2:=hide (W.own_k (uq HOW) ((uq KA).trans (uq K2)));have hsz:=Below.size (uq KW2);obtain⟨L,hL⟩:∃ L,(wlk T U V4 F nm k).length=L:=⟨_,rfl⟩;rw[hL]at HOW2 hln;have HL:=hide hL;clear hL HOW;go_wp2_with (at_builtin;refine wpList_append_own _ rfl _ _ 78 rfl w0.heap.size 137 i0 _ 3 32 Tryz.underlying78 hi0 hz0 hz1 hz2 rfl (by decide) _ _ _ rfl ((uq HOW2).alloc _) ⟨w2.heap.size,0,none⟩ 1 1 [.string (sv (T k)),.int .i64 (V4 k),.int .i64 (F k)] rfl rfl (new_v w2 [.string (sv (T k)),.int .i64 (V4 k),.int .i64 (F k)] _) (by simp[Value.oneCell']) (by unfold maxLen;omega) (by omega) (by simp;omega) ?_;intro v' w4 hown' hgrow hnil;have HOWN:=hide hown';have HK4:Hid (Keep w0 w4):=hide (Below.grown ((uq KW2).alloc _) hgrow (by simp;omega) (fun j ej=>((uq HOW2).lt j ej).1));clear hown' hgrow hnil)
    go_roundw
    case rel=>exact⟨k+1,hlt,by go_num,hide (by rw[uq HW2,List.length_append,zhc,uq HL];exact uq HOWN),HK4⟩
    case measure=>simp[intOf];omega
  ·have li:¬(k:Int)<(n2:Int):=by omega
   obtain rfl:k=n2:=by omega
   go_wp2_with fail
   go_ret;exact⟨_,rfl,(uq K0).trans (uq KW),W.own_mono (uq HOW) (Below.size (uq K0))⟩
def Rp0 (n:Nat) (X Y Z:Nat→Int) (w:World) (e:Ending) (w':World):Prop:=∃ v z,e= .returned (.tuple #[v,.int .i64 z])∧Keep w w'∧z=W.fz Z 0 n∧((¬z=0∧v= .slice none 0 0)∨(z=0∧w'.ownsRow 0 23 2 v n (W.cp X Y n)))
set_option maxHeartbeats 4000000 in
theorem zdz (s:ByteArray) (x1:Option Addr) (n1 c1:Nat) (x2:Option Addr) (n2 c2:Nat) (x3:Option Addr) (n3 c3:Nat) (x4:Option Addr) (n4 c4:Nat) (x5:Option Addr) (n5 c5:Nat) (p:Int) (pn pd:Int) (X Y Z:Nat→Int) (w:World)
  (TT:Hid (∀(w':World) (b:Nat),Keep w w'→b<w'.heap.size→(w'.cell? ⟨b,0,none⟩=some (.string s)∧w'.cell? ⟨b,1,none⟩=some (.slice x1 n1 c1)∧w'.cell? ⟨b,2,none⟩=some (.slice x2 n2 c2)∧w'.cell? ⟨b,3,none⟩=some (.slice x3 n3 c3)∧w'.cell? ⟨b,4,none⟩=some (.slice x4 n4 c4)∧w'.cell? ⟨b,5,none⟩=some (.slice x5 n5 c5)∧w'.cell? ⟨b,6,none⟩=some (.int .i64 p))→Calls Tryz.prog 55 #[.agg #[.int .i64 0,.int .i64 0,.int .i64 0,.int .i64 pn,.int .i64 pd,.slice (some ⟨b,0,none⟩) 1 1,.slice none 0 0,.int .i64 0,.int .i64 0]] w' (W.Tq 1 (fun _=>n1) (fun _=>X) (fun _=>Y) (fun _=>Z) w'))):
  Calls Tryz.prog 38 #[.agg #[.string s,.slice x1 n1 c1,.slice x2 n2 c2,.slice x3 n3 c3,.slice x4 n4 c4,.slice x5 n5 c5,.int .i64 p],.agg #[.int .i64 pn,.int .i64 pd]] w (Rp0 n1 X Y Z w):=by
 have hnw0:=heap_alloc_new w (.cells #[.string s,.slice x1 n1 c1,.slice x2 n2 c2,.slice x3 n3 c3,.slice x4 n4 c4,.slice x5 n5 c5,.int .i64 p] 39);have hnw1:=heap_alloc_new (w.alloc (.cells #[.string s,.slice x1 n1 c1,.slice x2 n2 c2,.slice x3 n3 c3,.slice x4 n4 c4,.slice x5 n5 c5,.int .i64 p] 39)) (.cells #[.int .i64 pn,.int .i64 pd] 23);have K0:=hide (((Keep.refl w).alloc (.cells #[.string s,.slice x1 n1 c1,.slice x2 n2 c2,.slice x3 n3 c3,.slice x4 n4 c4,.slice x5 n5 c5,.int .i64 p] 39)).alloc (.cells #[.int .i64 pn,.int .i64 pd] 23));have hnwa:((w.alloc (.cells #[.string s,.slice x1 n1 c1,.slice x2 n2 c2,.slice x3 n3 c3,.slice x4 n4 c4,.slice x5 n5 c5,.int .i64 p] 39)).alloc (.cells #[.int .i64 pn,.int .i64 pd] 23)).heap[w.heap.size]? =some (.cells #[.string s,.slice x1 n1 c1,.slice x2 n2 c2,.slice x3 n3 c3,.slice x4 n4 c4,.slice x5 n5 c5,.int .i64 p] 39 (0,0)):=by rw[heap_alloc_old _ _ (by simp)];exact hnw0
 rw[World.size_alloc]at hnw1;clear hnw0;go_enter Tryz.func38,Tryz.ntmps38
 go_upto_region 1 with fail
 generalize (w.alloc (.cells #[.string s,.slice x1 n1 c1,.slice x2 n2 c2,.slice x3 n3 c3,.slice x4 n4 c4,.slice x5 n5 c5,.int .i64 p] 39)).alloc (.cells #[.int .i64 pn,.int .i64 pd] 23)=w0 at hnwa hnw1 K0 ⊢;obtain⟨q0,HQ0⟩:∃ q,Hid (w.heap.size=q):=⟨_,hide rfl⟩;rw[uq HQ0]at hnwa hnw1 ⊢;have HX0:Hid (∀ w':World,Keep w0 w'→(w'.cell? ⟨q0,0,none⟩=some (.string s)∧w'.cell? ⟨q0,1,none⟩=some (.slice x1 n1 c1)∧w'.cell? ⟨q0,2,none⟩=some (.slice x2 n2 c2)∧w'.cell? ⟨q0,3,none⟩=some (.slice x3 n3 c3)∧w'.cell? ⟨q0,4,none⟩=some (.slice x4 n4 c4)∧w'.cell? ⟨q0,5,none⟩=some (.slice x5 n5 c5)∧w'.cell? ⟨q0,6,none⟩=some (.int .i64 p))∧w'.cell? ⟨q0+1,0,none⟩=some (.int .i64 pn)∧w'.cell? ⟨q0+1,1,none⟩=some (.int .i64 pd)):=hide (fun w' k9=>by
  have h1:=k9.block q0 (Array.getElem?_eq_some_iff.1 hnwa).1;rw[hnwa]at h1;have h2:=k9.block (q0+1) (Array.getElem?_eq_some_iff.1 hnw1).1;rw[hnw1]at h2;refine⟨⟨?_,?_,?_,?_,?_,?_,?_⟩,?_,?_⟩<;>simp[World.cell?,h1,h2])
 clear hnwa hnw1;obtain⟨⟨z0,z1,z2,z3,z4,z5,z6⟩,g0,g1⟩:=(uq HX0) w0 (Keep.refl _);have hnb:=heap_alloc_new w0 (.cells #[.string s,.slice x1 n1 c1,.slice x2 n2 c2,.slice x3 n3 c3,.slice x4 n4 c4,.slice x5 n5 c5,.int .i64 p] 39);have KB:=hide ((uq K0).alloc (.cells #[.string s,.slice x1 n1 c1,.slice x2 n2 c2,.slice x3 n3 c3,.slice x4 n4 c4,.slice x5 n5 c5,.int .i64 p] 39));have TK:=hide ((uq TT) (w0.alloc (.cells #[.string s,.slice x1 n1 c1,.slice x2 n2 c2,.slice x3 n3 c3,.slice x4 n4 c4,.slice x5 n5 c5,.int .i64 p] 39)) w0.heap.size (uq KB) (by simp) (by refine⟨?_,?_,?_,?_,?_,?_,?_⟩<;>simp[go_sem]));clear hnb;go_wp2_with fail
 (refine(uq TK).mono ?_;rintro e w2 ⟨v,z,rfl,hk9,hz,hv⟩;have K2:=hide ((uq KB).trans hk9);clear hk9);have HZ:Hid (z=W.fz Z 0 n1):=hide (by rw[hz];unfold W.tz;simp only[W.fz];split<;>simp_all);clear hz z0 z1 z2 z3 z4 z5 z6 g0 g1;rcases hv with ⟨h1,rfl⟩|⟨h1,hv⟩
 ·have h2:(z !=0)=true:=by simpa using h1
  have H1:=hide h1;clear h1;go_wp2_with fail
  go_ret2;exact⟨_,_,rfl,uq K2,uq HZ,.inl ⟨uq H1,rfl⟩⟩
 ·subst h1;obtain⟨rows,ho,hr1,hr2⟩:=hv;obtain⟨g,cap,rfl,hg,_,hc,hcell⟩:=own_cell ho (by omega);obtain⟨r0,rfl⟩:∃ r0,rows= [r0]:=by
   match rows,hr1 with
   | [r0],_=>exact⟨r0,rfl⟩
  have hc0:=hcell 0 r0 rfl;have hro:=hide (hr2 0 (by omega));clear hcell ho hr1 hr2;go_wp2_with fail
  go_ret2;exact⟨_,_,rfl,uq K2,uq HZ,.inr ⟨rfl,uq hro⟩⟩
end Nd
namespace Q
theorem frb (w:World) (b j:Nat) (v:Value) (hv:v.oneCell'=true):Fr (fun i=>i=b) w (w.setCell ⟨b,j,none⟩ v):=(Fr.refl (fun i=>i=b) w).set ⟨b,j,none⟩ v rfl hv
set_option maxHeartbeats 1000000 in
theorem zhd (b:Nat) (e x:Int) (w:World) (he:(e==0)=false) (c1:w.cell? ⟨b,1,none⟩=some (.int .i64 e)):Calls Tryz.prog 36 #[.pointer (some ⟨b,0,none⟩),.int .i64 x] w fun r w'=>r= .returned (.tuple #[])∧w'=w:=by
 go_enter Tryz.func36,Tryz.ntmps36;go_wp2_with fail
 go_end0
 exact⟨rfl,rfl⟩
set_option maxHeartbeats 2000000 in
theorem zfR (b m cap:Nat) (ad:Addr) (x p pp:Int) (w:World) (hb:ad.block≠b) (c0:w.cell? ⟨b,0,none⟩=some (.slice (some ad) (m+1) cap)) (c1:w.cell? ⟨b,1,none⟩=some (.int .i64 0)) (c2:w.cell? ⟨b,2,none⟩=some (.int .i64 p)) (f1:w.frozen? ⟨b,1,none⟩=false) (f2:w.frozen? ⟨b,2,none⟩=false) (t3:w.cell? ⟨ad.block,ad.off+3,none⟩=some (.int .i64 pp)):
  Calls Tryz.prog 36 #[.pointer (some ⟨b,0,none⟩),.int .i64 x] w fun r w'=>r= .returned (.tuple #[])∧w'=(w.setCell ⟨b,1,none⟩ (.int .i64 x)).setCell ⟨b,2,none⟩ (.int .i64 pp):=by
 have d0:(w.setCell ⟨b,1,none⟩ (.int .i64 x)).cell? ⟨b,0,none⟩=some (.slice (some ad) (m+1) cap):=by rw[zbY _ _ _ _ (by simp)];exact c0
 have d2:(w.setCell ⟨b,1,none⟩ (.int .i64 x)).cell? ⟨b,2,none⟩=some (.int .i64 p):=by rw[zbY _ _ _ _ (by simp)];exact c2
 have d3:(w.setCell ⟨b,1,none⟩ (.int .i64 x)).cell? ⟨ad.block,ad.off+3,none⟩=some (.int .i64 pp):=by rw[zkT _ _ _ _ (fun e=>hb e.symm)];exact t3
 have d4:(w.setCell ⟨b,1,none⟩ (.int .i64 x)).frozen? ⟨b,2,none⟩=false:=by rw[World.frozen?_setCell];exact f2
 go_enter Tryz.func36,Tryz.ntmps36
 go_upto_region 2 with fail
 obtain⟨w1,HW⟩:∃ w1,Hid (w.setCell ⟨b,1,none⟩ (.int .i64 x)=w1):=⟨_,rfl⟩;rw[uq HW]at d0 d2 d3 d4 ⊢;go_wp2_with fail
 go_end0
 exact⟨rfl,by rw[uq HW]⟩
set_option maxHeartbeats 2000000 in
theorem zdX (b m cap:Nat) (ad:Addr) (e kk nn pp:Int) (S:ByteArray) (w:World) (h:(e==0)=false∨((e==0)=true∧(kk !=0)=false)) (c0:w.cell? ⟨b,0,none⟩=some (.slice (some ad) (m+1) cap)) (c1:w.cell? ⟨b,1,none⟩=some (.int .i64 e)) (t0:w.cell? ad=some (.int .i64 kk)) (t1:w.cell? ⟨ad.block,ad.off+1,none⟩=some (.string S)) (t2:w.cell? ⟨ad.block,ad.off+2,none⟩=some (.int .i64 nn)) (t3:w.cell? ⟨ad.block,ad.off+3,none⟩=some (.int .i64 pp)):
  Calls Tryz.prog 34 #[.pointer (some ⟨b,0,none⟩)] w fun r w'=>r= .returned (.agg #[.int .i64 kk,.string S,.int .i64 nn,.int .i64 pp])∧Keep w w':=by
 have k:∀ o,Keep w (w.alloc o):=fun o=>(Keep.refl w).alloc o
 have g0:∀ o,(w.alloc o).cell? ⟨b,0,none⟩=some (.slice (some ad) (m+1) cap):=fun o=>kcell (k o) c0
 have q0:∀ o,(w.alloc o).cell? ad=some (.int .i64 kk):=fun o=>kcell (k o) t0
 have q1:∀ o,(w.alloc o).cell? ⟨ad.block,ad.off+1,none⟩=some (.string S):=fun o=>kcell (k o) t1
 have q2:∀ o,(w.alloc o).cell? ⟨ad.block,ad.off+2,none⟩=some (.int .i64 nn):=fun o=>kcell (k o) t2
 have q3:∀ o,(w.alloc o).cell? ⟨ad.block,ad.off+3,none⟩=some (.int .i64 pp):=fun o=>kcell (k o) t3
 have g1:∀ o o2,((w.alloc o).alloc o2).cell? ⟨b,1,none⟩=some (.int .i64 e):=fun o o2=>kcell ((k o).alloc o2) c1
 have HK:=hide k;clear k;rcases h with h|⟨h,h2⟩
 ·go_enter Tryz.func34,Tryz.ntmps34;go_wp2_with fail
  refine bodyPost_ret (v:= .agg #[.int .i64 kk,.string S,.int .i64 nn,.int .i64 pp]) ?_ rfl ?_
  ·simp[results,Tryz.results34,go_sem]
  ·exact⟨rfl,by repeat(first|apply zaa|apply Keep.alloc|apply Keep.drew|exact Keep.refl _)⟩
 ·go_enter Tryz.func34,Tryz.ntmps34;go_wp2_with fail
  refine bodyPost_ret (v:= .agg #[.int .i64 kk,.string S,.int .i64 nn,.int .i64 pp]) ?_ rfl ?_
  ·simp[results,Tryz.results34,go_sem]
  ·exact⟨rfl,by repeat(first|apply zaa|apply Keep.alloc|apply Keep.drew|exact Keep.refl _)⟩
set_option maxHeartbeats 2000000 in
theorem zlp (b m cap:Nat) (ad:Addr) (kk nn pp:Int) (S:ByteArray) (w:World) (hc:¬cap=1) (hk:(kk !=0)=true) (c0:w.cell? ⟨b,0,none⟩=some (.slice (some ad) (m+1) cap)) (c1:w.cell? ⟨b,1,none⟩=some (.int .i64 0)) (f0:w.frozen? ⟨b,0,none⟩=false) (t0:w.cell? ad=some (.int .i64 kk)) (t1:w.cell? ⟨ad.block,ad.off+1,none⟩=some (.string S)) (t2:w.cell? ⟨ad.block,ad.off+2,none⟩=some (.int .i64 nn)) (t3:w.cell? ⟨ad.block,ad.off+3,none⟩=some (.int .i64 pp)):
  Calls Tryz.prog 34 #[.pointer (some ⟨b,0,none⟩)] w fun r w'=>r= .returned (.agg #[.int .i64 kk,.string S,.int .i64 nn,.int .i64 pp])∧Keep (w.setCell ⟨b,0,none⟩ (.slice (some ⟨ad.block,ad.off+4,none⟩) m (cap - 1))) w':=by
 have hb:b<w.heap.size:=zcK c0;have k:∀ o,Keep w (w.alloc o):=fun o=>(Keep.refl w).alloc o
 have g0:∀ o,(w.alloc o).cell? ⟨b,0,none⟩=some (.slice (some ad) (m+1) cap):=fun o=>kcell (k o) c0
 have q0:∀ o,(w.alloc o).cell? ad=some (.int .i64 kk):=fun o=>kcell (k o) t0
 have q1:∀ o,(w.alloc o).cell? ⟨ad.block,ad.off+1,none⟩=some (.string S):=fun o=>kcell (k o) t1
 have q2:∀ o,(w.alloc o).cell? ⟨ad.block,ad.off+2,none⟩=some (.int .i64 nn):=fun o=>kcell (k o) t2
 have q3:∀ o,(w.alloc o).cell? ⟨ad.block,ad.off+3,none⟩=some (.int .i64 pp):=fun o=>kcell (k o) t3
 have HK:=hide k;clear k;go_enter Tryz.func34,Tryz.ntmps34;have g1:∀ o o2,((w.alloc o).alloc o2).cell? ⟨b,1,none⟩=some (.int .i64 0):=fun o o2=>kcell (((uq HK) o).alloc o2) c1
 have g3:∀ o o2,((w.alloc o).alloc o2).cell? ⟨b,0,none⟩=some (.slice (some ad) (m+1) cap):=fun o o2=>kcell (((uq HK) o).alloc o2) c0
 have g4:∀ o o2,((w.alloc o).alloc o2).frozen? ⟨b,0,none⟩=false:=fun o o2=>zkS (((uq HK) o).alloc o2) c0 f0
 go_upto_region 4 with fail
 clear g0 g1 g3 g4 q0 q1 q2 q3 t0 t1 t2 t3 HK c0 c1 f0;go_wp2_with fail
 refine bodyPost_ret (v:= .agg #[.int .i64 kk,.string S,.int .i64 nn,.int .i64 pp]) ?_ rfl ?_
 ·simp[results,Tryz.results34,go_sem]
 ·exact⟨rfl,by repeat(first|apply zaa|apply Keep.alloc|apply Keep.drew|exact Keep.refl _)⟩
set_option maxHeartbeats 2000000 in
theorem zlq (b:Nat) (e:Int) (X:ByteArray) (w:World) (he:(e==0)=false) (c1:w.cell? ⟨b,1,none⟩=some (.int .i64 e)):Calls Tryz.prog 33 #[.pointer (some ⟨b,0,none⟩),.string X] w fun r w'=>r= .returned (.bool false)∧w'=w:=by
 go_enter Tryz.func33,Tryz.ntmps33;go_wp2_with fail
 go_ret;exact⟨rfl,rfl⟩
set_option maxHeartbeats 2000000 in
theorem zio (b m cap:Nat) (ad:Addr) (kk:Int) (S X:ByteArray) (w:World) (x y z r0:Bool) (hx:(kk !=2)=x) (hy:(kk !=0)=y) (hz:(S.toList==X.toList)=z) (hr:(x&&(y&&z))=r0) (c0:w.cell? ⟨b,0,none⟩=some (.slice (some ad) (m+1) cap)) (c1:w.cell? ⟨b,1,none⟩=some (.int .i64 0)) (t0:w.cell? ad=some (.int .i64 kk)) (t1:w.cell? ⟨ad.block,ad.off+1,none⟩=some (.string S)):Calls Tryz.prog 33 #[.pointer (some ⟨b,0,none⟩),.string X] w fun r w'=>r= .returned (.bool r0)∧w'=w:=by
 subst hr;cases x with
 |false=>
  go_enter Tryz.func33,Tryz.ntmps33;go_wp2_with fail
  go_ret;exact⟨rfl,rfl⟩
 |true=>cases y with
  |false=>
   go_enter Tryz.func33,Tryz.ntmps33;go_wp2_with fail
   go_ret;exact⟨rfl,rfl⟩
  |true=>cases z with
   |false=>
    go_enter Tryz.func33,Tryz.ntmps33;go_wp2_with fail
    go_ret;exact⟨rfl,rfl⟩
   |true=>
    go_enter Tryz.func33,Tryz.ntmps33;go_wp2_with fail
    go_ret;exact⟨rfl,rfl⟩
theorem Rm.tok {w:World} {b:Nat} {ad:Addr} {cap:Nat} {e p:Int} {t:Tok} {r:List Tok} (h:Rm w b ad cap e p (t :: r)):Tc w ad t:=by
 have:=h.tc 0 (by simp);rw[Nat.zero_mul]at this;have e0:ad.add 0=ad:=by unfold Addr.add;rw[if_pos rfl]
 rw[e0]at this;exact this
theorem Rm.num {w:World} {b:Nat} {ad:Addr} {cap:Nat} {e p:Int} {t:Tok} {r:List Tok} (h:Rm w b ad cap e p (t :: r)):0≤t.n∧t.n≤999999999999999999:=h.wq.1.2.2 t List.mem_cons_self
def isq (s:List UInt8):Except Er (List Tok)→Bool
 | .ok (t :: _)=>decide (t.s=s)
 | _=>false
def zhe (x:Int):Except Er (List Tok)→Except Er (List Tok)
 | .ok (t :: _)=> .error (x,t.p)
 |Y=>Y
def zdA:Except Er (List Tok)→Except Er (List Tok)
 | .ok (t :: r)=>if t.k=0 then .ok (t :: r)else .ok r
 |Y=>Y
theorem zco {w:World} {b:Nat} {Y:Except Er (List Tok)} (s:List UInt8) (hs:wrd s=true) (h:Sr w b Y):Calls Tryz.prog 33 #[.pointer (some ⟨b,0,none⟩),.string (sv s)] w fun r w'=>r= .returned (.bool (isq s Y))∧w'=w:=by
 cases Y with
 |error x=>
  obtain⟨ad,cap,t,r',h1,h2⟩:=h.dead;exact zlq b x.1 _ w (by simpa using h2) h1.c1
 |ok r=>
  obtain⟨ad,cap,p,t,r',rfl,h1⟩:=h.alive;obtain⟨t0,t1,t2,t3⟩:=h1.tok;refine zio b r'.length cap ad t.k (sv t.s) (sv s) w _ _ _ _ rfl rfl rfl ?_ h1.c0 h1.c1 t0 t1;show(t.k !=2&&(t.k !=0&&((sv t.s).toList==(sv s).toList)))=decide (t.s=s);rw[show(sv t.s).toList=t.s from ByteArray.toList_mk _,show(sv s).toList=s from ByteArray.toList_mk _];by_cases e:t.s=s
  ·have:=(h1.wq.2 t List.mem_cons_self).word hs e;simp[this,e]
  ·have e2:(t.s==s)=false:=by simpa using e
   simp[e,e2]
theorem zbE {w:World} {b:Nat} {Y:Except Er (List Tok)} (x:Int) (hx:x≠0) (h:Sr w b Y):Calls Tryz.prog 36 #[.pointer (some ⟨b,0,none⟩),.int .i64 x] w fun r w'=>r= .returned (.tuple #[])∧Fr (fun i=>i=b) w w'∧Sr w' b (zhe x Y):=by
 cases Y with
 |error y=>
  obtain⟨ad,cap,t,r',h1,h2⟩:=h.dead;refine(zhd b y.1 x w (by simpa using h2) h1.c1).mono ?_;rintro r w' ⟨rfl,rfl⟩;exact⟨rfl,.refl _ _,h⟩
 |ok r=>
  obtain⟨ad,cap,p,t,r',rfl,h1⟩:=h.alive;obtain⟨t0,t1,t2,t3⟩:=h1.tok;refine(zfR b r'.length cap ad x p t.p w (by have:=h1.lt;omega) h1.c0 h1.c1 h1.c2 h1.f1 h1.f2 t3).mono ?_;rintro r w' ⟨rfl,rfl⟩;exact⟨rfl,(frb w b 1 _ rfl).trans (frb _ b 2 _ rfl),zm4 (x:=(x,t.p)) h1.fail hx⟩
theorem zbc {w:World} {b:Nat} {Y:Except Er (List Tok)} (h:Sr w b Y):Calls Tryz.prog 34 #[.pointer (some ⟨b,0,none⟩)] w fun r w'=>∃ t,r= .returned (tv t)∧(0≤t.n∧t.n≤999999999999999999)∧Fr (fun i=>i=b) w w'∧Sr w' b (zdA Y)∧∀ r,Y= .ok r→∃ r',r=t :: r':=by
 cases Y with
 |error y=>
  obtain⟨ad,cap,t,r',h1,h2⟩:=h.dead;obtain⟨t0,t1,t2,t3⟩:=h1.tok;refine(zdX b r'.length cap ad y.1 t.k t.n t.p (sv t.s) w (.inl (by simpa using h2)) h1.c0 h1.c1 t0 t1 t2 t3).mono ?_;rintro r w' ⟨rfl,hk⟩;exact⟨t,rfl,h1.num,.keep hk,h.keep hk,fun r e=>by cases e⟩
 |ok r=>
  obtain⟨ad,cap,p,t,r',rfl,h1⟩:=h.alive;obtain⟨t0,t1,t2,t3⟩:=h1.tok;by_cases hk:t.k=0
  ·refine(zdX b r'.length cap ad 0 t.k t.n t.p (sv t.s) w (.inr ⟨rfl,by simp[hk]⟩) h1.c0 h1.c1 t0 t1 t2 t3).mono ?_;rintro r w' ⟨rfl,hk2⟩;refine⟨t,rfl,h1.num,.keep hk2,?_,fun r e=>by cases e;exact⟨_,rfl⟩⟩;show Sr w' b (if t.k=0 then .ok (t :: r')else .ok r');rw[if_pos hk];exact h.keep hk2
  ·obtain⟨h2,h3,h4⟩:=h1.next (.inl hk);refine(zlp b r'.length cap ad t.k t.n t.p (sv t.s) w (by omega) (by simpa using hk) h1.c0 h1.c1 h1.f0 t0 t1 t2 t3).mono ?_;rintro r w' ⟨rfl,hk2⟩;refine⟨t,rfl,h1.num,(frb w b 0 _ rfl).trans (.keep hk2),?_,fun r e=>by cases e;exact⟨_,rfl⟩⟩;show Sr w' b (if t.k=0 then .ok (t :: r')else .ok r');rw[if_neg hk];exact(zm3 h2).keep hk2
set_option maxHeartbeats 2000000 in
theorem zcP (b:Nat) (X:ByteArray) (q:Bool) (w:World) (Q:World→Prop)
  (T1:Hid (Calls Tryz.prog 33 #[.pointer (some ⟨b,0,none⟩),.string X] w fun r w'=>r= .returned (.bool q)∧w'=w))
  (T2:Hid (q=false→Calls Tryz.prog 36 #[.pointer (some ⟨b,0,none⟩),.int .i64 50] w fun r w'=>r= .returned (.tuple #[])∧Calls Tryz.prog 34 #[.pointer (some ⟨b,0,none⟩)] w' fun r w''=>∃ t,r= .returned (tv t)∧Q w''))
  (T3:Hid (q=true→Calls Tryz.prog 34 #[.pointer (some ⟨b,0,none⟩)] w fun r w''=>∃ t,r= .returned (tv t)∧Q w'')):
  Calls Tryz.prog 29 #[.pointer (some ⟨b,0,none⟩),.string X] w fun r w'=>r= .returned (.tuple #[])∧Q w':=by
 cases q with
 |false=>
  replace T2:=hide ((uq T2) rfl);clear T3;go_enter Tryz.func29,Tryz.ntmps29;go_wp2_with fail
  (refine(uq T1).mono ?_;rintro e w1 ⟨rfl,rfl⟩);go_wp2_with fail
  (refine(uq T2).mono ?_;rintro e w2 ⟨rfl,hn⟩;have HN:=hide hn;clear hn);go_wp2_with fail
  (refine(uq HN).mono ?_;rintro e w3 ⟨t,rfl,hq⟩;have HQ:=hide hq;clear hq);go_wp2_with fail
  go_end0
  exact⟨rfl,uq HQ⟩
 |true=>
  replace T3:=hide ((uq T3) rfl);clear T2;go_enter Tryz.func29,Tryz.ntmps29;go_wp2_with fail
  (refine(uq T1).mono ?_;rintro e w1 ⟨rfl,rfl⟩);go_wp2_with fail
  (refine(uq T3).mono ?_;rintro e w3 ⟨t,rfl,hq⟩;have HQ:=hide hq;clear hq);go_wp2_with fail
  go_end0
  exact⟨rfl,uq HQ⟩
theorem zag {w:World} {b:Nat} {X:Rs} (s:List UInt8) (hs:wrd s=true) (h:Sr w b (zad X)):Calls Tryz.prog 29 #[.pointer (some ⟨b,0,none⟩),.string (sv s)] w fun r w'=>r= .returned (.tuple #[])∧Did (zah s) [] b X w w':=by
 refine zcP b (sv s) (isq s (zad X)) w _ (hide (zco s hs h)) (hide fun hq=>?_) (hide fun hq=>?_)
 ·refine(zbE 50 (by decide) h).mono ?_;rintro r w' ⟨rfl,hf,hs'⟩;refine⟨rfl,(zbc hs').mono ?_⟩;rintro r w'' ⟨t,rfl,_,hf2,hs2,_⟩;refine⟨t,rfl,hf.trans hf2,?_⟩;rcases X with x|⟨c,r⟩
  ·exact⟨hs2,fun c r e=>by cases e⟩
  ·obtain⟨ad,cap,p,u,r',e,h1⟩:=Sr.alive (r:=r) h;subst e;have hne:u.s≠s:=by simpa [isq,zad]using hq
   have e1:bnd (.ok (c,u :: r')) (zah s)= .error (50,u.p):=by show(if u.s=s then _ else _)=_;rw[if_neg hne];rfl
   rw[e1];exact⟨hs2,fun c r e=>by cases e⟩
 ·refine(zbc h).mono ?_;rintro r w'' ⟨t,rfl,_,hf2,hs2,_⟩;refine⟨t,rfl,hf2,?_⟩;rcases X with x|⟨c,r⟩
  ·cases hq
  ·obtain⟨ad,cap,p,u,r',e,h1⟩:=Sr.alive (r:=r) h;subst e;have he:u.s=s:=by simpa [isq,zad]using hq
   have e1:bnd (.ok (c,u :: r')) (zah s)= .ok (c,r'):=by show(if u.s=s then _ else _)=_;rw[if_pos he]
   have hk:=((h1.wq.2 u List.mem_cons_self).word hs he).1;rw[e1];have:zdA (zad (.ok (c,u :: r')))= .ok r':=by show(if u.k=0 then _ else _)=_;rw[if_neg hk]
   rw[this]at hs2;exact⟨hs2,fun c2 r2 e2=>by cases e2;exact⟨c,_,rfl,by simp⟩⟩
end Q
end Go.Proofs.YtpmaonkelkmhbaaGreat
namespace Go.Proofs.YtpmaonkelkmhbaaGreat
open Go.RowKit
set_option linter.unusedVariables false
set_option linter.unusedSimpArgs false
set_option maxRecDepth 10000
namespace Q
def chg (w:World) (b:Nat) (o:Obj) (os:Array Obj) (k:Nat):World:= { w with heap:=w.heap.setIfInBounds b o++os,drawn:=k }
theorem zaL (w:World) (b:Nat) (o:Obj) (os:Array Obj) (k i:Nat) (hi:i<w.heap.size) (hb:i≠b):(chg w b o os k).heap[i]? =w.heap[i]? :=by
 simp only[chg];rw[Array.getElem?_append_left (by simpa using hi),Array.getElem?_setIfInBounds_ne (fun e=>hb e.symm)]
theorem zde (w:World) (b:Nat) (o:Obj) (os:Array Obj) (k:Nat) (hb:b<w.heap.size):(chg w b o os k).heap[b]? =some o:=by
 simp only[chg];rw[Array.getElem?_append_left (by simpa using hb),Array.getElem?_setIfInBounds_self];simp[hb]
theorem zaf {w w':World} {b:Nat} (h:Fr (fun i=>i=b) w w') (hb:b<w.heap.size):∃ o os k,w'=chg w b o os k:=by
 have hb':b<w'.heap.size:=Nat.lt_of_lt_of_le hb h.size;refine⟨w'.heap[b],w'.heap.extract w.heap.size w'.heap.size,w'.drawn,?_⟩;have e:w'.heap=w.heap.setIfInBounds b w'.heap[b]++w'.heap.extract w.heap.size w'.heap.size:=by
  apply Array.ext_getElem?;intro i
  by_cases hi:i<w.heap.size
  ·rw[Array.getElem?_append_left (by simpa using hi)];by_cases e:i=b
   ·subst e;rw[Array.getElem?_setIfInBounds_self];simp[hi,hb']
   ·rw[Array.getElem?_setIfInBounds_ne (fun x=>e x.symm),h.block i hi e]
  ·rw[Array.getElem?_append_right (by simp;omega),Array.getElem?_extract];simp only[Array.size_setIfInBounds];by_cases h6:i<w'.heap.size
   ·rw[if_pos (by omega)];congr 1;omega
   ·rw[if_neg (by omega),Array.getElem?_eq_none (by omega)]
 obtain⟨h1,h2,h3,h4,h5,_,_⟩:=h;obtain⟨a,b2,c,d,f⟩:=w';obtain⟨a',b',c',d',f'⟩:=w;simp only at h1 h2 h3 e;subst h1 h2 h3;simp only[chg];rw[← e]
@[go_sem,simp] theorem zaA (w:World) (b:Nat) (o:Obj) (os:Array Obj) (k:Nat):(chg w b o os k).heap.size=w.heap.size+os.size:=by simp[chg]
@[go_sem] theorem znY (w:World) (b:Nat) (o:Obj) (os:Array Obj) (k n i:Nat) (hn:n<w.heap.size) (hb:¬n=b):(chg w b o os k).cell? ⟨n,i,none⟩=w.cell? ⟨n,i,none⟩:=
 World.cell?_of_block (a:=⟨n,i,none⟩) (zaL w b o os k n hn hb)
@[go_sem] theorem zlM (w:World) (b:Nat) (o:Obj) (os:Array Obj) (k n i:Nat) (hn:n<w.heap.size) (hb:¬n=b):(chg w b o os k).frozen? ⟨n,i,none⟩=w.frozen? ⟨n,i,none⟩:=
 World.frozen?_of_block (a:=⟨n,i,none⟩) (zaL w b o os k n hn hb)
@[go_sem] theorem zlr (w:World) (b:Nat) (o:Obj) (os:Array Obj) (k n i:Nat) (v:Value) (hn:n<w.heap.size) (hb:¬n=b):(chg w b o os k).setCell ⟨n,i,none⟩ v=chg (w.setCell ⟨n,i,none⟩ v) b o os k:=by
 unfold World.setCell chg
 congr 1;apply Array.ext_getElem?;intro j
 simp only[Array.getElem?_modify,Array.getElem?_append,Array.size_modify,Array.size_setIfInBounds,Array.getElem?_setIfInBounds];by_cases hj:j<w.heap.size
 ·by_cases e1:b=j
  ·subst e1;simp[hj,hb]
  ·simp[hj,e1]
 ·have:¬n=j:=by omega
  simp[hj,this]
theorem zdB (w:World) (b:Nat) (o o2:Obj) (s1 s2:Array Obj) (k1 k2:Nat) (hb:b<w.heap.size):chg (chg w b o s1 k1) b o2 s2 k2=chg w b o2 (s1++s2) k2:=by
 unfold chg
 congr 1;simp only;rw[← Array.append_assoc];congr 1;apply Array.ext_getElem?;intro j
 simp only[Array.getElem?_append,Array.size_setIfInBounds,Array.getElem?_setIfInBounds,Array.size_append];by_cases e:b=j
 ·subst e;simp[hb];omega
 ·simp[e]
def SF (w:World) (b:Nat) (Y:Except Er (List Tok)) (A:World):Prop:=Fr (fun i=>i=b) w A∧Sr A b Y
theorem SF.eqv {w:World} {b:Nat} {Y:Except Er (List Tok)} {A B:World} (h:SF w b Y A) (hb:b<w.heap.size) (e:∀ i,i<w.heap.size→B.heap[i]? =A.heap[i]?) (hs:w.heap.size≤B.heap.size) (h1:B.os=A.os) (h2:B.tape=A.tape) (h3:B.output=A.output):SF w b Y B:=
 ⟨⟨h1.trans h.1.os,h2.trans h.1.tape,h3.trans h.1.output,hs,fun i hi hn=>(e i hi).trans (h.1.block i hi hn),fun i hi=>(zgi (e i hi)).trans (h.1.shape i hi),fun i hi k=>zea (e i hi) (h.1.ones i hi k)⟩,h.2.far (fun i hi=>e i (by omega))⟩
theorem SF.keep {w:World} {b:Nat} {Y:Except Er (List Tok)} {A B:World} (h:SF w b Y A) (k:Keep A B):SF w b Y B:=⟨h.1.trans (.keep k),h.2.keep k⟩
theorem SF.step {w:World} {b:Nat} {X:Rs} {A B:World} {p:Sp} {ds:List D} (h:SF w b (zad X) A) (k:Did p ds b X A B):SF w b (zad (bnd X p)) B:=⟨h.1.trans k.1,k.2.1⟩
theorem SF.box1 {w:World} {b:Nat} {Y:Except Er (List Tok)} {o1 o1' o:Obj} {os:Array Obj} {k:Nat} (hb:b<w.heap.size) (h:SF w b Y (chg (w.alloc o1) b o os k)):SF w b Y (chg (w.alloc o1') b o os k):=by
 refine h.eqv hb (fun i hi=>?_) (by simp only[zaA,World.size_alloc];omega) rfl rfl rfl;by_cases e:i=b
 ·subst e;rw[zde _ _ _ _ _ (by rw[World.size_alloc];omega),zde _ _ _ _ _ (by rw[World.size_alloc];omega)]
 ·rw[zaL _ _ _ _ _ _ (by rw[World.size_alloc];omega) e,zaL _ _ _ _ _ _ (by rw[World.size_alloc];omega) e,heap_alloc_old _ _ hi,heap_alloc_old _ _ hi]
theorem SF.box2 {w:World} {b:Nat} {Y:Except Er (List Tok)} {o1 o1' o2 o2' o:Obj} {os:Array Obj} {k:Nat} (hb:b<w.heap.size) (h:SF w b Y (chg ((w.alloc o1).alloc o2) b o os k)):SF w b Y (chg ((w.alloc o1').alloc o2') b o os k):=by
 refine h.eqv hb (fun i hi=>?_) (by simp only[zaA,World.size_alloc];omega) rfl rfl rfl;by_cases e:i=b
 ·subst e;rw[zde _ _ _ _ _ (by rw[World.size_alloc,World.size_alloc];omega),zde _ _ _ _ _ (by rw[World.size_alloc,World.size_alloc];omega)]
 ·rw[zaL _ _ _ _ _ _ (by rw[World.size_alloc,World.size_alloc];omega) e,zaL _ _ _ _ _ _ (by rw[World.size_alloc,World.size_alloc];omega) e,heap_alloc_old _ _ (by rw[World.size_alloc];omega),heap_alloc_old _ _ hi,heap_alloc_old _ _ (by rw[World.size_alloc];omega),heap_alloc_old _ _ hi]
theorem zaw {w:World} {b:Nat} (hb:b<w.heap.size) {o1 o o2:Obj} {s1 s2:Array Obj} {k1 k2:Nat} :chg (chg (w.alloc o1) b o s1 k1) b o2 s2 k2=chg (w.alloc o1) b o2 (s1++s2) k2:=zdB _ _ _ _ _ _ _ _ (by rw[World.size_alloc];omega)
theorem zan {w:World} {b:Nat} (hb:b<w.heap.size) {o1 o3 o o2:Obj} {s1 s2:Array Obj} {k1 k2:Nat} :chg (chg ((w.alloc o1).alloc o3) b o s1 k1) b o2 s2 k2=chg ((w.alloc o1).alloc o3) b o2 (s1++s2) k2:=zdB _ _ _ _ _ _ _ _ (by rw[World.size_alloc,World.size_alloc];omega)
@[go_sem] theorem zpm (a:Nat):a<a+1:=by omega
@[go_sem] theorem zpn (a:Nat):a<a+1+1:=by omega
end Q
end Go.Proofs.YtpmaonkelkmhbaaGreat
