/- The document's answer for layer 7: a node. -/
import Derived.Test.YtpmaonkelkmhbaaGreatVDg
import Derived.Test.YtpmaonkelkmhbaaGreatLSkip
import Derived.Deep.DrawnRows
import Derived.Deep.RegionHeld3
namespace Go.Proofs.YtpmaonkelkmhbaaGreat
open Go.RowKit
attribute [local go_sem ↓] Go.wp_at_zero Go.wp_at_succ
set_option linter.unusedVariables false
set_option linter.unusedSimpArgs false
set_option maxRecDepth 10000
namespace V
theorem ziw (a b c d e f g h:Eq2):ors [a,b,ors [c,d],e,ors [f,g],h]=ors [a,b,c,d,e,f,g,h]:=by
 cases a<;>cases b<;>cases c<;>cases d<;>cases e<;>cases f<;>cases g<;>rfl
set_option maxHeartbeats 4000000 in
theorem zfW (s:ByteArray) (x1:Option Addr) (n1 c1:Nat) (x2:Option Addr) (n2 c2:Nat) (x3:Option Addr) (n3 c3:Nat) (x4:Option Addr) (n4 c4:Nat) (x5:Option Addr) (n5 c5:Nat) (p:Int) (e1 e2 e3 e4 e5:Eq2) (w:World) (h1:n1≤9223372036854775807) (h2:n2≤9223372036854775807) (h3:n3≤9223372036854775807) (h4:n4≤9223372036854775807) (h5:n5≤9223372036854775807)
  (Z1:Hid (Nz e1)) (Z2:Hid (Nz e2)) (Z3:Hid (Nz e3)) (Z4:Hid (Nz e4))
  (T1:Hid (∀ w',Keep w w'→Calls Tryz.prog 21 #[.agg #[.string s,.slice x1 n1 c1,.slice x2 n2 c2,.slice x3 n3 c3,.slice x4 n4 c4,.slice x5 n5 c5,.int .i64 p]] w' (Zq e1 w')))
  (T2:Hid (∀ w',Keep w w'→Calls Tryz.prog 22 #[.agg #[.string s,.slice x1 n1 c1,.slice x2 n2 c2,.slice x3 n3 c3,.slice x4 n4 c4,.slice x5 n5 c5,.int .i64 p]] w' (Zq e2 w')))
  (T3:Hid (∀ w',Keep w w'→Calls Tryz.prog 23 #[.agg #[.string s,.slice x1 n1 c1,.slice x2 n2 c2,.slice x3 n3 c3,.slice x4 n4 c4,.slice x5 n5 c5,.int .i64 p]] w' (Zq e3 w')))
  (T4:Hid (n3≤16→∀ w',Keep w w'→Calls Tryz.prog 24 #[.agg #[.string s,.slice x1 n1 c1,.slice x2 n2 c2,.slice x3 n3 c3,.slice x4 n4 c4,.slice x5 n5 c5,.int .i64 p]] w' (Zq e4 w')))
  (T5:Hid (e2=none→∀ w',Keep w w'→Calls Tryz.prog 25 #[.agg #[.string s,.slice x1 n1 c1,.slice x2 n2 c2,.slice x3 n3 c3,.slice x4 n4 c4,.slice x5 n5 c5,.int .i64 p]] w' (Zq e5 w'))) (r:Eq2) (HR:Hid (ors [(cnE n1 n2 n3 n4 n5).map (fun c=>(c,p)),e1,e2,e3,e4,e5]=r)):
  Calls Tryz.prog 12 #[.agg #[.string s,.slice x1 n1 c1,.slice x2 n2 c2,.slice x3 n3 c3,.slice x4 n4 c4,.slice x5 n5 c5,.int .i64 p]] w (Zq r w):=by
 have hnw:=heap_alloc_new w (.cells #[.string s,.slice x1 n1 c1,.slice x2 n2 c2,.slice x3 n3 c3,.slice x4 n4 c4,.slice x5 n5 c5,.int .i64 p] 39);have K0:=hide ((Keep.refl w).alloc (.cells #[.string s,.slice x1 n1 c1,.slice x2 n2 c2,.slice x3 n3 c3,.slice x4 n4 c4,.slice x5 n5 c5,.int .i64 p] 39));go_enter Tryz.func12,Tryz.ntmps12
 go_upto_region 1 with fail
 generalize w.alloc (.cells #[.string s,.slice x1 n1 c1,.slice x2 n2 c2,.slice x3 n3 c3,.slice x4 n4 c4,.slice x5 n5 c5,.int .i64 p] 39)=w0 at hnw K0 ⊢;obtain⟨q0,HQ0⟩:∃ q,Hid (w.heap.size=q):=⟨_,hide rfl⟩;rw[uq HQ0]at hnw ⊢;have HX0:Hid (∀ w':World,Keep w0 w'→w'.cell? ⟨q0,0,none⟩=some (.string s)∧w'.cell? ⟨q0,1,none⟩=some (.slice x1 n1 c1)∧w'.cell? ⟨q0,2,none⟩=some (.slice x2 n2 c2)∧w'.cell? ⟨q0,3,none⟩=some (.slice x3 n3 c3)∧w'.cell? ⟨q0,4,none⟩=some (.slice x4 n4 c4)∧w'.cell? ⟨q0,5,none⟩=some (.slice x5 n5 c5)∧w'.cell? ⟨q0,6,none⟩=some (.int .i64 p)):=hide (fun w' k9=>by
  have h1:=k9.block q0 (Array.getElem?_eq_some_iff.1 hnw).1;rw[hnw]at h1;refine⟨?_,?_,?_,?_,?_,?_,?_⟩<;>simp[World.cell?,h1])
 clear hnw;obtain⟨z0,z1,z2,z3,z4,z5,z6⟩:=(uq HX0) w0 (Keep.refl _);by_cases g0:(16:Int)<(n1:Int)
 ·have hc:cnE n1 n2 n3 n4 n5=some 4:=by
   unfold cnE
   simp only[fst];rw[if_pos (by simp;omega)]
  have hr:r=some (4,p):=by rw[← uq HR,hc];rfl
  subst hr;clear hc HR
  go_upto_region 2 with fail
  refine wp_region_held_drew (S:=(fun w'=>w'.cell? ⟨q0,6,none⟩=some (.int .i64 p))) (by kernel_rfl) (by(obtain⟨_,_,_,_,_,_,g9⟩:=(uq HX0) _ (Keep.refl w0).drew;exact g9)) (fun hHeld=>?_);refine tkk 0 34 hHeld ?_;try simp only[Act.put,Ya,Yb,Yc]
  refine tkk 1 35 hHeld ?_;try simp only[Act.put,Ya,Yb,Yc]
  refine tkk 2 2 hHeld ?_;try simp only[Act.put,Ya,Yb,Yc]
  refine tkk 3 3 hHeld ?_;try simp only[Act.put,Ya,Yb,Yc]
  refine wpAnyH_done (by kernel_rfl) ?_ _;clear hHeld;go_wp2_with fail
  go_ret2;exact⟨(uq K0).trans ((Keep.refl w0).drew),rfl⟩
 by_cases g1:(16:Int)<(n3:Int)
 ·have hc:cnE n1 n2 n3 n4 n5=some 4:=by
   unfold cnE
   simp only[fst];rw[if_pos (by simp;omega)]
  have hr:r=some (4,p):=by rw[← uq HR,hc];rfl
  subst hr;clear hc HR
  go_upto_region 2 with fail
  refine wp_region_held_drew (S:=(fun w'=>w'.cell? ⟨q0,6,none⟩=some (.int .i64 p))) (by kernel_rfl) (by(obtain⟨_,_,_,_,_,_,g9⟩:=(uq HX0) _ (Keep.refl w0).drew;exact g9)) (fun hHeld=>?_);refine tkk 0 34 hHeld ?_;try simp only[Act.put,Ya,Yb,Yc]
  refine tkk 1 35 hHeld ?_;try simp only[Act.put,Ya,Yb,Yc]
  refine tkk 2 2 hHeld ?_;try simp only[Act.put,Ya,Yb,Yc]
  refine tkk 3 3 hHeld ?_;try simp only[Act.put,Ya,Yb,Yc]
  refine wpAnyH_done (by kernel_rfl) ?_ _;clear hHeld;go_wp2_with fail
  go_ret2;exact⟨(uq K0).trans ((Keep.refl w0).drew),rfl⟩
 by_cases g2:(8:Int)<(n2:Int)
 ·have hc:cnE n1 n2 n3 n4 n5=some 4:=by
   unfold cnE
   simp only[fst];rw[if_neg (by simp;omega),if_pos (by simp;omega)]
  have hr:r=some (4,p):=by rw[← uq HR,hc];rfl
  subst hr;clear hc HR
  go_upto_region 2 with fail
  refine wp_region_held_drew (S:=(fun w'=>w'.cell? ⟨q0,6,none⟩=some (.int .i64 p))) (by kernel_rfl) (by(obtain⟨_,_,_,_,_,_,g9⟩:=(uq HX0) _ (Keep.refl w0).drew;exact g9)) (fun hHeld=>?_);refine tkk 0 34 hHeld ?_;try simp only[Act.put,Ya,Yb,Yc]
  refine tkk 1 35 hHeld ?_;try simp only[Act.put,Ya,Yb,Yc]
  refine tkk 2 2 hHeld ?_;try simp only[Act.put,Ya,Yb,Yc]
  refine tkk 3 3 hHeld ?_;try simp only[Act.put,Ya,Yb,Yc]
  refine wpAnyH_done (by kernel_rfl) ?_ _;clear hHeld;go_wp2_with fail
  go_ret2;exact⟨(uq K0).trans ((Keep.refl w0).drew),rfl⟩
 by_cases g3:(4:Int)<(n4:Int)
 ·have hc:cnE n1 n2 n3 n4 n5=some 4:=by
   unfold cnE
   simp only[fst];rw[if_neg (by simp;omega),if_pos (by simp;omega)]
  have hr:r=some (4,p):=by rw[← uq HR,hc];rfl
  subst hr;clear hc HR
  go_upto_region 2 with fail
  refine wp_region_held_drew (S:=(fun w'=>w'.cell? ⟨q0,6,none⟩=some (.int .i64 p))) (by kernel_rfl) (by(obtain⟨_,_,_,_,_,_,g9⟩:=(uq HX0) _ (Keep.refl w0).drew;exact g9)) (fun hHeld=>?_);refine tkk 0 34 hHeld ?_;try simp only[Act.put,Ya,Yb,Yc]
  refine tkk 1 35 hHeld ?_;try simp only[Act.put,Ya,Yb,Yc]
  refine tkk 2 2 hHeld ?_;try simp only[Act.put,Ya,Yb,Yc]
  refine tkk 3 3 hHeld ?_;try simp only[Act.put,Ya,Yb,Yc]
  refine wpAnyH_done (by kernel_rfl) ?_ _;clear hHeld;go_wp2_with fail
  go_ret2;exact⟨(uq K0).trans ((Keep.refl w0).drew),rfl⟩
 by_cases g4:(64:Int)<(n5:Int)
 ·have hc:cnE n1 n2 n3 n4 n5=some 4:=by
   unfold cnE
   simp only[fst];rw[if_neg (by simp;omega),if_pos (by simp;omega)]
  have hr:r=some (4,p):=by rw[← uq HR,hc];rfl
  subst hr;clear hc HR
  go_upto_region 2 with fail
  refine wp_region_held_drew (S:=(fun w'=>w'.cell? ⟨q0,6,none⟩=some (.int .i64 p))) (by kernel_rfl) (by(obtain⟨_,_,_,_,_,_,g9⟩:=(uq HX0) _ (Keep.refl w0).drew;exact g9)) (fun hHeld=>?_);refine tkk 0 34 hHeld ?_;try simp only[Act.put,Ya,Yb,Yc]
  refine tkk 1 35 hHeld ?_;try simp only[Act.put,Ya,Yb,Yc]
  refine tkk 2 2 hHeld ?_;try simp only[Act.put,Ya,Yb,Yc]
  refine tkk 3 3 hHeld ?_;try simp only[Act.put,Ya,Yb,Yc]
  refine wpAnyH_done (by kernel_rfl) ?_ _;clear hHeld;go_wp2_with fail
  go_ret2;exact⟨(uq K0).trans ((Keep.refl w0).drew),rfl⟩
 by_cases k0:((n1:Int)==0)=true
 ·have hc:cnE n1 n2 n3 n4 n5=some 73:=by
   unfold cnE
   simp only[fst];simp only[beq_iff_eq]at k0;rw[if_neg (by simp;omega),if_neg (by simp;omega),if_pos (by simp;omega)]
  have hr:r=some (73,p):=by rw[← uq HR,hc];rfl
  subst hr;clear hc HR
  go_upto_region 4 with fail
  refine wp_region_held_drew (S:=(fun w'=>w'.cell? ⟨q0,6,none⟩=some (.int .i64 p))) (by kernel_rfl) (by(obtain⟨_,_,_,_,_,_,g9⟩:=(uq HX0) _ (Keep.refl w0).drew;exact g9)) (fun hHeld=>?_);refine tkk 0 52 hHeld ?_;try simp only[Act.put,Ya,Yb,Yc]
  refine tkk 1 53 hHeld ?_;try simp only[Act.put,Ya,Yb,Yc]
  refine tkk 2 2 hHeld ?_;try simp only[Act.put,Ya,Yb,Yc]
  refine tkk 3 3 hHeld ?_;try simp only[Act.put,Ya,Yb,Yc]
  refine wpAnyH_done (by kernel_rfl) ?_ _;clear hHeld;go_wp2_with fail
  go_ret2;exact⟨(uq K0).trans ((Keep.refl w0).drew),rfl⟩
 have k0:((n1:Int)==0)=false:=by simpa using k0
 by_cases k1:((n3:Int)==0)=true
 ·have hc:cnE n1 n2 n3 n4 n5=some 73:=by
   unfold cnE
   simp only[fst];simp only[beq_iff_eq]at k1;rw[if_neg (by simp;omega),if_neg (by simp;omega),if_pos (by simp;omega)]
  have hr:r=some (73,p):=by rw[← uq HR,hc];rfl
  subst hr;clear hc HR
  go_upto_region 4 with fail
  refine wp_region_held_drew (S:=(fun w'=>w'.cell? ⟨q0,6,none⟩=some (.int .i64 p))) (by kernel_rfl) (by(obtain⟨_,_,_,_,_,_,g9⟩:=(uq HX0) _ (Keep.refl w0).drew;exact g9)) (fun hHeld=>?_);refine tkk 0 52 hHeld ?_;try simp only[Act.put,Ya,Yb,Yc]
  refine tkk 1 53 hHeld ?_;try simp only[Act.put,Ya,Yb,Yc]
  refine tkk 2 2 hHeld ?_;try simp only[Act.put,Ya,Yb,Yc]
  refine tkk 3 3 hHeld ?_;try simp only[Act.put,Ya,Yb,Yc]
  refine wpAnyH_done (by kernel_rfl) ?_ _;clear hHeld;go_wp2_with fail
  go_ret2;exact⟨(uq K0).trans ((Keep.refl w0).drew),rfl⟩
 have k1:((n3:Int)==0)=false:=by simpa using k1
 by_cases k2:((n4:Int)==0)=true
 ·have hc:cnE n1 n2 n3 n4 n5=some 73:=by
   unfold cnE
   simp only[fst];simp only[beq_iff_eq]at k2;rw[if_neg (by simp;omega),if_neg (by simp;omega),if_pos (by simp;omega)]
  have hr:r=some (73,p):=by rw[← uq HR,hc];rfl
  subst hr;clear hc HR
  go_upto_region 4 with fail
  refine wp_region_held_drew (S:=(fun w'=>w'.cell? ⟨q0,6,none⟩=some (.int .i64 p))) (by kernel_rfl) (by(obtain⟨_,_,_,_,_,_,g9⟩:=(uq HX0) _ (Keep.refl w0).drew;exact g9)) (fun hHeld=>?_);refine tkk 0 52 hHeld ?_;try simp only[Act.put,Ya,Yb,Yc]
  refine tkk 1 53 hHeld ?_;try simp only[Act.put,Ya,Yb,Yc]
  refine tkk 2 2 hHeld ?_;try simp only[Act.put,Ya,Yb,Yc]
  refine tkk 3 3 hHeld ?_;try simp only[Act.put,Ya,Yb,Yc]
  refine wpAnyH_done (by kernel_rfl) ?_ _;clear hHeld;go_wp2_with fail
  go_ret2;exact⟨(uq K0).trans ((Keep.refl w0).drew),rfl⟩
 have k2:((n4:Int)==0)=false:=by simpa using k2
 have hc:cnE n1 n2 n3 n4 n5=none:=by
  unfold cnE
  simp only[fst];simp only[beq_eq_false_iff_ne,ne_eq]at k0 k1 k2;rw[if_neg (by simp;omega),if_neg (by simp;omega),if_neg (by simp;omega)]
 have HR0:Hid (ors [e1,e2,e3,e4,e5]=r):=hide (by have:=uq HR;rw[hc]at this;exact this);have h16:n3≤16:=by omega
 replace T4:=hide ((uq T4) h16);clear hc h16 HR;have TK:=hide ((uq T1) _ ((uq K0).trans (Keep.refl w0)));rcases e1 with _|⟨c,pp⟩
 rotate_left
 ·have hc:(c==0)=false:=by have:=(uq Z1) _ rfl;simpa using this
  have hr:r=some (c,pp):=by rw[← uq HR0];rfl
  subst hr;clear HR0;go_wp2_with fail
  (refine(uq TK).mono ?_;rintro e w9 ⟨hk9,rfl⟩);simp only[ez];go_wp2_with fail
  go_ret2;exact⟨((uq K0).trans (Keep.refl w0)).trans hk9,rfl⟩
 go_wp2_with fail
 (refine(uq TK).mono ?_;rintro e w1 ⟨hk9,rfl⟩);simp only[ez];have K1:=hide ((Keep.refl w0).trans hk9);clear hk9 TK z0 z1 z2 z3 z4 z5 z6;obtain⟨z0,z1,z2,z3,z4,z5,z6⟩:=(uq HX0) w1 (uq K1);have TK:=hide ((uq T2) _ ((uq K0).trans (uq K1)));rcases e2 with _|⟨c,pp⟩
 rotate_left
 ·have hc:(c==0)=false:=by have:=(uq Z2) _ rfl;simpa using this
  have hr:r=some (c,pp):=by rw[← uq HR0];rfl
  subst hr;clear HR0;go_wp2_with fail
  (refine(uq TK).mono ?_;rintro e w9 ⟨hk9,rfl⟩);simp only[ez];go_wp2_with fail
  go_ret2;exact⟨((uq K0).trans (uq K1)).trans hk9,rfl⟩
 go_wp2_with fail
 (refine(uq TK).mono ?_;rintro e w2 ⟨hk9,rfl⟩);simp only[ez];have K2:=hide ((uq K1).trans hk9);clear hk9 TK z0 z1 z2 z3 z4 z5 z6;obtain⟨z0,z1,z2,z3,z4,z5,z6⟩:=(uq HX0) w2 (uq K2);have TK:=hide ((uq T3) _ ((uq K0).trans (uq K2)));rcases e3 with _|⟨c,pp⟩
 rotate_left
 ·have hc:(c==0)=false:=by have:=(uq Z3) _ rfl;simpa using this
  have hr:r=some (c,pp):=by rw[← uq HR0];rfl
  subst hr;clear HR0;go_wp2_with fail
  (refine(uq TK).mono ?_;rintro e w9 ⟨hk9,rfl⟩);simp only[ez];go_wp2_with fail
  go_ret2;exact⟨((uq K0).trans (uq K2)).trans hk9,rfl⟩
 go_wp2_with fail
 (refine(uq TK).mono ?_;rintro e w3 ⟨hk9,rfl⟩);simp only[ez];have K3:=hide ((uq K2).trans hk9);clear hk9 TK z0 z1 z2 z3 z4 z5 z6;obtain⟨z0,z1,z2,z3,z4,z5,z6⟩:=(uq HX0) w3 (uq K3);have TK:=hide ((uq T4) _ ((uq K0).trans (uq K3)));rcases e4 with _|⟨c,pp⟩
 rotate_left
 ·have hc:(c==0)=false:=by have:=(uq Z4) _ rfl;simpa using this
  have hr:r=some (c,pp):=by rw[← uq HR0];rfl
  subst hr;clear HR0;go_wp2_with fail
  (refine(uq TK).mono ?_;rintro e w9 ⟨hk9,rfl⟩);simp only[ez];go_wp2_with fail
  go_ret2;exact⟨((uq K0).trans (uq K3)).trans hk9,rfl⟩
 go_wp2_with fail
 (refine(uq TK).mono ?_;rintro e w4 ⟨hk9,rfl⟩);simp only[ez];have K4:=hide ((uq K3).trans hk9);clear hk9 TK z0 z1 z2 z3 z4 z5 z6;obtain⟨z0,z1,z2,z3,z4,z5,z6⟩:=(uq HX0) w4 (uq K4);replace T5:=hide ((uq T5) (by simp));have TK:=hide ((uq T5) _ ((uq K0).trans (uq K4)));go_wp2_with fail
 (refine(uq TK).mono ?_;rintro e w9 ⟨hk9,rfl⟩);go_wp2_with fail
 go_ret2;have hr:r=e5:=by rw[← uq HR0];cases e5<;>rfl
 subst hr;exact⟨((uq K0).trans (uq K4)).trans hk9,rfl⟩
end V
end Go.Proofs.YtpmaonkelkmhbaaGreat
