/- Package need: headsOf's walk. -/
import Derived.Test.YtpmaonkelkmhbaaGreatNjA
import Derived.Laws.AppendOwn
import Derived.Laws.OwnMore
import Derived.Laws.MakeOwn
import Derived.OwnWalk
namespace Go.Proofs.YtpmaonkelkmhbaaGreat
open Go.RowKit
attribute [local go_sem ↓] Go.wp_at_zero Go.wp_at_succ
set_option linter.unusedVariables false
set_option linter.unusedSimpArgs false
set_option maxRecDepth 10000
namespace Nj
def Hq (rn:Nat) (N:Nat→Nat) (G:Nat→Nat→List UInt8) (w:World) (e:Ending) (w':World):Prop:=∃ T,e= .returned (.slice (some ⟨T,0,none⟩) rn rn)∧Keep w w'∧w.heap.size≤T∧Hs w' T rn N G
set_option maxHeartbeats 8000000 in
theorem zd3 (s:ByteArray) (x1:Option Addr) (n1 c1:Nat) (x2:Option Addr) (n2 c2:Nat) (x3:Option Addr) (n3 c3:Nat) (x4:Option Addr) (n4 c4:Nat) (x5:Option Addr) (n5 c5:Nat) (p:Int) (f:Bool) (ra:Option Addr) (rn rc:Nat) (H:Nat→List UInt8) (J:Nat→Nat) (PA:Nat→Option Addr) (PN PC:Nat→Nat) (PH:Nat→List UInt8) (PP:Nat→Int) (G:Nat→Nat→List UInt8) (Y:Nat→Nat→Int) (w:World) (hn:rn≤1000)
  (HR:Hid (∀ k,k<rn→∃ ad,ra=some ad∧ad.block<w.heap.size∧w.cell? (ad.add k)=some (.string (sv (H k)))))
  (HJ:Hid (∀ k,k<rn→J k<n3))
  (HP:Hid (∀ m,m<n3→∃ ad,x3=some ad∧ad.block<w.heap.size∧w.cell? (ad.add (m * 3))=some (.string (sv (PH m)))∧w.cell? ⟨(ad.add (m * 3)).block,(ad.add (m * 3)).off+1,none⟩=some (.slice (PA m) (PN m) (PC m))∧w.cell? ⟨(ad.add (m * 3)).block,(ad.add (m * 3)).off+2,none⟩=some (.int .i64 (PP m))))
  (HB:Hid (∀ m,m<n3→PN m≤1000))
  (HG:Hid (∀ m,m<n3→∀ o,o<PN m→∃ ad,PA m=some ad∧ad.block<w.heap.size∧w.cell? (ad.add o)=some (.string (sv (G m o)))))
  (TP:Hid (∀ k,k<rn→∀ w',Keep w w'→Calls Tryz.prog 61 #[.agg #[.string s,.slice x1 n1 c1,.slice x2 n2 c2,.slice x3 n3 c3,.slice x4 n4 c4,.slice x5 n5 c5,.int .i64 p],.string (sv (H k))] w' fun e w''=>e= .returned (.int .i64 (J k:Int))∧Keep w' w''))
  (TH:Hid (∀ m,m<n3→∀ o,o<PN m→0≤Y m o∧∀ w',Keep w w'→Calls Tryz.prog 58 #[.agg #[.string s,.slice x1 n1 c1,.slice x2 n2 c2,.slice x3 n3 c3,.slice x4 n4 c4,.slice x5 n5 c5,.int .i64 p],.string (sv (G m o))] w' fun e w''=>e= .returned (.int .i64 (Y m o))∧Keep w' w'')):
  Calls Tryz.prog 42 #[.agg #[.string s,.slice x1 n1 c1,.slice x2 n2 c2,.slice x3 n3 c3,.slice x4 n4 c4,.slice x5 n5 c5,.int .i64 p],.agg #[.bool f,.slice ra rn rc]] w (Hq rn (fun k=>PN (J k)) (fun k=>G (J k)) w):=by
 obtain⟨i0,hi0,hz0,hz1,hz2⟩:=W.info_f znF;obtain⟨i1,hi1,hy0,hy1,hy2⟩:=W.info_f zgr;obtain⟨ZZ,hZ,hmk⟩:∃ ZZ:List Value,(ZZ.length=rn∧∀ j,j<rn→ZZ.getD j undef= .slice none 0 0)∧∀ w,(Instr.makeSlice 111 (.int .i64 (rn:Int)) (.int .i64 (rn:Int))).run Tryz.prog w= .ok (.slice (some ⟨w.heap.size,0,none⟩) rn rn) (w.alloc (.cells ZZ.toArray 43)):=by
  refine⟨List.replicate rn (.slice none 0 0),⟨by simp,fun j hj=>by simp[hj]⟩,fun w=>?_⟩;have h:=run_make (P:=Tryz.prog) w 111 43 i0 _ Tryz.underlying111 hi0 hz0 .i64 .i64 (rn:Int) (rn:Int) (by omega) (by omega) (by rw[hz2];omega) (by omega);rw[hz1]at h;have e:madeCells (Value.slice none 0 0).cells (rn * 1)=(List.replicate rn (Value.slice none 0 0)).toArray:=by
   apply Array.ext
   ·simp[size_madeCells]
   ·intro i h1 h2
    simp[madeCells,Value.cells,Nat.mod_one]
  simp only[Int.toNat_natCast]at h;rw[h,e]
 have hx0:=heap_alloc_new w (.cells #[.string s,.slice x1 n1 c1,.slice x2 n2 c2,.slice x3 n3 c3,.slice x4 n4 c4,.slice x5 n5 c5,.int .i64 p] 39);have hx1:=heap_alloc_new (w.alloc (.cells #[.string s,.slice x1 n1 c1,.slice x2 n2 c2,.slice x3 n3 c3,.slice x4 n4 c4,.slice x5 n5 c5,.int .i64 p] 39)) (.cells #[.bool f,.slice ra rn rc] 59);have hx2:=heap_alloc_new ((w.alloc (.cells #[.string s,.slice x1 n1 c1,.slice x2 n2 c2,.slice x3 n3 c3,.slice x4 n4 c4,.slice x5 n5 c5,.int .i64 p] 39)).alloc (.cells #[.bool f,.slice ra rn rc] 59)) (.cells ZZ.toArray 43);have ke:=(Keep.refl (w.alloc (.cells #[.string s,.slice x1 n1 c1,.slice x2 n2 c2,.slice x3 n3 c3,.slice x4 n4 c4,.slice x5 n5 c5,.int .i64 p] 39))).alloc (.cells #[.bool f,.slice ra rn rc] 59);have KB:=hide ((Keep.refl w).alloc (.cells #[.string s,.slice x1 n1 c1,.slice x2 n2 c2,.slice x3 n3 c3,.slice x4 n4 c4,.slice x5 n5 c5,.int .i64 p] 39) |>.trans ke);have KZ:=hide ((Keep.refl ((w.alloc (.cells #[.string s,.slice x1 n1 c1,.slice x2 n2 c2,.slice x3 n3 c3,.slice x4 n4 c4,.slice x5 n5 c5,.int .i64 p] 39)).alloc (.cells #[.bool f,.slice ra rn rc] 59))).alloc (.cells ZZ.toArray 43));have e0:(w.alloc (.cells #[.string s,.slice x1 n1 c1,.slice x2 n2 c2,.slice x3 n3 c3,.slice x4 n4 c4,.slice x5 n5 c5,.int .i64 p] 39)).heap.size=w.heap.size+1:=by simp[go_sem]
 have e9:((w.alloc (.cells #[.string s,.slice x1 n1 c1,.slice x2 n2 c2,.slice x3 n3 c3,.slice x4 n4 c4,.slice x5 n5 c5,.int .i64 p] 39)).alloc (.cells #[.bool f,.slice ra rn rc] 59)).heap.size=w.heap.size+2:=by simp[go_sem]
 have hx3:=(ke.block w.heap.size (by omega)).trans hx0;rw[e0]at hx1;rw[e9]at hx2;clear ke hx0 e0;go_enter Tryz.func42,Tryz.ntmps42
 go_upto_region 2 with fail
 generalize (w.alloc (.cells #[.string s,.slice x1 n1 c1,.slice x2 n2 c2,.slice x3 n3 c3,.slice x4 n4 c4,.slice x5 n5 c5,.int .i64 p] 39)).alloc (.cells #[.bool f,.slice ra rn rc] 59)=wb at hx1 hx2 hx3 KB KZ e9 ⊢;have HT:Hid (wb.heap.size=w.heap.size+2):=hide e9;obtain⟨q0,hq⟩:∃ q,w.heap.size=q:=⟨_,rfl⟩;have HM:Hid (Ho (wb.alloc (.cells ZZ.toArray 43)) (q0+2) rn 0 (fun k=>PN (J k)) (fun k=>G (J k))):=hide ⟨ZZ,hZ.1,by rw[← hq];exact hx2,fun j h=>by omega,fun j _ h=>hZ.2 j h⟩;have HQW:=hide hq;rw[hq]at hx1 hx3 HT ⊢;have HX:Hid (∀ w':World,Keep wb w'→(w'.cell? ⟨q0,0,none⟩=some (.string s)∧w'.cell? ⟨q0,1,none⟩=some (.slice x1 n1 c1)∧w'.cell? ⟨q0,2,none⟩=some (.slice x2 n2 c2)∧w'.cell? ⟨q0,3,none⟩=some (.slice x3 n3 c3)∧w'.cell? ⟨q0,4,none⟩=some (.slice x4 n4 c4)∧w'.cell? ⟨q0,5,none⟩=some (.slice x5 n5 c5)∧w'.cell? ⟨q0,6,none⟩=some (.int .i64 p))∧w'.cell? ⟨q0+1,0,none⟩=some (.bool f)∧w'.cell? ⟨q0+1,1,none⟩=some (.slice ra rn rc)):=hide (fun w' k9=>by
  have h1:=k9.block q0 (Array.getElem?_eq_some_iff.1 hx3).1;have h2:=k9.block (q0+1) (Array.getElem?_eq_some_iff.1 hx1).1;rw[hx3]at h1;rw[hx1]at h2;refine⟨⟨?_,?_,?_,?_,?_,?_,?_⟩,?_,?_⟩<;>simp[World.cell?,h1,h2])
 generalize wb.alloc (.cells ZZ.toArray 43)=wz at HM KZ ⊢;clear hx1 hx2 hx3 hmk e9 hZ hq;obtain⟨⟨z0,z1,z2,z3,z4,z5,z6⟩,f0,f1⟩:=(uq HX) wz (uq KZ);go_wp2_with fail
 clear z0 z1 z2 z3 z4 z5 z6 f0 f1
 go_loopw [18] (fun vi wr=>∃ k:Nat,vi= .int .i64 (k:Int)∧k≤rn∧Hid (Ho wr (q0+2) rn k (fun k=>PN (J k)) (fun k=>G (J k)))∧Hid (Keep wb wr)) (fun vi _=>rn - (intOf vi).toNat)
 case atStart=>exact⟨0,rfl,Nat.zero_le _,HM,KZ⟩
 case round=>
  clear HM KZ;obtain⟨k,rfl,hk,MK,KW⟩:=hrel;by_cases hlt:k<rn
  ·have li:(k:Int)<(rn:Int):=by omega
   obtain⟨ad,rfl,hb,e0⟩:=(uq HR) k hlt;have y0:=V.far_cell ((uq KB).trans (uq KW)) (by rw[V.add_block9];exact hb) e0;clear e0;obtain⟨⟨z0,z1,z2,z3,z4,z5,z6⟩,f0,f1⟩:=(uq HX) wr (uq KW);go_wp2_with fail
   (refine((uq TP) k hlt _ ((uq KB).trans (uq KW))).mono ?_;rintro e w2 ⟨rfl,hk9⟩;have K2:=hide ((uq KW).trans hk9);have M2:=hide ((uq MK).keep hk9);clear hk9);clear z0 z1 z2 z3 z4 z5 z6 f0 f1 y0 MK KW;have hjk:=(uq HJ) k hlt;have HJK:=hide hjk;obtain⟨us,hus,hT,h3,h4⟩:=uq M2;have HMS:Hid (Hm w2 w2 (q0+2) k 0 us (G (J k))):=hide (Hm.start (G (J k)) hus hlt hT h4);have HMO:Hid (∀ w',Hm w2 w' (q0+2) k (PN (J k)) us (G (J k))→Ho w' (q0+2) rn (k+1) (fun k=>PN (J k)) (fun k=>G (J k))):=hide (fun w' h=>Hm.out (N:=fun k=>PN (J k)) (G:=fun k=>G (J k)) hus hlt hT h3 h4 h);have HUS:=hide hus;have HTW:=hide hT.lt;clear hus hT h3 h4 M2;obtain⟨m,hm⟩:∃ m,J k=m:=⟨_,rfl⟩;rw[hm]at hjk HJK HMS HMO ⊢;clear hm;obtain⟨⟨z0,z1,z2,z3,z4,z5,z6⟩,f0,f1⟩:=(uq HX) w2 (uq K2);obtain⟨pd,rfl,hpb,p0,p1,p2⟩:=(uq HP) m hjk;have q1:=V.far_cell ((uq KB).trans (uq K2)) (by show(pd.add (m * 3)).block<_;rw[V.add_block9];exact hpb) p1;clear p0 p1 p2;have li3:(m:Int)<(n3:Int):=by omega
   have hpn:=(uq HB) m hjk;obtain⟨pn,hpn2⟩:∃ pn,PN m=pn:=⟨_,rfl⟩;have HPN:=hide hpn2;rw[hpn2]at hpn q1 HMO;clear hpn2;go_wp2_with fail
   clear z0 z1 z2 z3 z4 z5 z6 f0 f1 q1;obtain⟨w9,hw9⟩:∃ w9,w9=w2:=⟨_,rfl⟩;subst hw9
   go_loopw [35] (fun vo wr=>∃ o:Nat,vo= .int .i64 (o:Int)∧o≤pn∧Hid (w9.heap.size≤wr.heap.size)∧Hid (Hm w9 wr (q0+2) k o us (G m))∧Hid (Keep wb wr)) (fun vo _=>pn - (intOf vo).toNat)
   case atStart=>exact⟨0,rfl,Nat.zero_le _,hide (Nat.le_refl _),HMS,K2⟩
   case round=>
    clear HMS;obtain⟨o,rfl,ho,HSZ,HMW,KW⟩:=hrel;by_cases hol:o<pn
    ·have lo:(o:Int)<(pn:Int):=by omega
     have hol2:o<PN m:=by rw[uq HPN];exact hol
     obtain⟨gd,hpa,hgb,g0⟩:=(uq HG) m hjk o hol2;obtain⟨hY,TH1⟩:=(uq TH) m hjk o hol2;have THk:=hide (TH1 wr ((uq KB).trans (uq KW)));clear TH1;have y0:=V.far_cell ((uq KB).trans (uq KW)) (by rw[V.add_block9];exact hgb) g0;obtain⟨y,hy⟩:∃ y,Y m o=y:=⟨_,rfl⟩;rw[hy]at hY THk;clear g0 hy;rw[hpa];clear hpa;obtain⟨⟨z0,z1,z2,z3,z4,z5,z6⟩,f0,f1⟩:=(uq HX) wr (uq KW);go_wp2_with fail
     (refine(uq THk).mono ?_;rintro e w3 ⟨rfl,hk9⟩;have K3:=hide ((uq KW).trans hk9);have M3:=hide ((uq HMW).keep (uq HSZ) hk9);have HS3:Hid (w9.heap.size≤w3.heap.size):=hide (Nat.le_trans (uq HSZ) hk9.size);clear hk9 THk);clear z0 z1 z2 z3 z4 z5 z6 f0 f1 y0 HMW KW HSZ;obtain⟨u,h5,h6,h7⟩:=uq M3;obtain⟨ua,uc,rfl⟩:=zbA h6;have hkl:k<us.length:=by rw[uq HUS];exact hlt
     have H5:=hide h5;have H6:=hide h6;have H7:=hide h7;have c0:=h5.cell (i:=k) (by simp[hkl]);rw[zdH hkl,if_pos rfl]at c0;have c1:=V.far_cell ((Keep.refl w3).alloc (.cells #[.string (sv (G m o))] 9)) h5.lt c0;have lk1:(k:Int)<(rn:Int):=li;clear h5 h6 h7;go_wp2_with (at_builtin;refine wpList_append_own _ rfl _ _ 43 rfl w9.heap.size 9 i1 _ 1 16 Tryz.underlying43 hi1 hy0 hy1 hy2 rfl (by decide) _ _ _ rfl ((uq H6).alloc _) ⟨w3.heap.size,0,none⟩ 1 1 [.string (sv (G m o))] rfl rfl (Nd.new_v w3 [.string (sv (G m o))] _) (by simp[Value.oneCell']) (by unfold maxLen;omega) (by omega) (by have:=uq HS3;simp;omega) ?_;intro v7 w7 hown' hgrow hnil;obtain⟨a7,c7,rfl⟩:=zbA hown';obtain⟨ha,hb7⟩:=zlB hkl (uq HTW) (Nat.le_trans (uq HS3) (by simp)) ((uq H5).keep ((Keep.refl w3).alloc _)) ((uq H6).alloc _) (fun b hb2 hT=>(((Keep.refl w3).alloc (.cells #[.string (sv (G m o))] 9)).block b (by have:=uq HS3;omega)).trans (uq H7 b hb2 hT)) hown' hgrow;have HM7:=hide hb7;have c2:=ha.cell (i:=k) (by simp[hkl]);have c3:=ha.fz k;have HS7:Hid (w9.heap.size≤w7.heap.size):=hide (Nat.le_trans (Nat.le_trans (uq HS3) (by simp)) hgrow.size);have K7:Hid (Keep wb w7):=hide (Below.grown ((uq K3).alloc (.cells #[.string (sv (G m o))] 9)) hgrow (by have h1:=Below.size (uq K3);simp;omega) (fun j ej=>by have h1:=((uq H6).lt j ej).1;have h2:=Below.size (uq K2);omega));clear hown' hgrow hnil ha hb7)
     go_roundw
     case rel=>exact⟨o+1,by go_num,hol,hide (by simpa using uq HS7),HM7,hide (Below.setCell (uq K7) (by show wb.heap.size≤q0+2;have:=uq HT;omega) _)⟩
     case measure=>simp[intOf];omega
    ·have lo:¬(o:Int)<(pn:Int):=by omega
     obtain rfl:o=pn:=by omega
     go_wp2_with fail
     go_roundw
     case rel=>exact⟨k+1,by go_num,hlt,hide ((uq HMO) _ (uq HMW)),KW⟩
     case measure=>simp[intOf];omega
  ·have li:¬(k:Int)<(rn:Int):=by omega
   obtain rfl:k=rn:=by omega
   go_wp2_with fail
   go_ret;obtain⟨us,h1,h2,h3,h4⟩:=uq MK;exact⟨q0+2,rfl,(uq KB).trans (uq KW),by rw[uq HQW];omega,us,h1,h2,h3⟩
end Nj
end Go.Proofs.YtpmaonkelkmhbaaGreat
