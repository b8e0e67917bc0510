/- NeedApart's walk, over letters. -/
import Derived.Test.YtpmaonkelkmhbaaGreatNjE
import Derived.Test.YtpmaonkelkmhbaaGreatLSkip
namespace Go.Proofs.YtpmaonkelkmhbaaGreat
open Go.RowKit
attribute [local go_sem ↓] Go.wp_at_zero Go.wp_at_succ
set_option linter.unusedVariables false
set_option linter.unusedSimpArgs false
set_option maxRecDepth 10000
namespace Nj
theorem kcj {w w':World} {a:Addr} {v:Value} (hk:Keep w w') (h:w.cell? a=some v):w'.cell? a=some v:=by
 rw[Below.cell hk (World.block_lt_of_cell? w a h)];exact h
theorem zi8:∀(L:List (Nat×Nat)) (j:Nat),j<L.length→(pcs L)[j * 2]? =some (.int .i64 ((L.getD j (0,0)).1:Int))∧(pcs L)[j * 2+1]? =some (.int .i64 ((L.getD j (0,0)).2:Int))
 | [],j,h=>by simp at h
 |x :: L,0,h=>by simp[pcs]
 |x :: L,j+1,h=>by
  have:=zi8 L j (by simpa using h);rw[pcs,show(j+1) * 2=j * 2+1+1 by omega];simpa using this
theorem zhD {w:World} {B:Nat} {a:Option Addr} {c n k:Nat} {L:List (Nat×Nat)} (h:w.ownsRow B 57 2 (.slice a n c) L.length (pcs L)) (hk:k<L.length):∃ ad,a=some ad∧w.cell? (ad.add (k * 2))=some (.int .i64 ((L.getD k (0,0)).1:Int))∧w.cell? ⟨(ad.add (k * 2)).block,(ad.add (k * 2)).off+1,none⟩=some (.int .i64 ((L.getD k (0,0)).2:Int)):=by
 obtain⟨g,cap,e,hg,hb,hc,hx⟩:=Nd.own_cell h (by omega);injection e with e1 e2 e3
 subst e1;obtain⟨p1,p2⟩:=zi8 L k hk;refine⟨_,rfl,?_,?_⟩
 ·rw[W.add_pl,Nat.zero_add];exact hx _ _ p1
 ·rw[W.add_pl,Nat.zero_add];exact hx _ _ p2
set_option maxHeartbeats 4000000 in
theorem nap_yes (a0 a1 a2 a3 a4:Int) (aN:Option Addr) (nN cN:Nat) (aS:Option Addr) (nS cS:Nat) (a5 a6:Int) (j:Nat) (s:ByteArray) (x1:Option Addr) (n1 c1:Nat) (x2:Option Addr) (n2 c2:Nat) (x3:Option Addr) (n3 c3:Nat) (x4:Option Addr) (n4 c4:Nat) (x5:Option Addr) (n5 c5:Nat) (p:Int) (TA TB:Nat→List UInt8) (TP:Nat→Int) (PH:Nat→List UInt8) (PA:Nat→Option Addr) (PN PC:Nat→Nat) (PP:Nat→Int) (GA:Nat→Option Addr) (GN GC:Nat→Nat) (F:Nat→Nat→Bool) (RA:Nat→Nat→Option Addr) (RN RC:Nat→Nat→Nat) (H:Nat→Nat→Nat→List UInt8) (HA HB:Nat→Nat) (PL:Nat→List (Nat×Nat)) (cp:Int) (w:World) (hj:j<nN) (hn3:n3≤1000) (hn4:n4≤1000) (hn5:n5≤1000)
  (HC:Hid (∃ ad,aN=some ad∧ad.block<w.heap.size∧w.cell? (ad.add (j * 7))=some (.string s)∧w.cell? ⟨(ad.add (j * 7)).block,(ad.add (j * 7)).off+1,none⟩=some (.slice x1 n1 c1)∧w.cell? ⟨(ad.add (j * 7)).block,(ad.add (j * 7)).off+2,none⟩=some (.slice x2 n2 c2)∧w.cell? ⟨(ad.add (j * 7)).block,(ad.add (j * 7)).off+3,none⟩=some (.slice x3 n3 c3)∧w.cell? ⟨(ad.add (j * 7)).block,(ad.add (j * 7)).off+4,none⟩=some (.slice x4 n4 c4)∧w.cell? ⟨(ad.add (j * 7)).block,(ad.add (j * 7)).off+5,none⟩=some (.slice x5 n5 c5)∧w.cell? ⟨(ad.add (j * 7)).block,(ad.add (j * 7)).off+6,none⟩=some (.int .i64 p)))
  (HFo:Hid (∀ k,k<n5→∃ ad,x5=some ad∧ad.block<w.heap.size∧w.cell? (ad.add (k * 3))=some (.string (sv (TA k)))∧w.cell? ⟨(ad.add (k * 3)).block,(ad.add (k * 3)).off+1,none⟩=some (.string (sv (TB k)))∧w.cell? ⟨(ad.add (k * 3)).block,(ad.add (k * 3)).off+2,none⟩=some (.int .i64 (TP k))))
  (HPh:Hid (∀ k,k<n3→∃ ad,x3=some ad∧ad.block<w.heap.size∧w.cell? (ad.add (k * 3))=some (.string (sv (PH k)))∧w.cell? ⟨(ad.add (k * 3)).block,(ad.add (k * 3)).off+1,none⟩=some (.slice (PA k) (PN k) (PC k))∧w.cell? ⟨(ad.add (k * 3)).block,(ad.add (k * 3)).off+2,none⟩=some (.int .i64 (PP k))))
  (HGr:Hid (∀ i,i<n4→∃ ad,x4=some ad∧ad.block<w.heap.size∧w.cell? (ad.add i)=some (.slice (GA i) (GN i) (GC i))))
  (HRi:Hid (∀ i,i<n4→∀ k,k<GN i→∃ ad,GA i=some ad∧ad.block<w.heap.size∧w.cell? (ad.add (k * 2))=some (.bool (F i k))∧w.cell? ⟨(ad.add (k * 2)).block,(ad.add (k * 2)).off+1,none⟩=some (.slice (RA i k) (RN i k) (RC i k))))
  (HNa:Hid (∀ i,i<n4→∀ k,k<GN i→∀ m,m<RN i k→∃ ad,RA i k=some ad∧ad.block<w.heap.size∧w.cell? (ad.add m)=some (.string (sv (H i k m)))))
  (HG2:Hid (∀ i,i<n4→GN i≤2))
  (HHA:Hid (∀ f,f<n5→HA f<n3∧HB f<n3))
  (HPL:Hid (∀ g,g<n4→∀ k,k<(PL g).length→∀ xa xb,(PL g).getD k (0,0)=(xa,xb)→GN g=2∧xa<RN g 0∧xb<RN g 1))
  (HPB:Hid (∀ g,g<n4→(PL g).length≤1000000))
  (HFD:Hid (∀ f,f<n5→∀ g,g<n4→GN g=2→∀ a b,a<RN g 0→b<RN g 1→(H g 0 a=PH (HA f)→H g 1 b=PH (HB f)→anB (eF (H g 0) (H g 1) (PL g) (PH (HA f)) (PH (HB f))) (PL g).length=true)∧(H g 0 a=PH (HB f)→H g 1 b=PH (HA f)→anB (eF (H g 0) (H g 1) (PL g) (PH (HB f)) (PH (HA f))) (PL g).length=true)))
  (TC:Hid (∀ w',Keep w w'→Calls Tryz.prog 4 #[.agg #[.int .i64 a0,.int .i64 a1,.int .i64 a2,.int .i64 a3,.int .i64 a4,.slice aN nN cN,.slice aS nS cS,.int .i64 a5,.int .i64 a6]] w' fun e w''=>e= .returned (.tuple #[.int .i64 0,.int .i64 cp])∧Keep w' w''))
  (TF:Hid (∀ w',Keep w w'→Calls Tryz.prog 5 #[.agg #[.int .i64 a0,.int .i64 a1,.int .i64 a2,.int .i64 a3,.int .i64 a4,.slice aN nN cN,.slice aS nS cS,.int .i64 a5,.int .i64 a6]] w' (S.Ak w')))
  (TJ:Hid (∀ w' q,Keep w w'→(∀ k,k<n3→q<w'.heap.size∧w'.cell? ⟨q,k,none⟩=some (.int .i64 0))→Calls Tryz.prog 7 #[.agg #[.string s,.slice x1 n1 c1,.slice x2 n2 c2,.slice x3 n3 c3,.slice x4 n4 c4,.slice x5 n5 c5,.int .i64 p],.slice (some ⟨q,0,none⟩) n3 n3] w' (Jsq n4 PL w')))
  (THa:Hid (∀ f,f<n5→∀ w',Keep w w'→Calls Tryz.prog 8 #[.agg #[.string s,.slice x1 n1 c1,.slice x2 n2 c2,.slice x3 n3 c3,.slice x4 n4 c4,.slice x5 n5 c5,.int .i64 p],.string (sv (TA f))] w' fun e w''=>e= .returned (.int .i64 (HA f:Int))∧Keep w' w''))
  (THb:Hid (∀ f,f<n5→∀ w',Keep w w'→Calls Tryz.prog 8 #[.agg #[.string s,.slice x1 n1 c1,.slice x2 n2 c2,.slice x3 n3 c3,.slice x4 n4 c4,.slice x5 n5 c5,.int .i64 p],.string (sv (TB f))] w' fun e w''=>e= .returned (.int .i64 (HB f:Int))∧Keep w' w''))
  (TPl:Hid (∀ m,m<n3→∀ w',Keep w w'→Calls Tryz.prog 9 #[.agg #[.string s,.slice x1 n1 c1,.slice x2 n2 c2,.slice x3 n3 c3,.slice x4 n4 c4,.slice x5 n5 c5,.int .i64 p],.string (sv (PH m))] w' fun e w''=>∃ gi ri,e= .returned (.tuple #[.int .i64 gi,.int .i64 ri])∧Keep w' w''∧PlQ n4 GN RN H (PH m) gi ri))
  (AW:Hid (∀ w',Calls Tryz.prog 6 #[] w' fun e w''=>e= .returned (.bool true)∧Keep w' w'')):
  Calls Tryz.prog 3 #[.agg #[.int .i64 a0,.int .i64 a1,.int .i64 a2,.int .i64 a3,.int .i64 a4,.slice aN nN cN,.slice aS nS cS,.int .i64 a5,.int .i64 a6],.int .i64 (j:Int)] w fun e w'=>e= .returned (.bool true)∧Keep w w':=by
 obtain⟨i0,hi0,hz0,hz1,hz2⟩:=W.info_f Nd.infoI;obtain⟨ZZ,hZ,hmk⟩:∃ ZZ:Array Value,(∀ k,k<n3→ZZ[k]? =some (.int .i64 0))∧∀ w,(Instr.makeSlice 42 (.int .i64 (n3:Int)) (.int .i64 (n3:Int))).run Tryz.prog w= .ok (.slice (some ⟨w.heap.size,0,none⟩) n3 n3) (w.alloc (.cells ZZ 2)):=by
  refine⟨(List.replicate n3 (.int .i64 0)).toArray,fun k hk=>by simp[hk],fun w=>?_⟩;have h:=run_make (P:=Tryz.prog) w 42 2 i0 _ Tryz.underlying42 hi0 hz0 .i64 .i64 (n3:Int) (n3:Int) (by omega) (by omega) (by rw[hz2];omega) (by omega);rw[hz1]at h;have e:madeCells (Value.int .i64 0).cells (n3 * 1)=(List.replicate n3 (Value.int .i64 0)).toArray:=by
   apply Array.ext
   ·simp[size_madeCells]
   ·intro i h1 h2
    simp[madeCells,Value.cells,Nat.mod_one]
  simp only[Int.toNat_natCast]at h;rw[h,e]
 have hx0:=heap_alloc_new w (.cells #[.int .i64 a0,.int .i64 a1,.int .i64 a2,.int .i64 a3,.int .i64 a4,.slice aN nN cN,.slice aS nS cS,.int .i64 a5,.int .i64 a6] 27);have KB:=hide ((Keep.refl w).alloc (.cells #[.int .i64 a0,.int .i64 a1,.int .i64 a2,.int .i64 a3,.int .i64 a4,.slice aN nN cN,.slice aS nS cS,.int .i64 a5,.int .i64 a6] 27));go_enter Tryz.func3,Tryz.ntmps3
 go_upto_region 1 with fail
 generalize w.alloc (.cells #[.int .i64 a0,.int .i64 a1,.int .i64 a2,.int .i64 a3,.int .i64 a4,.slice aN nN cN,.slice aS nS cS,.int .i64 a5,.int .i64 a6] 27)=wb at hx0 KB ⊢;obtain⟨q0,hq⟩:∃ q,w.heap.size=q:=⟨_,rfl⟩;rw[hq]at hx0 ⊢;have HX:Hid (∀ w':World,Keep wb w'→w'.cell? ⟨q0,0,none⟩=some (.int .i64 a0)∧w'.cell? ⟨q0,1,none⟩=some (.int .i64 a1)∧w'.cell? ⟨q0,2,none⟩=some (.int .i64 a2)∧w'.cell? ⟨q0,3,none⟩=some (.int .i64 a3)∧w'.cell? ⟨q0,4,none⟩=some (.int .i64 a4)∧w'.cell? ⟨q0,5,none⟩=some (.slice aN nN cN)∧w'.cell? ⟨q0,6,none⟩=some (.slice aS nS cS)∧w'.cell? ⟨q0,7,none⟩=some (.int .i64 a5)∧w'.cell? ⟨q0,8,none⟩=some (.int .i64 a6)):=hide (fun w' k9=>by
  have h1:=k9.block q0 (Array.getElem?_eq_some_iff.1 hx0).1;rw[hx0]at h1;refine⟨?_,?_,?_,?_,?_,?_,?_,?_,?_⟩<;>simp[World.cell?,h1])
 clear hx0 hq;obtain⟨z0,z1,z2,z3,z4,z5,z6,z7,z8⟩:=(uq HX) wb (Keep.refl _);go_wp2_with fail
 (refine((uq TC) _ (uq KB)).mono ?_;rintro e w2 ⟨rfl,hk9⟩;have K2:=hide hk9;clear hk9);clear z0 z1 z2 z3 z4 z5 z6 z7 z8;obtain⟨z0,z1,z2,z3,z4,z5,z6,z7,z8⟩:=(uq HX) w2 (uq K2);go_wp2_with fail
 (refine((uq TF) _ ((uq KB).trans (uq K2))).mono ?_;rintro e w3 ⟨b,rfl,hk9⟩;have K3:=hide ((uq K2).trans hk9);clear hk9);clear z0 z1 z2 z3 z4 z5 z6 z7 z8;cases b with
 |false=>
  go_wp2_with fail
  (refine((uq AW) _).mono ?_;rintro e w4 ⟨rfl,hk9⟩);go_wp2_with fail
  go_ret;exact⟨rfl,(uq KB).trans ((uq K3).trans hk9)⟩
 |true=>
  have lj0:¬(j:Int)<0:=by omega
  have ljn:¬(nN:Int)≤(j:Int):=by omega
  have ljl:(j:Int)<(nN:Int):=by omega
  obtain⟨z0,z1,z2,z3,z4,z5,z6,z7,z8⟩:=(uq HX) w3 (uq K3);obtain⟨ad,haN,hb,e0,e1,e2,e3,e4,e5,e6⟩:=uq HC;have y0:=V.far_cell ((uq KB).trans (uq K3)) (by rw[V.add_block9];exact hb) e0;have y1:=V.far_cell ((uq KB).trans (uq K3)) (by show(ad.add (j * 7)).block<_;rw[V.add_block9];exact hb) e1;have y2:=V.far_cell ((uq KB).trans (uq K3)) (by show(ad.add (j * 7)).block<_;rw[V.add_block9];exact hb) e2;have y3:=V.far_cell ((uq KB).trans (uq K3)) (by show(ad.add (j * 7)).block<_;rw[V.add_block9];exact hb) e3;have y4:=V.far_cell ((uq KB).trans (uq K3)) (by show(ad.add (j * 7)).block<_;rw[V.add_block9];exact hb) e4;have y5:=V.far_cell ((uq KB).trans (uq K3)) (by show(ad.add (j * 7)).block<_;rw[V.add_block9];exact hb) e5;have y6:=V.far_cell ((uq KB).trans (uq K3)) (by show(ad.add (j * 7)).block<_;rw[V.add_block9];exact hb) e6;clear e0 e1 e2 e3 e4 e5 e6;subst haN;have hn1:=heap_alloc_new w3 (.cells #[.string s,.slice x1 n1 c1,.slice x2 n2 c2,.slice x3 n3 c3,.slice x4 n4 c4,.slice x5 n5 c5,.int .i64 p] 39);have KA:=(uq K3).alloc (.cells #[.string s,.slice x1 n1 c1,.slice x2 n2 c2,.slice x3 n3 c3,.slice x4 n4 c4,.slice x5 n5 c5,.int .i64 p] 39)
  go_upto_region 5 with fail
  clear z0 z1 z2 z3 z4 z5 z6 z7 z8 y0 y1 y2 y3 y4 y5 y6 lj0 ljn ljl;generalize w3.alloc (.cells #[.string s,.slice x1 n1 c1,.slice x2 n2 c2,.slice x3 n3 c3,.slice x4 n4 c4,.slice x5 n5 c5,.int .i64 p] 39)=w4 at hn1 KA ⊢;obtain⟨b7,hb7⟩:∃ b,w3.heap.size=b:=⟨_,rfl⟩;rw[hb7]at hn1 ⊢;have HX4:Hid (∀ w':World,Keep w4 w'→w'.cell? ⟨b7,0,none⟩=some (.string s)∧w'.cell? ⟨b7,1,none⟩=some (.slice x1 n1 c1)∧w'.cell? ⟨b7,2,none⟩=some (.slice x2 n2 c2)∧w'.cell? ⟨b7,3,none⟩=some (.slice x3 n3 c3)∧w'.cell? ⟨b7,4,none⟩=some (.slice x4 n4 c4)∧w'.cell? ⟨b7,5,none⟩=some (.slice x5 n5 c5)∧w'.cell? ⟨b7,6,none⟩=some (.int .i64 p)):=hide (fun w' k9=>by
   have h1:=k9.block b7 (Array.getElem?_eq_some_iff.1 hn1).1;rw[hn1]at h1;refine⟨?_,?_,?_,?_,?_,?_,?_⟩<;>simp[World.cell?,h1])
  have KW1:=hide ((uq KB).trans KA);clear hn1 KA hb7 K3 K2 HX KB;have HZZ:=hide hZ;clear hZ;refine wp_region_held_drew (S:=(fun w'=>w'.cell? ⟨b7,0,none⟩=some (.string s)∧w'.cell? ⟨b7,1,none⟩=some (.slice x1 n1 c1)∧w'.cell? ⟨b7,2,none⟩=some (.slice x2 n2 c2)∧w'.cell? ⟨b7,3,none⟩=some (.slice x3 n3 c3)∧w'.cell? ⟨b7,4,none⟩=some (.slice x4 n4 c4)∧w'.cell? ⟨b7,5,none⟩=some (.slice x5 n5 c5)∧w'.cell? ⟨b7,6,none⟩=some (.int .i64 p))) (by kernel_rfl) (by exact uq HX4 _ ((Keep.refl _).drew)) (fun hHeld=>?_);refine tkk 0 48 hHeld ?_;try simp only[Act.put,Ya,Yb,Yc]
  refine tkk 1 49 hHeld ?_;try simp only[Act.put,Ya,Yb,Yc]
  refine tkk 2 50 hHeld ?_;try simp only[Act.put,Ya,Yb,Yc]
  refine tkk 3 51 hHeld ?_;try simp only[Act.put,Ya,Yb,Yc]
  refine zal 4 (fun K hK=>?_);go_simp;clear hHeld;refine hK.out _ _ ?_ (fun hHeld=>?_)
  ·exact uq HX4 _ (((Keep.refl _).drew).alloc _)
  clear hK K;try simp only[Act.put,Ya,Yb,Yc]
  have HZC:Hid (∀ k,k<n3→w4.heap.size<(w4.drew.alloc (.cells ZZ 2)).heap.size∧(w4.drew.alloc (.cells ZZ 2)).cell? ⟨w4.heap.size,k,none⟩=some (.int .i64 0)):=hide (fun k hk=>by
   have h:=heap_alloc_new w4.drew (.cells ZZ 2);have h2:(w4.drew.alloc (.cells ZZ 2)).heap[w4.heap.size]? =some (.cells ZZ 2 (0,0)):=h;exact⟨(Array.getElem?_eq_some_iff.1 h2).1,by simp only[World.cell?,h2];exact uq HZZ k hk⟩)
  clear hmk;refine zal 5 (fun K hK=>?_);go_simp;clear hHeld;(refine((uq TJ) _ w4.heap.size (((uq KW1).drew).alloc _) (uq HZC)).mono ?_;rintro e w5 ⟨va,vc,rfl,hk9,hjs⟩);try go_wp2_with fail
  refine hK.out _ _ ?_ (fun hHeld=>?_)
  ·exact uq HX4 _ ((((Keep.refl _).drew).alloc _).trans hk9)
  clear hK K;try simp only[Act.put,Ya,Yb,Yc]
  refine tkk 6 8 hHeld ?_;try simp only[Act.put,Ya,Yb,Yc]
  refine wpAnyH_done (by kernel_rfl) ?_ _;clear hHeld;have K5:Hid (Keep w4 w5):=hide ((((Keep.refl w4).drew).alloc _).trans hk9);have JS:=hide hjs;have KW5:=hide ((uq KW1).trans (uq K5));clear hk9 hjs HZC HZZ;have hnn:((n4:Int) !=(n4:Int))=false:=by simp
  obtain⟨z0,z1,z2,z3,z4,z5,z6⟩:=(uq HX4) w5 (uq K5);go_wp2_with fail
  clear z0 z1 z2 z3 z4 z5 z6 hnn
  go_loopw [9] (fun vf wr=>∃ f:Nat,vf= .int .i64 (f:Int)∧f≤n5∧Hid (Keep w5 wr)) (fun vf _=>n5 - (intOf vf).toNat)
  case atStart=>exact⟨0,rfl,Nat.zero_le _,hide (Keep.refl _)⟩
  case round=>
   obtain⟨f,rfl,hf,KI⟩:=hrel;obtain⟨z0,z1,z2,z3,z4,z5,z6⟩:=(uq HX4) wr ((uq K5).trans (uq KI));by_cases hfl:f<n5
   ·have lf:(f:Int)<(n5:Int):=by omega
    obtain⟨fd,hx5,fb,f0,f1,_⟩:=(uq HFo) f hfl;obtain⟨hha,hhb⟩:=(uq HHA) f hfl;obtain⟨pd,hx3,pb,p0,_,_⟩:=(uq HPh) (HA f) hha;obtain⟨pd',hx3',pb',p1,_,_⟩:=(uq HPh) (HB f) hhb;rw[hx3]at hx3';injection hx3' with hx3'
    subst hx3';have THaf:=hide ((uq THa) f hfl);have THbf:=hide ((uq THb) f hfl);have TPa:=hide ((uq TPl) (HA f) hha);have TPb:=hide ((uq TPl) (HB f) hhb);have HFDf:=hide ((uq HFD) f hfl);obtain⟨ha,hha9⟩:∃ m,HA f=m:=⟨_,rfl⟩;obtain⟨hb9,hhb9⟩:∃ m,HB f=m:=⟨_,rfl⟩;rw[hha9]at THaf TPa HFDf hha p0;rw[hhb9]at THbf TPb HFDf hhb p1;have lha:(ha:Int)<(n3:Int):=by omega
    have lhb:(hb9:Int)<(n3:Int):=by omega
    have SS:Hid (∀ w',Keep w5 w'→(w'.cell? ⟨b7,0,none⟩=some (.string s)∧w'.cell? ⟨b7,1,none⟩=some (.slice x1 n1 c1)∧w'.cell? ⟨b7,2,none⟩=some (.slice x2 n2 c2)∧w'.cell? ⟨b7,3,none⟩=some (.slice x3 n3 c3)∧w'.cell? ⟨b7,4,none⟩=some (.slice x4 n4 c4)∧w'.cell? ⟨b7,5,none⟩=some (.slice x5 n5 c5)∧w'.cell? ⟨b7,6,none⟩=some (.int .i64 p))∧w'.cell? (fd.add (f * 3))=some (.string (sv (TA f)))∧w'.cell? ⟨(fd.add (f * 3)).block,(fd.add (f * 3)).off+1,none⟩=some (.string (sv (TB f)))∧w'.cell? (pd.add (ha * 3))=some (.string (sv (PH ha)))∧w'.cell? (pd.add (hb9 * 3))=some (.string (sv (PH hb9)))):=hide (fun w' k=>⟨(uq HX4) w' ((uq K5).trans k),V.far_cell ((uq KW5).trans k) (by rw[V.add_block9];exact fb) f0,V.far_cell ((uq KW5).trans k) (by show(fd.add (f * 3)).block<_;rw[V.add_block9];exact fb) f1,V.far_cell ((uq KW5).trans k) (by rw[V.add_block9];exact pb) p0,V.far_cell ((uq KW5).trans k) (by rw[V.add_block9];exact pb) p1⟩);subst hx5 hx3;clear f0 f1 p0 p1 hha9 hhb9
    go_upto_region 11 with fail
    clear z0 z1 z2 z3 z4 z5 z6;refine wp_region_held_drew (S:=(fun w'=>(w'.cell? ⟨b7,0,none⟩=some (.string s)∧w'.cell? ⟨b7,1,none⟩=some (.slice x1 n1 c1)∧w'.cell? ⟨b7,2,none⟩=some (.slice x2 n2 c2)∧w'.cell? ⟨b7,3,none⟩=some (.slice (some pd) n3 c3)∧w'.cell? ⟨b7,4,none⟩=some (.slice x4 n4 c4)∧w'.cell? ⟨b7,5,none⟩=some (.slice (some fd) n5 c5)∧w'.cell? ⟨b7,6,none⟩=some (.int .i64 p))∧w'.cell? (fd.add (f * 3))=some (.string (sv (TA f)))∧w'.cell? ⟨(fd.add (f * 3)).block,(fd.add (f * 3)).off+1,none⟩=some (.string (sv (TB f)))∧w'.cell? (pd.add (ha * 3))=some (.string (sv (PH ha)))∧w'.cell? (pd.add (hb9 * 3))=some (.string (sv (PH hb9))))) (by kernel_rfl) (by exact uq SS _ ((uq KI).drew)) (fun hHeld=>?_);refine tkk 0 67 hHeld ?_;try simp only[Act.put,Ya,Yb,Yc]
    refine tkk 1 68 hHeld ?_;try simp only[Act.put,Ya,Yb,Yc]
    refine tkk 2 69 hHeld ?_;try simp only[Act.put,Ya,Yb,Yc]
    refine tkk 3 70 hHeld ?_;try simp only[Act.put,Ya,Yb,Yc]
    refine tkk 4 71 hHeld ?_;try simp only[Act.put,Ya,Yb,Yc]
    refine tkk 5 72 hHeld ?_;try simp only[Act.put,Ya,Yb,Yc]
    refine tkk 6 73 hHeld ?_;try simp only[Act.put,Ya,Yb,Yc]
    refine tkk 7 74 hHeld ?_;try simp only[Act.put,Ya,Yb,Yc]
    refine tkk 8 75 hHeld ?_;try simp only[Act.put,Ya,Yb,Yc]
    refine zal 9 (fun K hK=>?_);go_simp;clear hHeld;(refine((uq THaf) _ ((uq KW5).trans ((uq KI).drew))).mono ?_;rintro e w6 ⟨rfl,hk9⟩);try go_wp2_with fail
    refine hK.out _ _ ?_ (fun hHeld=>?_)
    ·exact uq SS _ (((uq KI).drew).trans hk9)
    clear hK K;try simp only[Act.put,Ya,Yb,Yc]
    refine tkk 10 77 hHeld ?_;try simp only[Act.put,Ya,Yb,Yc]
    refine tkk 11 78 hHeld ?_;try simp only[Act.put,Ya,Yb,Yc]
    refine tkk 12 79 hHeld ?_;try simp only[Act.put,Ya,Yb,Yc]
    refine tkk 13 10 hHeld ?_;try simp only[Act.put,Ya,Yb,Yc]
    refine wpAnyH_done (by kernel_rfl) ?_ _;clear hHeld;have K6:Hid (Keep w5 w6):=hide (((uq KI).drew).trans hk9);clear hk9
    go_upto_region 12 with fail
    refine wp_region_held_drew (S:=(fun w'=>(w'.cell? ⟨b7,0,none⟩=some (.string s)∧w'.cell? ⟨b7,1,none⟩=some (.slice x1 n1 c1)∧w'.cell? ⟨b7,2,none⟩=some (.slice x2 n2 c2)∧w'.cell? ⟨b7,3,none⟩=some (.slice (some pd) n3 c3)∧w'.cell? ⟨b7,4,none⟩=some (.slice x4 n4 c4)∧w'.cell? ⟨b7,5,none⟩=some (.slice (some fd) n5 c5)∧w'.cell? ⟨b7,6,none⟩=some (.int .i64 p))∧w'.cell? (fd.add (f * 3))=some (.string (sv (TA f)))∧w'.cell? ⟨(fd.add (f * 3)).block,(fd.add (f * 3)).off+1,none⟩=some (.string (sv (TB f)))∧w'.cell? (pd.add (ha * 3))=some (.string (sv (PH ha)))∧w'.cell? (pd.add (hb9 * 3))=some (.string (sv (PH hb9))))) (by kernel_rfl) (by exact uq SS _ ((uq K6).drew)) (fun hHeld=>?_);refine tkk 0 80 hHeld ?_;try simp only[Act.put,Ya,Yb,Yc]
    refine tkk 1 81 hHeld ?_;try simp only[Act.put,Ya,Yb,Yc]
    refine tkk 2 82 hHeld ?_;try simp only[Act.put,Ya,Yb,Yc]
    refine tkk 3 83 hHeld ?_;try simp only[Act.put,Ya,Yb,Yc]
    refine tkk 4 84 hHeld ?_;try simp only[Act.put,Ya,Yb,Yc]
    refine tkk 5 85 hHeld ?_;try simp only[Act.put,Ya,Yb,Yc]
    refine tkk 6 86 hHeld ?_;try simp only[Act.put,Ya,Yb,Yc]
    refine tkk 7 87 hHeld ?_;try simp only[Act.put,Ya,Yb,Yc]
    refine tkk 8 88 hHeld ?_;try simp only[Act.put,Ya,Yb,Yc]
    refine zal 9 (fun K hK=>?_);go_simp;clear hHeld;(refine((uq THbf) _ ((uq KW5).trans ((uq K6).drew))).mono ?_;rintro e w7 ⟨rfl,hk9⟩);try go_wp2_with fail
    refine hK.out _ _ ?_ (fun hHeld=>?_)
    ·exact uq SS _ (((uq K6).drew).trans hk9)
    clear hK K;try simp only[Act.put,Ya,Yb,Yc]
    refine tkk 10 90 hHeld ?_;try simp only[Act.put,Ya,Yb,Yc]
    refine tkk 11 91 hHeld ?_;try simp only[Act.put,Ya,Yb,Yc]
    refine tkk 12 92 hHeld ?_;try simp only[Act.put,Ya,Yb,Yc]
    refine tkk 13 11 hHeld ?_;try simp only[Act.put,Ya,Yb,Yc]
    refine wpAnyH_done (by kernel_rfl) ?_ _;clear hHeld;have K7:Hid (Keep w5 w7):=hide (((uq K6).drew).trans hk9);clear hk9;obtain⟨z0,z1,z2,z3,z4,z5,z6⟩:=(uq HX4) w7 ((uq K5).trans (uq K7));go_wp2_with fail
    (refine((uq TPa) _ ((uq KW5).trans (uq K7))).mono ?_;rintro e w8 ⟨gi,ri,rfl,hk9,hpa⟩;have K8:=hide ((uq K7).trans hk9);clear hk9);clear z0 z1 z2 z3 z4 z5 z6;obtain⟨z0,z1,z2,z3,z4,z5,z6⟩:=(uq HX4) w8 ((uq K5).trans (uq K8));go_wp2_with fail
    (refine((uq TPb) _ ((uq KW5).trans (uq K8))).mono ?_;rintro e w9 ⟨hi,si,rfl,hk9,hpb⟩;have K9:=hide ((uq K8).trans hk9);clear hk9);clear z0 z1 z2 z3 z4 z5 z6;have HQA:=hide hpa;have HQB:=hide hpb;clear hpa hpb;by_cases hgh:gi=hi
    ·subst hgh;by_cases hrs:ri=si
     ·subst hrs;have hb1:(gi !=gi)=false:=by simp
      have hb2:(ri==ri)=true:=by simp
      go_wp2_with fail
      go_roundw
      case rel=>exact⟨f+1,by go_num,hfl,K9⟩
      case measure=>simp[intOf];omega
     ·have hb1:(gi !=gi)=false:=by simp
      have hb2:(ri==si)=false:=by simpa using hrs
      have hcase:∃ g:Nat,gi=(g:Int)∧g<n4∧GN g=2∧((ri=0∧si=1∧∃ a b,a<RN g 0∧b<RN g 1∧H g 0 a=PH ha∧H g 1 b=PH hb9)∨(ri=1∧si=0∧∃ a b,a<RN g 0∧b<RN g 1∧H g 0 a=PH hb9∧H g 1 b=PH ha)):=by
       rcases uq HQA with ⟨e1,e2⟩|⟨g,r,a,e1,e2,g1,g2,g3,g4⟩
       ·rcases uq HQB with ⟨e3,e4⟩|⟨g,r,a,e3,e4,g1,g2,g3,g4⟩
        ·omega
        ·omega
       ·rcases uq HQB with ⟨e3,e4⟩|⟨g',r',a',e3,e4,g1',g2',g3',g4'⟩
        ·omega
        ·obtain rfl:g'=g:=by omega
         have h2:=(uq HG2) g' g1;have hr:(r=0∧r'=1)∨(r=1∧r'=0):=by omega
         rcases hr with ⟨rfl,rfl⟩|⟨rfl,rfl⟩
         ·exact⟨g',e1,g1,by omega,.inl ⟨by omega,by omega,a,a',g3,g3',g4,g4'⟩⟩
         ·exact⟨g',e1,g1,by omega,.inr ⟨by omega,by omega,a',a,g3',g3,g4',g4⟩⟩
      obtain⟨g,rfl,hg4,hgn,hc⟩:=hcase;rcases hc with ⟨rfl,rfl,xa0,xb0,hxa0,hxb0,hxA,hxB⟩|⟨rfl,rfl,xa0,xb0,hxa0,hxb0,hxA,hxB⟩
      ·have hft:=hide (((uq HFDf) g hg4 hgn xa0 xb0 hxa0 hxb0).1 hxA hxB);obtain⟨z0,z1,z2,z3,z4,z5,z6⟩:=(uq HX4) w9 ((uq K5).trans (uq K9));obtain⟨gd,hx4,gdb,g0c⟩:=(uq HGr) g hg4;rw[hgn]at g0c;obtain⟨rd,hga,rdb,_,r0c⟩:=(uq HRi) g hg4 0 (by omega);obtain⟨rd',hga',_,_,r1c⟩:=(uq HRi) g hg4 1 (by omega);rw[hga]at hga' g0c;injection hga' with hga'
       subst hga';rw[show rd.add (0 * 2)=rd by simp[Addr.add]]at r0c;rw[show rd.add (1 * 2)=⟨rd.block,rd.off+2,none⟩ by simp[Addr.add]]at r1c;simp only at r1c;have NA0:=hide ((uq HNa) g hg4 0 (by omega));have NA1:=hide ((uq HNa) g hg4 1 (by omega));obtain⟨jd,u,hva,jc,jo⟩:=(uq JS) g hg4;obtain⟨ua,uc,hu⟩:=zbA jo;subst hu;have HPLg:=hide ((uq HPL) g hg4);have hnpb:=(uq HPB) g hg4;obtain⟨pl,hpl⟩:∃ pl,PL g=pl:=⟨_,rfl⟩;rw[hpl]at jc jo HPLg hft hnpb;obtain⟨np,hnp⟩:∃ np,pl.length=np:=⟨_,rfl⟩;have HNP:=hide hnp;rw[hnp]at jc jo HPLg hft hnpb;obtain⟨r0,hr0⟩:∃ r,RN g 0=r:=⟨_,rfl⟩;obtain⟨r1,hr1⟩:∃ r,RN g 1=r:=⟨_,rfl⟩;obtain⟨rc0,hrc0⟩:∃ r,RC g 0=r:=⟨_,rfl⟩;obtain⟨rc1,hrc1⟩:∃ r,RC g 1=r:=⟨_,rfl⟩;obtain⟨gC,hgC⟩:∃ r,GC g=r:=⟨_,rfl⟩;rw[hr0]at r0c NA0 HPLg hxa0;rw[hr1]at r1c NA1 HPLg hxb0;rw[hrc0]at r0c;rw[hrc1]at r1c;rw[hgC]at g0c;obtain⟨nd0,hn0,_,_⟩:=(uq NA0) xa0 hxa0;obtain⟨nd1,hn1,_,_⟩:=(uq NA1) xb0 hxb0;rw[hn0]at r0c;rw[hn1]at r1c;have HJC:Hid (∀ w',Keep w9 w'→w'.cell? ⟨(jd.add (g * 3)).block,(jd.add (g * 3)).off+2,none⟩=some (.slice ua np uc)∧w'.ownsRow 0 57 2 (.slice ua np uc) np (pcs pl)):=hide (fun w' k=>⟨kcj ((uq K9).trans k) jc,own_k jo ((uq K9).trans k)⟩);have HGC:Hid (∀ w',Keep w9 w'→w'.cell? (gd.add g)=some (.slice (some rd) 2 gC)∧w'.cell? ⟨rd.block,rd.off+1,none⟩=some (.slice (some nd0) r0 rc0)∧w'.cell? ⟨rd.block,rd.off+2+1,none⟩=some (.slice (some nd1) r1 rc1)):=hide (fun w' k=>⟨kcj ((uq KW5).trans ((uq K9).trans k)) g0c,kcj ((uq KW5).trans ((uq K9).trans k)) r0c,kcj ((uq KW5).trans ((uq K9).trans k)) r1c⟩);have lg:(g:Int)<(n4:Int):=by omega
       obtain⟨PP9,hPP9⟩:∃ x,PH ha=x:=⟨_,rfl⟩;obtain⟨QQ9,hQQ9⟩:∃ x,PH hb9=x:=⟨_,rfl⟩;subst hx4 hva;clear jc jo g0c r0c r1c hnp hpl hr0 hr1 hrc0 hrc1 hgC;rw[hPP9,hQQ9]at hft;go_wp2_with fail
       try rw[hPP9]
       try rw[hQQ9]
       clear z0 z1 z2 z3 z4 z5 z6 hPP9 hQQ9
       go_loopw [16,17] (fun vb vk wr=>∃(k:Nat) (b:Bool),vk= .int .i64 (k:Int)∧k≤np∧(vb= .bool b∧Hid (b=anB (eF (H g 0) (H g 1) pl PP9 QQ9) k))∧Hid (Keep w9 wr)) (fun vb vk _=>np - (intOf vk).toNat)
       case atStart=>exact⟨0,false,rfl,Nat.zero_le _,⟨rfl,hide rfl⟩,hide (Keep.refl _)⟩
       case round=>
        obtain⟨k,b,rfl,hk,⟨rfl,HB0⟩,KI0⟩:=hrel;obtain⟨jc,jo⟩:=(uq HJC) wr (uq KI0);have z4:=((uq HX4) wr ((uq K5).trans ((uq K9).trans (uq KI0)))).2.2.2.2.1;by_cases hkl:k<np
        ·have lk:(k:Int)<(np:Int):=by omega
         obtain⟨xa,xb,hxx⟩:∃ xa xb,pl.getD k (0,0)=(xa,xb):=⟨_,_,rfl⟩;obtain⟨pp,hpa,q0c,q1c⟩:=zhD (L:=pl) (by rw[uq HNP];exact jo) (show k<pl.length by rw[uq HNP];exact hkl);rw[hxx]at q0c q1c;simp only at q0c q1c;obtain⟨_,hxa,hxb⟩:=(uq HPLg) k hkl xa xb hxx;obtain⟨nd0',hm0,_,n0c⟩:=(uq NA0) xa hxa;obtain⟨nd1',hm1,_,n1c⟩:=(uq NA1) xb hxb;rw[hn0]at hm0;rw[hn1]at hm1;injection hm0 with hm0
         injection hm1 with hm1
         subst hm0 hm1;obtain⟨h0,hh0⟩:∃ h,H g 0 xa=h:=⟨_,rfl⟩;obtain⟨h1,hh1⟩:∃ h,H g 1 xb=h:=⟨_,rfl⟩;have HEF:Hid (eF (H g 0) (H g 1) pl PP9 QQ9 k=((h0==PP9)&&(h1==QQ9))):=hide (by unfold eF;rw[hxx,hh0,hh1]);rw[hh0]at n0c;rw[hh1]at n1c;have hnb:=heap_alloc_new wr (.cells #[.int .i64 (xa:Int),.int .i64 (xb:Int)] 57);have KAL:=(Keep.refl wr).alloc (.cells #[.int .i64 (xa:Int),.int .i64 (xb:Int)] 57);obtain⟨b18,hb18⟩:∃ b,wr.heap.size=b:=⟨_,rfl⟩;rw[hb18]at hnb;have SI:Hid (∀ w',Keep (wr.alloc (.cells #[.int .i64 (xa:Int),.int .i64 (xb:Int)] 57)) w'→w'.cell? ⟨b7,4,none⟩=some (.slice (some gd) n4 c4)∧w'.cell? (gd.add g)=some (.slice (some rd) 2 gC)∧w'.cell? ⟨rd.block,rd.off+1,none⟩=some (.slice (some nd0) r0 rc0)∧w'.cell? ⟨rd.block,rd.off+2+1,none⟩=some (.slice (some nd1) r1 rc1)∧w'.cell? ⟨b18,0,none⟩=some (.int .i64 (xa:Int))∧w'.cell? ⟨b18,1,none⟩=some (.int .i64 (xb:Int))∧w'.cell? (nd0.add xa)=some (.string (sv h0))∧w'.cell? (nd1.add xb)=some (.string (sv h1))):=hide (fun w' k'=>by
          have hbk:=(k'.block b18 (Array.getElem?_eq_some_iff.1 hnb).1).trans hnb;obtain⟨s1,s2,s3⟩:=(uq HGC) w' (((uq KI0).trans KAL).trans k');exact⟨((uq HX4) w' ((uq K5).trans ((uq K9).trans (((uq KI0).trans KAL).trans k')))).2.2.2.2.1,s1,s2,s3,by simp[World.cell?,hbk],by simp[World.cell?,hbk],kcj ((uq KW5).trans ((uq K9).trans (((uq KI0).trans KAL).trans k'))) n0c,kcj ((uq KW5).trans ((uq K9).trans (((uq KI0).trans KAL).trans k'))) n1c⟩)
         have lxa:(xa:Int)<(r0:Int):=by omega
         have lxb:(xb:Int)<(r1:Int):=by omega
         subst hpa;clear n0c n1c hh0 hh1 hnb hxx;cases b with
         |true=>
          have EQ9:Hid (true=anB (eF (H g 0) (H g 1) pl PP9 QQ9) (k+1)):=hide (by rw[anB,← uq HB0];rfl);clear HB0
          go_upto_region 23 with fail
          refine wp_region_held_drew (S:=(fun w'=>w'.cell? ⟨b7,4,none⟩=some (.slice (some gd) n4 c4)∧w'.cell? (gd.add g)=some (.slice (some rd) 2 gC)∧w'.cell? ⟨rd.block,rd.off+1,none⟩=some (.slice (some nd0) r0 rc0)∧w'.cell? ⟨rd.block,rd.off+2+1,none⟩=some (.slice (some nd1) r1 rc1)∧w'.cell? ⟨b18,0,none⟩=some (.int .i64 (xa:Int))∧w'.cell? ⟨b18,1,none⟩=some (.int .i64 (xb:Int))∧w'.cell? (nd0.add xa)=some (.string (sv h0))∧w'.cell? (nd1.add xb)=some (.string (sv h1)))) (by kernel_rfl) (by exact uq SI _ ((Keep.refl _).drew)) (fun hHeld=>?_);refine tkk 0 136 hHeld ?_;try simp only[Act.put,Ya,Yb,Yc]
          refine tkk 1 137 hHeld ?_;try simp only[Act.put,Ya,Yb,Yc]
          refine wpAnyH_take (i:=2) (v:=undef) rfl (by kernel_rfl) (by kernel_rfl) (by kernel_rfl) (fun _ _ _ h=>h) (Or.inr ⟨by rfl,rfl⟩) hHeld ?_;show wpAnyH _ _ _ _ _ _ _ (Act.put _ (some 138) _) _;try simp only[Act.put,Ya,Yb,Yc]
          refine wpAnyH_take (i:=3) (v:=undef) rfl (by kernel_rfl) (by kernel_rfl) (by kernel_rfl) (fun _ _ _ h=>h) (Or.inr ⟨by rfl,rfl⟩) hHeld ?_;show wpAnyH _ _ _ _ _ _ _ (Act.put _ (some 139) _) _;try simp only[Act.put,Ya,Yb,Yc]
          refine wpAnyH_take (i:=4) (v:=undef) rfl (by kernel_rfl) (by kernel_rfl) (by kernel_rfl) (fun _ _ _ h=>h) (Or.inr ⟨by rfl,rfl⟩) hHeld ?_;show wpAnyH _ _ _ _ _ _ _ (Act.put _ (some 140) _) _;try simp only[Act.put,Ya,Yb,Yc]
          refine wpAnyH_take (i:=5) (v:=undef) rfl (by kernel_rfl) (by kernel_rfl) (by kernel_rfl) (fun _ _ _ h=>h) (Or.inr ⟨by rfl,rfl⟩) hHeld ?_;show wpAnyH _ _ _ _ _ _ _ (Act.put _ (some 141) _) _;try simp only[Act.put,Ya,Yb,Yc]
          refine wpAnyH_take (i:=6) (v:=undef) rfl (by kernel_rfl) (by kernel_rfl) (by kernel_rfl) (fun _ _ _ h=>h) (Or.inr ⟨by rfl,rfl⟩) hHeld ?_;show wpAnyH _ _ _ _ _ _ _ (Act.put _ (some 142) _) _;try simp only[Act.put,Ya,Yb,Yc]
          refine wpAnyH_take (i:=7) (v:=undef) rfl (by kernel_rfl) (by kernel_rfl) (by kernel_rfl) (fun _ _ _ h=>h) (Or.inr ⟨by rfl,rfl⟩) hHeld ?_;show wpAnyH _ _ _ _ _ _ _ (Act.put _ (some 143) _) _;try simp only[Act.put,Ya,Yb,Yc]
          refine wpAnyH_take (i:=8) (v:=undef) rfl (by kernel_rfl) (by kernel_rfl) (by kernel_rfl) (fun _ _ _ h=>h) (Or.inr ⟨by rfl,rfl⟩) hHeld ?_;show wpAnyH _ _ _ _ _ _ _ (Act.put _ (some 144) _) _;try simp only[Act.put,Ya,Yb,Yc]
          refine wpAnyH_take (i:=9) (v:=undef) rfl (by kernel_rfl) (by kernel_rfl) (by kernel_rfl) (fun _ _ _ h=>h) (Or.inr ⟨by rfl,rfl⟩) hHeld ?_;show wpAnyH _ _ _ _ _ _ _ (Act.put _ (some 145) _) _;try simp only[Act.put,Ya,Yb,Yc]
          refine wpAnyH_take (i:=10) (v:=undef) rfl (by kernel_rfl) (by kernel_rfl) (by kernel_rfl) (fun _ _ _ h=>h) (Or.inr ⟨by rfl,rfl⟩) hHeld ?_;show wpAnyH _ _ _ _ _ _ _ (Act.put _ (some 146) _) _;try simp only[Act.put,Ya,Yb,Yc]
          refine wpAnyH_take (i:=11) (v:=undef) rfl (by kernel_rfl) (by kernel_rfl) (by kernel_rfl) (fun _ _ _ h=>h) (Or.inr ⟨by rfl,rfl⟩) hHeld ?_;show wpAnyH _ _ _ _ _ _ _ (Act.put _ (some 147) _) _;try simp only[Act.put,Ya,Yb,Yc]
          refine wpAnyH_take (i:=12) (v:=undef) rfl (by kernel_rfl) (by kernel_rfl) (by kernel_rfl) (fun _ _ _ h=>h) (Or.inr ⟨by rfl,rfl⟩) hHeld ?_;show wpAnyH _ _ _ _ _ _ _ (Act.put _ (some 148) _) _;try simp only[Act.put,Ya,Yb,Yc]
          refine wpAnyH_take (i:=13) (v:=undef) rfl (by kernel_rfl) (by kernel_rfl) (by kernel_rfl) (fun _ _ _ h=>h) (Or.inr ⟨by rfl,rfl⟩) hHeld ?_;show wpAnyH _ _ _ _ _ _ _ (Act.put _ (some 149) _) _;try simp only[Act.put,Ya,Yb,Yc]
          refine wpAnyH_take (i:=14) (v:=undef) rfl (by kernel_rfl) (by kernel_rfl) (by kernel_rfl) (fun _ _ _ h=>h) (Or.inr ⟨by rfl,rfl⟩) hHeld ?_;show wpAnyH _ _ _ _ _ _ _ (Act.put _ (some 150) _) _;try simp only[Act.put,Ya,Yb,Yc]
          refine wpAnyH_take (i:=15) (v:=undef) rfl (by kernel_rfl) (by kernel_rfl) (by kernel_rfl) (fun _ _ _ h=>h) (Or.inr ⟨by rfl,rfl⟩) hHeld ?_;show wpAnyH _ _ _ _ _ _ _ (Act.put _ (some 151) _) _;try simp only[Act.put,Ya,Yb,Yc]
          refine wpAnyH_take (i:=16) (v:=undef) rfl (by kernel_rfl) (by kernel_rfl) (by kernel_rfl) (fun _ _ _ h=>h) (Or.inr ⟨by rfl,rfl⟩) hHeld ?_;show wpAnyH _ _ _ _ _ _ _ (Act.put _ (some 152) _) _;try simp only[Act.put,Ya,Yb,Yc]
          refine wpAnyH_take (i:=17) (v:=undef) rfl (by kernel_rfl) (by kernel_rfl) (by kernel_rfl) (fun _ _ _ h=>h) (Or.inr ⟨by rfl,rfl⟩) hHeld ?_;show wpAnyH _ _ _ _ _ _ _ (Act.put _ (some 153) _) _;try simp only[Act.put,Ya,Yb,Yc]
          refine wpAnyH_take (i:=18) (v:=undef) rfl (by kernel_rfl) (by kernel_rfl) (by kernel_rfl) (fun _ _ _ h=>h) (Or.inr ⟨by rfl,rfl⟩) hHeld ?_;show wpAnyH _ _ _ _ _ _ _ (Act.put _ (some 154) _) _;try simp only[Act.put,Ya,Yb,Yc]
          refine wpAnyH_take (i:=19) (v:=undef) rfl (by kernel_rfl) (by kernel_rfl) (by kernel_rfl) (fun _ _ _ h=>h) (Or.inr ⟨by rfl,rfl⟩) hHeld ?_;show wpAnyH _ _ _ _ _ _ _ (Act.put _ (some 155) _) _;try simp only[Act.put,Ya,Yb,Yc]
          refine wpAnyH_take (i:=20) (v:=undef) rfl (by kernel_rfl) (by kernel_rfl) (by kernel_rfl) (fun _ _ _ h=>h) (Or.inr ⟨by rfl,rfl⟩) hHeld ?_;show wpAnyH _ _ _ _ _ _ _ (Act.put _ (some 156) _) _;try simp only[Act.put,Ya,Yb,Yc]
          refine wpAnyH_take (i:=21) (v:=undef) rfl (by kernel_rfl) (by kernel_rfl) (by kernel_rfl) (fun _ _ _ h=>h) (Or.inr ⟨by rfl,rfl⟩) hHeld ?_;show wpAnyH _ _ _ _ _ _ _ (Act.put _ (some 157) _) _;try simp only[Act.put,Ya,Yb,Yc]
          refine wpAnyH_take (i:=22) (v:=undef) rfl (by kernel_rfl) (by kernel_rfl) (by kernel_rfl) (fun _ _ _ h=>h) (Or.inr ⟨by rfl,rfl⟩) hHeld ?_;show wpAnyH _ _ _ _ _ _ _ (Act.put _ (some 158) _) _;try simp only[Act.put,Ya,Yb,Yc]
          refine wpAnyH_take (i:=23) (v:=undef) rfl (by kernel_rfl) (by kernel_rfl) (by kernel_rfl) (fun _ _ _ h=>h) (Or.inr ⟨by rfl,rfl⟩) hHeld ?_;show wpAnyH _ _ _ _ _ _ _ (Act.put _ (some 159) _) _;try simp only[Act.put,Ya,Yb,Yc]
          refine wpAnyH_take (i:=24) (v:=undef) rfl (by kernel_rfl) (by kernel_rfl) (by kernel_rfl) (fun _ _ _ h=>h) (Or.inr ⟨by rfl,rfl⟩) hHeld ?_;show wpAnyH _ _ _ _ _ _ _ (Act.put _ (some 160) _) _;try simp only[Act.put,Ya,Yb,Yc]
          refine wpAnyH_take (i:=25) (v:=undef) rfl (by kernel_rfl) (by kernel_rfl) (by kernel_rfl) (fun _ _ _ h=>h) (Or.inr ⟨by rfl,rfl⟩) hHeld ?_;show wpAnyH _ _ _ _ _ _ _ (Act.put _ (some 161) _) _;try simp only[Act.put,Ya,Yb,Yc]
          refine wpAnyH_take (i:=26) (v:=undef) rfl (by kernel_rfl) (by kernel_rfl) (by kernel_rfl) (fun _ _ _ h=>h) (Or.inr ⟨by rfl,rfl⟩) hHeld ?_;show wpAnyH _ _ _ _ _ _ _ (Act.put _ (some 162) _) _;try simp only[Act.put,Ya,Yb,Yc]
          refine wpAnyH_take (i:=27) (v:=undef) rfl (by kernel_rfl) (by kernel_rfl) (by kernel_rfl) (fun _ _ _ h=>h) (Or.inr ⟨by rfl,rfl⟩) hHeld ?_;show wpAnyH _ _ _ _ _ _ _ (Act.put _ (some 163) _) _;try simp only[Act.put,Ya,Yb,Yc]
          refine wpAnyH_take (i:=28) (v:=undef) rfl (by kernel_rfl) (by kernel_rfl) (by kernel_rfl) (fun _ _ _ h=>h) (Or.inr ⟨by rfl,rfl⟩) hHeld ?_;show wpAnyH _ _ _ _ _ _ _ (Act.put _ (some 164) _) _;try simp only[Act.put,Ya,Yb,Yc]
          refine wpAnyH_take (i:=29) (v:=undef) rfl (by kernel_rfl) (by kernel_rfl) (by kernel_rfl) (fun _ _ _ h=>h) (Or.inr ⟨by rfl,rfl⟩) hHeld ?_;show wpAnyH _ _ _ _ _ _ _ (Act.put _ (some 165) _) _;try simp only[Act.put,Ya,Yb,Yc]
          refine wpAnyH_take (i:=30) (v:=undef) rfl (by kernel_rfl) (by kernel_rfl) (by kernel_rfl) (fun _ _ _ h=>h) (Or.inr ⟨by rfl,rfl⟩) hHeld ?_;show wpAnyH _ _ _ _ _ _ _ (Act.put _ (some 166) _) _;try simp only[Act.put,Ya,Yb,Yc]
          refine wpAnyH_take (i:=31) (v:=undef) rfl (by kernel_rfl) (by kernel_rfl) (by kernel_rfl) (fun _ _ _ h=>h) (Or.inr ⟨by rfl,rfl⟩) hHeld ?_;show wpAnyH _ _ _ _ _ _ _ (Act.put _ (some 167) _) _;try simp only[Act.put,Ya,Yb,Yc]
          refine wpAnyH_take (i:=32) (v:=undef) rfl (by kernel_rfl) (by kernel_rfl) (by kernel_rfl) (fun _ _ _ h=>h) (Or.inr ⟨by rfl,rfl⟩) hHeld ?_;show wpAnyH _ _ _ _ _ _ _ (Act.put _ (some 168) _) _;try simp only[Act.put,Ya,Yb,Yc]
          refine wpAnyH_take (i:=33) (v:=undef) rfl (by kernel_rfl) (by kernel_rfl) (by kernel_rfl) (fun _ _ _ h=>h) (Or.inr ⟨by rfl,rfl⟩) hHeld ?_;show wpAnyH _ _ _ _ _ _ _ (Act.put _ (some 169) _) _;try simp only[Act.put,Ya,Yb,Yc]
          refine tkk 34 170 hHeld ?_;try simp only[Act.put,Ya,Yb,Yc]
          refine tkk 35 16 hHeld ?_;try simp only[Act.put,Ya,Yb,Yc]
          refine wpAnyH_done (by kernel_rfl) ?_ _;clear hHeld;go_wp2_with fail
          go_roundw
          case rel=>exact⟨k+1,_,by go_num,hkl,⟨rfl,EQ9⟩,hide (((uq KI0).trans KAL).drew)⟩
          case measure=>simp[intOf];omega
         |false=>
          cases he1:(h0==PP9)with
          |false=>
           have EQ9:Hid (false=anB (eF (H g 0) (H g 1) pl PP9 QQ9) (k+1)):=hide (by rw[anB,← uq HB0,uq HEF,he1];rfl);have hes:((sv h0).toList==(sv PP9).toList)=false:=by rw[V.sv_beq];exact he1
           clear HB0 HEF he1
           go_upto_region 23 with fail
           refine wp_region_held_drew (S:=(fun w'=>w'.cell? ⟨b7,4,none⟩=some (.slice (some gd) n4 c4)∧w'.cell? (gd.add g)=some (.slice (some rd) 2 gC)∧w'.cell? ⟨rd.block,rd.off+1,none⟩=some (.slice (some nd0) r0 rc0)∧w'.cell? ⟨rd.block,rd.off+2+1,none⟩=some (.slice (some nd1) r1 rc1)∧w'.cell? ⟨b18,0,none⟩=some (.int .i64 (xa:Int))∧w'.cell? ⟨b18,1,none⟩=some (.int .i64 (xb:Int))∧w'.cell? (nd0.add xa)=some (.string (sv h0))∧w'.cell? (nd1.add xb)=some (.string (sv h1)))) (by kernel_rfl) (by exact uq SI _ ((Keep.refl _).drew)) (fun hHeld=>?_);refine tkk 0 136 hHeld ?_;try simp only[Act.put,Ya,Yb,Yc]
           refine tkk 1 137 hHeld ?_;try simp only[Act.put,Ya,Yb,Yc]
           refine tkk 2 138 hHeld ?_;try simp only[Act.put,Ya,Yb,Yc]
           refine tkk 3 139 hHeld ?_;try simp only[Act.put,Ya,Yb,Yc]
           refine tkk 4 140 hHeld ?_;try simp only[Act.put,Ya,Yb,Yc]
           refine tkk 5 141 hHeld ?_;try simp only[Act.put,Ya,Yb,Yc]
           refine tkk 6 142 hHeld ?_;try simp only[Act.put,Ya,Yb,Yc]
           refine tkk 7 143 hHeld ?_;try simp only[Act.put,Ya,Yb,Yc]
           refine tkk 8 144 hHeld ?_;try simp only[Act.put,Ya,Yb,Yc]
           refine tkk 9 145 hHeld ?_;try simp only[Act.put,Ya,Yb,Yc]
           refine tkk 10 146 hHeld ?_;try simp only[Act.put,Ya,Yb,Yc]
           refine tkk 11 147 hHeld ?_;try simp only[Act.put,Ya,Yb,Yc]
           refine tkk 12 148 hHeld ?_;try simp only[Act.put,Ya,Yb,Yc]
           refine tkk 13 149 hHeld ?_;try simp only[Act.put,Ya,Yb,Yc]
           refine tkk 14 150 hHeld ?_;try simp only[Act.put,Ya,Yb,Yc]
           refine tkk 15 151 hHeld ?_;try simp only[Act.put,Ya,Yb,Yc]
           refine tkk 16 152 hHeld ?_;try simp only[Act.put,Ya,Yb,Yc]
           refine tkk 17 153 hHeld ?_;try simp only[Act.put,Ya,Yb,Yc]
           refine wpAnyH_take (i:=18) (v:=undef) rfl (by kernel_rfl) (by kernel_rfl) (by kernel_rfl) (fun _ _ _ h=>h) (Or.inr ⟨by rfl,rfl⟩) hHeld ?_;show wpAnyH _ _ _ _ _ _ _ (Act.put _ (some 154) _) _;try simp only[Act.put,Ya,Yb,Yc]
           refine wpAnyH_take (i:=19) (v:=undef) rfl (by kernel_rfl) (by kernel_rfl) (by kernel_rfl) (fun _ _ _ h=>h) (Or.inr ⟨by rfl,rfl⟩) hHeld ?_;show wpAnyH _ _ _ _ _ _ _ (Act.put _ (some 155) _) _;try simp only[Act.put,Ya,Yb,Yc]
           refine wpAnyH_take (i:=20) (v:=undef) rfl (by kernel_rfl) (by kernel_rfl) (by kernel_rfl) (fun _ _ _ h=>h) (Or.inr ⟨by rfl,rfl⟩) hHeld ?_;show wpAnyH _ _ _ _ _ _ _ (Act.put _ (some 156) _) _;try simp only[Act.put,Ya,Yb,Yc]
           refine wpAnyH_take (i:=21) (v:=undef) rfl (by kernel_rfl) (by kernel_rfl) (by kernel_rfl) (fun _ _ _ h=>h) (Or.inr ⟨by rfl,rfl⟩) hHeld ?_;show wpAnyH _ _ _ _ _ _ _ (Act.put _ (some 157) _) _;try simp only[Act.put,Ya,Yb,Yc]
           refine wpAnyH_take (i:=22) (v:=undef) rfl (by kernel_rfl) (by kernel_rfl) (by kernel_rfl) (fun _ _ _ h=>h) (Or.inr ⟨by rfl,rfl⟩) hHeld ?_;show wpAnyH _ _ _ _ _ _ _ (Act.put _ (some 158) _) _;try simp only[Act.put,Ya,Yb,Yc]
           refine wpAnyH_take (i:=23) (v:=undef) rfl (by kernel_rfl) (by kernel_rfl) (by kernel_rfl) (fun _ _ _ h=>h) (Or.inr ⟨by rfl,rfl⟩) hHeld ?_;show wpAnyH _ _ _ _ _ _ _ (Act.put _ (some 159) _) _;try simp only[Act.put,Ya,Yb,Yc]
           refine wpAnyH_take (i:=24) (v:=undef) rfl (by kernel_rfl) (by kernel_rfl) (by kernel_rfl) (fun _ _ _ h=>h) (Or.inr ⟨by rfl,rfl⟩) hHeld ?_;show wpAnyH _ _ _ _ _ _ _ (Act.put _ (some 160) _) _;try simp only[Act.put,Ya,Yb,Yc]
           refine wpAnyH_take (i:=25) (v:=undef) rfl (by kernel_rfl) (by kernel_rfl) (by kernel_rfl) (fun _ _ _ h=>h) (Or.inr ⟨by rfl,rfl⟩) hHeld ?_;show wpAnyH _ _ _ _ _ _ _ (Act.put _ (some 161) _) _;try simp only[Act.put,Ya,Yb,Yc]
           refine wpAnyH_take (i:=26) (v:=undef) rfl (by kernel_rfl) (by kernel_rfl) (by kernel_rfl) (fun _ _ _ h=>h) (Or.inr ⟨by rfl,rfl⟩) hHeld ?_;show wpAnyH _ _ _ _ _ _ _ (Act.put _ (some 162) _) _;try simp only[Act.put,Ya,Yb,Yc]
           refine wpAnyH_take (i:=27) (v:=undef) rfl (by kernel_rfl) (by kernel_rfl) (by kernel_rfl) (fun _ _ _ h=>h) (Or.inr ⟨by rfl,rfl⟩) hHeld ?_;show wpAnyH _ _ _ _ _ _ _ (Act.put _ (some 163) _) _;try simp only[Act.put,Ya,Yb,Yc]
           refine wpAnyH_take (i:=28) (v:=undef) rfl (by kernel_rfl) (by kernel_rfl) (by kernel_rfl) (fun _ _ _ h=>h) (Or.inr ⟨by rfl,rfl⟩) hHeld ?_;show wpAnyH _ _ _ _ _ _ _ (Act.put _ (some 164) _) _;try simp only[Act.put,Ya,Yb,Yc]
           refine wpAnyH_take (i:=29) (v:=undef) rfl (by kernel_rfl) (by kernel_rfl) (by kernel_rfl) (fun _ _ _ h=>h) (Or.inr ⟨by rfl,rfl⟩) hHeld ?_;show wpAnyH _ _ _ _ _ _ _ (Act.put _ (some 165) _) _;try simp only[Act.put,Ya,Yb,Yc]
           refine wpAnyH_take (i:=30) (v:=undef) rfl (by kernel_rfl) (by kernel_rfl) (by kernel_rfl) (fun _ _ _ h=>h) (Or.inr ⟨by rfl,rfl⟩) hHeld ?_;show wpAnyH _ _ _ _ _ _ _ (Act.put _ (some 166) _) _;try simp only[Act.put,Ya,Yb,Yc]
           refine wpAnyH_take (i:=31) (v:=undef) rfl (by kernel_rfl) (by kernel_rfl) (by kernel_rfl) (fun _ _ _ h=>h) (Or.inr ⟨by rfl,rfl⟩) hHeld ?_;show wpAnyH _ _ _ _ _ _ _ (Act.put _ (some 167) _) _;try simp only[Act.put,Ya,Yb,Yc]
           refine wpAnyH_take (i:=32) (v:=undef) rfl (by kernel_rfl) (by kernel_rfl) (by kernel_rfl) (fun _ _ _ h=>h) (Or.inr ⟨by rfl,rfl⟩) hHeld ?_;show wpAnyH _ _ _ _ _ _ _ (Act.put _ (some 168) _) _;try simp only[Act.put,Ya,Yb,Yc]
           refine tkk 33 169 hHeld ?_;try simp only[Act.put,Ya,Yb,Yc]
           refine tkk 34 170 hHeld ?_;try simp only[Act.put,Ya,Yb,Yc]
           refine tkk 35 16 hHeld ?_;try simp only[Act.put,Ya,Yb,Yc]
           refine wpAnyH_done (by kernel_rfl) ?_ _;clear hHeld;go_wp2_with fail
           go_roundw
           case rel=>exact⟨k+1,_,by go_num,hkl,⟨rfl,EQ9⟩,hide (((uq KI0).trans KAL).drew)⟩
           case measure=>simp[intOf];omega
          |true=>
           have hes:((sv h0).toList==(sv PP9).toList)=true:=by rw[V.sv_beq];exact he1
           obtain⟨e2,he2⟩:∃ e2,(h1==QQ9)=e2:=⟨_,rfl⟩;have EQ9:Hid (e2=anB (eF (H g 0) (H g 1) pl PP9 QQ9) (k+1)):=hide (by rw[anB,← uq HB0,uq HEF,he1,he2];rfl);have hes2:((sv h1).toList==(sv QQ9).toList)=e2:=by rw[V.sv_beq];exact he2
           clear HB0 HEF he1 he2
           go_upto_region 23 with fail
           refine wp_region_held_drew (S:=(fun w'=>w'.cell? ⟨b7,4,none⟩=some (.slice (some gd) n4 c4)∧w'.cell? (gd.add g)=some (.slice (some rd) 2 gC)∧w'.cell? ⟨rd.block,rd.off+1,none⟩=some (.slice (some nd0) r0 rc0)∧w'.cell? ⟨rd.block,rd.off+2+1,none⟩=some (.slice (some nd1) r1 rc1)∧w'.cell? ⟨b18,0,none⟩=some (.int .i64 (xa:Int))∧w'.cell? ⟨b18,1,none⟩=some (.int .i64 (xb:Int))∧w'.cell? (nd0.add xa)=some (.string (sv h0))∧w'.cell? (nd1.add xb)=some (.string (sv h1)))) (by kernel_rfl) (by exact uq SI _ ((Keep.refl _).drew)) (fun hHeld=>?_);refine tkk 0 136 hHeld ?_;try simp only[Act.put,Ya,Yb,Yc]
           refine tkk 1 137 hHeld ?_;try simp only[Act.put,Ya,Yb,Yc]
           refine tkk 2 138 hHeld ?_;try simp only[Act.put,Ya,Yb,Yc]
           refine tkk 3 139 hHeld ?_;try simp only[Act.put,Ya,Yb,Yc]
           refine tkk 4 140 hHeld ?_;try simp only[Act.put,Ya,Yb,Yc]
           refine tkk 5 141 hHeld ?_;try simp only[Act.put,Ya,Yb,Yc]
           refine tkk 6 142 hHeld ?_;try simp only[Act.put,Ya,Yb,Yc]
           refine tkk 7 143 hHeld ?_;try simp only[Act.put,Ya,Yb,Yc]
           refine tkk 8 144 hHeld ?_;try simp only[Act.put,Ya,Yb,Yc]
           refine tkk 9 145 hHeld ?_;try simp only[Act.put,Ya,Yb,Yc]
           refine tkk 10 146 hHeld ?_;try simp only[Act.put,Ya,Yb,Yc]
           refine tkk 11 147 hHeld ?_;try simp only[Act.put,Ya,Yb,Yc]
           refine tkk 12 148 hHeld ?_;try simp only[Act.put,Ya,Yb,Yc]
           refine tkk 13 149 hHeld ?_;try simp only[Act.put,Ya,Yb,Yc]
           refine tkk 14 150 hHeld ?_;try simp only[Act.put,Ya,Yb,Yc]
           refine tkk 15 151 hHeld ?_;try simp only[Act.put,Ya,Yb,Yc]
           refine tkk 16 152 hHeld ?_;try simp only[Act.put,Ya,Yb,Yc]
           refine tkk 17 153 hHeld ?_;try simp only[Act.put,Ya,Yb,Yc]
           refine tkk 18 154 hHeld ?_;try simp only[Act.put,Ya,Yb,Yc]
           refine tkk 19 155 hHeld ?_;try simp only[Act.put,Ya,Yb,Yc]
           refine tkk 20 156 hHeld ?_;try simp only[Act.put,Ya,Yb,Yc]
           refine tkk 21 157 hHeld ?_;try simp only[Act.put,Ya,Yb,Yc]
           refine tkk 22 158 hHeld ?_;try simp only[Act.put,Ya,Yb,Yc]
           refine tkk 23 159 hHeld ?_;try simp only[Act.put,Ya,Yb,Yc]
           refine tkk 24 160 hHeld ?_;try simp only[Act.put,Ya,Yb,Yc]
           refine tkk 25 161 hHeld ?_;try simp only[Act.put,Ya,Yb,Yc]
           refine tkk 26 162 hHeld ?_;try simp only[Act.put,Ya,Yb,Yc]
           refine tkk 27 163 hHeld ?_;try simp only[Act.put,Ya,Yb,Yc]
           refine tkk 28 164 hHeld ?_;try simp only[Act.put,Ya,Yb,Yc]
           refine tkk 29 165 hHeld ?_;try simp only[Act.put,Ya,Yb,Yc]
           refine tkk 30 166 hHeld ?_;try simp only[Act.put,Ya,Yb,Yc]
           refine tkk 31 167 hHeld ?_;try simp only[Act.put,Ya,Yb,Yc]
           refine tkk 32 168 hHeld ?_;try simp only[Act.put,Ya,Yb,Yc]
           refine tkk 33 169 hHeld ?_;try simp only[Act.put,Ya,Yb,Yc]
           refine tkk 34 170 hHeld ?_;try simp only[Act.put,Ya,Yb,Yc]
           refine tkk 35 16 hHeld ?_;try simp only[Act.put,Ya,Yb,Yc]
           refine wpAnyH_done (by kernel_rfl) ?_ _;clear hHeld;go_wp2_with fail
           go_roundw
           case rel=>exact⟨k+1,_,by go_num,hkl,⟨rfl,EQ9⟩,hide (((uq KI0).trans KAL).drew)⟩
           case measure=>simp[intOf];omega
        ·have lk:¬(k:Int)<(np:Int):=by omega
         obtain rfl:k=np:=by omega
         have hbt:b=true:=by rw[uq HB0];exact uq hft
         subst hbt;go_wp2_with fail
         go_roundw
         case rel=>exact⟨f+1,by go_num,hfl,hide ((uq K9).trans (uq KI0))⟩
         case measure=>simp[intOf];omega
      ·have hft:=hide (((uq HFDf) g hg4 hgn xa0 xb0 hxa0 hxb0).2 hxA hxB);obtain⟨z0,z1,z2,z3,z4,z5,z6⟩:=(uq HX4) w9 ((uq K5).trans (uq K9));obtain⟨gd,hx4,gdb,g0c⟩:=(uq HGr) g hg4;rw[hgn]at g0c;obtain⟨rd,hga,rdb,_,r0c⟩:=(uq HRi) g hg4 0 (by omega);obtain⟨rd',hga',_,_,r1c⟩:=(uq HRi) g hg4 1 (by omega);rw[hga]at hga' g0c;injection hga' with hga'
       subst hga';rw[show rd.add (0 * 2)=rd by simp[Addr.add]]at r0c;rw[show rd.add (1 * 2)=⟨rd.block,rd.off+2,none⟩ by simp[Addr.add]]at r1c;simp only at r1c;have NA0:=hide ((uq HNa) g hg4 0 (by omega));have NA1:=hide ((uq HNa) g hg4 1 (by omega));obtain⟨jd,u,hva,jc,jo⟩:=(uq JS) g hg4;obtain⟨ua,uc,hu⟩:=zbA jo;subst hu;have HPLg:=hide ((uq HPL) g hg4);have hnpb:=(uq HPB) g hg4;obtain⟨pl,hpl⟩:∃ pl,PL g=pl:=⟨_,rfl⟩;rw[hpl]at jc jo HPLg hft hnpb;obtain⟨np,hnp⟩:∃ np,pl.length=np:=⟨_,rfl⟩;have HNP:=hide hnp;rw[hnp]at jc jo HPLg hft hnpb;obtain⟨r0,hr0⟩:∃ r,RN g 0=r:=⟨_,rfl⟩;obtain⟨r1,hr1⟩:∃ r,RN g 1=r:=⟨_,rfl⟩;obtain⟨rc0,hrc0⟩:∃ r,RC g 0=r:=⟨_,rfl⟩;obtain⟨rc1,hrc1⟩:∃ r,RC g 1=r:=⟨_,rfl⟩;obtain⟨gC,hgC⟩:∃ r,GC g=r:=⟨_,rfl⟩;rw[hr0]at r0c NA0 HPLg hxa0;rw[hr1]at r1c NA1 HPLg hxb0;rw[hrc0]at r0c;rw[hrc1]at r1c;rw[hgC]at g0c;obtain⟨nd0,hn0,_,_⟩:=(uq NA0) xa0 hxa0;obtain⟨nd1,hn1,_,_⟩:=(uq NA1) xb0 hxb0;rw[hn0]at r0c;rw[hn1]at r1c;have HJC:Hid (∀ w',Keep w9 w'→w'.cell? ⟨(jd.add (g * 3)).block,(jd.add (g * 3)).off+2,none⟩=some (.slice ua np uc)∧w'.ownsRow 0 57 2 (.slice ua np uc) np (pcs pl)):=hide (fun w' k=>⟨kcj ((uq K9).trans k) jc,own_k jo ((uq K9).trans k)⟩);have HGC:Hid (∀ w',Keep w9 w'→w'.cell? (gd.add g)=some (.slice (some rd) 2 gC)∧w'.cell? ⟨rd.block,rd.off+1,none⟩=some (.slice (some nd0) r0 rc0)∧w'.cell? ⟨rd.block,rd.off+2+1,none⟩=some (.slice (some nd1) r1 rc1)):=hide (fun w' k=>⟨kcj ((uq KW5).trans ((uq K9).trans k)) g0c,kcj ((uq KW5).trans ((uq K9).trans k)) r0c,kcj ((uq KW5).trans ((uq K9).trans k)) r1c⟩);have lg:(g:Int)<(n4:Int):=by omega
       obtain⟨PP9,hPP9⟩:∃ x,PH hb9=x:=⟨_,rfl⟩;obtain⟨QQ9,hQQ9⟩:∃ x,PH ha=x:=⟨_,rfl⟩;subst hx4 hva;clear jc jo g0c r0c r1c hnp hpl hr0 hr1 hrc0 hrc1 hgC;rw[hPP9,hQQ9]at hft;go_wp2_with fail
       try rw[hPP9]
       try rw[hQQ9]
       clear z0 z1 z2 z3 z4 z5 z6 hPP9 hQQ9
       go_loopw [16,17] (fun vb vk wr=>∃(k:Nat) (b:Bool),vk= .int .i64 (k:Int)∧k≤np∧(vb= .bool b∧Hid (b=anB (eF (H g 0) (H g 1) pl PP9 QQ9) k))∧Hid (Keep w9 wr)) (fun vb vk _=>np - (intOf vk).toNat)
       case atStart=>exact⟨0,false,rfl,Nat.zero_le _,⟨rfl,hide rfl⟩,hide (Keep.refl _)⟩
       case round=>
        obtain⟨k,b,rfl,hk,⟨rfl,HB0⟩,KI0⟩:=hrel;obtain⟨jc,jo⟩:=(uq HJC) wr (uq KI0);have z4:=((uq HX4) wr ((uq K5).trans ((uq K9).trans (uq KI0)))).2.2.2.2.1;by_cases hkl:k<np
        ·have lk:(k:Int)<(np:Int):=by omega
         obtain⟨xa,xb,hxx⟩:∃ xa xb,pl.getD k (0,0)=(xa,xb):=⟨_,_,rfl⟩;obtain⟨pp,hpa,q0c,q1c⟩:=zhD (L:=pl) (by rw[uq HNP];exact jo) (show k<pl.length by rw[uq HNP];exact hkl);rw[hxx]at q0c q1c;simp only at q0c q1c;obtain⟨_,hxa,hxb⟩:=(uq HPLg) k hkl xa xb hxx;obtain⟨nd0',hm0,_,n0c⟩:=(uq NA0) xa hxa;obtain⟨nd1',hm1,_,n1c⟩:=(uq NA1) xb hxb;rw[hn0]at hm0;rw[hn1]at hm1;injection hm0 with hm0
         injection hm1 with hm1
         subst hm0 hm1;obtain⟨h0,hh0⟩:∃ h,H g 0 xa=h:=⟨_,rfl⟩;obtain⟨h1,hh1⟩:∃ h,H g 1 xb=h:=⟨_,rfl⟩;have HEF:Hid (eF (H g 0) (H g 1) pl PP9 QQ9 k=((h0==PP9)&&(h1==QQ9))):=hide (by unfold eF;rw[hxx,hh0,hh1]);rw[hh0]at n0c;rw[hh1]at n1c;have hnb:=heap_alloc_new wr (.cells #[.int .i64 (xa:Int),.int .i64 (xb:Int)] 57);have KAL:=(Keep.refl wr).alloc (.cells #[.int .i64 (xa:Int),.int .i64 (xb:Int)] 57);obtain⟨b18,hb18⟩:∃ b,wr.heap.size=b:=⟨_,rfl⟩;rw[hb18]at hnb;have SI:Hid (∀ w',Keep (wr.alloc (.cells #[.int .i64 (xa:Int),.int .i64 (xb:Int)] 57)) w'→w'.cell? ⟨b7,4,none⟩=some (.slice (some gd) n4 c4)∧w'.cell? (gd.add g)=some (.slice (some rd) 2 gC)∧w'.cell? ⟨rd.block,rd.off+1,none⟩=some (.slice (some nd0) r0 rc0)∧w'.cell? ⟨rd.block,rd.off+2+1,none⟩=some (.slice (some nd1) r1 rc1)∧w'.cell? ⟨b18,0,none⟩=some (.int .i64 (xa:Int))∧w'.cell? ⟨b18,1,none⟩=some (.int .i64 (xb:Int))∧w'.cell? (nd0.add xa)=some (.string (sv h0))∧w'.cell? (nd1.add xb)=some (.string (sv h1))):=hide (fun w' k'=>by
          have hbk:=(k'.block b18 (Array.getElem?_eq_some_iff.1 hnb).1).trans hnb;obtain⟨s1,s2,s3⟩:=(uq HGC) w' (((uq KI0).trans KAL).trans k');exact⟨((uq HX4) w' ((uq K5).trans ((uq K9).trans (((uq KI0).trans KAL).trans k')))).2.2.2.2.1,s1,s2,s3,by simp[World.cell?,hbk],by simp[World.cell?,hbk],kcj ((uq KW5).trans ((uq K9).trans (((uq KI0).trans KAL).trans k'))) n0c,kcj ((uq KW5).trans ((uq K9).trans (((uq KI0).trans KAL).trans k'))) n1c⟩)
         have lxa:(xa:Int)<(r0:Int):=by omega
         have lxb:(xb:Int)<(r1:Int):=by omega
         subst hpa;clear n0c n1c hh0 hh1 hnb hxx;cases b with
         |true=>
          have EQ9:Hid (true=anB (eF (H g 0) (H g 1) pl PP9 QQ9) (k+1)):=hide (by rw[anB,← uq HB0];rfl);clear HB0
          go_upto_region 23 with fail
          refine wp_region_held_drew (S:=(fun w'=>w'.cell? ⟨b7,4,none⟩=some (.slice (some gd) n4 c4)∧w'.cell? (gd.add g)=some (.slice (some rd) 2 gC)∧w'.cell? ⟨rd.block,rd.off+1,none⟩=some (.slice (some nd0) r0 rc0)∧w'.cell? ⟨rd.block,rd.off+2+1,none⟩=some (.slice (some nd1) r1 rc1)∧w'.cell? ⟨b18,0,none⟩=some (.int .i64 (xa:Int))∧w'.cell? ⟨b18,1,none⟩=some (.int .i64 (xb:Int))∧w'.cell? (nd0.add xa)=some (.string (sv h0))∧w'.cell? (nd1.add xb)=some (.string (sv h1)))) (by kernel_rfl) (by exact uq SI _ ((Keep.refl _).drew)) (fun hHeld=>?_);refine tkk 0 136 hHeld ?_;try simp only[Act.put,Ya,Yb,Yc]
          refine tkk 1 137 hHeld ?_;try simp only[Act.put,Ya,Yb,Yc]
          refine wpAnyH_take (i:=2) (v:=undef) rfl (by kernel_rfl) (by kernel_rfl) (by kernel_rfl) (fun _ _ _ h=>h) (Or.inr ⟨by rfl,rfl⟩) hHeld ?_;show wpAnyH _ _ _ _ _ _ _ (Act.put _ (some 138) _) _;try simp only[Act.put,Ya,Yb,Yc]
          refine wpAnyH_take (i:=3) (v:=undef) rfl (by kernel_rfl) (by kernel_rfl) (by kernel_rfl) (fun _ _ _ h=>h) (Or.inr ⟨by rfl,rfl⟩) hHeld ?_;show wpAnyH _ _ _ _ _ _ _ (Act.put _ (some 139) _) _;try simp only[Act.put,Ya,Yb,Yc]
          refine wpAnyH_take (i:=4) (v:=undef) rfl (by kernel_rfl) (by kernel_rfl) (by kernel_rfl) (fun _ _ _ h=>h) (Or.inr ⟨by rfl,rfl⟩) hHeld ?_;show wpAnyH _ _ _ _ _ _ _ (Act.put _ (some 140) _) _;try simp only[Act.put,Ya,Yb,Yc]
          refine wpAnyH_take (i:=5) (v:=undef) rfl (by kernel_rfl) (by kernel_rfl) (by kernel_rfl) (fun _ _ _ h=>h) (Or.inr ⟨by rfl,rfl⟩) hHeld ?_;show wpAnyH _ _ _ _ _ _ _ (Act.put _ (some 141) _) _;try simp only[Act.put,Ya,Yb,Yc]
          refine wpAnyH_take (i:=6) (v:=undef) rfl (by kernel_rfl) (by kernel_rfl) (by kernel_rfl) (fun _ _ _ h=>h) (Or.inr ⟨by rfl,rfl⟩) hHeld ?_;show wpAnyH _ _ _ _ _ _ _ (Act.put _ (some 142) _) _;try simp only[Act.put,Ya,Yb,Yc]
          refine wpAnyH_take (i:=7) (v:=undef) rfl (by kernel_rfl) (by kernel_rfl) (by kernel_rfl) (fun _ _ _ h=>h) (Or.inr ⟨by rfl,rfl⟩) hHeld ?_;show wpAnyH _ _ _ _ _ _ _ (Act.put _ (some 143) _) _;try simp only[Act.put,Ya,Yb,Yc]
          refine wpAnyH_take (i:=8) (v:=undef) rfl (by kernel_rfl) (by kernel_rfl) (by kernel_rfl) (fun _ _ _ h=>h) (Or.inr ⟨by rfl,rfl⟩) hHeld ?_;show wpAnyH _ _ _ _ _ _ _ (Act.put _ (some 144) _) _;try simp only[Act.put,Ya,Yb,Yc]
          refine wpAnyH_take (i:=9) (v:=undef) rfl (by kernel_rfl) (by kernel_rfl) (by kernel_rfl) (fun _ _ _ h=>h) (Or.inr ⟨by rfl,rfl⟩) hHeld ?_;show wpAnyH _ _ _ _ _ _ _ (Act.put _ (some 145) _) _;try simp only[Act.put,Ya,Yb,Yc]
          refine wpAnyH_take (i:=10) (v:=undef) rfl (by kernel_rfl) (by kernel_rfl) (by kernel_rfl) (fun _ _ _ h=>h) (Or.inr ⟨by rfl,rfl⟩) hHeld ?_;show wpAnyH _ _ _ _ _ _ _ (Act.put _ (some 146) _) _;try simp only[Act.put,Ya,Yb,Yc]
          refine wpAnyH_take (i:=11) (v:=undef) rfl (by kernel_rfl) (by kernel_rfl) (by kernel_rfl) (fun _ _ _ h=>h) (Or.inr ⟨by rfl,rfl⟩) hHeld ?_;show wpAnyH _ _ _ _ _ _ _ (Act.put _ (some 147) _) _;try simp only[Act.put,Ya,Yb,Yc]
          refine wpAnyH_take (i:=12) (v:=undef) rfl (by kernel_rfl) (by kernel_rfl) (by kernel_rfl) (fun _ _ _ h=>h) (Or.inr ⟨by rfl,rfl⟩) hHeld ?_;show wpAnyH _ _ _ _ _ _ _ (Act.put _ (some 148) _) _;try simp only[Act.put,Ya,Yb,Yc]
          refine wpAnyH_take (i:=13) (v:=undef) rfl (by kernel_rfl) (by kernel_rfl) (by kernel_rfl) (fun _ _ _ h=>h) (Or.inr ⟨by rfl,rfl⟩) hHeld ?_;show wpAnyH _ _ _ _ _ _ _ (Act.put _ (some 149) _) _;try simp only[Act.put,Ya,Yb,Yc]
          refine wpAnyH_take (i:=14) (v:=undef) rfl (by kernel_rfl) (by kernel_rfl) (by kernel_rfl) (fun _ _ _ h=>h) (Or.inr ⟨by rfl,rfl⟩) hHeld ?_;show wpAnyH _ _ _ _ _ _ _ (Act.put _ (some 150) _) _;try simp only[Act.put,Ya,Yb,Yc]
          refine wpAnyH_take (i:=15) (v:=undef) rfl (by kernel_rfl) (by kernel_rfl) (by kernel_rfl) (fun _ _ _ h=>h) (Or.inr ⟨by rfl,rfl⟩) hHeld ?_;show wpAnyH _ _ _ _ _ _ _ (Act.put _ (some 151) _) _;try simp only[Act.put,Ya,Yb,Yc]
          refine wpAnyH_take (i:=16) (v:=undef) rfl (by kernel_rfl) (by kernel_rfl) (by kernel_rfl) (fun _ _ _ h=>h) (Or.inr ⟨by rfl,rfl⟩) hHeld ?_;show wpAnyH _ _ _ _ _ _ _ (Act.put _ (some 152) _) _;try simp only[Act.put,Ya,Yb,Yc]
          refine wpAnyH_take (i:=17) (v:=undef) rfl (by kernel_rfl) (by kernel_rfl) (by kernel_rfl) (fun _ _ _ h=>h) (Or.inr ⟨by rfl,rfl⟩) hHeld ?_;show wpAnyH _ _ _ _ _ _ _ (Act.put _ (some 153) _) _;try simp only[Act.put,Ya,Yb,Yc]
          refine wpAnyH_take (i:=18) (v:=undef) rfl (by kernel_rfl) (by kernel_rfl) (by kernel_rfl) (fun _ _ _ h=>h) (Or.inr ⟨by rfl,rfl⟩) hHeld ?_;show wpAnyH _ _ _ _ _ _ _ (Act.put _ (some 154) _) _;try simp only[Act.put,Ya,Yb,Yc]
          refine wpAnyH_take (i:=19) (v:=undef) rfl (by kernel_rfl) (by kernel_rfl) (by kernel_rfl) (fun _ _ _ h=>h) (Or.inr ⟨by rfl,rfl⟩) hHeld ?_;show wpAnyH _ _ _ _ _ _ _ (Act.put _ (some 155) _) _;try simp only[Act.put,Ya,Yb,Yc]
          refine wpAnyH_take (i:=20) (v:=undef) rfl (by kernel_rfl) (by kernel_rfl) (by kernel_rfl) (fun _ _ _ h=>h) (Or.inr ⟨by rfl,rfl⟩) hHeld ?_;show wpAnyH _ _ _ _ _ _ _ (Act.put _ (some 156) _) _;try simp only[Act.put,Ya,Yb,Yc]
          refine wpAnyH_take (i:=21) (v:=undef) rfl (by kernel_rfl) (by kernel_rfl) (by kernel_rfl) (fun _ _ _ h=>h) (Or.inr ⟨by rfl,rfl⟩) hHeld ?_;show wpAnyH _ _ _ _ _ _ _ (Act.put _ (some 157) _) _;try simp only[Act.put,Ya,Yb,Yc]
          refine wpAnyH_take (i:=22) (v:=undef) rfl (by kernel_rfl) (by kernel_rfl) (by kernel_rfl) (fun _ _ _ h=>h) (Or.inr ⟨by rfl,rfl⟩) hHeld ?_;show wpAnyH _ _ _ _ _ _ _ (Act.put _ (some 158) _) _;try simp only[Act.put,Ya,Yb,Yc]
          refine wpAnyH_take (i:=23) (v:=undef) rfl (by kernel_rfl) (by kernel_rfl) (by kernel_rfl) (fun _ _ _ h=>h) (Or.inr ⟨by rfl,rfl⟩) hHeld ?_;show wpAnyH _ _ _ _ _ _ _ (Act.put _ (some 159) _) _;try simp only[Act.put,Ya,Yb,Yc]
          refine wpAnyH_take (i:=24) (v:=undef) rfl (by kernel_rfl) (by kernel_rfl) (by kernel_rfl) (fun _ _ _ h=>h) (Or.inr ⟨by rfl,rfl⟩) hHeld ?_;show wpAnyH _ _ _ _ _ _ _ (Act.put _ (some 160) _) _;try simp only[Act.put,Ya,Yb,Yc]
          refine wpAnyH_take (i:=25) (v:=undef) rfl (by kernel_rfl) (by kernel_rfl) (by kernel_rfl) (fun _ _ _ h=>h) (Or.inr ⟨by rfl,rfl⟩) hHeld ?_;show wpAnyH _ _ _ _ _ _ _ (Act.put _ (some 161) _) _;try simp only[Act.put,Ya,Yb,Yc]
          refine wpAnyH_take (i:=26) (v:=undef) rfl (by kernel_rfl) (by kernel_rfl) (by kernel_rfl) (fun _ _ _ h=>h) (Or.inr ⟨by rfl,rfl⟩) hHeld ?_;show wpAnyH _ _ _ _ _ _ _ (Act.put _ (some 162) _) _;try simp only[Act.put,Ya,Yb,Yc]
          refine wpAnyH_take (i:=27) (v:=undef) rfl (by kernel_rfl) (by kernel_rfl) (by kernel_rfl) (fun _ _ _ h=>h) (Or.inr ⟨by rfl,rfl⟩) hHeld ?_;show wpAnyH _ _ _ _ _ _ _ (Act.put _ (some 163) _) _;try simp only[Act.put,Ya,Yb,Yc]
          refine wpAnyH_take (i:=28) (v:=undef) rfl (by kernel_rfl) (by kernel_rfl) (by kernel_rfl) (fun _ _ _ h=>h) (Or.inr ⟨by rfl,rfl⟩) hHeld ?_;show wpAnyH _ _ _ _ _ _ _ (Act.put _ (some 164) _) _;try simp only[Act.put,Ya,Yb,Yc]
          refine wpAnyH_take (i:=29) (v:=undef) rfl (by kernel_rfl) (by kernel_rfl) (by kernel_rfl) (fun _ _ _ h=>h) (Or.inr ⟨by rfl,rfl⟩) hHeld ?_;show wpAnyH _ _ _ _ _ _ _ (Act.put _ (some 165) _) _;try simp only[Act.put,Ya,Yb,Yc]
          refine wpAnyH_take (i:=30) (v:=undef) rfl (by kernel_rfl) (by kernel_rfl) (by kernel_rfl) (fun _ _ _ h=>h) (Or.inr ⟨by rfl,rfl⟩) hHeld ?_;show wpAnyH _ _ _ _ _ _ _ (Act.put _ (some 166) _) _;try simp only[Act.put,Ya,Yb,Yc]
          refine wpAnyH_take (i:=31) (v:=undef) rfl (by kernel_rfl) (by kernel_rfl) (by kernel_rfl) (fun _ _ _ h=>h) (Or.inr ⟨by rfl,rfl⟩) hHeld ?_;show wpAnyH _ _ _ _ _ _ _ (Act.put _ (some 167) _) _;try simp only[Act.put,Ya,Yb,Yc]
          refine wpAnyH_take (i:=32) (v:=undef) rfl (by kernel_rfl) (by kernel_rfl) (by kernel_rfl) (fun _ _ _ h=>h) (Or.inr ⟨by rfl,rfl⟩) hHeld ?_;show wpAnyH _ _ _ _ _ _ _ (Act.put _ (some 168) _) _;try simp only[Act.put,Ya,Yb,Yc]
          refine wpAnyH_take (i:=33) (v:=undef) rfl (by kernel_rfl) (by kernel_rfl) (by kernel_rfl) (fun _ _ _ h=>h) (Or.inr ⟨by rfl,rfl⟩) hHeld ?_;show wpAnyH _ _ _ _ _ _ _ (Act.put _ (some 169) _) _;try simp only[Act.put,Ya,Yb,Yc]
          refine tkk 34 170 hHeld ?_;try simp only[Act.put,Ya,Yb,Yc]
          refine tkk 35 16 hHeld ?_;try simp only[Act.put,Ya,Yb,Yc]
          refine wpAnyH_done (by kernel_rfl) ?_ _;clear hHeld;go_wp2_with fail
          go_roundw
          case rel=>exact⟨k+1,_,by go_num,hkl,⟨rfl,EQ9⟩,hide (((uq KI0).trans KAL).drew)⟩
          case measure=>simp[intOf];omega
         |false=>
          cases he1:(h0==PP9)with
          |false=>
           have EQ9:Hid (false=anB (eF (H g 0) (H g 1) pl PP9 QQ9) (k+1)):=hide (by rw[anB,← uq HB0,uq HEF,he1];rfl);have hes:((sv h0).toList==(sv PP9).toList)=false:=by rw[V.sv_beq];exact he1
           clear HB0 HEF he1
           go_upto_region 23 with fail
           refine wp_region_held_drew (S:=(fun w'=>w'.cell? ⟨b7,4,none⟩=some (.slice (some gd) n4 c4)∧w'.cell? (gd.add g)=some (.slice (some rd) 2 gC)∧w'.cell? ⟨rd.block,rd.off+1,none⟩=some (.slice (some nd0) r0 rc0)∧w'.cell? ⟨rd.block,rd.off+2+1,none⟩=some (.slice (some nd1) r1 rc1)∧w'.cell? ⟨b18,0,none⟩=some (.int .i64 (xa:Int))∧w'.cell? ⟨b18,1,none⟩=some (.int .i64 (xb:Int))∧w'.cell? (nd0.add xa)=some (.string (sv h0))∧w'.cell? (nd1.add xb)=some (.string (sv h1)))) (by kernel_rfl) (by exact uq SI _ ((Keep.refl _).drew)) (fun hHeld=>?_);refine tkk 0 136 hHeld ?_;try simp only[Act.put,Ya,Yb,Yc]
           refine tkk 1 137 hHeld ?_;try simp only[Act.put,Ya,Yb,Yc]
           refine tkk 2 138 hHeld ?_;try simp only[Act.put,Ya,Yb,Yc]
           refine tkk 3 139 hHeld ?_;try simp only[Act.put,Ya,Yb,Yc]
           refine tkk 4 140 hHeld ?_;try simp only[Act.put,Ya,Yb,Yc]
           refine tkk 5 141 hHeld ?_;try simp only[Act.put,Ya,Yb,Yc]
           refine tkk 6 142 hHeld ?_;try simp only[Act.put,Ya,Yb,Yc]
           refine tkk 7 143 hHeld ?_;try simp only[Act.put,Ya,Yb,Yc]
           refine tkk 8 144 hHeld ?_;try simp only[Act.put,Ya,Yb,Yc]
           refine tkk 9 145 hHeld ?_;try simp only[Act.put,Ya,Yb,Yc]
           refine tkk 10 146 hHeld ?_;try simp only[Act.put,Ya,Yb,Yc]
           refine tkk 11 147 hHeld ?_;try simp only[Act.put,Ya,Yb,Yc]
           refine tkk 12 148 hHeld ?_;try simp only[Act.put,Ya,Yb,Yc]
           refine tkk 13 149 hHeld ?_;try simp only[Act.put,Ya,Yb,Yc]
           refine tkk 14 150 hHeld ?_;try simp only[Act.put,Ya,Yb,Yc]
           refine tkk 15 151 hHeld ?_;try simp only[Act.put,Ya,Yb,Yc]
           refine tkk 16 152 hHeld ?_;try simp only[Act.put,Ya,Yb,Yc]
           refine tkk 17 153 hHeld ?_;try simp only[Act.put,Ya,Yb,Yc]
           refine wpAnyH_take (i:=18) (v:=undef) rfl (by kernel_rfl) (by kernel_rfl) (by kernel_rfl) (fun _ _ _ h=>h) (Or.inr ⟨by rfl,rfl⟩) hHeld ?_;show wpAnyH _ _ _ _ _ _ _ (Act.put _ (some 154) _) _;try simp only[Act.put,Ya,Yb,Yc]
           refine wpAnyH_take (i:=19) (v:=undef) rfl (by kernel_rfl) (by kernel_rfl) (by kernel_rfl) (fun _ _ _ h=>h) (Or.inr ⟨by rfl,rfl⟩) hHeld ?_;show wpAnyH _ _ _ _ _ _ _ (Act.put _ (some 155) _) _;try simp only[Act.put,Ya,Yb,Yc]
           refine wpAnyH_take (i:=20) (v:=undef) rfl (by kernel_rfl) (by kernel_rfl) (by kernel_rfl) (fun _ _ _ h=>h) (Or.inr ⟨by rfl,rfl⟩) hHeld ?_;show wpAnyH _ _ _ _ _ _ _ (Act.put _ (some 156) _) _;try simp only[Act.put,Ya,Yb,Yc]
           refine wpAnyH_take (i:=21) (v:=undef) rfl (by kernel_rfl) (by kernel_rfl) (by kernel_rfl) (fun _ _ _ h=>h) (Or.inr ⟨by rfl,rfl⟩) hHeld ?_;show wpAnyH _ _ _ _ _ _ _ (Act.put _ (some 157) _) _;try simp only[Act.put,Ya,Yb,Yc]
           refine wpAnyH_take (i:=22) (v:=undef) rfl (by kernel_rfl) (by kernel_rfl) (by kernel_rfl) (fun _ _ _ h=>h) (Or.inr ⟨by rfl,rfl⟩) hHeld ?_;show wpAnyH _ _ _ _ _ _ _ (Act.put _ (some 158) _) _;try simp only[Act.put,Ya,Yb,Yc]
           refine wpAnyH_take (i:=23) (v:=undef) rfl (by kernel_rfl) (by kernel_rfl) (by kernel_rfl) (fun _ _ _ h=>h) (Or.inr ⟨by rfl,rfl⟩) hHeld ?_;show wpAnyH _ _ _ _ _ _ _ (Act.put _ (some 159) _) _;try simp only[Act.put,Ya,Yb,Yc]
           refine wpAnyH_take (i:=24) (v:=undef) rfl (by kernel_rfl) (by kernel_rfl) (by kernel_rfl) (fun _ _ _ h=>h) (Or.inr ⟨by rfl,rfl⟩) hHeld ?_;show wpAnyH _ _ _ _ _ _ _ (Act.put _ (some 160) _) _;try simp only[Act.put,Ya,Yb,Yc]
           refine wpAnyH_take (i:=25) (v:=undef) rfl (by kernel_rfl) (by kernel_rfl) (by kernel_rfl) (fun _ _ _ h=>h) (Or.inr ⟨by rfl,rfl⟩) hHeld ?_;show wpAnyH _ _ _ _ _ _ _ (Act.put _ (some 161) _) _;try simp only[Act.put,Ya,Yb,Yc]
           refine wpAnyH_take (i:=26) (v:=undef) rfl (by kernel_rfl) (by kernel_rfl) (by kernel_rfl) (fun _ _ _ h=>h) (Or.inr ⟨by rfl,rfl⟩) hHeld ?_;show wpAnyH _ _ _ _ _ _ _ (Act.put _ (some 162) _) _;try simp only[Act.put,Ya,Yb,Yc]
           refine wpAnyH_take (i:=27) (v:=undef) rfl (by kernel_rfl) (by kernel_rfl) (by kernel_rfl) (fun _ _ _ h=>h) (Or.inr ⟨by rfl,rfl⟩) hHeld ?_;show wpAnyH _ _ _ _ _ _ _ (Act.put _ (some 163) _) _;try simp only[Act.put,Ya,Yb,Yc]
           refine wpAnyH_take (i:=28) (v:=undef) rfl (by kernel_rfl) (by kernel_rfl) (by kernel_rfl) (fun _ _ _ h=>h) (Or.inr ⟨by rfl,rfl⟩) hHeld ?_;show wpAnyH _ _ _ _ _ _ _ (Act.put _ (some 164) _) _;try simp only[Act.put,Ya,Yb,Yc]
           refine wpAnyH_take (i:=29) (v:=undef) rfl (by kernel_rfl) (by kernel_rfl) (by kernel_rfl) (fun _ _ _ h=>h) (Or.inr ⟨by rfl,rfl⟩) hHeld ?_;show wpAnyH _ _ _ _ _ _ _ (Act.put _ (some 165) _) _;try simp only[Act.put,Ya,Yb,Yc]
           refine wpAnyH_take (i:=30) (v:=undef) rfl (by kernel_rfl) (by kernel_rfl) (by kernel_rfl) (fun _ _ _ h=>h) (Or.inr ⟨by rfl,rfl⟩) hHeld ?_;show wpAnyH _ _ _ _ _ _ _ (Act.put _ (some 166) _) _;try simp only[Act.put,Ya,Yb,Yc]
           refine wpAnyH_take (i:=31) (v:=undef) rfl (by kernel_rfl) (by kernel_rfl) (by kernel_rfl) (fun _ _ _ h=>h) (Or.inr ⟨by rfl,rfl⟩) hHeld ?_;show wpAnyH _ _ _ _ _ _ _ (Act.put _ (some 167) _) _;try simp only[Act.put,Ya,Yb,Yc]
           refine wpAnyH_take (i:=32) (v:=undef) rfl (by kernel_rfl) (by kernel_rfl) (by kernel_rfl) (fun _ _ _ h=>h) (Or.inr ⟨by rfl,rfl⟩) hHeld ?_;show wpAnyH _ _ _ _ _ _ _ (Act.put _ (some 168) _) _;try simp only[Act.put,Ya,Yb,Yc]
           refine tkk 33 169 hHeld ?_;try simp only[Act.put,Ya,Yb,Yc]
           refine tkk 34 170 hHeld ?_;try simp only[Act.put,Ya,Yb,Yc]
           refine tkk 35 16 hHeld ?_;try simp only[Act.put,Ya,Yb,Yc]
           refine wpAnyH_done (by kernel_rfl) ?_ _;clear hHeld;go_wp2_with fail
           go_roundw
           case rel=>exact⟨k+1,_,by go_num,hkl,⟨rfl,EQ9⟩,hide (((uq KI0).trans KAL).drew)⟩
           case measure=>simp[intOf];omega
          |true=>
           have hes:((sv h0).toList==(sv PP9).toList)=true:=by rw[V.sv_beq];exact he1
           obtain⟨e2,he2⟩:∃ e2,(h1==QQ9)=e2:=⟨_,rfl⟩;have EQ9:Hid (e2=anB (eF (H g 0) (H g 1) pl PP9 QQ9) (k+1)):=hide (by rw[anB,← uq HB0,uq HEF,he1,he2];rfl);have hes2:((sv h1).toList==(sv QQ9).toList)=e2:=by rw[V.sv_beq];exact he2
           clear HB0 HEF he1 he2
           go_upto_region 23 with fail
           refine wp_region_held_drew (S:=(fun w'=>w'.cell? ⟨b7,4,none⟩=some (.slice (some gd) n4 c4)∧w'.cell? (gd.add g)=some (.slice (some rd) 2 gC)∧w'.cell? ⟨rd.block,rd.off+1,none⟩=some (.slice (some nd0) r0 rc0)∧w'.cell? ⟨rd.block,rd.off+2+1,none⟩=some (.slice (some nd1) r1 rc1)∧w'.cell? ⟨b18,0,none⟩=some (.int .i64 (xa:Int))∧w'.cell? ⟨b18,1,none⟩=some (.int .i64 (xb:Int))∧w'.cell? (nd0.add xa)=some (.string (sv h0))∧w'.cell? (nd1.add xb)=some (.string (sv h1)))) (by kernel_rfl) (by exact uq SI _ ((Keep.refl _).drew)) (fun hHeld=>?_);refine tkk 0 136 hHeld ?_;try simp only[Act.put,Ya,Yb,Yc]
           refine tkk 1 137 hHeld ?_;try simp only[Act.put,Ya,Yb,Yc]
           refine tkk 2 138 hHeld ?_;try simp only[Act.put,Ya,Yb,Yc]
           refine tkk 3 139 hHeld ?_;try simp only[Act.put,Ya,Yb,Yc]
           refine tkk 4 140 hHeld ?_;try simp only[Act.put,Ya,Yb,Yc]
           refine tkk 5 141 hHeld ?_;try simp only[Act.put,Ya,Yb,Yc]
           refine tkk 6 142 hHeld ?_;try simp only[Act.put,Ya,Yb,Yc]
           refine tkk 7 143 hHeld ?_;try simp only[Act.put,Ya,Yb,Yc]
           refine tkk 8 144 hHeld ?_;try simp only[Act.put,Ya,Yb,Yc]
           refine tkk 9 145 hHeld ?_;try simp only[Act.put,Ya,Yb,Yc]
           refine tkk 10 146 hHeld ?_;try simp only[Act.put,Ya,Yb,Yc]
           refine tkk 11 147 hHeld ?_;try simp only[Act.put,Ya,Yb,Yc]
           refine tkk 12 148 hHeld ?_;try simp only[Act.put,Ya,Yb,Yc]
           refine tkk 13 149 hHeld ?_;try simp only[Act.put,Ya,Yb,Yc]
           refine tkk 14 150 hHeld ?_;try simp only[Act.put,Ya,Yb,Yc]
           refine tkk 15 151 hHeld ?_;try simp only[Act.put,Ya,Yb,Yc]
           refine tkk 16 152 hHeld ?_;try simp only[Act.put,Ya,Yb,Yc]
           refine tkk 17 153 hHeld ?_;try simp only[Act.put,Ya,Yb,Yc]
           refine tkk 18 154 hHeld ?_;try simp only[Act.put,Ya,Yb,Yc]
           refine tkk 19 155 hHeld ?_;try simp only[Act.put,Ya,Yb,Yc]
           refine tkk 20 156 hHeld ?_;try simp only[Act.put,Ya,Yb,Yc]
           refine tkk 21 157 hHeld ?_;try simp only[Act.put,Ya,Yb,Yc]
           refine tkk 22 158 hHeld ?_;try simp only[Act.put,Ya,Yb,Yc]
           refine tkk 23 159 hHeld ?_;try simp only[Act.put,Ya,Yb,Yc]
           refine tkk 24 160 hHeld ?_;try simp only[Act.put,Ya,Yb,Yc]
           refine tkk 25 161 hHeld ?_;try simp only[Act.put,Ya,Yb,Yc]
           refine tkk 26 162 hHeld ?_;try simp only[Act.put,Ya,Yb,Yc]
           refine tkk 27 163 hHeld ?_;try simp only[Act.put,Ya,Yb,Yc]
           refine tkk 28 164 hHeld ?_;try simp only[Act.put,Ya,Yb,Yc]
           refine tkk 29 165 hHeld ?_;try simp only[Act.put,Ya,Yb,Yc]
           refine tkk 30 166 hHeld ?_;try simp only[Act.put,Ya,Yb,Yc]
           refine tkk 31 167 hHeld ?_;try simp only[Act.put,Ya,Yb,Yc]
           refine tkk 32 168 hHeld ?_;try simp only[Act.put,Ya,Yb,Yc]
           refine tkk 33 169 hHeld ?_;try simp only[Act.put,Ya,Yb,Yc]
           refine tkk 34 170 hHeld ?_;try simp only[Act.put,Ya,Yb,Yc]
           refine tkk 35 16 hHeld ?_;try simp only[Act.put,Ya,Yb,Yc]
           refine wpAnyH_done (by kernel_rfl) ?_ _;clear hHeld;go_wp2_with fail
           go_roundw
           case rel=>exact⟨k+1,_,by go_num,hkl,⟨rfl,EQ9⟩,hide (((uq KI0).trans KAL).drew)⟩
           case measure=>simp[intOf];omega
        ·have lk:¬(k:Int)<(np:Int):=by omega
         obtain rfl:k=np:=by omega
         have hbt:b=true:=by rw[uq HB0];exact uq hft
         subst hbt;go_wp2_with fail
         go_roundw
         case rel=>exact⟨f+1,by go_num,hfl,hide ((uq K9).trans (uq KI0))⟩
         case measure=>simp[intOf];omega
    ·have hb1:(gi !=hi)=true:=by simpa using hgh
     go_wp2_with fail
     go_roundw
     case rel=>exact⟨f+1,by go_num,hfl,K9⟩
     case measure=>simp[intOf];omega
   ·have lf:¬(f:Int)<(n5:Int):=by omega
    go_wp2_with fail
    (refine((uq AW) _).mono ?_;rintro e w6 ⟨rfl,hk9⟩);go_wp2_with fail
    go_ret;exact⟨rfl,((uq KW5).trans (uq KI)).trans hk9⟩
end Nj
end Go.Proofs.YtpmaonkelkmhbaaGreat
