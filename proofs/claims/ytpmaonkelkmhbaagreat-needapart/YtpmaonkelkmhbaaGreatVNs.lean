/- Package valid: a node. -/
import Derived.Test.YtpmaonkelkmhbaaGreatVGr
import Derived.Test.YtpmaonkelkmhbaaGreatLSkip
import Derived.Test.YtpmaonkelkmhbaaGreatVFo
import Derived.Deep.DrawnRows
import Derived.Deep.RegionHeld3
namespace Go.Proofs.YtpmaonkelkmhbaaGreat
open Go.RowKit
attribute [local go_sem ↓] Go.wp_at_zero Go.wp_at_succ
set_option linter.unusedVariables false
set_option linter.unusedSimpArgs false
set_option maxRecDepth 10000
namespace V
def ors:List Eq2→Eq2
 | []=>none
 |none :: l=>ors l
 |some x :: _=>some x
def ltF (M:List (List UInt8×Int)) (T:Nat→List UInt8) (c:Int) (P:Nat→Int) (k:Nat):Eq2:=if hs M (T k)then none else some (c,P k)
set_option maxHeartbeats 8000000 in
theorem zgD (s:ByteArray) (x1:Option Addr) (n1 c1:Nat) (x2:Option Addr) (n2 c2:Nat) (x3:Option Addr) (n3 c3:Nat) (x4:Option Addr) (n4 c4:Nat) (x5:Option Addr) (n5 c5:Nat) (p:Int) (T1:Nat→List UInt8) (V1 V2 V3 V4 V5 V6 V7 V8 V9 P1:Nat→Int) (T3:Nat→List UInt8) (A3:Nat→Option Addr) (N3 C3:Nat→Nat) (P3:Nat→Int) (MH MP MO ML:List (List UInt8×Int)) (r0:Option Int) (r1 r2 r3 r4 r5 r:Eq2) (w:World)
  (hn1:n1≤9223372036854775807) (hn3:n3≤9223372036854775807)
  (HT1:Hid (∀ k,k<n1→(T1 k).length≤maxLen)) (HT3:Hid (∀ k,k<n3→(T3 k).length≤maxLen))
  (HC1:Hid (∀ k,k<n1→∃ ad,x1=some ad∧ad.block<w.heap.size∧w.cell? (ad.add (k * 11))=some (.string (sv (T1 k)))∧w.cell? ⟨(ad.add (k * 11)).block,(ad.add (k * 11)).off+1,none⟩=some (.int .i64 (V1 k))∧w.cell? ⟨(ad.add (k * 11)).block,(ad.add (k * 11)).off+2,none⟩=some (.int .i64 (V2 k))∧w.cell? ⟨(ad.add (k * 11)).block,(ad.add (k * 11)).off+3,none⟩=some (.int .i64 (V3 k))∧w.cell? ⟨(ad.add (k * 11)).block,(ad.add (k * 11)).off+4,none⟩=some (.int .i64 (V4 k))∧w.cell? ⟨(ad.add (k * 11)).block,(ad.add (k * 11)).off+5,none⟩=some (.int .i64 (V5 k))∧w.cell? ⟨(ad.add (k * 11)).block,(ad.add (k * 11)).off+6,none⟩=some (.int .i64 (V6 k))∧w.cell? ⟨(ad.add (k * 11)).block,(ad.add (k * 11)).off+7,none⟩=some (.int .i64 (V7 k))∧w.cell? ⟨(ad.add (k * 11)).block,(ad.add (k * 11)).off+8,none⟩=some (.int .i64 (V8 k))∧w.cell? ⟨(ad.add (k * 11)).block,(ad.add (k * 11)).off+9,none⟩=some (.int .i64 (V9 k))∧w.cell? ⟨(ad.add (k * 11)).block,(ad.add (k * 11)).off+10,none⟩=some (.int .i64 (P1 k))))
  (HC3:Hid (∀ k,k<n3→∃ ad,x3=some ad∧ad.block<w.heap.size∧w.cell? (ad.add (k * 3))=some (.string (sv (T3 k)))∧w.cell? ⟨(ad.add (k * 3)).block,(ad.add (k * 3)).off+1,none⟩=some (.slice (A3 k) (N3 k) (C3 k))∧w.cell? ⟨(ad.add (k * 3)).block,(ad.add (k * 3)).off+2,none⟩=some (.int .i64 (P3 k))))
  (TC:Hid (∀ w',Keep w w'→Calls Tryz.prog 92 #[.agg #[.string s,.slice x1 n1 c1,.slice x2 n2 c2,.slice x3 n3 c3,.slice x4 n4 c4,.slice x5 n5 c5,.int .i64 p]] w' fun e w''=>e=En (r0.map (fun c=>flt c p)) (.tuple #[])∧Keep w' w''))
  (TH:Hid (∀ w',Keep w w'→Calls Tryz.prog 93 #[.slice x1 n1 c1] w' (Hq r1 MH w')))
  (TP:Hid (∀ w' b,Keep w w'→Mp w' b MH→Calls Tryz.prog 94 #[.slice x3 n3 c3,.map (some b)] w' (Hq2 r2 MP MO w')))
  (TW:Hid (∀ w' b,Keep w w'→Mp w' b MP→Calls Tryz.prog 95 #[.slice x2 n2 c2,.map (some b)] w' (Nq r3 w')))
  (TG:Hid (∀ w' b,Keep w w'→Mp w' b MP→Calls Tryz.prog 96 #[.agg #[.string s,.slice x1 n1 c1,.slice x2 n2 c2,.slice x3 n3 c3,.slice x4 n4 c4,.slice x5 n5 c5,.int .i64 p],.map (some b)] w' (Hq r4 ML w')))
  (TF:Hid (∀ w' b,Keep w w'→Mp w' b MO→Calls Tryz.prog 97 #[.slice x5 n5 c5,.map (some b)] w' (Nq r5 w')))
  (HR:Hid (ors [r0.map (fun c=>(c,p)),r1,r2,fE (ltF MO T1 73 P1) 0 n1,r3,r4,fE (ltF ML T3 74 P3) 0 n3,r5]=r)):
  Calls Tryz.prog 74 #[.agg #[.string s,.slice x1 n1 c1,.slice x2 n2 c2,.slice x3 n3 c3,.slice x4 n4 c4,.slice x5 n5 c5,.int .i64 p]] w (Nq r w):=by
 have RX:=hide zaJ;have RN:=hide zaQ;obtain⟨l1,HL1⟩:∃ l,Hid (fE (ltF MO T1 73 P1) 0 n1=l):=⟨_,hide rfl⟩;obtain⟨l2,HL2⟩:∃ l,Hid (fE (ltF ML T3 74 P3) 0 n3=l):=⟨_,hide rfl⟩;rw[uq HL1,uq HL2]at HR;have hbx:=heap_alloc_new w (.cells #[.string s,.slice x1 n1 c1,.slice x2 n2 c2,.slice x3 n3 c3,.slice x4 n4 c4,.slice x5 n5 c5,.int .i64 p] 39);have K1:=hide ((Keep.refl w).alloc (.cells #[.string s,.slice x1 n1 c1,.slice x2 n2 c2,.slice x3 n3 c3,.slice x4 n4 c4,.slice x5 n5 c5,.int .i64 p] 39));go_enter Tryz.func74,Tryz.ntmps74
 go_upto_region 1 with fail
 generalize hw1:w.alloc (.cells #[.string s,.slice x1 n1 c1,.slice x2 n2 c2,.slice x3 n3 c3,.slice x4 n4 c4,.slice x5 n5 c5,.int .i64 p] 39)=w1 at hbx K1 ⊢;obtain⟨q0,HQ0⟩:∃ q,Hid (w.heap.size=q):=⟨_,hide rfl⟩;rw[uq HQ0]at hbx ⊢;have HX:Hid (∀ w':World,Keep w1 w'→w'.cell? ⟨q0,0,none⟩=some (.string s)∧w'.cell? ⟨q0,1,none⟩=some (.slice x1 n1 c1)∧w'.cell? ⟨q0,2,none⟩=some (.slice x2 n2 c2)∧w'.cell? ⟨q0,3,none⟩=some (.slice x3 n3 c3)∧w'.cell? ⟨q0,4,none⟩=some (.slice x4 n4 c4)∧w'.cell? ⟨q0,5,none⟩=some (.slice x5 n5 c5)∧w'.cell? ⟨q0,6,none⟩=some (.int .i64 p)):=hide (fun w' k9=>by have h:=k9.block q0 (Array.getElem?_eq_some_iff.1 hbx).1;rw[hbx]at h;refine⟨?_,?_,?_,?_,?_,?_,?_⟩<;>simp[World.cell?,h]);clear hbx hw1;obtain⟨f0,f1,f2,f3,f4,f5,f6⟩:=(uq HX) w1 (Keep.refl _);have L:=hide (Keep.refl w1);go_wp2_with fail
 (refine((uq TC) _ ((uq K1).trans (uq L))).mono ?_;rintro e w2 ⟨rfl,hk⟩);rcases r0 with _|x
 rotate_left
 ·have hr:r=some (x,p):=(uq HR).symm;subst hr;clear HR;simp only[Option.map_some,En];go_wp2_with fail
  exact⟨rfl,((uq K1).trans (uq L)).trans hk,rfl⟩
 replace HR:=hide (show ors [r1,r2,l1,r3,r4,l2,r5]=r from uq HR);simp only[Option.map_none,En];replace L:=hide ((uq L).trans hk);clear f0 f1 f2 f3 f4 f5 f6;clear hk;obtain⟨f0,f1,f2,f3,f4,f5,f6⟩:=(uq HX) _ (uq L);go_wp2_with fail
 (refine((uq TH) _ ((uq K1).trans (uq L))).mono ?_;rintro e w3 hq);rcases r1 with _|x
 rotate_left
 ·obtain⟨hk,rfl⟩:=hq;have hr:r=some x:=(uq HR).symm;subst hr;clear HR;go_wp2_with fail
  exact⟨rfl,((uq K1).trans (uq L)).trans hk,rfl⟩
 replace HR:=hide (show ors [r2,l1,r3,r4,l2,r5]=r from uq HR);obtain⟨hk,bh,rfl,hb1,hM1⟩:=hq;replace hM1:=hide hM1;replace L:=hide ((uq L).trans hk);clear f0 f1 f2 f3 f4 f5 f6;clear hk;obtain⟨f0,f1,f2,f3,f4,f5,f6⟩:=(uq HX) _ (uq L);go_wp2_with fail
 (refine((uq TP) _ bh ((uq K1).trans (uq L)) (uq hM1)).mono ?_;rintro e w4 hq);rcases r2 with _|x
 rotate_left
 ·obtain⟨hk,rfl⟩:=hq;have hr:r=some x:=(uq HR).symm;subst hr;clear HR;go_wp2_with fail
  exact⟨rfl,((uq K1).trans (uq L)).trans hk,rfl⟩
 replace HR:=hide (show ors [l1,r3,r4,l2,r5]=r from uq HR);obtain⟨hk,bp,bo,rfl,hb2,hb3,hbo,hM2,hM3⟩:=hq;replace hM2:=hide hM2;replace hM3:=hide hM3;replace L:=hide ((uq L).trans hk);clear f0 f1 f2 f3 f4 f5 f6;clear hk;obtain⟨f0,f1,f2,f3,f4,f5,f6⟩:=(uq HX) _ (uq L);go_wp2_with fail
 have LL:=L;have HF0:Hid (fE (ltF MO T1 73 P1) 0 (n1 - 0)=l1):=HL1;clear f0 f1 f2 f3 f4 f5 f6
 go_loopw [25] (fun iv wr=>∃ k:Nat,iv= .int .i64 (k:Int)∧k≤n1∧Hid (Keep w4 wr)∧Hid (fE (ltF MO T1 73 P1) k (n1 - k)=l1)) (fun iv _=>n1 - (intOf iv).toNat)
 case atStart=>exact⟨0,rfl,by omega,hide (Keep.refl _),HF0⟩
 case round=>
  obtain⟨k,rfl,hk,KL,HF⟩:=hrel;have LW:=hide ((uq L).trans (uq KL));have KW:=hide ((uq K1).trans (uq LW));obtain⟨f0,f1,f2,f3,f4,f5,f6⟩:=(uq HX) _ (uq LW);by_cases hlt:k<n1
  ·have li:(k:Int)<(n1:Int):=by omega
   obtain⟨ad,hA,hb,e0,e1,e2,e3,e4,e5,e6,e7,e8,e9,e10⟩:=(uq HC1) k hlt;have tl:=hide ((uq HT1) k hlt);have x0:=far_cell (uq KW) (by rw[add_block9];exact hb) e0;have x1:=far_cell (uq KW) (by show(ad.add (k * 11)).block<_;rw[add_block9];exact hb) e1;have x2:=far_cell (uq KW) (by show(ad.add (k * 11)).block<_;rw[add_block9];exact hb) e2;have x3:=far_cell (uq KW) (by show(ad.add (k * 11)).block<_;rw[add_block9];exact hb) e3;have x4:=far_cell (uq KW) (by show(ad.add (k * 11)).block<_;rw[add_block9];exact hb) e4;have x5:=far_cell (uq KW) (by show(ad.add (k * 11)).block<_;rw[add_block9];exact hb) e5;have x6:=far_cell (uq KW) (by show(ad.add (k * 11)).block<_;rw[add_block9];exact hb) e6;have x7:=far_cell (uq KW) (by show(ad.add (k * 11)).block<_;rw[add_block9];exact hb) e7;have x8:=far_cell (uq KW) (by show(ad.add (k * 11)).block<_;rw[add_block9];exact hb) e8;have x9:=far_cell (uq KW) (by show(ad.add (k * 11)).block<_;rw[add_block9];exact hb) e9;have x10:=far_cell (uq KW) (by show(ad.add (k * 11)).block<_;rw[add_block9];exact hb) e10;rw[hA]at f1 ⊢;clear hA e0 e1 e2 e3 e4 e5 e6 e7 e8 e9 e10;have hbx:=heap_alloc_new wr (.cells #[.string (sv (T1 k)),.int .i64 (V1 k),.int .i64 (V2 k),.int .i64 (V3 k),.int .i64 (V4 k),.int .i64 (V5 k),.int .i64 (V6 k),.int .i64 (V7 k),.int .i64 (V8 k),.int .i64 (V9 k),.int .i64 (P1 k)] 84);have KBq:=hide ((uq KW).alloc (.cells #[.string (sv (T1 k)),.int .i64 (V1 k),.int .i64 (V2 k),.int .i64 (V3 k),.int .i64 (V4 k),.int .i64 (V5 k),.int .i64 (V6 k),.int .i64 (V7 k),.int .i64 (V8 k),.int .i64 (V9 k),.int .i64 (P1 k)] 84));have KAq:=hide ((Keep.refl wr).alloc (.cells #[.string (sv (T1 k)),.int .i64 (V1 k),.int .i64 (V2 k),.int .i64 (V3 k),.int .i64 (V4 k),.int .i64 (V5 k),.int .i64 (V6 k),.int .i64 (V7 k),.int .i64 (V8 k),.int .i64 (V9 k),.int .i64 (P1 k)] 84))
   go_upto_region 7 with fail
   generalize hwa:wr.alloc (.cells #[.string (sv (T1 k)),.int .i64 (V1 k),.int .i64 (V2 k),.int .i64 (V3 k),.int .i64 (V4 k),.int .i64 (V5 k),.int .i64 (V6 k),.int .i64 (V7 k),.int .i64 (V8 k),.int .i64 (V9 k),.int .i64 (P1 k)] 84)=wa at hbx KBq KAq ⊢;obtain⟨q,HQq⟩:∃ q,Hid (wr.heap.size=q):=⟨_,hide rfl⟩;rw[uq HQq]at hbx ⊢;have HXq:Hid (∀ w':World,w'.heap[q]? =wa.heap[q]? →w'.cell? ⟨q,0,none⟩=some (.string (sv (T1 k)))∧w'.cell? ⟨q,1,none⟩=some (.int .i64 (V1 k))∧w'.cell? ⟨q,2,none⟩=some (.int .i64 (V2 k))∧w'.cell? ⟨q,3,none⟩=some (.int .i64 (V3 k))∧w'.cell? ⟨q,4,none⟩=some (.int .i64 (V4 k))∧w'.cell? ⟨q,5,none⟩=some (.int .i64 (V5 k))∧w'.cell? ⟨q,6,none⟩=some (.int .i64 (V6 k))∧w'.cell? ⟨q,7,none⟩=some (.int .i64 (V7 k))∧w'.cell? ⟨q,8,none⟩=some (.int .i64 (V8 k))∧w'.cell? ⟨q,9,none⟩=some (.int .i64 (V9 k))∧w'.cell? ⟨q,10,none⟩=some (.int .i64 (P1 k))):=hide (fun w' h9=>by rw[hbx]at h9;refine⟨?_,?_,?_,?_,?_,?_,?_,?_,?_,?_,?_⟩<;>simp[World.cell?,h9]);have HQLq:=hide (Array.getElem?_eq_some_iff.1 hbx).1;clear hbx hwa x0 x1 x2 x3 x4 x5 x6 x7 x8 x9 x10;have HX2:Hid (∀ w':World,Keep wa w'→w'.cell? ⟨q,0,none⟩=some (.string (sv (T1 k)))∧w'.cell? ⟨q,1,none⟩=some (.int .i64 (V1 k))∧w'.cell? ⟨q,2,none⟩=some (.int .i64 (V2 k))∧w'.cell? ⟨q,3,none⟩=some (.int .i64 (V3 k))∧w'.cell? ⟨q,4,none⟩=some (.int .i64 (V4 k))∧w'.cell? ⟨q,5,none⟩=some (.int .i64 (V5 k))∧w'.cell? ⟨q,6,none⟩=some (.int .i64 (V6 k))∧w'.cell? ⟨q,7,none⟩=some (.int .i64 (V7 k))∧w'.cell? ⟨q,8,none⟩=some (.int .i64 (V8 k))∧w'.cell? ⟨q,9,none⟩=some (.int .i64 (V9 k))∧w'.cell? ⟨q,10,none⟩=some (.int .i64 (P1 k))):=hide (fun w' k9=>(uq HXq) w' (k9.block q (uq HQLq)));have HMM:=hide ((uq hM3).keep ((uq KL).trans (uq KAq)));have TB:=hide (fun w' (k9:Keep wa w')=>zcO bo MO (T1 k) w' ((uq HMM).keep k9) (uq tl));clear f0 f1 f2 f3 f4 f5 f6;cases hh:hs MO (T1 k)
   ·have hl:=zab (uq HF) hlt (show ltF MO T1 73 P1 k=some (73,P1 k) by unfold ltF;rw[if_neg (by rw[hh];decide)]);subst hl;have hr:r=some (73,P1 k):=(uq HR).symm;subst hr;rw[hh]at TB;clear HR HF hh;refine wp_region_held_drew (S:=(fun w'=>w'.cell? ⟨q,0,none⟩=some (.string (sv (T1 k)))∧w'.cell? ⟨q,1,none⟩=some (.int .i64 (V1 k))∧w'.cell? ⟨q,2,none⟩=some (.int .i64 (V2 k))∧w'.cell? ⟨q,3,none⟩=some (.int .i64 (V3 k))∧w'.cell? ⟨q,4,none⟩=some (.int .i64 (V4 k))∧w'.cell? ⟨q,5,none⟩=some (.int .i64 (V5 k))∧w'.cell? ⟨q,6,none⟩=some (.int .i64 (V6 k))∧w'.cell? ⟨q,7,none⟩=some (.int .i64 (V7 k))∧w'.cell? ⟨q,8,none⟩=some (.int .i64 (V8 k))∧w'.cell? ⟨q,9,none⟩=some (.int .i64 (V9 k))∧w'.cell? ⟨q,10,none⟩=some (.int .i64 (P1 k)))) (by kernel_rfl) (by exact(uq HX2) _ (Keep.refl wa).drew) (fun hHeld=>?_);refine tkk 0 29 hHeld ?_;try simp only[Act.put,Ya,Yb,Yc]
    refine tkk 1 30 hHeld ?_;try simp only[Act.put,Ya,Yb,Yc]
    refine tkk 2 31 hHeld ?_;try simp only[Act.put,Ya,Yb,Yc]
    refine tkk 3 32 hHeld ?_;try simp only[Act.put,Ya,Yb,Yc]
    refine tkk 4 33 hHeld ?_;try simp only[Act.put,Ya,Yb,Yc]
    refine zal 5 (fun K hK=>?_);go_simp;clear hHeld;(refine((uq TB) _ (Keep.refl wa).drew).mono ?_;rintro e w9 ⟨rfl,rfl⟩);try go_wp2_with fail
    refine hK.out _ _ ?_ (fun hHeld=>?_)
    ·exact(uq HX2) _ (Keep.refl wa).drew
    clear hK K;try simp only[Act.put,Ya,Yb,Yc]
    refine tkk 6 35 hHeld ?_;try simp only[Act.put,Ya,Yb,Yc]
    refine wpAnyH_ready (rs:= [7]) (by kernel_rfl) (by simp) ?_;refine AllReadyH.cons rfl (fun K hK=>?_) AllReadyH.nil;go_simp;clear hHeld;(refine((uq RX) _ _ _).mono ?_;rintro e w9 ⟨rfl,rfl⟩);try go_wp2_with fail
    exact⟨rfl,(uq KBq).drew,rfl⟩
   have hf:=zaY (uq HF) hlt (show ltF MO T1 73 P1 k=none by unfold ltF;rw[if_pos hh]);have HF2:=hide hf;rw[hh]at TB;clear hf HF hh;refine wp_region_held_drew (S:=(fun w'=>w'.cell? ⟨q,0,none⟩=some (.string (sv (T1 k)))∧w'.cell? ⟨q,1,none⟩=some (.int .i64 (V1 k))∧w'.cell? ⟨q,2,none⟩=some (.int .i64 (V2 k))∧w'.cell? ⟨q,3,none⟩=some (.int .i64 (V3 k))∧w'.cell? ⟨q,4,none⟩=some (.int .i64 (V4 k))∧w'.cell? ⟨q,5,none⟩=some (.int .i64 (V5 k))∧w'.cell? ⟨q,6,none⟩=some (.int .i64 (V6 k))∧w'.cell? ⟨q,7,none⟩=some (.int .i64 (V7 k))∧w'.cell? ⟨q,8,none⟩=some (.int .i64 (V8 k))∧w'.cell? ⟨q,9,none⟩=some (.int .i64 (V9 k))∧w'.cell? ⟨q,10,none⟩=some (.int .i64 (P1 k)))) (by kernel_rfl) (by exact(uq HX2) _ (Keep.refl wa).drew) (fun hHeld=>?_);refine tkk 0 29 hHeld ?_;try simp only[Act.put,Ya,Yb,Yc]
   refine tkk 1 30 hHeld ?_;try simp only[Act.put,Ya,Yb,Yc]
   refine tkk 2 31 hHeld ?_;try simp only[Act.put,Ya,Yb,Yc]
   refine tkk 3 32 hHeld ?_;try simp only[Act.put,Ya,Yb,Yc]
   refine tkk 4 33 hHeld ?_;try simp only[Act.put,Ya,Yb,Yc]
   refine zal 5 (fun K hK=>?_);go_simp;clear hHeld;(refine((uq TB) _ (Keep.refl wa).drew).mono ?_;rintro e w9 ⟨rfl,rfl⟩);try go_wp2_with fail
   refine hK.out _ _ ?_ (fun hHeld=>?_)
   ·exact(uq HX2) _ (Keep.refl wa).drew
   clear hK K;try simp only[Act.put,Ya,Yb,Yc]
   refine tkk 6 35 hHeld ?_;try simp only[Act.put,Ya,Yb,Yc]
   refine zal 7 (fun K hK=>?_);go_simp;clear hHeld;(refine((uq RN) _ _ _).mono ?_;rintro e w9 ⟨rfl,rfl⟩);try go_wp2_with fail
   refine hK.out _ _ ?_ (fun hHeld=>?_)
   ·exact(uq HX2) _ (Keep.refl wa).drew
   clear hK K;try simp only[Act.put,Ya,Yb,Yc]
   refine wpAnyH_done (by kernel_rfl) ?_ _;clear hHeld;go_wp2_with fail
   go_roundw
   case rel=>exact⟨k+1,by go_num,by omega,hide (((uq KL).trans (uq KAq)).drew),HF2⟩
   case measure=>simp[intOf];omega
  ·have li:¬(k:Int)<(n1:Int):=by omega
   have hl:=zaF (uq HF) (by omega);subst hl;replace HR:=hide (show ors [r3,r4,l2,r5]=r from uq HR);clear HF hlt hk;replace hM2:=hide ((uq hM2).keep (uq KL));replace hM3:=hide ((uq hM3).keep (uq KL));replace L:=LW;clear LW KL KW LL HF0;go_wp2_with fail
   (refine((uq TW) _ bp ((uq K1).trans (uq L)) (uq hM2)).mono ?_;rintro e w5 hq);rcases r3 with _|x
   rotate_left
   ·obtain⟨hk,rfl⟩:=hq;have hr:r=some x:=(uq HR).symm;subst hr;clear HR;go_wp2_with fail
    exact⟨rfl,((uq K1).trans (uq L)).trans hk,rfl⟩
   replace HR:=hide (show ors [r4,l2,r5]=r from uq HR);obtain⟨hk,rfl⟩:=hq;replace hM2:=hide ((uq hM2).keep hk);replace hM3:=hide ((uq hM3).keep hk);replace L:=hide ((uq L).trans hk);clear f0 f1 f2 f3 f4 f5 f6;clear hk;obtain⟨f0,f1,f2,f3,f4,f5,f6⟩:=(uq HX) _ (uq L);go_wp2_with fail
   (refine((uq TG) _ bp ((uq K1).trans (uq L)) (uq hM2)).mono ?_;rintro e w6 hq);rcases r4 with _|x
   rotate_left
   ·obtain⟨hk,rfl⟩:=hq;have hr:r=some x:=(uq HR).symm;subst hr;clear HR;go_wp2_with fail
    exact⟨rfl,((uq K1).trans (uq L)).trans hk,rfl⟩
   replace HR:=hide (show ors [l2,r5]=r from uq HR);obtain⟨hk,bl,rfl,hb4,hM4⟩:=hq;replace hM4:=hide hM4;replace hM3:=hide ((uq hM3).keep hk);replace L:=hide ((uq L).trans hk);clear f0 f1 f2 f3 f4 f5 f6;clear hk;obtain⟨f0,f1,f2,f3,f4,f5,f6⟩:=(uq HX) _ (uq L);go_wp2_with fail
   have LL:=L;have HF0:Hid (fE (ltF ML T3 74 P3) 0 (n3 - 0)=l2):=HL2;clear f0 f1 f2 f3 f4 f5 f6
   go_loopw [48] (fun iv wr=>∃ k:Nat,iv= .int .i64 (k:Int)∧k≤n3∧Hid (Keep w6 wr)∧Hid (fE (ltF ML T3 74 P3) k (n3 - k)=l2)) (fun iv _=>n3 - (intOf iv).toNat)
   case atStart=>exact⟨0,rfl,by omega,hide (Keep.refl _),HF0⟩
   case round=>
    obtain⟨k,rfl,hk,KL,HF⟩:=hrel;have LW:=hide ((uq L).trans (uq KL));have KW:=hide ((uq K1).trans (uq LW));obtain⟨f0,f1,f2,f3,f4,f5,f6⟩:=(uq HX) _ (uq LW);by_cases hlt:k<n3
    ·have li:(k:Int)<(n3:Int):=by omega
     obtain⟨ad,hA,hb,e0,e1,e2⟩:=(uq HC3) k hlt;have tl:=hide ((uq HT3) k hlt);have x0:=far_cell (uq KW) (by rw[add_block9];exact hb) e0;have x1:=far_cell (uq KW) (by show(ad.add (k * 3)).block<_;rw[add_block9];exact hb) e1;have x2:=far_cell (uq KW) (by show(ad.add (k * 3)).block<_;rw[add_block9];exact hb) e2;rw[hA]at f3 ⊢;clear hA e0 e1 e2;have hbx:=heap_alloc_new wr (.cells #[.string (sv (T3 k)),.slice (A3 k) (N3 k) (C3 k),.int .i64 (P3 k)] 45);have KBq:=hide ((uq KW).alloc (.cells #[.string (sv (T3 k)),.slice (A3 k) (N3 k) (C3 k),.int .i64 (P3 k)] 45));have KAq:=hide ((Keep.refl wr).alloc (.cells #[.string (sv (T3 k)),.slice (A3 k) (N3 k) (C3 k),.int .i64 (P3 k)] 45))
     go_upto_region 14 with fail
     generalize hwa:wr.alloc (.cells #[.string (sv (T3 k)),.slice (A3 k) (N3 k) (C3 k),.int .i64 (P3 k)] 45)=wa at hbx KBq KAq ⊢;obtain⟨q,HQq⟩:∃ q,Hid (wr.heap.size=q):=⟨_,hide rfl⟩;rw[uq HQq]at hbx ⊢;have HXq:Hid (∀ w':World,w'.heap[q]? =wa.heap[q]? →w'.cell? ⟨q,0,none⟩=some (.string (sv (T3 k)))∧w'.cell? ⟨q,1,none⟩=some (.slice (A3 k) (N3 k) (C3 k))∧w'.cell? ⟨q,2,none⟩=some (.int .i64 (P3 k))):=hide (fun w' h9=>by rw[hbx]at h9;refine⟨?_,?_,?_⟩<;>simp[World.cell?,h9]);have HQLq:=hide (Array.getElem?_eq_some_iff.1 hbx).1;clear hbx hwa x0 x1 x2;have HX2:Hid (∀ w':World,Keep wa w'→w'.cell? ⟨q,0,none⟩=some (.string (sv (T3 k)))∧w'.cell? ⟨q,1,none⟩=some (.slice (A3 k) (N3 k) (C3 k))∧w'.cell? ⟨q,2,none⟩=some (.int .i64 (P3 k))):=hide (fun w' k9=>(uq HXq) w' (k9.block q (uq HQLq)));have HMM:=hide ((uq hM4).keep ((uq KL).trans (uq KAq)));have TB:=hide (fun w' (k9:Keep wa w')=>zcO bl ML (T3 k) w' ((uq HMM).keep k9) (uq tl));clear f0 f1 f2 f3 f4 f5 f6;cases hh:hs ML (T3 k)
     ·have hl:=zab (uq HF) hlt (show ltF ML T3 74 P3 k=some (74,P3 k) by unfold ltF;rw[if_neg (by rw[hh];decide)]);subst hl;have hr:r=some (74,P3 k):=(uq HR).symm;subst hr;rw[hh]at TB;clear HR HF hh;refine wp_region_held_drew (S:=(fun w'=>w'.cell? ⟨q,0,none⟩=some (.string (sv (T3 k)))∧w'.cell? ⟨q,1,none⟩=some (.slice (A3 k) (N3 k) (C3 k))∧w'.cell? ⟨q,2,none⟩=some (.int .i64 (P3 k)))) (by kernel_rfl) (by exact(uq HX2) _ (Keep.refl wa).drew) (fun hHeld=>?_);refine tkk 0 52 hHeld ?_;try simp only[Act.put,Ya,Yb,Yc]
      refine tkk 1 53 hHeld ?_;try simp only[Act.put,Ya,Yb,Yc]
      refine tkk 2 54 hHeld ?_;try simp only[Act.put,Ya,Yb,Yc]
      refine tkk 3 55 hHeld ?_;try simp only[Act.put,Ya,Yb,Yc]
      refine tkk 4 56 hHeld ?_;try simp only[Act.put,Ya,Yb,Yc]
      refine zal 5 (fun K hK=>?_);go_simp;clear hHeld;(refine((uq TB) _ (Keep.refl wa).drew).mono ?_;rintro e w9 ⟨rfl,rfl⟩);try go_wp2_with fail
      refine hK.out _ _ ?_ (fun hHeld=>?_)
      ·exact(uq HX2) _ (Keep.refl wa).drew
      clear hK K;try simp only[Act.put,Ya,Yb,Yc]
      refine tkk 6 58 hHeld ?_;try simp only[Act.put,Ya,Yb,Yc]
      refine wpAnyH_ready (rs:= [7]) (by kernel_rfl) (by simp) ?_;refine AllReadyH.cons rfl (fun K hK=>?_) AllReadyH.nil;go_simp;clear hHeld;(refine((uq RX) _ _ _).mono ?_;rintro e w9 ⟨rfl,rfl⟩);try go_wp2_with fail
      exact⟨rfl,(uq KBq).drew,rfl⟩
     have hf:=zaY (uq HF) hlt (show ltF ML T3 74 P3 k=none by unfold ltF;rw[if_pos hh]);have HF2:=hide hf;rw[hh]at TB;clear hf HF hh;refine wp_region_held_drew (S:=(fun w'=>w'.cell? ⟨q,0,none⟩=some (.string (sv (T3 k)))∧w'.cell? ⟨q,1,none⟩=some (.slice (A3 k) (N3 k) (C3 k))∧w'.cell? ⟨q,2,none⟩=some (.int .i64 (P3 k)))) (by kernel_rfl) (by exact(uq HX2) _ (Keep.refl wa).drew) (fun hHeld=>?_);refine tkk 0 52 hHeld ?_;try simp only[Act.put,Ya,Yb,Yc]
     refine tkk 1 53 hHeld ?_;try simp only[Act.put,Ya,Yb,Yc]
     refine tkk 2 54 hHeld ?_;try simp only[Act.put,Ya,Yb,Yc]
     refine tkk 3 55 hHeld ?_;try simp only[Act.put,Ya,Yb,Yc]
     refine tkk 4 56 hHeld ?_;try simp only[Act.put,Ya,Yb,Yc]
     refine zal 5 (fun K hK=>?_);go_simp;clear hHeld;(refine((uq TB) _ (Keep.refl wa).drew).mono ?_;rintro e w9 ⟨rfl,rfl⟩);try go_wp2_with fail
     refine hK.out _ _ ?_ (fun hHeld=>?_)
     ·exact(uq HX2) _ (Keep.refl wa).drew
     clear hK K;try simp only[Act.put,Ya,Yb,Yc]
     refine tkk 6 58 hHeld ?_;try simp only[Act.put,Ya,Yb,Yc]
     refine zal 7 (fun K hK=>?_);go_simp;clear hHeld;(refine((uq RN) _ _ _).mono ?_;rintro e w9 ⟨rfl,rfl⟩);try go_wp2_with fail
     refine hK.out _ _ ?_ (fun hHeld=>?_)
     ·exact(uq HX2) _ (Keep.refl wa).drew
     clear hK K;try simp only[Act.put,Ya,Yb,Yc]
     refine wpAnyH_done (by kernel_rfl) ?_ _;clear hHeld;go_wp2_with fail
     go_roundw
     case rel=>exact⟨k+1,by go_num,by omega,hide (((uq KL).trans (uq KAq)).drew),HF2⟩
     case measure=>simp[intOf];omega
    ·have li:¬(k:Int)<(n3:Int):=by omega
     have hl:=zaF (uq HF) (by omega);subst hl;replace HR:=hide (show ors [r5]=r from uq HR);clear HF hlt hk;replace L:=LW;go_wp2_with fail
     (refine((uq TF) _ bo ((uq K1).trans (uq L)) ((uq hM3).keep (uq KL))).mono ?_;rintro e w9 hq);rcases r5 with _|x
     rotate_left
     ·obtain⟨hk,rfl⟩:=hq;have hr:r=some x:=(uq HR).symm;subst hr;clear HR;go_wp2_with fail
      exact⟨rfl,((uq K1).trans (uq L)).trans hk,rfl⟩
     obtain⟨hk,rfl⟩:=hq;have hr:r=none:=(uq HR).symm;subst hr;go_wp2_with fail
     go_end0
     exact⟨((uq K1).trans (uq L)).trans hk,rfl⟩
end V
namespace V
def nsF (T:Nat→List UInt8) (R:Nat→Eq2) (P:Nat→Int) (k:Nat):Eq2:=if hs (mk T k) (T k)then some (71,P k)else R k
set_option maxHeartbeats 4000000 in
theorem zfw (a:Option Addr) (n cap:Nat) (T:Nat→List UInt8) (X1 X2 X3 X4 X5:Nat→Option Addr) (N1 C1 N2 C2 N3 C3 N4 C4 N5 C5:Nat→Nat) (P:Nat→Int) (R:Nat→Eq2) (r:Eq2) (w:World) (hn:n≤9223372036854775807)
  (HT:Hid (∀ k,k<n→(T k).length≤maxLen))
  (HC:Hid (∀ k,k<n→∃ ad,a=some ad∧ad.block<w.heap.size∧w.cell? (ad.add (k * 7))=some (.string (sv (T k)))∧w.cell? ⟨(ad.add (k * 7)).block,(ad.add (k * 7)).off+1,none⟩=some (.slice (X1 k) (N1 k) (C1 k))∧w.cell? ⟨(ad.add (k * 7)).block,(ad.add (k * 7)).off+2,none⟩=some (.slice (X2 k) (N2 k) (C2 k))∧w.cell? ⟨(ad.add (k * 7)).block,(ad.add (k * 7)).off+3,none⟩=some (.slice (X3 k) (N3 k) (C3 k))∧w.cell? ⟨(ad.add (k * 7)).block,(ad.add (k * 7)).off+4,none⟩=some (.slice (X4 k) (N4 k) (C4 k))∧w.cell? ⟨(ad.add (k * 7)).block,(ad.add (k * 7)).off+5,none⟩=some (.slice (X5 k) (N5 k) (C5 k))∧w.cell? ⟨(ad.add (k * 7)).block,(ad.add (k * 7)).off+6,none⟩=some (.int .i64 (P k))))
  (TN:Hid (∀ k,k<n→∀ w',Keep w w'→Calls Tryz.prog 74 #[.agg #[.string (sv (T k)),.slice (X1 k) (N1 k) (C1 k),.slice (X2 k) (N2 k) (C2 k),.slice (X3 k) (N3 k) (C3 k),.slice (X4 k) (N4 k) (C4 k),.slice (X5 k) (N5 k) (C5 k),.int .i64 (P k)]] w' (Nq (R k) w')))
  (HI:Hid (fE (nsF T R P) 0 n=r)):
  Calls Tryz.prog 54 #[.slice a n cap] w (Hq r (mk T n) w):=by
 have hmm:=@run_makeMap Tryz.prog;go_enter Tryz.func54,Tryz.ntmps54;go_wp2_with fail
 obtain⟨b,HB⟩:∃ b,Hid (b=w.heap.size):=⟨_,hide rfl⟩;have M0:Hid (Mp (w.alloc (.map #[] 0)) b (mk T 0)):=hide (by rw[uq HB];exact zbM w);have K0:Hid (Keep w (w.alloc (.map #[] 0))):=hide ((Keep.refl w).alloc _);rw[← uq HB];generalize w.alloc (.map #[] 0)=w0 at M0 K0 ⊢
 go_loopw [9] (fun iv wr=>∃ k:Nat,iv= .int .i64 (k:Int)∧k≤n∧Hid (Mp wr b (mk T k))∧Hid (Keep w wr)∧Hid (fE (nsF T R P) k (n - k)=r)) (fun iv _=>n - (intOf iv).toNat)
 case atStart=>exact⟨0,rfl,by omega,M0,K0,HI⟩
 case round=>
  obtain⟨k,rfl,hk,MK,KW,HF⟩:=hrel;by_cases hlt:k<n
  ·have li:(k:Int)<(n:Int):=by omega
   obtain⟨ad,rfl,hb,e0,e1,e2,e3,e4,e5,e6⟩:=(uq HC) k hlt;have tl:=hide ((uq HT) k hlt);have x0:=far_cell (uq KW) (by rw[add_block9];exact hb) e0;have x1:=far_cell (uq KW) (by show(ad.add (k * 7)).block<_;rw[add_block9];exact hb) e1;have x2:=far_cell (uq KW) (by show(ad.add (k * 7)).block<_;rw[add_block9];exact hb) e2;have x3:=far_cell (uq KW) (by show(ad.add (k * 7)).block<_;rw[add_block9];exact hb) e3;have x4:=far_cell (uq KW) (by show(ad.add (k * 7)).block<_;rw[add_block9];exact hb) e4;have x5:=far_cell (uq KW) (by show(ad.add (k * 7)).block<_;rw[add_block9];exact hb) e5;have x6:=far_cell (uq KW) (by show(ad.add (k * 7)).block<_;rw[add_block9];exact hb) e6;clear e0 e1 e2 e3 e4 e5 e6;have hbx:=heap_alloc_new wr (.cells #[.string (sv (T k)),.slice (X1 k) (N1 k) (C1 k),.slice (X2 k) (N2 k) (C2 k),.slice (X3 k) (N3 k) (C3 k),.slice (X4 k) (N4 k) (C4 k),.slice (X5 k) (N5 k) (C5 k),.int .i64 (P k)] 39);have KBq:=hide ((uq KW).alloc (.cells #[.string (sv (T k)),.slice (X1 k) (N1 k) (C1 k),.slice (X2 k) (N2 k) (C2 k),.slice (X3 k) (N3 k) (C3 k),.slice (X4 k) (N4 k) (C4 k),.slice (X5 k) (N5 k) (C5 k),.int .i64 (P k)] 39));have KAq:=hide ((Keep.refl wr).alloc (.cells #[.string (sv (T k)),.slice (X1 k) (N1 k) (C1 k),.slice (X2 k) (N2 k) (C2 k),.slice (X3 k) (N3 k) (C3 k),.slice (X4 k) (N4 k) (C4 k),.slice (X5 k) (N5 k) (C5 k),.int .i64 (P k)] 39))
   go_upto_region 5 with fail
   generalize hwa:wr.alloc (.cells #[.string (sv (T k)),.slice (X1 k) (N1 k) (C1 k),.slice (X2 k) (N2 k) (C2 k),.slice (X3 k) (N3 k) (C3 k),.slice (X4 k) (N4 k) (C4 k),.slice (X5 k) (N5 k) (C5 k),.int .i64 (P k)] 39)=wa at hbx KBq KAq ⊢;obtain⟨q,HQq⟩:∃ q,Hid (wr.heap.size=q):=⟨_,hide rfl⟩;rw[uq HQq]at hbx ⊢;have HXq:Hid (∀ w':World,w'.heap[q]? =wa.heap[q]? →w'.cell? ⟨q,0,none⟩=some (.string (sv (T k)))∧w'.cell? ⟨q,1,none⟩=some (.slice (X1 k) (N1 k) (C1 k))∧w'.cell? ⟨q,2,none⟩=some (.slice (X2 k) (N2 k) (C2 k))∧w'.cell? ⟨q,3,none⟩=some (.slice (X3 k) (N3 k) (C3 k))∧w'.cell? ⟨q,4,none⟩=some (.slice (X4 k) (N4 k) (C4 k))∧w'.cell? ⟨q,5,none⟩=some (.slice (X5 k) (N5 k) (C5 k))∧w'.cell? ⟨q,6,none⟩=some (.int .i64 (P k))):=hide (fun w' h9=>by rw[hbx]at h9;refine⟨?_,?_,?_,?_,?_,?_,?_⟩<;>simp[World.cell?,h9]);have HQLq:=hide (Array.getElem?_eq_some_iff.1 hbx).1;clear hbx hwa x0 x1 x2 x3 x4 x5 x6;have HMB:=hide ((uq MK).keep (uq KAq));have HQB:Hid (q≠b):=hide (by have:=(uq MK).lt;have:=uq HQq;omega);obtain⟨f0,f1,f2,f3,f4,f5,f6⟩:=(uq HXq) wa rfl;by_cases hh:hs (mk T k) (T k)=true
   ·have hr:=zab (uq HF) hlt (show nsF T R P k=some (71,P k) by unfold nsF;rw[if_pos hh]);subst hr;clear HF;go_wp2_with fail
    (refine(zbN b (mk T k) (P k) _ (T k) _ (uq HMB) (uq tl) hh).mono ?_;rintro e w2 ⟨rfl,rfl⟩);go_wp2_with fail
    exact⟨rfl,uq KBq,rfl⟩
   have hh0:hs (mk T k) (T k)=false:=by simpa using hh
   have HH0:=hide hh0;clear hh hh0;go_wp2_with fail
   (refine(zcj b (mk T k) (P k) _ (T k) _ (uq HMB) (uq tl) (by rw[zbZ];unfold maxLen;omega) (zcQ (by omega)) (uq HH0)).mono ?_;rintro e w2 ⟨rfl,hM2,hG2⟩);have HM2:Hid (Mp w2 b (mk T (k+1))):=hide (by rw[zbO];exact hM2);have HK2:=hide (zav (uq KBq) hG2 (by have:=uq HB;omega));have he2:=hG2.block q (uq HQLq) (by simpa using uq HQB);clear hM2 hG2 f0 f1 f2 f3 f4 f5 f6;obtain⟨f0,f1,f2,f3,f4,f5,f6⟩:=(uq HXq) w2 he2;clear he2;have HRk:=hide (show nsF T R P k=R k by unfold nsF;rw[if_neg (by rw[uq HH0];decide)]);have TK:=hide ((uq TN) k hlt _ (uq HK2));obtain⟨rk,HRR⟩:∃ rk,Hid (R k=rk):=⟨_,hide rfl⟩;rw[uq HRR]at TK;go_wp2_with fail
   (refine(uq TK).mono ?_;rintro e w3 hq);rcases rk with _|x
   rotate_left
   ·obtain⟨hk9,rfl⟩:=hq;have hr:=zab (uq HF) hlt ((uq HRk).trans (uq HRR));subst hr;clear HF;go_wp2_with fail
    exact⟨rfl,(uq HK2).trans hk9,rfl⟩
   obtain⟨hk9,rfl⟩:=hq;have HF2:=hide (zaY (uq HF) hlt ((uq HRk).trans (uq HRR)));have HM3:=hide ((uq HM2).keep hk9);have HK3:=hide ((uq HK2).trans hk9);clear hk9 HF f0 f1 f2 f3 f4 f5 f6;go_wp2_with fail
   go_roundw
   case rel=>exact⟨k+1,by go_num,by omega,HM3,HK3,HF2⟩
   case measure=>simp[intOf];omega
  ·have li:¬(k:Int)<(n:Int):=by omega
   have hr:=zaF (uq HF) (by omega);subst hr;obtain rfl:k=n:=by omega
   go_wp2_with fail
   go_ret;exact⟨uq KW,b,rfl,by have:=uq HB;omega,uq MK⟩
end V
end Go.Proofs.YtpmaonkelkmhbaaGreat
