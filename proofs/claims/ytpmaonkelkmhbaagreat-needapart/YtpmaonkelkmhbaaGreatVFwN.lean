/- The law's node and Few answer some truth value, whatever they are handed. -/
import Derived.Test.YtpmaonkelkmhbaaGreatVFew
import Derived.Test.YtpmaonkelkmhbaaGreatLSkip
import Derived.Deep.DrawnRows
import Derived.Deep.RegionHeld
namespace Go.Proofs.YtpmaonkelkmhbaaGreat
open Go.RowKit
attribute [local go_sem ↓] Go.wp_at_zero Go.wp_at_succ
set_option linter.unusedVariables false
set_option linter.unusedSimpArgs false
set_option maxRecDepth 10000
namespace S
theorem zgr:(Tryz.prog.info? 9).map (fun i=>(i.zero,i.size,i.bytes))=some (some (.string ⟨#[]⟩),1,16):=by kernel_rfl
theorem zeX (w:World) (us:List Value) (t:TypeId) (k:Nat) (u:Value) (hu:us[k]? =some u):(w.alloc (.cells us.toArray t)).cell? ((⟨w.heap.size,0,none⟩:Addr).add k)=some u:=by
 rw[zaP,Nat.zero_add];exact(Q.bxs_new w us t k u hu).1
theorem zkX (w:World) (a:Value) (t:TypeId):∀ j u,[a][j]? =some u→(w.alloc (.cells #[a] t)).cell? ((⟨w.heap.size,0,none⟩:Addr).add j)=some u:=fun j u h=>zeX w [a] t j u h
theorem zgs (w:World) (xs:List ByteArray) (t:TypeId):Rw (w.alloc (.cells (xs.map Value.string).toArray t)) (.slice (some ⟨w.heap.size,0,none⟩) xs.length xs.length):=
 ⟨_,_,_,fun k=>xs.getD k ⟨#[]⟩,rfl,Nat.le_refl _,fun k hk=>⟨_,rfl,by simp,zeX w _ t k _ (by show _=some (Value.string (xs.getD k ⟨#[]⟩));rw[List.getElem?_map,List.getD_eq_getElem?_getD,List.getElem?_eq_getElem hk];rfl)⟩⟩
theorem zgt (w:World) (x:ByteArray) (t:TypeId):Rw (w.alloc (.cells #[.string x] t)) (.slice (some ⟨w.heap.size,0,none⟩) 1 1):=zgs w [x] t
theorem zdo (w:World) (x y:ByteArray) (t:TypeId):Rw (w.alloc (.cells #[.string x,.string y] t)) (.slice (some ⟨w.heap.size,0,none⟩) 2 2):=zgs w [x,y] t
theorem zkY (w:World) (x y z:ByteArray) (t:TypeId):Rw (w.alloc (.cells #[.string x,.string y,.string z] t)) (.slice (some ⟨w.heap.size,0,none⟩) 3 3):=zgs w [x,y,z] t
theorem zm5 {w:World} {base n m:Nat} {v:Value} {xs:List ByteArray} (h:w.ownsRow base 9 1 v n (xs.map Value.string)) (hm:m≤n) (hn:0<n):∃ g cap,v= .slice (some ⟨g,0,none⟩) n cap∧n≤cap∧Rw w (.slice (some ⟨g,0,none⟩) m cap):=by
 rcases h.2 with ⟨_,hz⟩|⟨g,cap,cur,rfl,hbg,hg,hnc,hcm,hcs,htake⟩
 ·omega
 ·have hl:xs.length=n:=by have:=h.1;simpa using this
  refine⟨g,cap,rfl,hnc,_,m,cap,fun k=>xs.getD k ⟨#[]⟩,rfl,by omega,fun k hk=>⟨_,rfl,(Array.getElem?_eq_some_iff.1 hg).1,?_⟩⟩;refine h.cells (g:=g) rfl k _ ?_;show _=some (Value.string (xs.getD k ⟨#[]⟩));rw[List.getElem?_map,List.getD_eq_getElem?_getD,List.getElem?_eq_getElem (by omega:k<xs.length)]
  rfl
set_option maxHeartbeats 16000000 in
theorem zfq (S0:ByteArray) (a1:Option Addr) (n1 c1:Nat) (a2:Option Addr) (n2 c2:Nat) (a3:Option Addr) (n3 c3:Nat) (a4:Option Addr) (n4 c4:Nat) (a5:Option Addr) (n5 c5:Nat) (v6:Int) (X1 X2 Y2 X3 X5 Y5:Nat→ByteArray) (A3:Nat→Option Addr) (N3 C3:Nat→Nat) (A4:Nat→Option Addr) (N4 C4:Nat→Nat) (AA:Nat→Nat→Option Addr) (NN CC:Nat→Nat→Nat) (w:World)
  (TS:Hid (∀ v w',Rw w' v→Calls Tryz.prog 15 #[v] w' (Ab w')))
  (HC1:Hid (∀ k,k<n1→∃ ad,a1=some ad∧w.cell? (ad.add (k * 11))=some (.string (X1 k))))
  (HC2:Hid (∀ k,k<n2→∃ ad,a2=some ad∧w.cell? (ad.add (k * 6))=some (.string (X2 k))∧w.cell? ⟨(ad.add (k * 6)).block,(ad.add (k * 6)).off+1,none⟩=some (.string (Y2 k))))
  (HC3:Hid (∀ k,k<n3→∃ ad,a3=some ad∧w.cell? (ad.add (k * 3))=some (.string (X3 k))∧w.cell? ⟨(ad.add (k * 3)).block,(ad.add (k * 3)).off+1,none⟩=some (.slice (A3 k) (N3 k) (C3 k))))
  (HR3:Hid (∀ k,k<n3→Rw w (.slice (A3 k) (N3 k) (C3 k))))
  (HC4:Hid (∀ k,k<n4→∃ ad,a4=some ad∧w.cell? (ad.add k)=some (.slice (A4 k) (N4 k) (C4 k))))
  (HR4:Hid (∀ k,k<n4→∀ j,j<N4 k→∃ ad,A4 k=some ad∧w.cell? ⟨(ad.add (j * 2)).block,(ad.add (j * 2)).off+1,none⟩=some (.slice (AA k j) (NN k j) (CC k j))∧Rw w (.slice (AA k j) (NN k j) (CC k j))))
  (HC5:Hid (∀ k,k<n5→∃ ad,a5=some ad∧w.cell? (ad.add (k * 3))=some (.string (X5 k))∧w.cell? ⟨(ad.add (k * 3)).block,(ad.add (k * 3)).off+1,none⟩=some (.string (Y5 k)))):
  Calls Tryz.prog 14 #[.agg #[.string S0,.slice a1 n1 c1,.slice a2 n2 c2,.slice a3 n3 c3,.slice a4 n4 c4,.slice a5 n5 c5,.int .i64 v6]] w (Ak w):=by
 obtain⟨i0,hi,hz0,hz1,hz2⟩:=zay zgr;have HK0:=hide ((Keep.refl w).alloc (.cells #[.string S0,.slice a1 n1 c1,.slice a2 n2 c2,.slice a3 n3 c3,.slice a4 n4 c4,.slice a5 n5 c5,.int .i64 v6] 39));have HB0:Hid ((w.alloc (.cells #[.string S0,.slice a1 n1 c1,.slice a2 n2 c2,.slice a3 n3 c3,.slice a4 n4 c4,.slice a5 n5 c5,.int .i64 v6] 39)).heap[w.heap.size]? =some (.cells #[.string S0,.slice a1 n1 c1,.slice a2 n2 c2,.slice a3 n3 c3,.slice a4 n4 c4,.slice a5 n5 c5,.int .i64 v6] 39 (0,0))):=hide (heap_alloc_new w _);have hsz0:(w.alloc (.cells #[.string S0,.slice a1 n1 c1,.slice a2 n2 c2,.slice a3 n3 c3,.slice a4 n4 c4,.slice a5 n5 c5,.int .i64 v6] 39)).heap.size=w.heap.size+1:=by simp
 go_enter Tryz.func14,Tryz.ntmps14
 go_upto_region 1 with fail
 generalize w.alloc (.cells #[.string S0,.slice a1 n1 c1,.slice a2 n2 c2,.slice a3 n3 c3,.slice a4 n4 c4,.slice a5 n5 c5,.int .i64 v6] 39)=w0 at HK0 HB0 hsz0 ⊢;obtain⟨gb,HGB⟩:∃ gb,Hid (w.heap.size=gb):=⟨_,rfl⟩;rw[uq HGB]at HB0 ⊢;have HSZ:=hide hsz0;clear hsz0;have z1:w0.cell? ⟨gb,1,none⟩=some (.slice a1 n1 c1):=by simp[World.cell?,uq HB0]
 have z2:w0.cell? ⟨gb,2,none⟩=some (.slice a2 n2 c2):=by simp[World.cell?,uq HB0]
 have z3:w0.cell? ⟨gb,3,none⟩=some (.slice a3 n3 c3):=by simp[World.cell?,uq HB0]
 have z4:w0.cell? ⟨gb,4,none⟩=some (.slice a4 n4 c4):=by simp[World.cell?,uq HB0]
 have z5:w0.cell? ⟨gb,5,none⟩=some (.slice a5 n5 c5):=by simp[World.cell?,uq HB0]
 by_cases g1:(50:Int)<(n1:Int)
 ·go_wp2_with fail
  go_ret;exact⟨_,rfl,uq HK0⟩
 by_cases g2:(50:Int)<(n2:Int)
 ·go_wp2_with fail
  go_ret;exact⟨_,rfl,uq HK0⟩
 by_cases g3:(50:Int)<(n3:Int)
 ·go_wp2_with fail
  go_ret;exact⟨_,rfl,uq HK0⟩
 by_cases g4:(50:Int)<(n4:Int)
 ·go_wp2_with fail
  go_ret;exact⟨_,rfl,uq HK0⟩
 by_cases g5:(80:Int)<(n5:Int)
 ·go_wp2_with fail
  go_ret;exact⟨_,rfl,uq HK0⟩
 have z0:w0.cell? ⟨gb,0,none⟩=some (.string S0):=by simp[World.cell?,uq HB0]
 have hn1:n1≤50:=by omega
 have HN1:=hide hn1;have HNN:Hid (n2≤50∧n3≤50∧n4≤50∧n5≤80):=hide (by omega)
 go_upto_region 4 with fail
 clear g1 g2 g3 g4 g5 hn1 z0 z1 z2 z3 z4 z5;have HOW0:Hid ((w0.alloc (.cells #[.string S0] 9)).ownsRow (gb+1) 9 1 (.slice (some ⟨w0.heap.size,0,none⟩) 1 1) 1 (([S0]:List ByteArray).map Value.string)):=hide ⟨rfl,.inr ⟨w0.heap.size,1,#[.string S0],rfl,by have:=uq HSZ;have:=uq HGB;omega,heap_alloc_new w0 _,Nat.le_refl _,by unfold maxLen;omega,rfl,rfl⟩⟩;have HK1:=hide ((uq HK0).alloc (.cells #[.string S0] 9));have HB1:Hid ((w0.alloc (.cells #[.string S0] 9)).heap[gb]? =some (.cells #[.string S0,.slice a1 n1 c1,.slice a2 n2 c2,.slice a3 n3 c3,.slice a4 n4 c4,.slice a5 n5 c5,.int .i64 v6] 39 (0,0))):=hide (by rw[heap_alloc_old _ _ (by have:=uq HSZ;have:=uq HGB;omega)];exact uq HB0);generalize w0.alloc (.cells #[.string S0] 9)=w1 at HOW0 HK1 HB1 ⊢;generalize w0.heap.size=ob at HOW0 ⊢;clear HB0 HK0;go_wp2_with fail
 go_loopw [3,4] (fun vs vi wr=>∃(k:Nat) (xs:List ByteArray),k≤n1∧vi= .int .i64 (k:Int)∧Hid (wr.ownsRow (gb+1) 9 1 vs (k+1) (xs.map Value.string))∧Hid (Keep w wr)∧Hid (wr.heap[gb]? =some (.cells #[.string S0,.slice a1 n1 c1,.slice a2 n2 c2,.slice a3 n3 c3,.slice a4 n4 c4,.slice a5 n5 c5,.int .i64 v6] 39 (0,0)))) (fun vs vi _=>n1 - (intOf vi).toNat)
 case atStart=>exact⟨0,[S0],Nat.zero_le _,rfl,HOW0,HK1,HB1⟩
 case round=>
  obtain⟨k,xs,hk,rfl,HROW,HK,HB⟩:=hrel;by_cases hlt:k<n1
  ·have li:(k:Int)<(n1:Int):=by omega
   have hk50:k≤50:=by have:=uq HN1;omega
   have hgbw:gb<wr.heap.size:=(Array.getElem?_eq_some_iff.1 (uq HB)).1;have z1:wr.cell? ⟨gb,1,none⟩=some (.slice a1 n1 c1):=by simp[World.cell?,uq HB]
   obtain⟨ad,rfl,e0⟩:=(uq HC1) k hlt;have x0:=Q.kcell (uq HK) e0;clear e0;generalize hX:X1 k=X at *;have hXL:Hid (xs.map Value.string++ [.string X]=(xs++ [X]).map Value.string):=hide (by simp);clear hX;go_wp2_with (at_builtin;refine wpList_append_own _ rfl _ _ 43 rfl (gb+1) 9 i0 _ 1 16 Tryz.underlying43 hi hz0 hz1 hz2 rfl (by decide) _ _ _ rfl ((uq HROW).alloc _) ⟨wr.heap.size,0,none⟩ 1 1 [.string X] rfl rfl (zkX wr _ _) (by simp[Value.oneCell']) (by unfold maxLen;omega) (by omega) (by simp;omega) ?_;intro v' w4 hown' hgrow hnil;have HOWN:=hide hown';have HG:=hide hgrow;clear hown' hgrow hnil)
   have HK4:=hide (Below.grown ((uq HK).alloc (.cells #[.string X] 9)) (uq HG) (by have:=(uq HK).size;simp;omega) (fun j ej=>by have:=((uq HROW).lt j ej).1;have:=uq HGB;omega));have HB4:Hid (w4.heap[gb]? =some (.cells #[.string S0,.slice (some ad) n1 c1,.slice a2 n2 c2,.slice a3 n3 c3,.slice a4 n4 c4,.slice a5 n5 c5,.int .i64 v6] 39 (0,0))):=hide (by
    have hlt:gb<wr.heap.size:=(Array.getElem?_eq_some_iff.1 (uq HB)).1;have h1:=(uq HG).block gb (by simp;omega) (fun e=>by have:=((uq HROW).lt gb e.symm).1;omega);rw[h1,heap_alloc_old _ _ hlt];exact uq HB)
   go_roundw
   case rel=>
    refine⟨k+1,xs++ [X],hlt,by go_num,?_,HK4,HB4⟩;have:=uq HOWN;rw[uq hXL]at this;exact hide this
   case measure=>simp[intOf];omega
  ·have e:n1=k:=by omega
   subst e;have hn50:=uq HN1;obtain⟨g,cap,rfl,hnc,hrw⟩:=zm5 (m:=min (n1+1) 50) (uq HROW) (Nat.min_le_left _ _) (by omega);have HRW:=hide hrw;clear hrw HROW HOW0 HK1 HB1;have z1:wr.cell? ⟨gb,1,none⟩=some (.slice a1 n1 c1):=by simp[World.cell?,uq HB]
   rcases Nat.lt_or_ge n1 50 with h5|h5
   ·rw[Nat.min_eq_left (by omega)]at HRW;have l5:¬(50:Int)<(n1:Int)+1:=by omega
    have l6:(n1:Int)+1≤50:=by omega
    go_wp2_with fail
    (refine((uq TS) _ _ (uq HRW)).mono ?_;rintro e wr ⟨b,rfl,rfl⟩);cases b
    ·go_wp2_with fail
     go_ret;exact⟨_,rfl,uq HK⟩
    ·go_wp2_with fail
     go_loopw [5] (fun vi wr=>∃ k:Nat,k≤n2∧vi= .int .i64 (k:Int)∧Hid (Keep w wr)∧Hid (wr.heap[gb]? =some (.cells #[.string S0,.slice a1 n1 c1,.slice a2 n2 c2,.slice a3 n3 c3,.slice a4 n4 c4,.slice a5 n5 c5,.int .i64 v6] 39 (0,0)))) (fun vi _=>n2 - (intOf vi).toNat)
     case atStart=>exact⟨0,Nat.zero_le _,rfl,HK,HB⟩
     case round=>
      obtain⟨k,hk,rfl,HK,HB⟩:=hrel;have z2:wr.cell? ⟨gb,2,none⟩=some (.slice a2 n2 c2):=by simp[World.cell?,uq HB]
      by_cases hlt:k<n2
      ·have li:(k:Int)<(n2:Int):=by omega
       have hk9:k≤100:=by have:=uq HNN;omega
       obtain⟨ad,rfl,e0,e1⟩:=(uq HC2) k hlt;have x0:=Q.kcell (uq HK) e0;have x1:=Q.kcell (uq HK) e1;clear e0 e1;generalize X2 k=X at x0;generalize Y2 k=Y at x1;have HSX:Hid (∀ w',Keep wr w'→w'.cell? ⟨gb,2,none⟩=some (.slice (some ad) n2 c2)∧w'.cell? (ad.add (k * 6))=some (.string X)∧w'.cell? ⟨(ad.add (k * 6)).block,(ad.add (k * 6)).off+1,none⟩=some (.string Y)):=hide (fun w' k9=>⟨Q.kcell k9 z2,Q.kcell k9 x0,Q.kcell k9 x1⟩)
       go_upto_region 13 with fail
       refine wp_region_held_drew (S:=fun w'=>w'.cell? ⟨gb,2,none⟩=some (.slice (some ad) n2 c2)∧w'.cell? (ad.add (k * 6))=some (.string X)∧w'.cell? ⟨(ad.add (k * 6)).block,(ad.add (k * 6)).off+1,none⟩=some (.string Y)) (by kernel_rfl) (by exact(uq HSX) _ (by repeat(first|apply Keep.alloc|apply Keep.drew|exact Keep.refl _))) (fun hHeld=>?_);refine tkk 0 71 hHeld ?_;try simp only[Act.put,Ya,Yb,Yc]
       refine tkk 1 72 hHeld ?_;try simp only[Act.put,Ya,Yb,Yc]
       refine tkk 2 73 hHeld ?_;try simp only[Act.put,Ya,Yb,Yc]
       refine tkk 3 74 hHeld ?_;try simp only[Act.put,Ya,Yb,Yc]
       refine tkk 4 75 hHeld ?_;try simp only[Act.put,Ya,Yb,Yc]
       refine tkk 5 76 hHeld ?_;try simp only[Act.put,Ya,Yb,Yc]
       refine tkk 6 77 hHeld ?_;try simp only[Act.put,Ya,Yb,Yc]
       refine tkk 7 78 hHeld ?_;try simp only[Act.put,Ya,Yb,Yc]
       refine tkk 8 79 hHeld ?_;try simp only[Act.put,Ya,Yb,Yc]
       refine tkk 9 80 hHeld ?_;try simp only[Act.put,Ya,Yb,Yc]
       refine tkk 10 81 hHeld ?_;try simp only[Act.put,Ya,Yb,Yc]
       refine tkk 11 82 hHeld ?_;try simp only[Act.put,Ya,Yb,Yc]
       refine zal 12 (fun K hK=>?_);go_simp;clear hHeld;refine hK.out _ _ ?_ (fun hHeld=>?_)
       ·exact(uq HSX) _ (by repeat(first|apply Keep.alloc|apply Keep.drew|exact Keep.refl _))
       clear hK K;try simp only[Act.put,Ya,Yb,Yc]
       refine zal 13 (fun K hK=>?_);go_simp;clear hHeld;(refine((uq TS) _ _ (zdo wr.drew X Y 9)).mono ?_;rintro e w5 ⟨b,rfl,rfl⟩);try go_wp2_with fail
       refine hK.out _ _ ?_ (fun hHeld=>?_)
       ·exact(uq HSX) _ (by repeat(first|apply Keep.alloc|apply Keep.drew|exact Keep.refl _))
       clear hK K;try simp only[Act.put,Ya,Yb,Yc]
       refine tkk 14 85 hHeld ?_;try simp only[Act.put,Ya,Yb,Yc]
       refine wpAnyH_done (by kernel_rfl) ?_ _;clear hHeld;cases b
       ·go_wp2_with fail
        go_ret;exact⟨_,rfl,(by have:=uq HK;repeat(first|exact this|apply Keep.alloc|apply Keep.drew))⟩
       ·go_wp2_with fail
        go_roundw
        case rel=>exact⟨k+1,hlt,by go_num,hide (by have:=uq HK;repeat(first|exact this|apply Keep.alloc|apply Keep.drew)),hide ((heap_alloc_old wr (.cells #[.string X,.string Y] 9) (Array.getElem?_eq_some_iff.1 (uq HB)).1).trans (uq HB))⟩
        case measure=>simp[intOf];omega
      ·have li:¬(k:Int)<(n2:Int):=by omega
       clear hlt hk;go_wp2_with fail
       go_loopw [6] (fun vi wr=>∃ k:Nat,k≤n3∧vi= .int .i64 (k:Int)∧Hid (Keep w wr)∧Hid (wr.heap[gb]? =some (.cells #[.string S0,.slice a1 n1 c1,.slice a2 n2 c2,.slice a3 n3 c3,.slice a4 n4 c4,.slice a5 n5 c5,.int .i64 v6] 39 (0,0)))) (fun vi _=>n3 - (intOf vi).toNat)
       case atStart=>exact⟨0,Nat.zero_le _,rfl,HK,HB⟩
       case round=>
        obtain⟨k,hk,rfl,HK,HB⟩:=hrel;have z3:wr.cell? ⟨gb,3,none⟩=some (.slice a3 n3 c3):=by simp[World.cell?,uq HB]
        by_cases hlt:k<n3
        ·have li:(k:Int)<(n3:Int):=by omega
         have hk9:k≤100:=by have:=uq HNN;omega
         have HR:=hide ((uq HR3) k hlt);obtain⟨ad,rfl,e0,e1⟩:=(uq HC3) k hlt;have x0:=Q.kcell (uq HK) e0;have x1:=Q.kcell (uq HK) e1;clear e0 e1;generalize X3 k=X at x0;generalize A3 k=A at x1 HR;generalize N3 k=N at x1 HR;generalize C3 k=C at x1 HR;go_wp2_with fail
         (refine((uq TS) _ _ (zgt wr X 9)).mono ?_;rintro e w5 ⟨b,rfl,rfl⟩);cases b
         ·go_wp2_with fail
          go_ret;exact⟨_,rfl,(by have:=uq HK;repeat(first|exact this|apply Keep.alloc|apply Keep.drew))⟩
         ·have y1:=Q.kcell ((Keep.refl wr).alloc (.cells #[.string X] 9)) x1;have y3:=Q.kcell ((Keep.refl wr).alloc (.cells #[.string X] 9)) z3;have HR5:=hide ((uq HR).keep ((uq HK).alloc (.cells #[.string X] 9)));go_wp2_with fail
          (refine((uq TS) _ _ (uq HR5)).mono ?_;rintro e w6 ⟨b,rfl,rfl⟩);cases b
          ·go_wp2_with fail
           go_ret;exact⟨_,rfl,(by have:=uq HK;repeat(first|exact this|apply Keep.alloc|apply Keep.drew))⟩
          ·go_wp2_with fail
           go_roundw
           case rel=>exact⟨k+1,hlt,by go_num,hide (by have:=uq HK;repeat(first|exact this|apply Keep.alloc|apply Keep.drew)),hide (by rw[heap_alloc_old _ _ (Array.getElem?_eq_some_iff.1 (uq HB)).1];exact uq HB)⟩
           case measure=>simp[intOf];omega
        ·have li:¬(k:Int)<(n3:Int):=by omega
         clear hlt hk;go_wp2_with fail
         go_loopw [7] (fun vi wr=>∃ k:Nat,k≤n4∧vi= .int .i64 (k:Int)∧Hid (Keep w wr)∧Hid (wr.heap[gb]? =some (.cells #[.string S0,.slice a1 n1 c1,.slice a2 n2 c2,.slice a3 n3 c3,.slice a4 n4 c4,.slice a5 n5 c5,.int .i64 v6] 39 (0,0)))) (fun vi _=>n4 - (intOf vi).toNat)
         case atStart=>exact⟨0,Nat.zero_le _,rfl,HK,HB⟩
         case round=>
          obtain⟨k,hk,rfl,HK,HB⟩:=hrel;have z4:wr.cell? ⟨gb,4,none⟩=some (.slice a4 n4 c4):=by simp[World.cell?,uq HB]
          by_cases hlt:k<n4
          ·have li:(k:Int)<(n4:Int):=by omega
           have hk9:k≤100:=by have:=uq HNN;omega
           have HR:=hide ((uq HR4) k hlt);obtain⟨ad,rfl,e0⟩:=(uq HC4) k hlt;have x0:=Q.kcell (uq HK) e0;clear e0;generalize A4 k=A at x0 HR;generalize N4 k=N at x0 HR;generalize C4 k=C at x0;by_cases g5:(5:Int)<(N:Int)
           ·go_wp2_with fail
            go_ret;exact⟨_,rfl,uq HK⟩
           ·go_wp2_with fail
            obtain⟨wo,HWO⟩:∃ wo,Hid (wo=wr):=⟨_,hide rfl⟩
            go_loopw [8] (fun vi wi=>∃ j:Nat,j≤N∧vi= .int .i64 (j:Int)∧wi=wr) (fun vi _=>N - (intOf vi).toNat)
            case atStart=>exact⟨0,Nat.zero_le _,rfl,rfl⟩
            case round=>
             obtain⟨j,hj,rfl,rfl⟩:=hrel;by_cases hjl:j<N
             ·have lj:(j:Int)<(N:Int):=by omega
              obtain⟨bd,rfl,f1,f2⟩:=(uq HR) j hjl;have y1:=Q.kcell (uq HK) f1;have HRj:=hide (f2.keep (uq HK));clear f1 f2;generalize AA k j=Aj at y1 HRj;generalize NN k j=Nj at y1 HRj;generalize CC k j=Cj at y1 HRj;go_wp2_with fail
              (refine((uq TS) _ _ (uq HRj)).mono ?_;rintro e w6 ⟨b,rfl,rfl⟩);cases b
              ·go_wp2_with fail
               go_ret;exact⟨_,rfl,uq HK⟩
              ·go_wp2_with fail
               go_roundw
               case rel=>exact⟨j+1,hjl,by go_num,by first|rfl|trivial⟩
               case measure=>simp[intOf];omega
             ·have lj:¬(j:Int)<(N:Int):=by omega
              go_wp2_with fail
              go_roundw
              case rel=>exact⟨k+1,hlt,by go_num,HK,HB⟩
              case measure=>simp[intOf];omega
          ·have li:¬(k:Int)<(n4:Int):=by omega
           clear hlt hk;go_wp2_with fail
           go_loopw [9] (fun vi wr=>∃ k:Nat,k≤n5∧vi= .int .i64 (k:Int)∧Hid (Keep w wr)∧Hid (wr.heap[gb]? =some (.cells #[.string S0,.slice a1 n1 c1,.slice a2 n2 c2,.slice a3 n3 c3,.slice a4 n4 c4,.slice a5 n5 c5,.int .i64 v6] 39 (0,0)))) (fun vi _=>n5 - (intOf vi).toNat)
           case atStart=>exact⟨0,Nat.zero_le _,rfl,HK,HB⟩
           case round=>
            obtain⟨k,hk,rfl,HK,HB⟩:=hrel;have z5:wr.cell? ⟨gb,5,none⟩=some (.slice a5 n5 c5):=by simp[World.cell?,uq HB]
            by_cases hlt:k<n5
            ·have li:(k:Int)<(n5:Int):=by omega
             have hk9:k≤100:=by have:=uq HNN;omega
             obtain⟨ad,rfl,e0,e1⟩:=(uq HC5) k hlt;have x0:=Q.kcell (uq HK) e0;have x1:=Q.kcell (uq HK) e1;clear e0 e1;generalize X5 k=X at x0;generalize Y5 k=Y at x1;have HSX:Hid (∀ w',Keep wr w'→w'.cell? ⟨gb,5,none⟩=some (.slice (some ad) n5 c5)∧w'.cell? (ad.add (k * 3))=some (.string X)∧w'.cell? ⟨(ad.add (k * 3)).block,(ad.add (k * 3)).off+1,none⟩=some (.string Y)):=hide (fun w' k9=>⟨Q.kcell k9 z5,Q.kcell k9 x0,Q.kcell k9 x1⟩)
             go_upto_region 33 with fail
             refine wp_region_held_drew (S:=fun w'=>w'.cell? ⟨gb,5,none⟩=some (.slice (some ad) n5 c5)∧w'.cell? (ad.add (k * 3))=some (.string X)∧w'.cell? ⟨(ad.add (k * 3)).block,(ad.add (k * 3)).off+1,none⟩=some (.string Y)) (by kernel_rfl) (by exact(uq HSX) _ (by repeat(first|apply Keep.alloc|apply Keep.drew|exact Keep.refl _))) (fun hHeld=>?_);refine tkk 0 157 hHeld ?_;try simp only[Act.put,Ya,Yb,Yc]
             refine tkk 1 158 hHeld ?_;try simp only[Act.put,Ya,Yb,Yc]
             refine tkk 2 159 hHeld ?_;try simp only[Act.put,Ya,Yb,Yc]
             refine tkk 3 160 hHeld ?_;try simp only[Act.put,Ya,Yb,Yc]
             refine tkk 4 161 hHeld ?_;try simp only[Act.put,Ya,Yb,Yc]
             refine tkk 5 162 hHeld ?_;try simp only[Act.put,Ya,Yb,Yc]
             refine tkk 6 163 hHeld ?_;try simp only[Act.put,Ya,Yb,Yc]
             refine tkk 7 164 hHeld ?_;try simp only[Act.put,Ya,Yb,Yc]
             refine tkk 8 165 hHeld ?_;try simp only[Act.put,Ya,Yb,Yc]
             refine tkk 9 166 hHeld ?_;try simp only[Act.put,Ya,Yb,Yc]
             refine tkk 10 167 hHeld ?_;try simp only[Act.put,Ya,Yb,Yc]
             refine tkk 11 168 hHeld ?_;try simp only[Act.put,Ya,Yb,Yc]
             refine zal 12 (fun K hK=>?_);go_simp;clear hHeld;refine hK.out _ _ ?_ (fun hHeld=>?_)
             ·exact(uq HSX) _ (by repeat(first|apply Keep.alloc|apply Keep.drew|exact Keep.refl _))
             clear hK K;try simp only[Act.put,Ya,Yb,Yc]
             refine zal 13 (fun K hK=>?_);go_simp;clear hHeld;(refine((uq TS) _ _ (zdo wr.drew X Y 9)).mono ?_;rintro e w5 ⟨b,rfl,rfl⟩);try go_wp2_with fail
             refine hK.out _ _ ?_ (fun hHeld=>?_)
             ·exact(uq HSX) _ (by repeat(first|apply Keep.alloc|apply Keep.drew|exact Keep.refl _))
             clear hK K;try simp only[Act.put,Ya,Yb,Yc]
             refine tkk 14 171 hHeld ?_;try simp only[Act.put,Ya,Yb,Yc]
             refine wpAnyH_done (by kernel_rfl) ?_ _;clear hHeld;cases b
             ·go_wp2_with fail
              go_ret;exact⟨_,rfl,(by have:=uq HK;repeat(first|exact this|apply Keep.alloc|apply Keep.drew))⟩
             ·go_wp2_with fail
              go_roundw
              case rel=>exact⟨k+1,hlt,by go_num,hide (by have:=uq HK;repeat(first|exact this|apply Keep.alloc|apply Keep.drew)),hide ((heap_alloc_old wr (.cells #[.string X,.string Y] 9) (Array.getElem?_eq_some_iff.1 (uq HB)).1).trans (uq HB))⟩
              case measure=>simp[intOf];omega
            ·have li:¬(k:Int)<(n5:Int):=by omega
             clear hlt hk;go_wp2_with fail
             go_ret;exact⟨_,rfl,uq HK⟩
   ·rw[Nat.min_eq_right (by omega)]at HRW;have l5:(50:Int)<(n1:Int)+1:=by omega
    have l6:¬(n1:Int)+1≤50:=by omega
    have l7:50≤cap:=by omega
    have l8:¬(cap:Int)<50:=by omega
    go_wp2_with fail
    (refine((uq TS) _ _ (uq HRW)).mono ?_;rintro e wr ⟨b,rfl,rfl⟩);cases b
    ·go_wp2_with fail
     go_ret;exact⟨_,rfl,uq HK⟩
    ·go_wp2_with fail
     go_loopw [5] (fun vi wr=>∃ k:Nat,k≤n2∧vi= .int .i64 (k:Int)∧Hid (Keep w wr)∧Hid (wr.heap[gb]? =some (.cells #[.string S0,.slice a1 n1 c1,.slice a2 n2 c2,.slice a3 n3 c3,.slice a4 n4 c4,.slice a5 n5 c5,.int .i64 v6] 39 (0,0)))) (fun vi _=>n2 - (intOf vi).toNat)
     case atStart=>exact⟨0,Nat.zero_le _,rfl,HK,HB⟩
     case round=>
      obtain⟨k,hk,rfl,HK,HB⟩:=hrel;have z2:wr.cell? ⟨gb,2,none⟩=some (.slice a2 n2 c2):=by simp[World.cell?,uq HB]
      by_cases hlt:k<n2
      ·have li:(k:Int)<(n2:Int):=by omega
       have hk9:k≤100:=by have:=uq HNN;omega
       obtain⟨ad,rfl,e0,e1⟩:=(uq HC2) k hlt;have x0:=Q.kcell (uq HK) e0;have x1:=Q.kcell (uq HK) e1;clear e0 e1;generalize X2 k=X at x0;generalize Y2 k=Y at x1;have HSX:Hid (∀ w',Keep wr w'→w'.cell? ⟨gb,2,none⟩=some (.slice (some ad) n2 c2)∧w'.cell? (ad.add (k * 6))=some (.string X)∧w'.cell? ⟨(ad.add (k * 6)).block,(ad.add (k * 6)).off+1,none⟩=some (.string Y)):=hide (fun w' k9=>⟨Q.kcell k9 z2,Q.kcell k9 x0,Q.kcell k9 x1⟩)
       go_upto_region 13 with fail
       refine wp_region_held_drew (S:=fun w'=>w'.cell? ⟨gb,2,none⟩=some (.slice (some ad) n2 c2)∧w'.cell? (ad.add (k * 6))=some (.string X)∧w'.cell? ⟨(ad.add (k * 6)).block,(ad.add (k * 6)).off+1,none⟩=some (.string Y)) (by kernel_rfl) (by exact(uq HSX) _ (by repeat(first|apply Keep.alloc|apply Keep.drew|exact Keep.refl _))) (fun hHeld=>?_);refine tkk 0 71 hHeld ?_;try simp only[Act.put,Ya,Yb,Yc]
       refine tkk 1 72 hHeld ?_;try simp only[Act.put,Ya,Yb,Yc]
       refine tkk 2 73 hHeld ?_;try simp only[Act.put,Ya,Yb,Yc]
       refine tkk 3 74 hHeld ?_;try simp only[Act.put,Ya,Yb,Yc]
       refine tkk 4 75 hHeld ?_;try simp only[Act.put,Ya,Yb,Yc]
       refine tkk 5 76 hHeld ?_;try simp only[Act.put,Ya,Yb,Yc]
       refine tkk 6 77 hHeld ?_;try simp only[Act.put,Ya,Yb,Yc]
       refine tkk 7 78 hHeld ?_;try simp only[Act.put,Ya,Yb,Yc]
       refine tkk 8 79 hHeld ?_;try simp only[Act.put,Ya,Yb,Yc]
       refine tkk 9 80 hHeld ?_;try simp only[Act.put,Ya,Yb,Yc]
       refine tkk 10 81 hHeld ?_;try simp only[Act.put,Ya,Yb,Yc]
       refine tkk 11 82 hHeld ?_;try simp only[Act.put,Ya,Yb,Yc]
       refine zal 12 (fun K hK=>?_);go_simp;clear hHeld;refine hK.out _ _ ?_ (fun hHeld=>?_)
       ·exact(uq HSX) _ (by repeat(first|apply Keep.alloc|apply Keep.drew|exact Keep.refl _))
       clear hK K;try simp only[Act.put,Ya,Yb,Yc]
       refine zal 13 (fun K hK=>?_);go_simp;clear hHeld;(refine((uq TS) _ _ (zdo wr.drew X Y 9)).mono ?_;rintro e w5 ⟨b,rfl,rfl⟩);try go_wp2_with fail
       refine hK.out _ _ ?_ (fun hHeld=>?_)
       ·exact(uq HSX) _ (by repeat(first|apply Keep.alloc|apply Keep.drew|exact Keep.refl _))
       clear hK K;try simp only[Act.put,Ya,Yb,Yc]
       refine tkk 14 85 hHeld ?_;try simp only[Act.put,Ya,Yb,Yc]
       refine wpAnyH_done (by kernel_rfl) ?_ _;clear hHeld;cases b
       ·go_wp2_with fail
        go_ret;exact⟨_,rfl,(by have:=uq HK;repeat(first|exact this|apply Keep.alloc|apply Keep.drew))⟩
       ·go_wp2_with fail
        go_roundw
        case rel=>exact⟨k+1,hlt,by go_num,hide (by have:=uq HK;repeat(first|exact this|apply Keep.alloc|apply Keep.drew)),hide ((heap_alloc_old wr (.cells #[.string X,.string Y] 9) (Array.getElem?_eq_some_iff.1 (uq HB)).1).trans (uq HB))⟩
        case measure=>simp[intOf];omega
      ·have li:¬(k:Int)<(n2:Int):=by omega
       clear hlt hk;go_wp2_with fail
       go_loopw [6] (fun vi wr=>∃ k:Nat,k≤n3∧vi= .int .i64 (k:Int)∧Hid (Keep w wr)∧Hid (wr.heap[gb]? =some (.cells #[.string S0,.slice a1 n1 c1,.slice a2 n2 c2,.slice a3 n3 c3,.slice a4 n4 c4,.slice a5 n5 c5,.int .i64 v6] 39 (0,0)))) (fun vi _=>n3 - (intOf vi).toNat)
       case atStart=>exact⟨0,Nat.zero_le _,rfl,HK,HB⟩
       case round=>
        obtain⟨k,hk,rfl,HK,HB⟩:=hrel;have z3:wr.cell? ⟨gb,3,none⟩=some (.slice a3 n3 c3):=by simp[World.cell?,uq HB]
        by_cases hlt:k<n3
        ·have li:(k:Int)<(n3:Int):=by omega
         have hk9:k≤100:=by have:=uq HNN;omega
         have HR:=hide ((uq HR3) k hlt);obtain⟨ad,rfl,e0,e1⟩:=(uq HC3) k hlt;have x0:=Q.kcell (uq HK) e0;have x1:=Q.kcell (uq HK) e1;clear e0 e1;generalize X3 k=X at x0;generalize A3 k=A at x1 HR;generalize N3 k=N at x1 HR;generalize C3 k=C at x1 HR;go_wp2_with fail
         (refine((uq TS) _ _ (zgt wr X 9)).mono ?_;rintro e w5 ⟨b,rfl,rfl⟩);cases b
         ·go_wp2_with fail
          go_ret;exact⟨_,rfl,(by have:=uq HK;repeat(first|exact this|apply Keep.alloc|apply Keep.drew))⟩
         ·have y1:=Q.kcell ((Keep.refl wr).alloc (.cells #[.string X] 9)) x1;have y3:=Q.kcell ((Keep.refl wr).alloc (.cells #[.string X] 9)) z3;have HR5:=hide ((uq HR).keep ((uq HK).alloc (.cells #[.string X] 9)));go_wp2_with fail
          (refine((uq TS) _ _ (uq HR5)).mono ?_;rintro e w6 ⟨b,rfl,rfl⟩);cases b
          ·go_wp2_with fail
           go_ret;exact⟨_,rfl,(by have:=uq HK;repeat(first|exact this|apply Keep.alloc|apply Keep.drew))⟩
          ·go_wp2_with fail
           go_roundw
           case rel=>exact⟨k+1,hlt,by go_num,hide (by have:=uq HK;repeat(first|exact this|apply Keep.alloc|apply Keep.drew)),hide (by rw[heap_alloc_old _ _ (Array.getElem?_eq_some_iff.1 (uq HB)).1];exact uq HB)⟩
           case measure=>simp[intOf];omega
        ·have li:¬(k:Int)<(n3:Int):=by omega
         clear hlt hk;go_wp2_with fail
         go_loopw [7] (fun vi wr=>∃ k:Nat,k≤n4∧vi= .int .i64 (k:Int)∧Hid (Keep w wr)∧Hid (wr.heap[gb]? =some (.cells #[.string S0,.slice a1 n1 c1,.slice a2 n2 c2,.slice a3 n3 c3,.slice a4 n4 c4,.slice a5 n5 c5,.int .i64 v6] 39 (0,0)))) (fun vi _=>n4 - (intOf vi).toNat)
         case atStart=>exact⟨0,Nat.zero_le _,rfl,HK,HB⟩
         case round=>
          obtain⟨k,hk,rfl,HK,HB⟩:=hrel;have z4:wr.cell? ⟨gb,4,none⟩=some (.slice a4 n4 c4):=by simp[World.cell?,uq HB]
          by_cases hlt:k<n4
          ·have li:(k:Int)<(n4:Int):=by omega
           have hk9:k≤100:=by have:=uq HNN;omega
           have HR:=hide ((uq HR4) k hlt);obtain⟨ad,rfl,e0⟩:=(uq HC4) k hlt;have x0:=Q.kcell (uq HK) e0;clear e0;generalize A4 k=A at x0 HR;generalize N4 k=N at x0 HR;generalize C4 k=C at x0;by_cases g5:(5:Int)<(N:Int)
           ·go_wp2_with fail
            go_ret;exact⟨_,rfl,uq HK⟩
           ·go_wp2_with fail
            obtain⟨wo,HWO⟩:∃ wo,Hid (wo=wr):=⟨_,hide rfl⟩
            go_loopw [8] (fun vi wi=>∃ j:Nat,j≤N∧vi= .int .i64 (j:Int)∧wi=wr) (fun vi _=>N - (intOf vi).toNat)
            case atStart=>exact⟨0,Nat.zero_le _,rfl,rfl⟩
            case round=>
             obtain⟨j,hj,rfl,rfl⟩:=hrel;by_cases hjl:j<N
             ·have lj:(j:Int)<(N:Int):=by omega
              obtain⟨bd,rfl,f1,f2⟩:=(uq HR) j hjl;have y1:=Q.kcell (uq HK) f1;have HRj:=hide (f2.keep (uq HK));clear f1 f2;generalize AA k j=Aj at y1 HRj;generalize NN k j=Nj at y1 HRj;generalize CC k j=Cj at y1 HRj;go_wp2_with fail
              (refine((uq TS) _ _ (uq HRj)).mono ?_;rintro e w6 ⟨b,rfl,rfl⟩);cases b
              ·go_wp2_with fail
               go_ret;exact⟨_,rfl,uq HK⟩
              ·go_wp2_with fail
               go_roundw
               case rel=>exact⟨j+1,hjl,by go_num,by first|rfl|trivial⟩
               case measure=>simp[intOf];omega
             ·have lj:¬(j:Int)<(N:Int):=by omega
              go_wp2_with fail
              go_roundw
              case rel=>exact⟨k+1,hlt,by go_num,HK,HB⟩
              case measure=>simp[intOf];omega
          ·have li:¬(k:Int)<(n4:Int):=by omega
           clear hlt hk;go_wp2_with fail
           go_loopw [9] (fun vi wr=>∃ k:Nat,k≤n5∧vi= .int .i64 (k:Int)∧Hid (Keep w wr)∧Hid (wr.heap[gb]? =some (.cells #[.string S0,.slice a1 n1 c1,.slice a2 n2 c2,.slice a3 n3 c3,.slice a4 n4 c4,.slice a5 n5 c5,.int .i64 v6] 39 (0,0)))) (fun vi _=>n5 - (intOf vi).toNat)
           case atStart=>exact⟨0,Nat.zero_le _,rfl,HK,HB⟩
           case round=>
            obtain⟨k,hk,rfl,HK,HB⟩:=hrel;have z5:wr.cell? ⟨gb,5,none⟩=some (.slice a5 n5 c5):=by simp[World.cell?,uq HB]
            by_cases hlt:k<n5
            ·have li:(k:Int)<(n5:Int):=by omega
             have hk9:k≤100:=by have:=uq HNN;omega
             obtain⟨ad,rfl,e0,e1⟩:=(uq HC5) k hlt;have x0:=Q.kcell (uq HK) e0;have x1:=Q.kcell (uq HK) e1;clear e0 e1;generalize X5 k=X at x0;generalize Y5 k=Y at x1;have HSX:Hid (∀ w',Keep wr w'→w'.cell? ⟨gb,5,none⟩=some (.slice (some ad) n5 c5)∧w'.cell? (ad.add (k * 3))=some (.string X)∧w'.cell? ⟨(ad.add (k * 3)).block,(ad.add (k * 3)).off+1,none⟩=some (.string Y)):=hide (fun w' k9=>⟨Q.kcell k9 z5,Q.kcell k9 x0,Q.kcell k9 x1⟩)
             go_upto_region 33 with fail
             refine wp_region_held_drew (S:=fun w'=>w'.cell? ⟨gb,5,none⟩=some (.slice (some ad) n5 c5)∧w'.cell? (ad.add (k * 3))=some (.string X)∧w'.cell? ⟨(ad.add (k * 3)).block,(ad.add (k * 3)).off+1,none⟩=some (.string Y)) (by kernel_rfl) (by exact(uq HSX) _ (by repeat(first|apply Keep.alloc|apply Keep.drew|exact Keep.refl _))) (fun hHeld=>?_);refine tkk 0 157 hHeld ?_;try simp only[Act.put,Ya,Yb,Yc]
             refine tkk 1 158 hHeld ?_;try simp only[Act.put,Ya,Yb,Yc]
             refine tkk 2 159 hHeld ?_;try simp only[Act.put,Ya,Yb,Yc]
             refine tkk 3 160 hHeld ?_;try simp only[Act.put,Ya,Yb,Yc]
             refine tkk 4 161 hHeld ?_;try simp only[Act.put,Ya,Yb,Yc]
             refine tkk 5 162 hHeld ?_;try simp only[Act.put,Ya,Yb,Yc]
             refine tkk 6 163 hHeld ?_;try simp only[Act.put,Ya,Yb,Yc]
             refine tkk 7 164 hHeld ?_;try simp only[Act.put,Ya,Yb,Yc]
             refine tkk 8 165 hHeld ?_;try simp only[Act.put,Ya,Yb,Yc]
             refine tkk 9 166 hHeld ?_;try simp only[Act.put,Ya,Yb,Yc]
             refine tkk 10 167 hHeld ?_;try simp only[Act.put,Ya,Yb,Yc]
             refine tkk 11 168 hHeld ?_;try simp only[Act.put,Ya,Yb,Yc]
             refine zal 12 (fun K hK=>?_);go_simp;clear hHeld;refine hK.out _ _ ?_ (fun hHeld=>?_)
             ·exact(uq HSX) _ (by repeat(first|apply Keep.alloc|apply Keep.drew|exact Keep.refl _))
             clear hK K;try simp only[Act.put,Ya,Yb,Yc]
             refine zal 13 (fun K hK=>?_);go_simp;clear hHeld;(refine((uq TS) _ _ (zdo wr.drew X Y 9)).mono ?_;rintro e w5 ⟨b,rfl,rfl⟩);try go_wp2_with fail
             refine hK.out _ _ ?_ (fun hHeld=>?_)
             ·exact(uq HSX) _ (by repeat(first|apply Keep.alloc|apply Keep.drew|exact Keep.refl _))
             clear hK K;try simp only[Act.put,Ya,Yb,Yc]
             refine tkk 14 171 hHeld ?_;try simp only[Act.put,Ya,Yb,Yc]
             refine wpAnyH_done (by kernel_rfl) ?_ _;clear hHeld;cases b
             ·go_wp2_with fail
              go_ret;exact⟨_,rfl,(by have:=uq HK;repeat(first|exact this|apply Keep.alloc|apply Keep.drew))⟩
             ·go_wp2_with fail
              go_roundw
              case rel=>exact⟨k+1,hlt,by go_num,hide (by have:=uq HK;repeat(first|exact this|apply Keep.alloc|apply Keep.drew)),hide ((heap_alloc_old wr (.cells #[.string X,.string Y] 9) (Array.getElem?_eq_some_iff.1 (uq HB)).1).trans (uq HB))⟩
              case measure=>simp[intOf];omega
            ·have li:¬(k:Int)<(n5:Int):=by omega
             clear hlt hk;go_wp2_with fail
             go_ret;exact⟨_,rfl,uq HK⟩
end S
end Go.Proofs.YtpmaonkelkmhbaaGreat
