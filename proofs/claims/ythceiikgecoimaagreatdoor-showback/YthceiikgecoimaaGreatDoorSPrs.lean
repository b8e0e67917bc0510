/- The law's node and Few answer some truth value, whatever they are handed. -/
import Derived.Test.YthceiikgecoimaaGreatDoorSFew
import Derived.Test.YthceiikgecoimaaGreatDoorLVal
import Derived.Deep.DrawnRows
import Derived.Deep.RegionHeld
import Derived.Test.YthceiikgecoimaaGreatDoorSNum
namespace Go.Proofs.YthceiikgecoimaaGreatDoor
open Go.RowKit
attribute [local go_sem ↓] Go.wp_at_zero Go.wp_at_succ
set_option linter.unusedVariables false
set_option linter.unusedSimpArgs false
set_option maxRecDepth 10000
namespace S
theorem zjf:(Tryz.prog.info? 9).map (λi=>(i.zero,i.size,i.bytes))=some (some (.string ⟨#[]⟩),1,16):=by kernel_rfl
theorem zhn (w:World) (us:List Value) (t:TypeId) (k:Nat) (u:Value) (hu:us[k]? =some u):(w.alloc (.cells us.toArray t)).cell? ((⟨w.heap.size,0,none⟩:Addr).add k)=some u:=by
 rw[zbt,Nat.zero_add];exact(Q.bxs_new w us t k u hu).1
theorem zoS (w:World) (a:Value) (t:TypeId):∀ j u,[a][j]? =some u->(w.alloc (.cells #[a] t)).cell? ((⟨w.heap.size,0,none⟩:Addr).add j)=some u:=λj u h=>zhn w [a] t j u h
theorem zjE (w:World) (xs:List ByteArray) (t:TypeId):Rw (w.alloc (.cells (xs.map Value.string).toArray t)) (.slice (some ⟨w.heap.size,0,none⟩) xs.length xs.length):=
 ⟨_,_,_,λk=>xs.getD k ⟨#[]⟩,rfl,Nat.le_refl _,λk hk=>⟨_,rfl,by simp,zhn w _ t k _ (by show _=some (Value.string (xs.getD k ⟨#[]⟩));rw[List.getElem?_map,List.getD_eq_getElem?_getD,List.getElem?_eq_getElem hk];rfl)⟩⟩
theorem zoT (w:World) (x:ByteArray) (t:TypeId):Rw (w.alloc (.cells #[.string x] t)) (.slice (some ⟨w.heap.size,0,none⟩) 1 1):=zjE w [x] t
theorem zjF (w:World) (x y:ByteArray) (t:TypeId):Rw (w.alloc (.cells #[.string x,.string y] t)) (.slice (some ⟨w.heap.size,0,none⟩) 2 2):=zjE w [x,y] t
theorem zoU (w:World) (x y z:ByteArray) (t:TypeId):Rw (w.alloc (.cells #[.string x,.string y,.string z] t)) (.slice (some ⟨w.heap.size,0,none⟩) 3 3):=zjE w [x,y,z] t
theorem zrh {w:World} {base n m:Nat} {v:Value} {xs:List ByteArray} (h:w.ownsRow base 9 1 v n (xs.map Value.string)) (hm:m<=n) (hn:0<n):∃ g cap,v= .slice (some ⟨g,0,none⟩) n cap/\n<=cap/\Rw w (.slice (some ⟨g,0,none⟩) m cap):=by
 rcases h.2 with ⟨_,hz⟩|⟨g,cap,cur,rfl,hbg,hg,hnc,hcm,hcs,htake⟩
 ·omega
 ·have hl:xs.length=n:=by have:=h.1;simpa using this
  refine⟨g,cap,rfl,hnc,_,m,cap,λk=>xs.getD k ⟨#[]⟩,rfl,by omega,λk hk=>⟨_,rfl,(Array.getElem?_eq_some_iff.1 hg).1,?_⟩⟩;refine h.cells (g:=g) rfl k _ ?_;show _=some (Value.string (xs.getD k ⟨#[]⟩));rw[List.getElem?_map,List.getD_eq_getElem?_getD,List.getElem?_eq_getElem (by omega:k<xs.length)]
  rfl
set_option maxHeartbeats 16000000 in
theorem zhT (S0:ByteArray) (a1:Option Addr) (n1 c1:Nat) (a2:Option Addr) (n2 c2:Nat) (a3:Option Addr) (n3 c3:Nat) (a4:Option Addr) (n4 c4:Nat) (a5:Option Addr) (n5 c5:Nat) (v6:Int) (X1 X2 Y2 X3 X5 Y5:Nat->ByteArray) (A3:Nat->Option Addr) (N3 C3:Nat->Nat) (A4:Nat->Option Addr) (N4 C4:Nat->Nat) (AA:Nat->Nat->Option Addr) (NN CC:Nat->Nat->Nat) (w:World)
  (TS:Hid (∀ v w',Rw w' v->Calls Tryz.prog 12 #[v] w' (Ab w')))
  (HC1:Hid (∀ k,k<n1->∃ ad,a1=some ad/\w.cell? (ad.add (k * 11))=some (.string (X1 k))))
  (HC2:Hid (∀ k,k<n2->∃ ad,a2=some ad/\w.cell? (ad.add (k * 6))=some (.string (X2 k))/\w.cell? ⟨(ad.add (k * 6)).block,(ad.add (k * 6)).off+1,none⟩=some (.string (Y2 k))))
  (HC3:Hid (∀ k,k<n3->∃ ad,a3=some ad/\w.cell? (ad.add (k * 3))=some (.string (X3 k))/\w.cell? ⟨(ad.add (k * 3)).block,(ad.add (k * 3)).off+1,none⟩=some (.slice (A3 k) (N3 k) (C3 k))))
  (HR3:Hid (∀ k,k<n3->Rw w (.slice (A3 k) (N3 k) (C3 k))))
  (HC4:Hid (∀ k,k<n4->∃ ad,a4=some ad/\w.cell? (ad.add k)=some (.slice (A4 k) (N4 k) (C4 k))))
  (HR4:Hid (∀ k,k<n4->∀ j,j<N4 k->∃ ad,A4 k=some ad/\w.cell? ⟨(ad.add (j * 2)).block,(ad.add (j * 2)).off+1,none⟩=some (.slice (AA k j) (NN k j) (CC k j))/\Rw w (.slice (AA k j) (NN k j) (CC k j))))
  (HC5:Hid (∀ k,k<n5->∃ ad,a5=some ad/\w.cell? (ad.add (k * 3))=some (.string (X5 k))/\w.cell? ⟨(ad.add (k * 3)).block,(ad.add (k * 3)).off+1,none⟩=some (.string (Y5 k)))):
  Calls Tryz.prog 11 #[.agg #[.string S0,.slice a1 n1 c1,.slice a2 n2 c2,.slice a3 n3 c3,.slice a4 n4 c4,.slice a5 n5 c5,.int .i64 v6]] w (Ak w):=by
 obtain⟨i0,hi,hz0,hz1,hz2⟩:=zaD zjf;have HK0:=zh ((zk w).alloc (.cells #[.string S0,.slice a1 n1 c1,.slice a2 n2 c2,.slice a3 n3 c3,.slice a4 n4 c4,.slice a5 n5 c5,.int .i64 v6] 45));have HB0:Hid ((w.alloc (.cells #[.string S0,.slice a1 n1 c1,.slice a2 n2 c2,.slice a3 n3 c3,.slice a4 n4 c4,.slice a5 n5 c5,.int .i64 v6] 45)).heap[w.heap.size]? =some (.cells #[.string S0,.slice a1 n1 c1,.slice a2 n2 c2,.slice a3 n3 c3,.slice a4 n4 c4,.slice a5 n5 c5,.int .i64 v6] 45 (0,0))):=zh (heap_alloc_new w _);have hsz0:(w.alloc (.cells #[.string S0,.slice a1 n1 c1,.slice a2 n2 c2,.slice a3 n3 c3,.slice a4 n4 c4,.slice a5 n5 c5,.int .i64 v6] 45)).heap.size=w.heap.size+1:=by simp
 go_enter Tryz.func11,Tryz.ntmps11
 go_upto_region 1 with fail
 generalize w.alloc (.cells #[.string S0,.slice a1 n1 c1,.slice a2 n2 c2,.slice a3 n3 c3,.slice a4 n4 c4,.slice a5 n5 c5,.int .i64 v6] 45)=w0 at HK0 HB0 hsz0 |-;obtain⟨gb,HGB⟩:∃ gb,Hid (w.heap.size=gb):=⟨_,rfl⟩;rw[uq HGB]at HB0 |-;have HSZ:=zh hsz0;clear hsz0;have z1:w0.cell? ⟨gb,1,none⟩=some (.slice a1 n1 c1):=by simp[World.cell?,uq HB0]
 have z2:w0.cell? ⟨gb,2,none⟩=some (.slice a2 n2 c2):=by simp[World.cell?,uq HB0]
 have z3:w0.cell? ⟨gb,3,none⟩=some (.slice a3 n3 c3):=by simp[World.cell?,uq HB0]
 have z4:w0.cell? ⟨gb,4,none⟩=some (.slice a4 n4 c4):=by simp[World.cell?,uq HB0]
 have z5:w0.cell? ⟨gb,5,none⟩=some (.slice a5 n5 c5):=by simp[World.cell?,uq HB0]
 by_cases g1:(50:Int)<(n1:Int)
 ·go_wp2_with fail
  go_ret;exact⟨_,rfl,uq HK0⟩
 by_cases g2:(50:Int)<(n2:Int)
 ·go_wp2_with fail
  go_ret;exact⟨_,rfl,uq HK0⟩
 by_cases g3:(50:Int)<(n3:Int)
 ·go_wp2_with fail
  go_ret;exact⟨_,rfl,uq HK0⟩
 by_cases g4:(50:Int)<(n4:Int)
 ·go_wp2_with fail
  go_ret;exact⟨_,rfl,uq HK0⟩
 by_cases g5:(80:Int)<(n5:Int)
 ·go_wp2_with fail
  go_ret;exact⟨_,rfl,uq HK0⟩
 have z0:w0.cell? ⟨gb,0,none⟩=some (.string S0):=by simp[World.cell?,uq HB0]
 have hn1:n1<=50:=by omega
 have HN1:=zh hn1;have HNN:Hid (n2<=50/\n3<=50/\n4<=50/\n5<=80):=zh (by omega)
 go_upto_region 4 with fail
 clear g1 g2 g3 g4 g5 hn1 z0 z1 z2 z3 z4 z5;have HOW0:Hid ((w0.alloc (.cells #[.string S0] 9)).ownsRow (gb+1) 9 1 (.slice (some ⟨w0.heap.size,0,none⟩) 1 1) 1 (([S0]:List ByteArray).map Value.string)):=zh ⟨rfl,.inr ⟨w0.heap.size,1,#[.string S0],rfl,by have:=uq HSZ;have:=uq HGB;omega,heap_alloc_new w0 _,Nat.le_refl _,by unfold maxLen;omega,rfl,rfl⟩⟩;have HK1:=zh ((uq HK0).alloc (.cells #[.string S0] 9));have HB1:Hid ((w0.alloc (.cells #[.string S0] 9)).heap[gb]? =some (.cells #[.string S0,.slice a1 n1 c1,.slice a2 n2 c2,.slice a3 n3 c3,.slice a4 n4 c4,.slice a5 n5 c5,.int .i64 v6] 45 (0,0))):=zh (by rw[heap_alloc_old _ _ (by have:=uq HSZ;have:=uq HGB;omega)];exact uq HB0);generalize w0.alloc (.cells #[.string S0] 9)=w1 at HOW0 HK1 HB1 |-;generalize w0.heap.size=ob at HOW0 |-;clear HB0 HK0;go_wp2_with fail
 go_loopw [3,4] (λvs vi wr=>∃(k:Nat) (xs:List ByteArray),k<=n1/\vi= .int .i64 (k:Int)/\Hid (wr.ownsRow (gb+1) 9 1 vs (k+1) (xs.map Value.string))/\Hid (Keep w wr)/\Hid (wr.heap[gb]? =some (.cells #[.string S0,.slice a1 n1 c1,.slice a2 n2 c2,.slice a3 n3 c3,.slice a4 n4 c4,.slice a5 n5 c5,.int .i64 v6] 45 (0,0)))) (λvs vi _=>n1 - (intOf vi).toNat)
 case atStart=>exact⟨0,[S0],Nat.zero_le _,rfl,HOW0,HK1,HB1⟩
 case round=>
  obtain⟨k,xs,hk,rfl,HROW,HK,HB⟩:=hrel;by_cases hlt:k<n1
  ·have li:(k:Int)<(n1:Int):=by omega
   have hk50:k<=50:=by have:=uq HN1;omega
   have hgbw:gb<wr.heap.size:=(Array.getElem?_eq_some_iff.1 (uq HB)).1;have z1:wr.cell? ⟨gb,1,none⟩=some (.slice a1 n1 c1):=by simp[World.cell?,uq HB]
   obtain⟨ad,rfl,e0⟩:=(uq HC1) k hlt;have x0:=Q.kcell (uq HK) e0;clear e0;generalize hX:X1 k=X at *;have hXL:Hid (xs.map Value.string++ [.string X]=(xs++ [X]).map Value.string):=zh (by simp);clear hX;go_wp2_with (at_builtin;refine wpList_append_own _ rfl _ _ 49 rfl (gb+1) 9 i0 _ 1 16 Tryz.underlying49 hi hz0 hz1 hz2 rfl (by decide) _ _ _ rfl ((uq HROW).alloc _) ⟨wr.heap.size,0,none⟩ 1 1 [.string X] rfl rfl (zoS wr _ _) (by simp[Value.oneCell']) (by unfold maxLen;omega) (by omega) (by simp;omega) ?_;intro v' w4 hown' hgrow hnil;have HOWN:=zh hown';have HG:=zh hgrow;clear hown' hgrow hnil)
   have HK4:=zh (Below.grown ((uq HK).alloc (.cells #[.string X] 9)) (uq HG) (by have:=(uq HK).size;simp;omega) (λj ej=>by have:=((uq HROW).lt j ej).1;have:=uq HGB;omega));have HB4:Hid (w4.heap[gb]? =some (.cells #[.string S0,.slice (some ad) n1 c1,.slice a2 n2 c2,.slice a3 n3 c3,.slice a4 n4 c4,.slice a5 n5 c5,.int .i64 v6] 45 (0,0))):=zh (by
    have hlt:gb<wr.heap.size:=(Array.getElem?_eq_some_iff.1 (uq HB)).1;have h1:=(uq HG).block gb (by simp;omega) (λe=>by have:=((uq HROW).lt gb e.symm).1;omega);rw[h1,heap_alloc_old _ _ hlt];exact uq HB)
   go_roundw
   case rel=>
    refine⟨k+1,xs++ [X],hlt,by go_num,?_,HK4,HB4⟩;have:=uq HOWN;rw[uq hXL]at this;exact zh this
   case measure=>simp[intOf];omega
  ·have e:n1=k:=by omega
   subst e;have hn50:=uq HN1;obtain⟨g,cap,rfl,hnc,hrw⟩:=zrh (m:=min (n1+1) 50) (uq HROW) (Nat.min_le_left _ _) (by omega);have HRW:=zh hrw;clear hrw HROW HOW0 HK1 HB1;have z1:wr.cell? ⟨gb,1,none⟩=some (.slice a1 n1 c1):=by simp[World.cell?,uq HB]
   rcases Nat.lt_or_ge n1 50 with h5|h5
   focus
    rw[Nat.min_eq_left (by omega)]at HRW;have l5:¬(50:Int)<(n1:Int)+1:=by omega
    have l6:(n1:Int)+1<=50:=by omega
   rotate_left
   focus
    rw[Nat.min_eq_right (by omega)]at HRW;have l5:(50:Int)<(n1:Int)+1:=by omega
    have l6:¬(n1:Int)+1<=50:=by omega
    have l7:50<=cap:=by omega
    have l8:¬(cap:Int)<50:=by omega
   rotate_left
   all_goals
    go_wp2_with fail
    (refine((uq TS) _ _ (uq HRW)).mono ?_;rintro e wr ⟨b,rfl,rfl⟩);cases b
    ·go_wp2_with fail
     go_ret;exact⟨_,rfl,uq HK⟩
    ·go_wp2_with fail
     go_loopw [5] (λvi wr=>∃ k:Nat,k<=n2/\vi= .int .i64 (k:Int)/\Hid (Keep w wr)/\Hid (wr.heap[gb]? =some (.cells #[.string S0,.slice a1 n1 c1,.slice a2 n2 c2,.slice a3 n3 c3,.slice a4 n4 c4,.slice a5 n5 c5,.int .i64 v6] 45 (0,0)))) (λvi _=>n2 - (intOf vi).toNat)
     case atStart=>exact⟨0,Nat.zero_le _,rfl,HK,HB⟩
     case round=>
      obtain⟨k,hk,rfl,HK,HB⟩:=hrel;have z2:wr.cell? ⟨gb,2,none⟩=some (.slice a2 n2 c2):=by simp[World.cell?,uq HB]
      by_cases hlt:k<n2
      ·have li:(k:Int)<(n2:Int):=by omega
       have hk9:k<=100:=by have:=uq HNN;omega
       obtain⟨ad,rfl,e0,e1⟩:=(uq HC2) k hlt;have x0:=Q.kcell (uq HK) e0;have x1:=Q.kcell (uq HK) e1;clear e0 e1;generalize X2 k=X at x0;generalize Y2 k=Y at x1;have HSX:Hid (∀ w',Keep wr w'->w'.cell? ⟨gb,2,none⟩=some (.slice (some ad) n2 c2)/\w'.cell? (ad.add (k * 6))=some (.string X)/\w'.cell? ⟨(ad.add (k * 6)).block,(ad.add (k * 6)).off+1,none⟩=some (.string Y)):=zh (λw' k9=>⟨Q.kcell k9 z2,Q.kcell k9 x0,Q.kcell k9 x1⟩)
       go_upto_region 13 with fail
       refine wp_region_held_drew (S:=λw'=>w'.cell? ⟨gb,2,none⟩=some (.slice (some ad) n2 c2)/\w'.cell? (ad.add (k * 6))=some (.string X)/\w'.cell? ⟨(ad.add (k * 6)).block,(ad.add (k * 6)).off+1,none⟩=some (.string Y)) (by kernel_rfl) (by exact(uq HSX) _ (by repeat(first|apply Keep.alloc|apply Keep.drew|exact zk _))) (λzH=>?_);refine tk6 0 71 1 72 2 73 3 74 4 75 5 76 zH ?_;try simp only[Yq]
       refine tk6 6 77 7 78 8 79 9 80 10 81 11 82 zH ?_;try simp only[Yq]
       refine zap 12 (λK hK=>?_);go_simp;clear zH;refine hK.out _ _ ?_ (λzH=>?_)
       ·exact(uq HSX) _ (by repeat(first|apply Keep.alloc|apply Keep.drew|exact zk _))
       clear hK K;try simp only[Yq]
       refine zap 13 (λK hK=>?_);go_simp;clear zH;(refine((uq TS) _ _ (zjF wr.drew X Y 9)).mono ?_;rintro e w5 ⟨b,rfl,rfl⟩);try go_wp2_with fail
       refine hK.out _ _ ?_ (λzH=>?_)
       ·exact(uq HSX) _ (by repeat(first|apply Keep.alloc|apply Keep.drew|exact zk _))
       clear hK K;try simp only[Yq]
       refine tkk 14 85 zH ?_;try simp only[Yq]
       refine wpAnyH_done (by kernel_rfl) ?_ _;clear zH;cases b
       ·go_wp2_with fail
        go_ret;exact⟨_,rfl,(by have:=uq HK;repeat(first|exact this|apply Keep.alloc|apply Keep.drew))⟩
       ·go_wp2_with fail
        go_roundw
        case rel=>exact⟨k+1,hlt,by go_num,zh (by have:=uq HK;repeat(first|exact this|apply Keep.alloc|apply Keep.drew)),zh ((heap_alloc_old wr (.cells #[.string X,.string Y] 9) (Array.getElem?_eq_some_iff.1 (uq HB)).1).trans (uq HB))⟩
        case measure=>simp[intOf];omega
      ·have li:¬(k:Int)<(n2:Int):=by omega
       clear hlt hk;go_wp2_with fail
       go_loopw [6] (λvi wr=>∃ k:Nat,k<=n3/\vi= .int .i64 (k:Int)/\Hid (Keep w wr)/\Hid (wr.heap[gb]? =some (.cells #[.string S0,.slice a1 n1 c1,.slice a2 n2 c2,.slice a3 n3 c3,.slice a4 n4 c4,.slice a5 n5 c5,.int .i64 v6] 45 (0,0)))) (λvi _=>n3 - (intOf vi).toNat)
       case atStart=>exact⟨0,Nat.zero_le _,rfl,HK,HB⟩
       case round=>
        obtain⟨k,hk,rfl,HK,HB⟩:=hrel;have z3:wr.cell? ⟨gb,3,none⟩=some (.slice a3 n3 c3):=by simp[World.cell?,uq HB]
        by_cases hlt:k<n3
        ·have li:(k:Int)<(n3:Int):=by omega
         have hk9:k<=100:=by have:=uq HNN;omega
         have HR:=zh ((uq HR3) k hlt);obtain⟨ad,rfl,e0,e1⟩:=(uq HC3) k hlt;have x0:=Q.kcell (uq HK) e0;have x1:=Q.kcell (uq HK) e1;clear e0 e1;generalize X3 k=X at x0;generalize A3 k=A at x1 HR;generalize N3 k=N at x1 HR;generalize C3 k=C at x1 HR;go_wp2_with fail
         (refine((uq TS) _ _ (zoT wr X 9)).mono ?_;rintro e w5 ⟨b,rfl,rfl⟩);cases b
         ·go_wp2_with fail
          go_ret;exact⟨_,rfl,(by have:=uq HK;repeat(first|exact this|apply Keep.alloc|apply Keep.drew))⟩
         ·have y1:=Q.kcell ((zk wr).alloc (.cells #[.string X] 9)) x1;have y3:=Q.kcell ((zk wr).alloc (.cells #[.string X] 9)) z3;have HR5:=zh ((uq HR).keep ((uq HK).alloc (.cells #[.string X] 9)));go_wp2_with fail
          (refine((uq TS) _ _ (uq HR5)).mono ?_;rintro e w6 ⟨b,rfl,rfl⟩);cases b
          ·go_wp2_with fail
           go_ret;exact⟨_,rfl,(by have:=uq HK;repeat(first|exact this|apply Keep.alloc|apply Keep.drew))⟩
          ·go_wp2_with fail
           go_roundw
           case rel=>exact⟨k+1,hlt,by go_num,zh (by have:=uq HK;repeat(first|exact this|apply Keep.alloc|apply Keep.drew)),zh (by rw[heap_alloc_old _ _ (Array.getElem?_eq_some_iff.1 (uq HB)).1];exact uq HB)⟩
           case measure=>simp[intOf];omega
        ·have li:¬(k:Int)<(n3:Int):=by omega
         clear hlt hk;go_wp2_with fail
         go_loopw [7] (λvi wr=>∃ k:Nat,k<=n4/\vi= .int .i64 (k:Int)/\Hid (Keep w wr)/\Hid (wr.heap[gb]? =some (.cells #[.string S0,.slice a1 n1 c1,.slice a2 n2 c2,.slice a3 n3 c3,.slice a4 n4 c4,.slice a5 n5 c5,.int .i64 v6] 45 (0,0)))) (λvi _=>n4 - (intOf vi).toNat)
         case atStart=>exact⟨0,Nat.zero_le _,rfl,HK,HB⟩
         case round=>
          obtain⟨k,hk,rfl,HK,HB⟩:=hrel;have z4:wr.cell? ⟨gb,4,none⟩=some (.slice a4 n4 c4):=by simp[World.cell?,uq HB]
          by_cases hlt:k<n4
          ·have li:(k:Int)<(n4:Int):=by omega
           have hk9:k<=100:=by have:=uq HNN;omega
           have HR:=zh ((uq HR4) k hlt);obtain⟨ad,rfl,e0⟩:=(uq HC4) k hlt;have x0:=Q.kcell (uq HK) e0;clear e0;generalize A4 k=A at x0 HR;generalize N4 k=N at x0 HR;generalize C4 k=C at x0;by_cases g5:(5:Int)<(N:Int)
           ·go_wp2_with fail
            go_ret;exact⟨_,rfl,uq HK⟩
           ·go_wp2_with fail
            obtain⟨wo,HWO⟩:∃ wo,Hid (wo=wr):=⟨_,zh rfl⟩
            go_loopw [8] (λvi wi=>∃ j:Nat,j<=N/\vi= .int .i64 (j:Int)/\wi=wr) (λvi _=>N - (intOf vi).toNat)
            case atStart=>exact⟨0,Nat.zero_le _,rfl,rfl⟩
            case round=>
             obtain⟨j,hj,rfl,rfl⟩:=hrel;by_cases hjl:j<N
             ·have lj:(j:Int)<(N:Int):=by omega
              obtain⟨bd,rfl,f1,f2⟩:=(uq HR) j hjl;have y1:=Q.kcell (uq HK) f1;have HRj:=zh (f2.keep (uq HK));clear f1 f2;generalize AA k j=Aj at y1 HRj;generalize NN k j=Nj at y1 HRj;generalize CC k j=Cj at y1 HRj;go_wp2_with fail
              (refine((uq TS) _ _ (uq HRj)).mono ?_;rintro e w6 ⟨b,rfl,rfl⟩);cases b
              ·go_wp2_with fail
               go_ret;exact⟨_,rfl,uq HK⟩
              ·go_wp2_with fail
               go_roundw
               case rel=>exact⟨j+1,hjl,by go_num,by first|rfl|trivial⟩
               case measure=>simp[intOf];omega
             ·have lj:¬(j:Int)<(N:Int):=by omega
              go_wp2_with fail
              go_roundw
              case rel=>exact⟨k+1,hlt,by go_num,HK,HB⟩
              case measure=>simp[intOf];omega
          ·have li:¬(k:Int)<(n4:Int):=by omega
           clear hlt hk;go_wp2_with fail
           go_loopw [9] (λvi wr=>∃ k:Nat,k<=n5/\vi= .int .i64 (k:Int)/\Hid (Keep w wr)/\Hid (wr.heap[gb]? =some (.cells #[.string S0,.slice a1 n1 c1,.slice a2 n2 c2,.slice a3 n3 c3,.slice a4 n4 c4,.slice a5 n5 c5,.int .i64 v6] 45 (0,0)))) (λvi _=>n5 - (intOf vi).toNat)
           case atStart=>exact⟨0,Nat.zero_le _,rfl,HK,HB⟩
           case round=>
            obtain⟨k,hk,rfl,HK,HB⟩:=hrel;have z5:wr.cell? ⟨gb,5,none⟩=some (.slice a5 n5 c5):=by simp[World.cell?,uq HB]
            by_cases hlt:k<n5
            ·have li:(k:Int)<(n5:Int):=by omega
             have hk9:k<=100:=by have:=uq HNN;omega
             obtain⟨ad,rfl,e0,e1⟩:=(uq HC5) k hlt;have x0:=Q.kcell (uq HK) e0;have x1:=Q.kcell (uq HK) e1;clear e0 e1;generalize X5 k=X at x0;generalize Y5 k=Y at x1;have HSX:Hid (∀ w',Keep wr w'->w'.cell? ⟨gb,5,none⟩=some (.slice (some ad) n5 c5)/\w'.cell? (ad.add (k * 3))=some (.string X)/\w'.cell? ⟨(ad.add (k * 3)).block,(ad.add (k * 3)).off+1,none⟩=some (.string Y)):=zh (λw' k9=>⟨Q.kcell k9 z5,Q.kcell k9 x0,Q.kcell k9 x1⟩)
             go_upto_region 33 with fail
             refine wp_region_held_drew (S:=λw'=>w'.cell? ⟨gb,5,none⟩=some (.slice (some ad) n5 c5)/\w'.cell? (ad.add (k * 3))=some (.string X)/\w'.cell? ⟨(ad.add (k * 3)).block,(ad.add (k * 3)).off+1,none⟩=some (.string Y)) (by kernel_rfl) (by exact(uq HSX) _ (by repeat(first|apply Keep.alloc|apply Keep.drew|exact zk _))) (λzH=>?_);refine tk6 0 157 1 158 2 159 3 160 4 161 5 162 zH ?_;try simp only[Yq]
             refine tk6 6 163 7 164 8 165 9 166 10 167 11 168 zH ?_;try simp only[Yq]
             refine zap 12 (λK hK=>?_);go_simp;clear zH;refine hK.out _ _ ?_ (λzH=>?_)
             ·exact(uq HSX) _ (by repeat(first|apply Keep.alloc|apply Keep.drew|exact zk _))
             clear hK K;try simp only[Yq]
             refine zap 13 (λK hK=>?_);go_simp;clear zH;(refine((uq TS) _ _ (zjF wr.drew X Y 9)).mono ?_;rintro e w5 ⟨b,rfl,rfl⟩);try go_wp2_with fail
             refine hK.out _ _ ?_ (λzH=>?_)
             ·exact(uq HSX) _ (by repeat(first|apply Keep.alloc|apply Keep.drew|exact zk _))
             clear hK K;try simp only[Yq]
             refine tkk 14 171 zH ?_;try simp only[Yq]
             refine wpAnyH_done (by kernel_rfl) ?_ _;clear zH;cases b
             ·go_wp2_with fail
              go_ret;exact⟨_,rfl,(by have:=uq HK;repeat(first|exact this|apply Keep.alloc|apply Keep.drew))⟩
             ·go_wp2_with fail
              go_roundw
              case rel=>exact⟨k+1,hlt,by go_num,zh (by have:=uq HK;repeat(first|exact this|apply Keep.alloc|apply Keep.drew)),zh ((heap_alloc_old wr (.cells #[.string X,.string Y] 9) (Array.getElem?_eq_some_iff.1 (uq HB)).1).trans (uq HB))⟩
              case measure=>simp[intOf];omega
            ·have li:¬(k:Int)<(n5:Int):=by omega
             clear hlt hk;go_wp2_with fail
             go_ret;exact⟨_,rfl,uq HK⟩
end S
end Go.Proofs.YthceiikgecoimaaGreatDoor
namespace Go.Proofs.YthceiikgecoimaaGreatDoor
open Go.RowKit
set_option linter.unusedVariables false
set_option linter.unusedSimpArgs false
set_option maxRecDepth 10000
namespace S
theorem zho {word:List UInt8} {most:Nat} {body:List Tok->Rs} (hm:Mon body) (K:List D->List Tok) (zf:List D->List D) (t:Tok) (r:List Tok) (ht:t.s≠word):
  ∀(L M:List (List D)),M.length+L.length<=most->(∀ ds∈L,∀ u R,body (K ds++u :: R)= .ok (zf ds,u :: R))->rw_ word most body M (L.flatMap (λd=>kS word :: K d)++t :: r)= .ok (M++L.map zf,t :: r)
 | [],M,_,_=>by
  rw[List.flatMap_nil,List.nil_append,zcH _ _ _ hm,if_neg ht];simp
 |d :: L,M,hl,hb=>by
  rw[List.flatMap_cons,List.append_assoc,List.cons_append,zcH _ _ _ hm,if_pos (show(kS word).s=word from rfl),if_neg (by simp at hl;omega)];have hne:∃ u R,L.flatMap (λd=>kS word :: K d)++t :: r=u :: R:=by
   cases L with
   |nil=>exact⟨t,r,rfl⟩
   |cons x xs=>exact⟨_,_,rfl⟩
  obtain⟨u,R,e⟩:=hne;rw[e,hb d List.mem_cons_self u R];simp only;rw[<- e,zho hm K zf t r ht L (M++ [zf d]) (by simp at hl |-;omega) (λx hx=>hb x (List.mem_cons_of_mem _ hx))];simp
theorem zjG {word:List UInt8} {most e z:Nat} {body:List Tok->Rs} (hm:Mon body) (K:List D->List Tok) (zf:List D->List D) {t:Tok} {r:List Tok} (ht:t.s≠word) (L:List (List D)) (hl:L.length<=most)
  (hb:∀ ds∈L,∀ u R,body (K ds++u :: R)= .ok (zf ds,u :: R)) (c:List D):zaL word most e z body c (L.flatMap (λd=>kS word :: K d)++t :: r)= .ok (c++ [.row e z (L.map zf)],t :: r):=by
 unfold zaL
 have:=zho hm K zf t r ht L [] (by simpa using hl) hb;unfold rw_ at this
 rw[this];simp
theorem ze7 (most:Nat) (t:Tok) (r:List Tok) (ht:t.s≠ [44]):∀(l:List (List UInt8)) (M:List (List D)) (s:List UInt8),M.length+l.length+1<=most->(∀ x∈s :: l,¬x∈words)->nm most M (kS s :: (l.flatMap (λx=> [kC 44,kS x])++t :: r))= .ok (M++(s :: l).map (λx=> [dS x]),t :: r)
 | [],M,s,hl,hw=>by
  rw[zdj,if_pos ⟨rfl,hw s List.mem_cons_self⟩,if_neg (by simp at hl;omega)];simp[ht,kS]
 |x :: l,M,s,hl,hw=>by
  rw[zdj,if_pos ⟨rfl,hw s List.mem_cons_self⟩,if_neg (by simp at hl;omega)];have ih:=ze7 most t r ht l (M++ [[dS s]]) x (by simp at hl |-;omega) (λy hy=>hw y (List.mem_cons_of_mem _ hy));have e:(x :: l).flatMap (λx=> [kC 44,kS x])++t :: r=kC 44 :: kS x :: (l.flatMap (λx=> [kC 44,kS x])++t :: r):=by simp
  rw[e];simp only[if_true];rw[ih];simp
theorem zgF {e most:Nat} {l:List (List UInt8)} (hl:l≠ []) (hm:l.length<=most) (hw:∀ x∈l,nmB x=true) (c:List D) (R:List Tok):zas e most c (lk l++R)= .ok (c++ [.row e 1 (l.map (λx=> [dS x]))],kC 59 :: R):=by
 cases l with
 |nil=>exact absurd rfl hl
 |cons s l=>
  have:=ze7 most (kC 59) R (by decide) l [] s (by simp at hm |-;omega) (λx hx=>(ze5 (hw x hx)).2);unfold zas
  unfold nm at this
  have e:lk (s :: l)++R=kS s :: (l.flatMap (λx=> [kC 44,kS x])++kC 59 :: R):=by simp[lk]
  rw[e,this];simp
theorem zay (s:List UInt8) (k n p:Int) (c:List D) (r:List Tok) (ps:List Sp):sq (zad s :: ps) c (⟨k,s,n,p⟩ :: r)=sq ps c r:=by simp only[sq,zad,if_true]
theorem zbw (s:List UInt8) (c:List D) (r:List Tok) (ps:List Sp) (h:nmB s=true):sq (zai :: ps) c (kS s :: r)=sq ps (c++ [dS s]) r:=by
 have h2:=(ze5 h).2;simp[sq,zai,h2]
theorem za7 (n:Int) (c:List D) (r:List Tok) (ps:List Sp):sq (zar :: ps) c (kN n :: r)=sq ps (c++ [dI n]) r:=rfl
theorem zdc (c:List D) (t:Tok) (r:List Tok) (ps:List Sp) (h:t.p=0):sq (zaO :: ps) c (t :: r)=sq ps (c++ [dI 0]) (t :: r):=by simp only[sq,zaO,h]
theorem zf7 (a b:Int) (c:List D) (r:List Tok) (ps:List Sp):sq (zba :: ps) c (kN a :: kC 47 :: kN b :: r)=sq ps (c++ [dI a,dI b]) r:=by
 have:zba c (kN a :: kC 47 :: kN b :: r)= .ok (c++ [dI a,dI b],r):=by
  unfold zba
  rw[za7,zay,za7];simp[sq]
 simp only[sq,this]
theorem zhU (n:Int) (c:List D) (r:List Tok) (ps:List Sp) (h:grB n=true):sq (zaI :: ps) c (kG n++r)=sq ps (c++ [dI n]) r:=by
 have:zaI c (kG n++r)= .ok (c++ [dI n],r):=by
  unfold zaI kG
  by_cases h0:n<0
  ·rw[if_pos h0];have e:sq [zaX [45],zar] [] ([kC 45,kN (-n)]++r)= .ok ([dB true,dI (-n)],r):=rfl;rw[e];simp[dB,dI]
  ·rw[if_neg h0];have hg:=ze6 (n:=n) (by unfold nuB;have:=of_decide_eq_true h;exact decide_eq_true ⟨by omega,by omega⟩);have hne:(kN n).s≠ [45]:=by
    intro e
    have h1:=hg.2.1;have e':dg n= [45]:=e;rw[e']at h1;have e2:one [45] 0= .ok ⟨3,[45],0,0⟩:=rfl;rw[e2]at h1;simp at h1
   have e:sq [zaX [45],zar] [] ([kN n]++r)= .ok ([dB false,dI n],r):=by
    simp only[sq,zaX,List.cons_append,List.nil_append,if_neg hne]
    rfl
   rw[e];simp[dB,dI]
 simp only[sq,this]
theorem ze8 {e most:Nat} {l:List (List UInt8)} (hl:l≠ []) (hm:l.length<=most) (hw:∀ x∈l,nmB x=true) (c:List D) (R:List Tok) (ps:List Sp):sq (zas e most :: ps) c (lk l++R)=sq ps (c++ [.row e 1 (l.map (λx=> [dS x]))]) (kC 59 :: R):=by
 simp only[sq,zgF hl hm hw]
theorem zb2 {word:List UInt8} {most e z:Nat} {body:List Tok->Rs} (hm:Mon body) (K:List D->List Tok) (zf:List D->List D) {t:Tok} {r:List Tok} (ht:t.s≠word) {L:List (List D)} (hl:L.length<=most)
  (hb:∀ ds∈L,∀ u R,body (K ds++u :: R)= .ok (zf ds,u :: R)) (c:List D) (ps:List Sp) {R:List Tok} (hR:R=t :: r):sq (zaL word most e z body :: ps) c (L.flatMap (λd=>kS word :: K d)++R)=sq ps (c++ [.row e z (L.map zf)]) R:=by
 subst hR;simp only[sq,zjG hm K zf ht L hl hb]
theorem zb3 (c:List D) (r:List Tok):sq [] c r= .ok (c,r):=rfl
theorem nxt (L:List (List D)) (word:List UInt8) (K:List D->List Tok) (t:Tok) (r:List Tok):∃ t' r',L.flatMap (λd=>kS word :: K d)++t :: r=t' :: r'/\(t'.s=word\/t'.s=t.s):=by
 cases L with
 |nil=>exact⟨t,r,rfl,.inr rfl⟩
 |cons x xs=>exact⟨_,_,rfl,.inl rfl⟩
set_option maxHeartbeats 1000000 in
theorem zjH {ds:List D} (hs:ShL zdT ds) (h:zeS ds=true) (R:List Tok):zbT (zjm ds++R)= .ok (Zl true ds,R):=by
 simp only[ShL,Sh1,zdT]at hs;obtain⟨_,_,rfl,⟨s0,rfl,_⟩,⟨_,_,rfl,⟨v1,rfl,_,_⟩,⟨_,_,rfl,⟨v2,rfl,_,_⟩,⟨_,_,rfl,⟨v3,rfl,_,_⟩,⟨_,_,rfl,⟨v4,rfl,_,_⟩,⟨_,_,rfl,⟨v5,rfl,_,_⟩,⟨_,_,rfl,⟨v6,rfl,_,_⟩,⟨_,_,rfl,⟨v7,rfl,_,_⟩,⟨_,_,rfl,⟨v8,rfl,_,_⟩,⟨_,_,rfl,⟨v9,rfl,_,_⟩,⟨_,_,rfl,⟨v10,rfl,_,_⟩,rfl⟩⟩⟩⟩⟩⟩⟩⟩⟩⟩⟩:=hs;have n0:=zaH h;have g6:=zaH (zak h);clear h;simp only[zjm,gt,List.getD_cons_zero,List.getD_cons_succ,zdA,fI,dI,List.cons_append,List.nil_append,List.append_assoc]at *;unfold zbT zct
 rw[zdc _ _ _ _ rfl];rw[zbw _ _ _ _ n0];rw[zay];rw[za7];rw[zay];rw[za7];rw[zay];rw[zf7];rw[zay];rw[za7];rw[zay];rw[zhU _ _ _ _ g6];rw[zay];rw[za7];rw[zay];rw[za7];rw[zay];rw[za7];rw[zay];rw[zb3];simp[rot,Zl,Z,dI,dS]
set_option maxHeartbeats 1000000 in
theorem zjI {ds:List D} (hs:ShL zhI ds) (h:zfs ds=true) (R:List Tok):zbY (zgA ds++R)= .ok (Zl true ds,R):=by
 simp only[ShL,Sh1,zhI]at hs;obtain⟨_,_,rfl,⟨s0,rfl,_⟩,⟨_,_,rfl,⟨s1,rfl,_⟩,⟨_,_,rfl,⟨v2,rfl,_,_⟩,⟨_,_,rfl,⟨v3,rfl,_,_⟩,⟨_,_,rfl,⟨v4,rfl,_,_⟩,⟨_,_,rfl,⟨v5,rfl,_,_⟩,rfl⟩⟩⟩⟩⟩⟩:=hs;have n0:=zaH h;have n1:=zaH (zak h);clear h;simp only[zgA,gt,List.getD_cons_zero,List.getD_cons_succ,zdA,fI,dI,List.cons_append,List.nil_append,List.append_assoc]at *;unfold zbY zct
 rw[zdc _ _ _ _ rfl];rw[zbw _ _ _ _ n0];rw[zay];rw[zbw _ _ _ _ n1];rw[zay];rw[za7];rw[zay];rw[za7];rw[zay];rw[za7];rw[zay];rw[zb3];simp[rot,Zl,Z,dI,dS]
set_option maxHeartbeats 1000000 in
theorem zlj {ds:List D} (hs:ShL zhJ ds) (h:zk4 ds=true) (R:List Tok):zeR (zlf ds++R)= .ok (Zl true ds,R):=by
 simp only[ShL,Sh1,zhJ]at hs;obtain⟨_,_,rfl,⟨s0,rfl,_⟩,⟨_,_,rfl,⟨s1,rfl,_⟩,⟨_,_,rfl,⟨v2,rfl,_,_⟩,rfl⟩⟩⟩:=hs;have n0:=zaH h;have n1:=zak h;clear h;simp only[zlf,gt,List.getD_cons_zero,List.getD_cons_succ,zdA,fI,dI,List.cons_append,List.nil_append,List.append_assoc]at *;unfold zeR zct
 rw[zdc _ _ _ _ rfl];rw[zbw _ _ _ _ n0];rw[zbw _ _ _ _ n1];rw[zay];rw[zb3];simp[rot,Zl,Z,dI,dS]
set_option maxHeartbeats 1000000 in
theorem zjJ {ds:List D} (hs:ShL zdz ds) (h:zeU ds=true) (R:List Tok):zbH (zjn ds++R)= .ok (Zl true ds,R):=by
 simp only[ShL,Sh1,zdz]at hs;obtain⟨_,_,rfl,⟨s0,rfl,_⟩,⟨_,_,rfl,⟨s1,rfl,_⟩,⟨_,_,rfl,⟨s2,rfl,_⟩,⟨_,_,rfl,⟨v3,rfl,_,_⟩,⟨_,_,rfl,⟨v4,rfl,_,_⟩,⟨_,_,rfl,⟨v5,rfl,_,_⟩,rfl⟩⟩⟩⟩⟩⟩:=hs;have n0:=zaH h;have n1:=zaH (zak h);have n2:=zaH (zak (zak h));clear h;simp only[zjn,gt,List.getD_cons_zero,List.getD_cons_succ,zdA,fI,dI,List.cons_append,List.nil_append,List.append_assoc]at *;unfold zbH zct
 rw[zdc _ _ _ _ rfl];rw[zbw _ _ _ _ n0];rw[zay];rw[zbw _ _ _ _ n1];rw[zay];rw[zbw _ _ _ _ n2];rw[zay];rw[za7];rw[zay];rw[za7];rw[zay];rw[zb3];simp[rot,Zl,Z,dI,dS]
theorem zdY {L:List (List D)} (h:∀ ds∈L,ShL zcd ds):(L.map (λe=>tS (gt e 0))).map (λx=> [dS x])=Zss (plc 1) L:=by
 rw[zaT,List.map_map];apply List.map_congr_left;intro x hx
 have hs:=h x hx;simp only[ShL,Sh1,zcd]at hs;obtain⟨_,_,rfl,⟨s0,rfl,_⟩,rfl⟩:=hs;simp[gt,tS,fS,dS,Zl,Z,plc,sv]
theorem zhV {ds:List D} (hs:ShL zb9 ds) (h:zdx ds=true) (R:List Tok):zbm (zd9 ds++R)= .ok (Zl true ds,R):=by
 simp only[ShL,Sh1,zb9]at hs;obtain⟨_,_,rfl,⟨s0,rfl,_⟩,⟨_,_,rfl,⟨L1,rfl,_,q1⟩,⟨_,_,rfl,⟨v2,rfl,_,_⟩,rfl⟩⟩⟩:=hs;have n0:=zaH h;obtain⟨h1,h2,h3⟩:=zea (by decide) (zak h);simp only[zd9,gt,List.getD_cons_zero,List.getD_cons_succ,zdA,List.cons_append,List.nil_append,List.append_assoc]at *;have hz:=zh (zdY q1);unfold zbm zct
 rw[zdc _ _ _ _ rfl,zbw _ _ _ _ n0,zay,ze8 h1 h3 h2,zay,zb3];unfold nms
 simp only[fL];rw[uq hz];simp[rot,Zl,Z,dI,dS]
theorem zjK {ds:List D} (hs:ShL zfX ds) (h:zeT ds=true) (R:List Tok):zaV (zhN ds++R)= .ok (Zl false ds,R):=by
 simp only[ShL,Sh1,zfX]at hs;obtain⟨_,_,rfl,⟨f0,rfl⟩,⟨_,_,rfl,⟨L1,rfl,_,q1⟩,rfl⟩⟩:=hs;obtain⟨h1,h2,h3⟩:=zea (by decide) h;have hz:=zdY q1;have hne:∀ R',∃ t r,lk (nms (.row 9 1 L1))++R'=t :: r/\t.s≠ [102,114,101,101]:=by
  intro R'
  simp only[gt,List.getD_cons_zero,List.getD_cons_succ]at h1 h2;cases e:nms (.row 9 1 L1)with
  |nil=>exact absurd e h1
  |cons s l=>
   refine⟨kS s,_,rfl,?_⟩;intro e2
   have:s= [102,114,101,101]:=e2;have h9:=h2 s (by rw[e];exact List.mem_cons_self);rw[this]at h9
   revert h9
   decide
 have hf:sq [zaX [102,114,101,101],zas 9 4,zad [59]] [] (zhN [dB f0,.row 9 1 L1]++R)=sq [zas 9 4,zad [59]] [dB f0] (lk (nms (.row 9 1 L1))++R):=by
  unfold zhN
  cases f0
  ·obtain⟨t,r,e,ht⟩:=hne R;simp only[gt,List.getD_cons_zero,List.getD_cons_succ,fB,dB,Bool.false_eq_true,if_false,List.nil_append];rw[e];simp only[sq,zaX,if_neg ht]
   rfl
  ·rfl
 unfold zaV
 rw[hf];simp only[gt,List.getD_cons_zero,List.getD_cons_succ]at h1 h2 h3;rw[ze8 h1 h3 h2,zay,zb3];unfold nms
 simp only[fL];rw[hz];simp[Zl,Z,dB]
theorem zhW {ds:List D} (hs:ShL zca ds) (h:zdy ds=true) (R:List Tok):zbl (zdE ds++R)= .ok (Zl false ds,R):=by
 simp only[ShL,Sh1,zca]at hs;obtain⟨_,_,rfl,⟨L0,rfl,_,q0⟩,rfl⟩:=hs;obtain⟨⟨h1,h2⟩,h3⟩:=zao h;simp only[zdE,gt,List.getD_cons_zero,fL,List.cons_append,List.nil_append,List.append_assoc]at *;unfold zbl
 rw[zay,zb2 zbd zhN (Zl false) (t:=kC 125) (r:=R) (by decide) h2 (λd hd u R=>zjK (q0 d hd) (h3 d hd) _) _ _ rfl];have e:∀(c:List (List D)) r,c≠ []->sq (zbX :: [zad [125]]) [D.row 86 2 c] r=sq [zad [125]] [D.row 86 2 c] r:=by
  intro c r hc
  cases c with
  |nil=>exact absurd rfl hc
  |cons x xs=>rfl
 rw[List.nil_append,e _ _ (by intro e;rw[List.map_eq_nil_iff]at e;rw[e]at h1;simp at h1),zay,zb3];simp[Zl,Z,zaT,plc]
set_option maxHeartbeats 1000000 in
theorem zf8 {ds:List D} (hs:ShL zcx ds) (h:zeC ds=true) (R:List Tok):zb5 (zhO ds++R)= .ok (Zl true ds,R):=by
 simp only[ShL,Sh1,zcx]at hs;obtain⟨_,_,rfl,⟨s0,rfl,_⟩,⟨_,_,rfl,⟨L1,rfl,_,q1⟩,⟨_,_,rfl,⟨L2,rfl,_,q2⟩,⟨_,_,rfl,⟨L3,rfl,_,q3⟩,⟨_,_,rfl,⟨L4,rfl,_,q4⟩,⟨_,_,rfl,⟨L5,rfl,_,q5⟩,⟨_,_,rfl,⟨v6,rfl,_,_⟩,rfl⟩⟩⟩⟩⟩⟩⟩:=hs;have n0:=zaH h;obtain⟨⟨_,l1⟩,h1⟩:=zao (zaH (zak h));obtain⟨⟨_,l2⟩,h2⟩:=zao (zaH (zak (zak h)));obtain⟨⟨_,l3⟩,h3⟩:=zao (zaH (zak (zak (zak h))));obtain⟨⟨_,l4⟩,h4⟩:=zao (zaH (zak (zak (zak (zak h)))));obtain⟨⟨_,l5⟩,h5⟩:=zao (zak (zak (zak (zak (zak h)))));clear h;simp only[zhO,gt,List.getD_cons_zero,List.getD_cons_succ,zdA,fL,List.cons_append,List.nil_append,List.append_assoc]at *;unfold zb5 zct
 rw[zdc _ _ _ _ rfl,zbw _ _ _ _ n0,zay];obtain⟨t5,r5,e5,w5⟩:=nxt L5 [102,111,101] zlf (kC 125) R;obtain⟨t4,r4,e4,w4⟩:=nxt L4 [103,114,111,117,112] zdE t5 r5;obtain⟨t3,r3,e3,w3⟩:=nxt L3 [112,104,97,115,101] zd9 t4 r4;obtain⟨t2,r2,e2,w2⟩:=nxt L2 [119,97,108,107] zgA t3 r3;have f5:=e5;have f4:List.flatMap (λd=>kS [103,114,111,117,112] :: zdE d) L4++(List.flatMap (λd=>kS [102,111,101] :: zlf d) L5++kC 125 :: R)=t4 :: r4:=by rw[f5,e4]
 have f3:List.flatMap (λd=>kS [112,104,97,115,101] :: zd9 d) L3++(List.flatMap (λd=>kS [103,114,111,117,112] :: zdE d) L4++(List.flatMap (λd=>kS [102,111,101] :: zlf d) L5++kC 125 :: R))=t3 :: r3:=by rw[f4,e3]
 have f2:List.flatMap (λd=>kS [119,97,108,107] :: zgA d) L2++(List.flatMap (λd=>kS [112,104,97,115,101] :: zd9 d) L3++(List.flatMap (λd=>kS [103,114,111,117,112] :: zdE d) L4++(List.flatMap (λd=>kS [102,111,101] :: zlf d) L5++kC 125 :: R)))=t2 :: r2:=by rw[f3,e2]
 have d5:t5.s= [102,111,101]\/t5.s= [125]:=w5;have d4:t4.s= [103,114,111,117,112]\/t4.s= [102,111,101]\/t4.s= [125]:=by rcases w4 with h|h;exact .inl h;rw[h];exact .inr d5
 have d3:t3.s= [112,104,97,115,101]\/t3.s= [103,114,111,117,112]\/t3.s= [102,111,101]\/t3.s= [125]:=by rcases w3 with h|h;exact .inl h;rw[h];exact .inr d4
 have d2:t2.s= [119,97,108,107]\/t2.s= [112,104,97,115,101]\/t2.s= [103,114,111,117,112]\/t2.s= [102,111,101]\/t2.s= [125]:=by rcases w2 with h|h;exact .inl h;rw[h];exact .inr d3
 rw[zb2 zb0 zjm (Zl true) (t:=t2) (r:=r2) (by rcases d2 with h|h|h|h|h<;>rw[h]<;>decide) l1 (λd hd u R=>zjH (q1 d hd) (h1 d hd) _) _ _ f2];rw[zb2 zbZ zgA (Zl true) (t:=t3) (r:=r3) (by rcases d3 with h|h|h|h<;>rw[h]<;>decide) l2 (λd hd u R=>zjI (q2 d hd) (h2 d hd) _) _ _ f3];rw[zb2 zb7 zd9 (Zl true) (t:=t4) (r:=r4) (by rcases d4 with h|h|h<;>rw[h]<;>decide) l3 (λd hd u R=>zhV (q3 d hd) (h3 d hd) _) _ _ f4];rw[zb2 zbI zdE (Zl false) (t:=t5) (r:=r5) (by rcases d5 with h|h<;>rw[h]<;>decide) l4 (λd hd u R=>zhW (q4 d hd) (h4 d hd) _) _ _ f5];rw[zb2 zdk zlf (Zl true) (t:=kC 125) (r:=R) (by decide) l5 (λd hd u R=>zlj (q5 d hd) (h5 d hd) _) _ _ rfl];rw[zay,zb3];simp[rot,Zl,Z,dI,dS,zaT,plc]
set_option maxHeartbeats 1000000 in
theorem zfF {ds:List D} (hs:ShL zdo ds) (h:zei ds=true):zeg (zmk ds++ [⟨0,[],0,0⟩])= .ok (ds.map Z,[⟨0,[],0,0⟩]):=by
 unfold zmk
 obtain⟨A,hA⟩:∃ A,(zdD ds/\A=zpy ds\/¬zdD ds/\A= [])/\(if zdD ds then zpy ds else [])=A:=by
  by_cases ha:zdD ds
  ·exact⟨zpy ds,.inl ⟨ha,rfl⟩,if_pos ha⟩
  ·exact⟨[],.inr ⟨ha,rfl⟩,if_neg ha⟩
 rw[hA.2];have hA:=hA.1;simp only[ShL,Sh1,zdo]at hs;obtain⟨_,_,rfl,⟨v0,rfl,_,_⟩,⟨_,_,rfl,⟨v1,rfl,_,_⟩,⟨_,_,rfl,⟨v2,rfl,_,_⟩,⟨_,_,rfl,⟨v3,rfl,_,_⟩,⟨_,_,rfl,⟨v4,rfl,_,_⟩,⟨_,_,rfl,⟨L5,rfl,_,q5⟩,⟨_,_,rfl,⟨L6,rfl,_,q6⟩,⟨_,_,rfl,⟨v7,rfl,_,_⟩,⟨_,_,rfl,⟨v8,rfl,_,_⟩,rfl⟩⟩⟩⟩⟩⟩⟩⟩⟩:=hs;obtain⟨⟨_,l5⟩,h5⟩:=zao (zaH (zak h));obtain⟨⟨_,l6⟩,h6⟩:=zao (zak (zak h));clear h;simp only[gt,List.getD_cons_zero,List.getD_cons_succ,fL,fI,dI,List.cons_append,List.nil_append,List.append_assoc]at *;unfold zeg
 rw[zay,za7,zay,za7,zay,za7,zay,zay,zf7,zay];have hend:∀ c,sq [zc5] c [(⟨0,[],0,0⟩:Tok)]= .ok (c,[⟨0,[],0,0⟩]):=λc=>rfl
 rcases hA with ⟨ha,rfl⟩|⟨ha,rfl⟩
 ·simp only[zpy,gt,List.getD_cons_zero,List.getD_cons_succ,fL,fI,List.cons_append,List.nil_append,List.append_assoc];rw[zb2 zb1 zhO (Zl true) (t:=kS [97,114,116,101,114,121]) (by decide) l5 (λd hd u R=>zf8 (q5 d hd) (h5 d hd) _) _ _ rfl];have e1:∀ c r,zcT c (kS [97,114,116,101,114,121] :: r)=sq [zad [123],zaL [115,116,111,112] 12 48 6 zbH,zad [119,101,105,103,104,116,115],zar,zar,zad [59],zad [125]] c r:=λc r=>rfl
  have e2:∀ c r x,zcT c r= .ok x->sq (zcT :: [zc5]) c r=sq [zc5] x.1 x.2:=λc r x hx=>by simp only[sq,hx]
  rw[e2 _ _ _ (by rw[e1,zay,zb2 zc8 zjn (Zl true) (t:=kS [119,101,105,103,104,116,115]) (by decide) l6 (λd hd u R=>zjJ (q6 d hd) (h6 d hd) _) _ _ rfl,zay,za7,za7,zay,zay,zb3]),hend];simp[Z,dI,zaT,plc]
 ·simp only[List.nil_append];rw[zb2 zb1 zhO (Zl true) (t:=⟨0,[],0,0⟩) (r:= []) (by decide) l5 (λd hd u R=>zf8 (q5 d hd) (h5 d hd) _) _ _ rfl];have e1:∀ c,sq (zcT :: [zc5]) c [(⟨0,[],0,0⟩:Tok)]= .ok (c++ [.row 48 6 [],dI 0,dI 0],[⟨0,[],0,0⟩]):=λc=>rfl
  rw[e1];unfold zdD at ha
  simp only[gt,List.getD_cons_zero,List.getD_cons_succ,fL,fI,not_or,Decidable.not_not]at ha;obtain⟨ha,rfl,rfl⟩:=ha;have:L6= []:=List.eq_nil_of_length_eq_zero (by omega);subst this;simp[Z,dI,zaT,plc,Zss]
end S
end Go.Proofs.YthceiikgecoimaaGreatDoor
