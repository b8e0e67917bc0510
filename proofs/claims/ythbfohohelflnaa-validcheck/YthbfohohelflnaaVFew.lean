/- Layer 7's example is read. -/
import Derived.Test.YthbfohohelflnaaVEy
import Derived.Test.YthbfohohelflnaaQStore
import Derived.Deep.DrawnRows
import Derived.Test.YthbfohohelflnaaVCl
import Derived.Test.YthbfohohelflnaaNVal
import Derived.Deep.RegionHeld
namespace Go.Proofs.Ythbfohohelflnaa
open Go.RowKit
attribute [local go_sem ↓] Go.wp_at_zero Go.wp_at_succ
set_option linter.unusedVariables false
set_option linter.unusedSimpArgs false
set_option maxRecDepth 100000
namespace V
open S
def ar7:Array Value:=(sm7.map fun x=>Value.int .u8 (x.toNat:Int)).toArray
theorem zfV:ar7.size=377:=by kernel_rfl
theorem zfb (w:World) (C:Array Value) (n:Nat) (hn:C.size=n):(convert 78 78 (.slice (some ⟨w.heap.size,0,none⟩) n n)).run Try.prog (w.alloc (.cells C 5))= .ok (.slice (some ⟨w.heap.size,0,none⟩) n n) (w.alloc (.cells C 5 (n,n+1))):=by
 subst hn;have hsh:(w.alloc (.cells C 5)).shape? w.heap.size=some (5,C.size):=by
  have:(w.alloc (.cells C 5)).heap[w.heap.size]? =some (.cells C 5):=by
   show(w.heap.push (.cells C 5))[w.heap.size]? =_;simp
  unfold World.shape?
  rw[this]
 have hfr:(w.alloc (.cells C 5)).freeze ⟨w.heap.size,C.size,none⟩ 1=w.alloc (.cells C 5 (C.size,C.size+1)):=by
  have hm:∀(a:Array Obj) (x:Obj) (f:Obj→Obj),(a.push x).modify a.size f=a.push (f x):=by
   intro a x f
   apply Array.ext
   ·simp
   ·intro i h1 h2
    simp only[Array.getElem_modify,Array.getElem_push];by_cases h:a.size=i
    ·subst h;simp
    ·have hi:i<a.size:=by simp at h1;omega
     simp[h,hi]
  unfold World.freeze
  rw[if_neg (by decide)];show({ w.alloc (.cells C 5)with heap:=(w.heap.push (.cells C 5)).modify w.heap.size _ } :World)=_;rw[hm]
  rfl
 simp[convert,run_underlying Try.underlying78,run_underlying Try.underlying5,markStringish,hsh];exact hfr
theorem zj3 (w:World) (l:List UInt8) (t:TypeId) (fr:Nat×Nat):By (w.alloc (.cells ((l.map fun x=>Value.int .u8 (x.toNat:Int)).toArray) t fr)) (.slice (some ⟨w.heap.size,0,none⟩) l.length l.length) l:=by
 refine⟨_,_,rfl,Nat.le_refl _,fun k hk=>⟨_,rfl,by simp,?_⟩⟩;rw[zaO,Nat.zero_add,World.cell?_alloc_mark,List.getElem?_toArray,List.getElem?_map,List.getD_eq_getElem?_getD,List.getElem?_eq_getElem hk]
 rfl
theorem zj4 (w:World):By (w.alloc (.cells ar7 5 (377,378))) (.slice (some ⟨w.heap.size,0,none⟩) 377 377) sm7:=zj3 w sm7 5 (377,378)
theorem zdr {P:Program} {ops:Array Oper} {Q:Exit→Act→World→Prop} {o:Oper} {rest:List Oper} {a:Act} {w w':World} {v:Value} (hg:o.guard=none) (hr:(execOp a.eval o).run P w= .ok (.value v) w') (h:wpList P ops Q rest (a.put o.dst v) w'):wpList P ops Q (o :: rest) a w:=
 wpList_plain hg fun K hK=>by
  unfold Oper.wp
  rw[hr];exact hK _ _ h
def Sp (w:World) (e:Ending) (w':World):Prop:=Keep w w'∧∃ u0 u1 u2 u3 u4 a5 n5 c5 a6 n6 c6 u7 u8,e= .returned (.agg #[.int .i64 u0,.int .i64 u1,.int .i64 u2,.int .i64 u3,.int .i64 u4,.slice a5 n5 c5,.slice a6 n6 c6,.int .i64 u7,.int .i64 u8])
 ∧Rds w' t7 (fun i=>w.heap.size≤i) [.int .i64 u0,.int .i64 u1,.int .i64 u2,.int .i64 u3,.int .i64 u4,.slice a5 n5 c5,.slice a6 n6 c6,.int .i64 u7,.int .i64 u8]
set_option maxHeartbeats 4000000 in
theorem zin (w:World):Calls Try.prog 18 #[] w (Sp w):=by
 have T2:=hide zim;have hcv0:=fun w=>zfb w ar7 377 zfV
 have K0:=hide ((Keep.refl w).alloc (.cells #[.int .i64 0,.int .i64 0,.int .i64 0,.int .i64 0,.int .i64 0,.slice none 0 0,.slice none 0 0,.int .i64 0,.int .i64 0] 27));have n0:=heap_alloc_new w (.cells #[.int .i64 0,.int .i64 0,.int .i64 0,.int .i64 0,.int .i64 0,.slice none 0 0,.slice none 0 0,.int .i64 0,.int .i64 0] 27);go_enter Try.func18,Try.ntmps18
 go_upto_region 1 with fail
 generalize w.alloc (.cells #[.int .i64 0,.int .i64 0,.int .i64 0,.int .i64 0,.int .i64 0,.slice none 0 0,.slice none 0 0,.int .i64 0,.int .i64 0] 27)=wb at K0 n0 ⊢;obtain⟨b,HB⟩:∃ b,Hid (w.heap.size=b):=⟨_,hide rfl⟩;rw[uq HB]at n0 ⊢;have N0:=hide n0;clear n0;have hcv:=hcv0 wb;clear hcv0;refine wp_region_lit ?_;refine zdr rfl (v:= .slice (some ⟨wb.heap.size,0,none⟩) 377 377) (w':=wb.alloc (.cells ar7 5)) (by kernel_rfl) ?_;try simp only[Act.put,List.setIfInBounds_toArray,List.set_cons_zero,List.set_cons_succ]
 go_wp2_with fail
 (refine((uq T2) _ _ (zj4 _)).mono ?_;rintro e w3 ⟨hk,u0,u1,u2,u3,u4,a5,n5,c5,a6,n6,c6,u7,u8,rfl,hr⟩);have HR:=hide hr;have HO:=hide (zez _ _ _ hr);have K3:=hide (((Keep.refl wb).alloc _).trans hk);clear hk hr hcv;have n1:=heap_alloc_new w3 (.cells #[.int .i64 u0,.int .i64 u1,.int .i64 u2,.int .i64 u3,.int .i64 u4,.slice a5 n5 c5,.slice a6 n6 c6,.int .i64 u7,.int .i64 u8] 27);have K4:=hide ((Keep.refl w3).alloc (.cells #[.int .i64 u0,.int .i64 u1,.int .i64 u2,.int .i64 u3,.int .i64 u4,.slice a5 n5 c5,.slice a6 n6 c6,.int .i64 u7,.int .i64 u8] 27))
 go_upto_region 2 with fail
 generalize w3.alloc (.cells #[.int .i64 u0,.int .i64 u1,.int .i64 u2,.int .i64 u3,.int .i64 u4,.slice a5 n5 c5,.slice a6 n6 c6,.int .i64 u7,.int .i64 u8] 27)=w4 at K4 n1 ⊢;have N4:Hid (w4.heap[b]? =some (.cells #[.int .i64 0,.int .i64 0,.int .i64 0,.int .i64 0,.int .i64 0,.slice none 0 0,.slice none 0 0,.int .i64 0,.int .i64 0] 27 (0,0))):=hide ((((uq K3).trans (uq K4)).block b (Array.getElem?_eq_some_iff.1 (uq N0)).1).trans (uq N0));have HBL:Hid (b<wb.heap.size):=hide (Array.getElem?_eq_some_iff.1 (uq N0)).1;generalize w3.heap.size=b1 at n1 ⊢;have g0:w4.cell? ⟨b1,0,none⟩=some (.int .i64 u0):=by simp[World.cell?,n1]
 have g1:w4.cell? ⟨b1,1,none⟩=some (.int .i64 u1):=by simp[World.cell?,n1]
 have g2:w4.cell? ⟨b1,2,none⟩=some (.int .i64 u2):=by simp[World.cell?,n1]
 have g3:w4.cell? ⟨b1,3,none⟩=some (.int .i64 u3):=by simp[World.cell?,n1]
 have g4:w4.cell? ⟨b1,4,none⟩=some (.int .i64 u4):=by simp[World.cell?,n1]
 have g5:w4.cell? ⟨b1,5,none⟩=some (.slice a5 n5 c5):=by simp[World.cell?,n1]
 have g6:w4.cell? ⟨b1,6,none⟩=some (.slice a6 n6 c6):=by simp[World.cell?,n1]
 have g7:w4.cell? ⟨b1,7,none⟩=some (.int .i64 u7):=by simp[World.cell?,n1]
 have g8:w4.cell? ⟨b1,8,none⟩=some (.int .i64 u8):=by simp[World.cell?,n1]
 clear n1;obtain⟨v0,H0⟩:∃ u:Value,Hid ((.int .i64 u0:Value)=u):=⟨_,hide rfl⟩;rw[uq H0]at g0;obtain⟨v1,H1⟩:∃ u:Value,Hid ((.int .i64 u1:Value)=u):=⟨_,hide rfl⟩;rw[uq H1]at g1;obtain⟨v2,H2⟩:∃ u:Value,Hid ((.int .i64 u2:Value)=u):=⟨_,hide rfl⟩;rw[uq H2]at g2;obtain⟨v3,H3⟩:∃ u:Value,Hid ((.int .i64 u3:Value)=u):=⟨_,hide rfl⟩;rw[uq H3]at g3;obtain⟨v4,H4⟩:∃ u:Value,Hid ((.int .i64 u4:Value)=u):=⟨_,hide rfl⟩;rw[uq H4]at g4;obtain⟨v5,H5⟩:∃ u:Value,Hid ((.slice a5 n5 c5:Value)=u):=⟨_,hide rfl⟩;rw[uq H5]at g5;obtain⟨v6,H6⟩:∃ u:Value,Hid ((.slice a6 n6 c6:Value)=u):=⟨_,hide rfl⟩;rw[uq H6]at g6;obtain⟨v7,H7⟩:∃ u:Value,Hid ((.int .i64 u7:Value)=u):=⟨_,hide rfl⟩;rw[uq H7]at g7;obtain⟨v8,H8⟩:∃ u:Value,Hid ((.int .i64 u8:Value)=u):=⟨_,hide rfl⟩;rw[uq H8]at g8;obtain⟨W1,W2,W3,W4,W5,W6,W7,W8,W9,y0,y1,y2,y3,y4,y5,y6,y7,y8,hb9,hq9,hz9,ho9,ht9,hp9⟩:=Q.store9 (uq N4) (u0:=v0) (u1:=v1) (u2:=v2) (u3:=v3) (u4:=v4) (u5:=v5) (u6:=v6) (u7:=v7) (u8:=v8) (by rw[← uq H0,← uq H1,← uq H2,← uq H3,← uq H4,← uq H5,← uq H6,← uq H7,← uq H8];simp[Value.oneCell']);have KW4:=hide (((uq K0).trans (uq K3)).trans (uq K4));have HKZ:Hid (Keep w W9):=hide ⟨ho9.trans (uq KW4).os,ht9.trans (uq KW4).tape,hp9.trans (uq KW4).output,by rw[hz9];exact(uq KW4).size,fun i hi=>(hq9 i (by have:=uq HB;omega)).trans ((uq KW4).block i hi)⟩;have HRZ:Hid (Rds W9 t7 (fun i=>w.heap.size≤i) [.int .i64 u0,.int .i64 u1,.int .i64 u2,.int .i64 u3,.int .i64 u4,.slice a5 n5 c5,.slice a6 n6 c6,.int .i64 u7,.int .i64 u8]):=hide (Rds.move _ _ _ _ (uq HR) (fun q hq hl=>⟨(hq9 q (by have h1:=uq HBL;simp at hq;omega)).trans ((uq K4).block q hl),by have h1:=(uq K0).size;simp at hq ⊢;omega⟩));have r0:W9.cell? ⟨b,0,none⟩=some v0:=by simp[World.cell?,hb9]
 have r1:W9.cell? ⟨b,1,none⟩=some v1:=by simp[World.cell?,hb9]
 have r2:W9.cell? ⟨b,2,none⟩=some v2:=by simp[World.cell?,hb9]
 have r3:W9.cell? ⟨b,3,none⟩=some v3:=by simp[World.cell?,hb9]
 have r4:W9.cell? ⟨b,4,none⟩=some v4:=by simp[World.cell?,hb9]
 have r5:W9.cell? ⟨b,5,none⟩=some v5:=by simp[World.cell?,hb9]
 have r6:W9.cell? ⟨b,6,none⟩=some v6:=by simp[World.cell?,hb9]
 have r7:W9.cell? ⟨b,7,none⟩=some v7:=by simp[World.cell?,hb9]
 have r8:W9.cell? ⟨b,8,none⟩=some v8:=by simp[World.cell?,hb9]
 clear hb9 hq9 hz9 ho9 ht9 hp9;go_wp2_with fail
 refine bodyPost_ret (v:= .agg #[v0,v1,v2,v3,v4,v5,v6,v7,v8]) (by simp[results,Try.results18,go_sem,r0,r1,r2,r3,r4,r5,r6,r7,r8]) rfl ⟨uq HKZ,u0,u1,u2,u3,u4,a5,n5,c5,a6,n6,c6,u7,u8,?_,uq HRZ⟩;rw[← uq H0,← uq H1,← uq H2,← uq H3,← uq H4,← uq H5,← uq H6,← uq H7,← uq H8]
end V
end Go.Proofs.Ythbfohohelflnaa
namespace Go.Proofs.Ythbfohohelflnaa
open Go.RowKit
set_option linter.unusedVariables false
set_option linter.unusedSimpArgs false
set_option maxRecDepth 10000
namespace V
open S
mutual
def shb:Ty→D→Bool
 | .i,.val (.int .i64 n)=>decide (-9223372036854775808≤n∧n≤9223372036854775807)
 | .s,.val (.string x)=>decide (x.size≤maxLen)
 | .b,.val (.bool _)=>true
 | .row e z fs,.row e' z' L=>decide (e=e'∧z=z'∧L.length≤maxLen)&&L.all (fun ds=>zkp fs ds)
 | _,_=>false
def zkp:List Ty→List D→Bool
 | [],[]=>true
 |t :: ts,d :: ds=>shb t d&&zkp ts ds
 | _,_=>false
end
mutual
theorem zj5:∀(t:Ty) (d:D),shb t d=true→Sh1 t d
 | .i,.val (.int .i64 n),h=>by simp only[shb,decide_eq_true_eq]at h;simp only[Sh1];exact⟨n,rfl,h.1,h.2⟩
 | .s,.val (.string x),h=>by
  simp only[shb,decide_eq_true_eq]at h;simp only[Sh1];exact⟨x.data.toList,by simp[dS,sv],by rw[Array.length_toList];exact h⟩
 | .b,.val (.bool x),h=>by simp only[Sh1];exact⟨x,rfl⟩
 | .row e z fs,.row e' z' L,h=>by
  simp only[shb,Bool.and_eq_true,decide_eq_true_eq]at h;obtain⟨⟨rfl,rfl,hl⟩,ha⟩:=h;simp only[Sh1];exact⟨L,rfl,hl,fun ds hds=>zcq fs ds (List.all_eq_true.1 ha ds hds)⟩
theorem zcq:∀(ts:List Ty) (ds:List D),zkp ts ds=true→ShL ts ds
 | [],[],h=>by simp only[ShL]
 |t :: ts,d :: ds,h=>by
  simp only[zkp,Bool.and_eq_true]at h;simp only[ShL];exact⟨d,ds,rfl,zj5 t d h.1,zcq ts ds h.2⟩
end
theorem sh7:ShL zdK t7:=zcq _ _ (by kernel_rfl)
theorem zla:ShL zdK t7x:=zcq _ _ (by kernel_rfl)
theorem zll:ShL zdK t70:=zcq _ _ (by kernel_rfl)
theorem zlm (w:World):Rvs w t70 [.int .i64 1,.int .i64 1,.int .i64 1,.int .i64 1,.int .i64 1,.slice none 0 0,.slice none 0 0,.int .i64 0,.int .i64 0]:=by
 simp only[t70,Rvs,Rv,dI];exact⟨_,_,rfl,rfl,_,_,rfl,rfl,_,_,rfl,rfl,_,_,rfl,rfl,_,_,rfl,rfl,_,_,rfl,⟨none,0,rfl,Nat.le_refl _,trivial⟩,_,_,rfl,⟨none,0,rfl,Nat.le_refl _,trivial⟩,_,_,rfl,rfl,_,_,rfl,rfl,rfl⟩
theorem zfc {w:World} {ds:List D} {us:List Value} (nm:List UInt8) (hs:ShL zdK ds) (hr:Rvs w ds us):Calls Try.prog 19 #[.agg us.toArray,.string (sv nm)] w fun e w'=>e= .returned (.int .i64 (nI (fL (gt ds 5)) nm))∧Keep w w':=by
 simp only[ShL,Sh1,zdK]at hs;obtain⟨_,_,rfl,⟨a0,rfl,_,_⟩,⟨_,_,rfl,⟨a1,rfl,_,_⟩,⟨_,_,rfl,⟨a2,rfl,_,_⟩,⟨_,_,rfl,⟨a3,rfl,_,_⟩,⟨_,_,rfl,⟨a4,rfl,_,_⟩,⟨_,_,rfl,⟨LN,rfl,bN,qN⟩,⟨_,_,rfl,⟨LS,rfl,bS,qS⟩,⟨_,_,rfl,⟨a5,rfl,_,_⟩,⟨_,_,rfl,⟨a6,rfl,_,_⟩,rfl⟩⟩⟩⟩⟩⟩⟩⟩⟩:=hs;simp only[Rvs,Rv,dS,dI,dB]at hr;obtain⟨_,_,rfl,rfl,⟨_,_,rfl,rfl,⟨_,_,rfl,rfl,⟨_,_,rfl,rfl,⟨_,_,rfl,rfl,⟨_,_,rfl,⟨aN,cN,rfl,yN,mN⟩,⟨_,_,rfl,⟨aS,cS,rfl,yS,mS⟩,⟨_,_,rfl,rfl,⟨_,_,rfl,rfl,rfl⟩⟩⟩⟩⟩⟩⟩⟩⟩:=hr;exact zh9 nm qN mN bN
set_option maxHeartbeats 4000000 in
theorem zj6 (w:World):Calls Try.prog 7 #[] w fun e w'=>e= .returned (.bool true)∧Keep w w':=by
 have SP:=hide zin;have T1:Hid (∀(w':World) us,Rvs w' t7 us→Calls Try.prog 5 #[.agg us.toArray] w' fun e w''=>e= .returned (.tuple #[.int .i64 0,.int .i64 0])∧Keep w' w''):=hide fun w' us h=>by have:=zbM sh7 h;rw[zlj]at this;exact this
 have T2:Hid (∀(w':World) us,Rvs w' t7x us→Calls Try.prog 5 #[.agg us.toArray] w' fun e w''=>e= .returned (.tuple #[.int .i64 71,.int .i64 277])∧Keep w' w''):=hide fun w' us h=>by have:=zbM zla h;rw[zkV]at this;exact this
 have T3:Hid (∀ w':World,Calls Try.prog 5 #[.agg #[.int .i64 1,.int .i64 1,.int .i64 1,.int .i64 1,.int .i64 1,.slice none 0 0,.slice none 0 0,.int .i64 0,.int .i64 0]] w' fun e w''=>e= .returned (.tuple #[.int .i64 73,.int .i64 0])∧Keep w' w''):=hide fun w'=>by have:=zbM zll (zlm w');rw[zkW]at this;exact this
 have T4:Hid (∀(w':World) us,Rvs w' t7x us→Calls Try.prog 19 #[.agg us.toArray,.string { data:=#[98] }] w' fun e w''=>e= .returned (.int .i64 (-1))∧Keep w' w''):=hide fun w' us h=>by have:=zfc [98] zla h;rw[zj0]at this;exact this
 go_enter Try.func7,Try.ntmps7;go_wp2_with fail
 (refine((uq SP) _).mono ?_;rintro e w1 ⟨hk,u0,u1,u2,u3,u4,a5,n5,c5,a6,n6,c6,u7,u8,rfl,hr⟩;have K1:=hide hk;have R1:=hide (Rds.rv _ _ _ hr);clear hk hr);go_wp2_with fail
 (refine((uq T1) _ _ (uq R1)).mono ?_;rintro e w2 ⟨rfl,hk⟩;have K2:=hide ((uq K1).trans hk);clear hk R1 K1);go_wp2_with fail
 (refine((uq SP) _).mono ?_;rintro e w3 ⟨hk,v0,v1,v2,v3,v4,d5,m5,k5,d6,m6,k6,v7,v8,rfl,hr⟩;have K3:=hide ((uq K2).trans hk);have R3:=hide hr;clear hk hr);have n1:=heap_alloc_new w3 (.cells #[.int .i64 v0,.int .i64 v1,.int .i64 v2,.int .i64 v3,.int .i64 v4,.slice d5 m5 k5,.slice d6 m6 k6,.int .i64 v7,.int .i64 v8] 27);have K4:=hide ((uq K3).alloc (.cells #[.int .i64 v0,.int .i64 v1,.int .i64 v2,.int .i64 v3,.int .i64 v4,.slice d5 m5 k5,.slice d6 m6 k6,.int .i64 v7,.int .i64 v8] 27));have R4:=hide (Rds.move (w':=w3.alloc (.cells #[.int .i64 v0,.int .i64 v1,.int .i64 v2,.int .i64 v3,.int .i64 v4,.slice d5 m5 k5,.slice d6 m6 k6,.int .i64 v7,.int .i64 v8] 27)) _ _ (fun i=>w2.heap.size≤i) _ (uq R3) (fun q hq hl=>⟨((Keep.refl w3).alloc (.cells #[.int .i64 v0,.int .i64 v1,.int .i64 v2,.int .i64 v3,.int .i64 v4,.slice d5 m5 k5,.slice d6 m6 k6,.int .i64 v7,.int .i64 v8] 27)).block q hl,hq⟩))
 go_upto_region 3 with fail
 generalize w3.alloc (.cells #[.int .i64 v0,.int .i64 v1,.int .i64 v2,.int .i64 v3,.int .i64 v4,.slice d5 m5 k5,.slice d6 m6 k6,.int .i64 v7,.int .i64 v8] 27)=w4 at n1 K4 R4 ⊢;obtain⟨bx,HBX⟩:∃ b,Hid (w3.heap.size=b):=⟨_,hide rfl⟩;rw[uq HBX]at n1 ⊢;obtain⟨gN,gP,cP,gH,cH,rfl,rfl,nNH,nPH,hgl,cN3,cP4,cP5,cH0,fz,pH,HC⟩:=zlk (uq R4);have HC:=hide HC;have b0:w4.cell? ⟨bx,0,none⟩=some (.int .i64 v0):=by simp[World.cell?,n1]
 have nb:¬gH=bx:=by
  rintro rfl;rw[cH0]at b0;cases b0
 have nb':¬bx=gH:=fun h=>nb h.symm
 have nNH':¬gN=gH:=nNH;have nPH':¬gP=gH:=nPH;have g0:w4.cell? ⟨bx,0,none⟩=some (.int .i64 v0):=by simp[World.cell?,n1]
 have g1:w4.cell? ⟨bx,1,none⟩=some (.int .i64 v1):=by simp[World.cell?,n1]
 have g2:w4.cell? ⟨bx,2,none⟩=some (.int .i64 v2):=by simp[World.cell?,n1]
 have g3:w4.cell? ⟨bx,3,none⟩=some (.int .i64 v3):=by simp[World.cell?,n1]
 have g4:w4.cell? ⟨bx,4,none⟩=some (.int .i64 v4):=by simp[World.cell?,n1]
 have g5:w4.cell? ⟨bx,5,none⟩=some (.slice (some ⟨gN,0,none⟩) 1 k5):=by simp[World.cell?,n1]
 have g6:w4.cell? ⟨bx,6,none⟩=some (.slice d6 m6 k6):=by simp[World.cell?,n1]
 have g7:w4.cell? ⟨bx,7,none⟩=some (.int .i64 v7):=by simp[World.cell?,n1]
 have g8:w4.cell? ⟨bx,8,none⟩=some (.int .i64 v8):=by simp[World.cell?,n1]
 have N1:=hide n1;have KWB:Hid (w.heap.size≤gH):=hide (Nat.le_trans (uq K2).size pH);clear b0 nNH nPH n1 pH
 go_upto_region 4 with fail
 have KS:=hide (Below.setCell (uq K4) (p:=⟨gH,0,none⟩) (uq KWB) (.string { data:=#[110] }));have RS:=hide ((uq HC) (w4.setCell ⟨gH,0,none⟩ (.string { data:=#[110] })) (fun q hq=>Below.heap_setCell _ _ _ _ hq) (fun cur t fr hcur=>Q.set_cells hcur _));have HX:Hid (∀ w':World,Keep (w4.setCell ⟨gH,0,none⟩ (.string { data:=#[110] })) w'→w'.cell? ⟨bx,0,none⟩=some (.int .i64 v0)∧w'.cell? ⟨bx,1,none⟩=some (.int .i64 v1)∧w'.cell? ⟨bx,2,none⟩=some (.int .i64 v2)∧w'.cell? ⟨bx,3,none⟩=some (.int .i64 v3)∧w'.cell? ⟨bx,4,none⟩=some (.int .i64 v4)∧w'.cell? ⟨bx,5,none⟩=some (.slice (some ⟨gN,0,none⟩) 1 k5)∧w'.cell? ⟨bx,6,none⟩=some (.slice d6 m6 k6)∧w'.cell? ⟨bx,7,none⟩=some (.int .i64 v7)∧w'.cell? ⟨bx,8,none⟩=some (.int .i64 v8)∧w'.cell? ⟨gN,3,none⟩=some (.slice (some ⟨gP,0,none⟩) 2 cP)∧w'.cell? ⟨gP,5,none⟩=some (.int .i64 277)):=hide (fun w' k9=>by
  have hh:∀(a:Addr) (u:Value),w4.cell? a=some u→¬a.block=gH→w'.cell? a=some u:=fun a u ha hn=>Q.kcell k9 (by rw[World.cell?_of_block (Below.heap_setCell w4 ⟨gH,0,none⟩ _ a.block hn)];exact ha)
  exact⟨hh _ _ g0 nb',hh _ _ g1 nb',hh _ _ g2 nb',hh _ _ g3 nb',hh _ _ g4 nb',hh _ _ g5 nb',hh _ _ g6 nb',hh _ _ g7 nb',hh _ _ g8 nb',hh _ _ cN3 nNH',hh _ _ cP5 nPH'⟩)
 clear g0 g1 g2 g3 g4 g5 g6 g7 g8 cN3 cP4 cP5 cH0 fz;generalize w4.setCell ⟨gH,0,none⟩ (.string { data:=#[110] })=W at KS RS HX ⊢;obtain⟨f0,f1,f2,f3,f4,f5,f6,f7,f8,fn,fp⟩:=(uq HX) W (Keep.refl _);go_wp2_with fail
 (refine((uq T2) _ _ (uq RS)).mono ?_;rintro e w5 ⟨rfl,hk⟩;have K5:=hide hk;clear hk);clear f0 f1 f2 f3 f4 f5 f6 f7 f8 fn fp;go_wp2_with fail
 (refine((uq T3) _).mono ?_;rintro e w6 ⟨rfl,hk⟩;have K6:=hide ((uq K5).trans hk);clear hk);obtain⟨f0,f1,f2,f3,f4,f5,f6,f7,f8,fn,fp⟩:=(uq HX) w6 (uq K6);go_wp2_with fail
 (refine((uq T4) _ _ (Rvs.keep (uq K6) _ _ (uq RS))).mono ?_;rintro e w7 ⟨rfl,hk⟩;have K7:=hide ((uq K6).trans hk);clear hk);go_wp2_with fail
 go_ret;exact⟨rfl,Below.trans (uq KS) (Below.mono (uq K7) (uq KS).size)⟩
end V
end Go.Proofs.Ythbfohohelflnaa
namespace Go.Proofs.Ythbfohohelflnaa
open Go.RowKit
attribute [local go_sem ↓] Go.wp_at_zero Go.wp_at_succ
set_option linter.unusedVariables false
set_option linter.unusedSimpArgs false
set_option maxRecDepth 10000
namespace S
def Rw (w:World) (v:Value):Prop:=∃(a:Option Addr) (n cap:Nat) (X:Nat→ByteArray),v= .slice a n cap∧n≤cap∧∀ k,k<n→∃ ad,a=some ad∧ad.block<w.heap.size∧w.cell? (ad.add k)=some (.string (X k))
theorem Rw.keep {w w':World} {v:Value} (h:Rw w v) (k:Keep w w'):Rw w' v:=by
 obtain⟨a,n,cap,X,rfl,hc,h⟩:=h;refine⟨a,n,cap,X,rfl,hc,fun j hj=>?_⟩;obtain⟨ad,e,hb,h1⟩:=h j hj;exact⟨ad,e,Nat.lt_of_lt_of_le hb k.size,Q.kcell k h1⟩
def Ab (w:World) (e:Ending) (w':World):Prop:=∃ b,e= .returned (.bool b)∧w'=w
def Ak (w:World) (e:Ending) (w':World):Prop:=∃ b,e= .returned (.bool b)∧Keep w w'
set_option maxHeartbeats 2000000 in
theorem zfd (a:Option Addr) (n cap:Nat) (X:Nat→ByteArray) (w:World) (HC:Hid (∀ k,k<n→∃ ad,a=some ad∧w.cell? (ad.add k)=some (.string (X k)))):
  Calls Try.prog 9 #[.slice a n cap] w (Ab w):=by
 go_enter Try.func9,Try.ntmps9;go_wp2_with fail
 go_loopw [3] (fun vi wr=>∃ k:Nat,k≤n∧vi= .int .i64 (k:Int)∧wr=w) (fun vi _=>n - (intOf vi).toNat)
 case atStart=>exact⟨0,Nat.zero_le _,rfl,rfl⟩
 case round=>
  obtain⟨k,hk,rfl,rfl⟩:=hrel;by_cases hlt:k<n
  ·have li:(k:Int)<(n:Int):=by omega
   by_cases h5:k<50
   ·have l5:(k:Int)<50:=by omega
    obtain⟨ad,rfl,e0⟩:=(uq HC) k hlt;by_cases h1:(100:Int)<((X k).size:Int)
    ·go_wp2_with fail
     go_ret;exact⟨_,rfl,rfl⟩
    ·go_wp2_with fail
     go_roundw
     case rel=>exact⟨k+1,hlt,by go_num,by first|rfl|trivial⟩
     case measure=>simp[intOf];omega
   ·have l5:¬(k:Int)<50:=by omega
    go_wp2_with fail
    go_ret;exact⟨_,rfl,rfl⟩
  ·have li:¬(k:Int)<(n:Int):=by omega
   go_wp2_with fail
   go_ret;exact⟨_,rfl,rfl⟩
theorem zdR (v:Value) (w:World) (h:Rw w v):Calls Try.prog 9 #[v] w (Ab w):=by
 obtain⟨a,n,cap,X,rfl,_,h⟩:=h;exact zfd a n cap X w (hide fun k hk=>by obtain⟨ad,e,_,h1⟩:=h k hk;exact⟨ad,e,h1⟩)
end S
end Go.Proofs.Ythbfohohelflnaa
