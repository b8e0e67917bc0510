/- Package need: Jobs, over letters. -/
import Derived.Test.YtpmaonkelkmhbaaGreatNjB
import Derived.Test.YtpmaonkelkmhbaaGreatNjA
namespace Go.Proofs.YtpmaonkelkmhbaaGreat
open Go.RowKit
attribute [local go_sem ↓] Go.wp_at_zero Go.wp_at_succ
set_option linter.unusedVariables false
set_option linter.unusedSimpArgs false
set_option maxRecDepth 10000
namespace Nj
theorem zoY:(Tryz.prog.info? 55).map (fun i=>(i.zero,i.size,i.bytes))=some (some (.agg #[.slice none 0 0,.slice none 0 0,.slice none 0 0]),3,72):=by kernel_rfl
def Js (B:Nat) (w:World) (v:Value) (k:Nat) (PL:Nat→List (Nat×Nat)):Prop:=∃ CS:List Value,w.ownsRow B 55 3 v k CS∧∀ j,j<k→∃ u,CS[j * 3+2]? =some u∧w.ownsRow 0 57 2 u (PL j).length (pcs (PL j))
theorem zlE {B k:Nat} {w w':World} {v v' x y z:Value} {CS:List Value} {PL:Nat→List (Nat×Nat)} (ho:w.ownsRow B 55 3 v k CS) (hj:∀ j,j<k→∃ u,CS[j * 3+2]? =some u∧w.ownsRow 0 57 2 u (PL j).length (pcs (PL j))) (hz:w.ownsRow 0 57 2 z (PL k).length (pcs (PL k)))
  (ho':w'.ownsRow B 55 3 v' (k+1) (CS++ [x,y,z])) (hg:w.grownBy w' v.ownBlock):Js B w' v' (k+1) PL:=by
 refine⟨_,ho',fun j h=>?_⟩;have hl:=ho.1;rcases Nat.lt_or_ge j k with h9|h9
 ·obtain⟨u,h1,h2⟩:=hj j h9;exact⟨u,by rw[List.getElem?_append_left (by omega)];exact h1,zd4 h2 ho (by decide) hg⟩
 ·obtain rfl:j=k:=by omega
  refine⟨z,?_,zd4 hz ho (by decide) hg⟩;rw[List.getElem?_append_right (by omega),show j * 3+2 - CS.length=2 by omega]
  rfl
def Jsq (n:Nat) (PL:Nat→List (Nat×Nat)) (w:World) (e:Ending) (w':World):Prop:=∃ va vc,e= .returned (.slice va n vc)∧Keep w w'∧∀ k,k<n→∃ ad u,va=some ad∧w'.cell? ⟨(ad.add (k * 3)).block,(ad.add (k * 3)).off+2,none⟩=some u∧w'.ownsRow 0 57 2 u (PL k).length (pcs (PL k))
theorem znN {B n:Nat} {w:World} {va:Option Addr} {vc:Nat} {PL:Nat→List (Nat×Nat)} (h:Js B w (.slice va n vc) n PL):∀ k,k<n→∃ ad u,va=some ad∧w.cell? ⟨(ad.add (k * 3)).block,(ad.add (k * 3)).off+2,none⟩=some u∧w.ownsRow 0 57 2 u (PL k).length (pcs (PL k)):=by
 intro k hk
 obtain⟨CS,ho,hj⟩:=h;obtain⟨u,h1,h2⟩:=hj k hk;obtain⟨g,cap,e,hg,hb,hc,hx⟩:=Nd.own_cell ho (by omega);injection e with e1 e2 e3
 subst e1;refine⟨_,u,rfl,?_,h2⟩;rw[W.add_pl,Nat.zero_add];exact hx _ _ h1
set_option maxHeartbeats 8000000 in
theorem zhC (s:ByteArray) (x1:Option Addr) (n1 c1:Nat) (x2:Option Addr) (n2 c2:Nat) (x3:Option Addr) (n3 c3:Nat) (x4:Option Addr) (n4 c4:Nat) (x5:Option Addr) (n5 c5:Nat) (p:Int) (la:Option Addr) (lc:Nat) (GA:Nat→Option Addr) (GN GC:Nat→Nat) (PL:Nat→List (Nat×Nat)) (w:World) (hn:n4≤1000)
  (HC:Hid (∀ k,k<n4→∃ ad,x4=some ad∧ad.block<w.heap.size∧w.cell? (ad.add k)=some (.slice (GA k) (GN k) (GC k))))
  (TJ:Hid (∀ k,k<n4→∀ w',Keep w w'→Calls Tryz.prog 19 #[.agg #[.string s,.slice x1 n1 c1,.slice x2 n2 c2,.slice x3 n3 c3,.slice x4 n4 c4,.slice x5 n5 c5,.int .i64 p],.agg #[.slice (GA k) (GN k) (GC k)],.slice la n3 lc] w' (Jq (PL k) w'))):
  Calls Tryz.prog 7 #[.agg #[.string s,.slice x1 n1 c1,.slice x2 n2 c2,.slice x3 n3 c3,.slice x4 n4 c4,.slice x5 n5 c5,.int .i64 p],.slice la n3 lc] w (Jsq n4 PL w):=by
 obtain⟨i0,hi0,hz0,hz1,hz2⟩:=W.info_f zoY;obtain⟨ZZ,hZ,hmk⟩:∃ ZZ:Array Value,ZZ.size=n4 * 3∧∀ w,(Instr.makeSlice 40 (.int .i64 0) (.int .i64 (n4:Int))).run Tryz.prog w= .ok (.slice (some ⟨w.heap.size,0,none⟩) 0 n4) (w.alloc (.cells ZZ 55)):=by
  refine⟨madeCells (Value.agg #[.slice none 0 0,.slice none 0 0,.slice none 0 0]).cells (n4 * 3),by simp[size_madeCells],fun w=>?_⟩;have h:=run_make (P:=Tryz.prog) w 40 55 i0 _ Tryz.underlying40 hi0 hz0 .i64 .i64 0 (n4:Int) (by omega) (by omega) (by rw[hz2];omega) (by omega);rw[hz1]at h;simpa using h
 have hx0:=heap_alloc_new w (.cells #[.string s,.slice x1 n1 c1,.slice x2 n2 c2,.slice x3 n3 c3,.slice x4 n4 c4,.slice x5 n5 c5,.int .i64 p] 39);have KB:=hide ((Keep.refl w).alloc (.cells #[.string s,.slice x1 n1 c1,.slice x2 n2 c2,.slice x3 n3 c3,.slice x4 n4 c4,.slice x5 n5 c5,.int .i64 p] 39));have hnb:((n3:Int) !=(n3:Int))=false:=by simp
 go_enter Tryz.func7,Tryz.ntmps7
 go_upto_region 1 with fail
 generalize w.alloc (.cells #[.string s,.slice x1 n1 c1,.slice x2 n2 c2,.slice x3 n3 c3,.slice x4 n4 c4,.slice x5 n5 c5,.int .i64 p] 39)=wb at hx0 KB ⊢;obtain⟨q0,hq⟩:∃ q,w.heap.size=q:=⟨_,rfl⟩;have HQW:=hide hq;rw[hq]at hx0 ⊢;have HX:Hid (∀ w':World,Keep wb w'→(w'.cell? ⟨q0,0,none⟩=some (.string s)∧w'.cell? ⟨q0,1,none⟩=some (.slice x1 n1 c1)∧w'.cell? ⟨q0,2,none⟩=some (.slice x2 n2 c2)∧w'.cell? ⟨q0,3,none⟩=some (.slice x3 n3 c3)∧w'.cell? ⟨q0,4,none⟩=some (.slice x4 n4 c4)∧w'.cell? ⟨q0,5,none⟩=some (.slice x5 n5 c5)∧w'.cell? ⟨q0,6,none⟩=some (.int .i64 p))):=hide (fun w' k9=>by
  have h1:=k9.block q0 (Array.getElem?_eq_some_iff.1 hx0).1;rw[hx0]at h1;refine⟨?_,?_,?_,?_,?_,?_,?_⟩<;>simp[World.cell?,h1])
 clear hx0 hq;obtain⟨z0,z1,z2,z3,z4,z5,z6⟩:=(uq HX) wb (Keep.refl _);have KZ:=hide ((Keep.refl wb).alloc (.cells ZZ 55));obtain⟨y0,y1,y2,y3,y4,y5,y6⟩:=(uq HX) _ (uq KZ);have OZ:=hide (World.ownsRow_made (base:=wb.heap.size) (e:=55) (size:=3) wb ZZ n4 (Nat.le_refl _) (by unfold maxLen;omega) hZ);go_wp2_with fail
 clear z0 z1 z2 z3 z4 z5 z6 y0 y1 y2 y3 y4 y5 y6 hmk hZ;generalize wb.alloc (.cells ZZ 55)=wz at KZ OZ ⊢
 go_loopw [5,21] (fun vo vi wr=>∃ k:Nat,vi= .int .i64 (k:Int)∧k≤n4∧Hid (Js wb.heap.size wr vo k PL)∧Hid (Keep wb wr)) (fun vo vi _=>n4 - (intOf vi).toNat)
 case atStart=>exact⟨0,rfl,Nat.zero_le _,hide ⟨[],uq OZ,fun j h=>by omega⟩,KZ⟩
 case round=>
  clear OZ KZ;obtain⟨k,rfl,hk,JS,KW⟩:=hrel;obtain⟨CS,ho,hj⟩:=uq JS;obtain⟨oa,oc,hvo⟩:=zbA ho;subst hvo;by_cases hlt:k<n4
  ·have li:(k:Int)<(n4:Int):=by omega
   obtain⟨ad,hx4,hb,e0⟩:=(uq HC) k hlt;have y0:=V.far_cell ((uq KB).trans (uq KW)) (by rw[V.add_block9];exact hb) e0;clear e0;have TJk:=hide (fun w' h=>(uq TJ) k hlt w' h);obtain⟨gA,hgA⟩:∃ g,GA k=g:=⟨_,rfl⟩;obtain⟨gN,hgN⟩:∃ g,GN k=g:=⟨_,rfl⟩;obtain⟨gC,hgC⟩:∃ g,GC k=g:=⟨_,rfl⟩;rw[hgA,hgN,hgC]at TJk y0;clear hgA hgN hgC;subst hx4;have KA:=hide ((Keep.refl wr).alloc (.cells #[.slice gA gN gC] 62));have OA:=hide (ho.alloc (.cells #[.slice gA gN gC] 62));have HJ:=hide hj;clear ho hj;obtain⟨z0,z1,z2,z3,z4,z5,z6⟩:=(uq HX) wr (uq KW);obtain⟨y0',y1,y2,y3,y4,y5,y6⟩:=(uq HX) _ ((uq KW).trans (uq KA));go_wp2_with fail
   (refine((uq TJk) _ ((uq KB).trans ((uq KW).trans (uq KA)))).mono ?_;rintro e w2 ⟨ra,rn,rc,fa,fn,fc,v,rfl,hk9,ho9⟩);clear y0 z0 z1 z2 z3 z4 z5 z6 y0' y1 y2 y3 y4 y5 y6;obtain⟨pa,pc,hv⟩:=zbA ho9;subst hv;obtain⟨pl,hpl⟩:∃ pl,(PL k).length=pl:=⟨_,rfl⟩;have HPL:=hide hpl;rw[hpl]at ho9 ⊢;have O2:=hide (own_k (uq OA) hk9);have P2:=hide ho9;have kka:=(uq KA).trans hk9;have J2:Hid (∀ j,j<k→∃ u,CS[j * 3+2]? =some u∧w2.ownsRow 0 57 2 u (PL j).length (pcs (PL j))):=hide (fun j h=>by obtain⟨u,h1,h2⟩:=uq HJ j h;exact⟨u,h1,own_k h2 kka⟩);have K2:=hide ((uq KW).trans kka);clear ho9 hk9 kka hpl;have hnv:=Nd.new_v w2 [.slice ra rn rc,.slice fa fn fc,.slice pa pl pc] 55;go_wp2_with (at_builtin;refine wpList_append_own _ rfl _ _ 40 rfl wb.heap.size 55 i0 _ 3 72 Tryz.underlying40 hi0 hz0 hz1 hz2 rfl (by decide) _ _ _ rfl ((uq O2).alloc _) ⟨w2.heap.size,0,none⟩ 1 1 [.slice ra rn rc,.slice fa fn fc,.slice pa pl pc] rfl rfl hnv (by simp[Value.oneCell']) (by unfold maxLen;omega) (by omega) (by have h1:=Below.size (uq K2);simp;omega) ?_;intro v7 w7 hown' hgrow hnil;have HO7:=hide hown';have HG7:=hide hgrow;clear hown' hgrow hnil)
   have K7:Hid (Keep wb w7):=hide (Below.grown ((uq K2).alloc (.cells #[.slice ra rn rc,.slice fa fn fc,.slice pa pl pc] 55)) (uq HG7) (by have h1:=Below.size (uq K2);simp;omega) (fun j ej=>((uq O2).lt j ej).1));go_roundw
   case rel=>exact⟨k+1,by go_num,hlt,hide (zlE ((uq O2).alloc _) (fun j h=>by obtain⟨u,h1,h2⟩:=uq J2 j h;exact⟨u,h1,h2.alloc _⟩) (by rw[uq HPL];exact(own_mono (uq P2) (Nat.zero_le _)).alloc _) (uq HO7) (uq HG7)),K7⟩
   case measure=>simp[intOf];omega
  ·have li:¬(k:Int)<(n4:Int):=by omega
   obtain rfl:k=n4:=by omega
   clear ho hj;go_wp2_with fail
   go_ret;exact⟨oa,oc,rfl,(uq KB).trans (uq KW),znN (uq JS)⟩
end Nj
namespace Nj
def PlQ (n4:Nat) (GN:Nat→Nat) (RN:Nat→Nat→Nat) (H:Nat→Nat→Nat→List UInt8) (nm:List UInt8) (gi ri:Int):Prop:=(gi= -1∧ri= -1)∨∃ g r a:Nat,gi=(g:Int)∧ri=(r:Int)∧g<n4∧r<GN g∧a<RN g r∧H g r a=nm
set_option maxHeartbeats 8000000 in
theorem place_core (s:ByteArray) (x1:Option Addr) (n1 c1:Nat) (x2:Option Addr) (n2 c2:Nat) (x3:Option Addr) (n3 c3:Nat) (x4:Option Addr) (n4 c4:Nat) (x5:Option Addr) (n5 c5:Nat) (p:Int) (nm:List UInt8) (GA:Nat→Option Addr) (GN GC:Nat→Nat) (F:Nat→Nat→Bool) (RA:Nat→Nat→Option Addr) (RN RC:Nat→Nat→Nat) (H:Nat→Nat→Nat→List UInt8) (w:World) (hn:n4≤1000)
  (HB:Hid (∀ i,i<n4→GN i≤1000∧∀ k,k<GN i→RN i k≤1000))
  (HC:Hid (∀ i,i<n4→∃ ad,x4=some ad∧ad.block<w.heap.size∧w.cell? (ad.add i)=some (.slice (GA i) (GN i) (GC i))))
  (HR:Hid (∀ i,i<n4→∀ k,k<GN i→∃ ad,GA i=some ad∧ad.block<w.heap.size∧w.cell? (ad.add (k * 2))=some (.bool (F i k))∧w.cell? ⟨(ad.add (k * 2)).block,(ad.add (k * 2)).off+1,none⟩=some (.slice (RA i k) (RN i k) (RC i k))))
  (HD:Hid (∀ i,i<n4→∀ k,k<GN i→∀ m,m<RN i k→∃ ad,RA i k=some ad∧ad.block<w.heap.size∧w.cell? (ad.add m)=some (.string (sv (H i k m))))):
  Calls Tryz.prog 9 #[.agg #[.string s,.slice x1 n1 c1,.slice x2 n2 c2,.slice x3 n3 c3,.slice x4 n4 c4,.slice x5 n5 c5,.int .i64 p],.string (sv nm)] w fun e w'=>∃ gi ri,e= .returned (.tuple #[.int .i64 gi,.int .i64 ri])∧Keep w w'∧PlQ n4 GN RN H nm gi ri:=by
 have hx0:=heap_alloc_new w (.cells #[.string s,.slice x1 n1 c1,.slice x2 n2 c2,.slice x3 n3 c3,.slice x4 n4 c4,.slice x5 n5 c5,.int .i64 p] 39);have KB:=hide ((Keep.refl w).alloc (.cells #[.string s,.slice x1 n1 c1,.slice x2 n2 c2,.slice x3 n3 c3,.slice x4 n4 c4,.slice x5 n5 c5,.int .i64 p] 39));have HP:Hid (∀ gi ri w',Keep w w'→PlQ n4 GN RN H nm gi ri→(fun e w'=>∃ gi ri,e=Ending.returned (.tuple #[.int .i64 gi,.int .i64 ri])∧Keep w w'∧PlQ n4 GN RN H nm gi ri) (.returned (.tuple #[.int .i64 gi,.int .i64 ri])) w'):=hide (fun gi ri w' h1 h2=>⟨gi,ri,rfl,h1,h2⟩);generalize (fun e w'=>∃ gi ri,e=Ending.returned (.tuple #[.int .i64 gi,.int .i64 ri])∧Keep w w'∧PlQ n4 GN RN H nm gi ri)=QQ at HP ⊢;go_enter Tryz.func9,Tryz.ntmps9
 go_upto_region 1 with fail
 generalize w.alloc (.cells #[.string s,.slice x1 n1 c1,.slice x2 n2 c2,.slice x3 n3 c3,.slice x4 n4 c4,.slice x5 n5 c5,.int .i64 p] 39)=wb at hx0 KB ⊢;obtain⟨q0,hq⟩:∃ q,w.heap.size=q:=⟨_,rfl⟩;rw[hq]at hx0 ⊢;have HX:Hid (∀ w':World,Keep wb w'→w'.cell? ⟨q0,4,none⟩=some (.slice x4 n4 c4)):=hide (fun w' k9=>by
  have h1:=k9.block q0 (Array.getElem?_eq_some_iff.1 hx0).1;rw[hx0]at h1;simp[World.cell?,h1])
 clear hx0 hq;have z4:=(uq HX) wb (Keep.refl _);go_wp2_with fail
 go_loopw [6] (fun vi wr=>∃ i:Nat,vi= .int .i64 (i:Int)∧i≤n4∧wr=wb) (fun vi _=>n4 - (intOf vi).toNat)
 case atStart=>exact⟨0,rfl,Nat.zero_le _,rfl⟩
 case round=>
  obtain⟨i,rfl,hi,rfl⟩:=hrel;by_cases hlt:i<n4
  ·have li:(i:Int)<(n4:Int):=by omega
   obtain⟨ad,hx4,hb,e0⟩:=(uq HC) i hlt;have y0:=V.far_cell (uq KB) (by rw[V.add_block9];exact hb) e0;clear e0;have HRi:=hide ((uq HR) i hlt);have HDi:=hide ((uq HD) i hlt);obtain⟨hg1,hg2⟩:=(uq HB) i hlt;have HBi:=hide hg2;obtain⟨gA,hgA⟩:∃ g,GA i=g:=⟨_,rfl⟩;obtain⟨gN,hgN⟩:∃ g,GN i=g:=⟨_,rfl⟩;obtain⟨gC,hgC⟩:∃ g,GC i=g:=⟨_,rfl⟩;have HGN:=hide hgN;rw[hgA,hgN]at HRi;rw[hgN]at HDi HBi hg1;rw[hgA,hgN,hgC]at y0;clear hgA hgN hgC hg2;subst hx4;go_wp2_with fail
   obtain⟨wo,hwo⟩:∃ wo,wo=wr:=⟨_,rfl⟩;subst hwo
   go_loopw [7] (fun vk wr=>∃ k:Nat,vk= .int .i64 (k:Int)∧k≤gN∧wr=wo) (fun vk _=>gN - (intOf vk).toNat)
   case atStart=>exact⟨0,rfl,Nat.zero_le _,rfl⟩
   case round=>
    obtain⟨k,rfl,hk,rfl⟩:=hrel;by_cases hkl:k<gN
    ·have lk:(k:Int)<(gN:Int):=by omega
     obtain⟨rd,hgA,hb2,r0,r1⟩:=(uq HRi) k hkl;have x1:=V.far_cell (uq KB) (by show(rd.add (k * 2)).block<_;rw[V.add_block9];exact hb2) r1;clear r0 r1;have HDk:=hide ((uq HDi) k hkl);have hrn:=(uq HBi) k hkl;obtain⟨rA,hrA⟩:∃ g,RA i k=g:=⟨_,rfl⟩;obtain⟨rN,hrN⟩:∃ g,RN i k=g:=⟨_,rfl⟩;obtain⟨rC,hrC⟩:∃ g,RC i k=g:=⟨_,rfl⟩;have HRN:=hide hrN;rw[hrA,hrN]at HDk;rw[hrN]at hrn;rw[hrA,hrN,hrC]at x1;clear hrA hrN hrC;subst hgA;go_wp2_with fail
     obtain⟨wk,hwk⟩:∃ wk,wk=wr:=⟨_,rfl⟩;subst hwk
     go_loopw [8] (fun vm wr=>∃ m:Nat,vm= .int .i64 (m:Int)∧m≤rN∧wr=wk) (fun vm _=>rN - (intOf vm).toNat)
     case atStart=>exact⟨0,rfl,Nat.zero_le _,rfl⟩
     case round=>
      obtain⟨m,rfl,hm,rfl⟩:=hrel;by_cases hml:m<rN
      ·have lm:(m:Int)<(rN:Int):=by omega
       obtain⟨nd,hrA,hb3,s0⟩:=(uq HDk) m hml;have t0:=V.far_cell (uq KB) (by rw[V.add_block9];exact hb3) s0;clear s0;subst hrA;obtain⟨hh,hhh⟩:∃ h,H i k m=h:=⟨_,rfl⟩;have HHH:=hide hhh;rw[hhh]at t0;clear hhh;by_cases he:hh=nm
       ·subst he;have hes:((sv hh).toList==(sv hh).toList)=true:=by rw[V.sv_beq];simp
        go_wp2_with fail
        try go_ret2
        exact(uq HP) _ _ _ (uq KB) (.inr ⟨i,k,m,rfl,rfl,hlt,by rw[uq HGN];exact hkl,by rw[uq HRN];exact hml,uq HHH⟩)
       ·have hes:((sv hh).toList==(sv nm).toList)=false:=by rw[V.sv_beq];simpa using he
        go_wp2_with fail
        go_roundw
        case rel=>exact⟨m+1,by go_num,hml,by first|trivial|rfl⟩
        case measure=>simp[intOf];omega
      ·have lm:¬(m:Int)<(rN:Int):=by omega
       obtain rfl:m=rN:=by omega
       go_wp2_with fail
       go_roundw
       case rel=>exact⟨k+1,by go_num,hkl,by first|trivial|rfl⟩
       case measure=>simp[intOf];omega
    ·have lk:¬(k:Int)<(gN:Int):=by omega
     obtain rfl:k=gN:=by omega
     go_wp2_with fail
     go_roundw
     case rel=>exact⟨i+1,by go_num,hlt,by first|trivial|rfl⟩
     case measure=>simp[intOf];omega
  ·have li:¬(i:Int)<(n4:Int):=by omega
   obtain rfl:i=n4:=by omega
   go_wp2_with fail
   try go_ret2
   exact(uq HP) _ _ _ (uq KB) (.inl ⟨rfl,rfl⟩)
end Nj
end Go.Proofs.YtpmaonkelkmhbaaGreat
namespace Go.Proofs.YtpmaonkelkmhbaaGreat
set_option linter.unusedVariables false
set_option linter.unusedSimpArgs false
namespace Nj
def anB (E:Nat→Bool):Nat→Bool
 |0=>false
 |k+1=>anB E k || E k
theorem zi7 {E:Nat→Bool} {j:Nat} (h:E j=true):∀ n,j<n→anB E n=true
 |0,h1=>by omega
 |n+1,h1=>by
  rw[anB];rcases Nat.lt_or_ge j n with h2|h2
  ·rw[zi7 h n h2];rfl
  ·obtain rfl:j=n:=by omega
   rw[h];simp
def eF (H0 H1:Nat→List UInt8) (pl:List (Nat×Nat)) (P Q:List UInt8) (k:Nat):Bool:=(H0 (pl.getD k (0,0)).1==P)&&(H1 (pl.getD k (0,0)).2==Q)
end Nj
end Go.Proofs.YtpmaonkelkmhbaaGreat
