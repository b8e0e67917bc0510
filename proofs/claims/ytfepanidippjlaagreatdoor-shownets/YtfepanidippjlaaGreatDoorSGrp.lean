/- Package show: the lines of a group. -/
import Derived.Test.YtfepanidippjlaaGreatDoorSHead
namespace Go.Proofs.YtfepanidippjlaaGreatDoor
open Go.RowKit
attribute [local go_sem ↓] Go.wp_at_zero Go.wp_at_succ
set_option linter.unusedVariables false
set_option linter.unusedSimpArgs false
set_option maxRecDepth 10000
namespace S
def rw1 (f:Bool) (l:List (List UInt8)):List (List UInt8):= [[114,105,110,103]]++((if f then [[102,114,101,101]]else [])++lw l)
def gw (n:Nat) (F:Nat→Bool) (NW:Nat→List (List UInt8)):List (List UInt8):= [[103,114,111,117,112],[123]]++((List.range n).flatMap (fun k=>rw1 (F k) (NW k))++ [[125]])
theorem zbn {α:Type} (n k:Nat) (h:k<n) (f:Nat→List α):((List.range n).drop k).flatMap f=f k++((List.range n).drop (k+1)).flatMap f:=by
 rw[List.drop_eq_getElem_cons (by simpa using h),List.flatMap_cons];simp
theorem zbV {α:Type} (n k:Nat) (h:¬k<n) (f:Nat→List α):((List.range n).drop k).flatMap f= []:=by
 rw[List.drop_eq_nil_of_le (by simp;omega)];rfl
theorem zmt (st:St):pss st []=st:=rfl
def LsT (p:Nat) (w:World) (a:Option Addr) (n c:Nat) (nw:List (List UInt8)):Prop:=∀ w' s,Fb p w w'→Ps w' p s→oks s (lw nw)→s.out.length+zbi (lw nw)≤1000000000→Calls Tryz.prog 83 #[.pointer (some ⟨p,0,none⟩),.slice a n c] w' fun e w''=>e= .returned (.tuple #[])∧Ps w'' p (pss s (lw nw))∧Fb p w' w''
set_option maxHeartbeats 16000000 in
theorem zgh (p:Nat) (a:Option Addr) (n cap:Nat) (F:Nat→Bool) (A:Nat→Option Addr) (N C:Nat→Nat) (NW:Nat→List (List UInt8)) (st:St) (w:World) (hn:n≤1000)
  (HC:Hid (∀ k,k<n→∃ ad,a=some ad∧ad.block<p∧w.cell? (ad.add (k * 2))=some (.bool (F k))∧w.cell? ⟨(ad.add (k * 2)).block,(ad.add (k * 2)).off+1,none⟩=some (.slice (A k) (N k) (C k))))
  (T:Hid (∀ k,k<n→LsT p w (A k) (N k) (C k) (NW k)))
  (HP:Hid (Ps w p st)) (HO:Hid (oks st (gw n F NW))) (HL:Hid (st.out.length+zbi (gw n F NW)≤1000000000)):
  Calls Tryz.prog 84 #[.pointer (some ⟨p,0,none⟩),.agg #[.slice a n cap]] w fun e w'=>e= .returned (.tuple #[])∧Ps w' p (pss st (gw n F NW))∧Fb p w w':=by
 obtain⟨fin,HFin⟩:∃ fin,Hid (pss st (gw n F NW)=fin):=⟨_,rfl⟩;rw[uq HFin];obtain⟨mid,HM⟩:∃ mid,Hid ((List.range n).flatMap (fun k=>rw1 (F k) (NW k))++ [[125]]=mid):=⟨_,hide rfl⟩;have HGW:Hid (gw n F NW= [[103,114,111,117,112],[123]]++mid):=hide (by rw[← uq HM];rfl);rw[uq HGW]at HO HL HFin;have HO0:=hide ((zaq _ _ _).1 (uq HO));rw[zah]at HL;rw[← zas]at HFin;have HPL:=hide (Pr.lt (uq HP));clear HO HGW;have HW0:Hid (Fb p w (w.alloc (.cells #[.slice a n cap] 91))):=hide (Fb.keep ((Keep.refl w).alloc _));have HP0:=hide ((uq HP).keep ((Keep.refl w).alloc (.cells #[.slice a n cap] 91)));have HB0:=hide (heap_alloc_new w (.cells #[.slice a n cap] 91));go_enter Tryz.func84,Tryz.ntmps84
 go_upto_region 1 with fail
 generalize w.alloc (.cells #[.slice a n cap] 91)=w0 at HW0 HP0 HB0 ⊢;obtain⟨gb,HGb⟩:∃ gb,Hid (w.heap.size=gb):=⟨_,rfl⟩;rw[uq HGb]at HB0 ⊢;go_wp2_with fail
 (have T1:=zaU (W:=w0) [[103,114,111,117,112],[123]] rfl (uq HP0) (by simp) (uq HO0).1 (by have:=uq HL;omega);simp only[wc,List.map_cons,List.map_nil]at T1;refine T1.mono ?_;clear T1;rintro e w1 ⟨rfl,hp,hf⟩;have HP1:=hide hp;have HF1:=hide ((uq HW0).trans hf);have HB1:=hide (hf.words (uq HB0) (by decide) (by have:=uq HPL;have:=uq HGb;omega));clear hp hf)
 have cg:w1.cell? ⟨gb,0,none⟩=some (.slice a n cap):=by simp[World.cell?,uq HB1]
 go_wp2_with fail
 clear cg
 go_loopw [12] (fun vi wr=>∃(k:Nat) (s:St),k≤n∧vi= .int .i64 (k:Int)∧Hid (Ps wr p s)∧Hid (oks s (((List.range n).drop k).flatMap (fun k=>rw1 (F k) (NW k))++ [[125]]))∧Hid (pss s (((List.range n).drop k).flatMap (fun k=>rw1 (F k) (NW k))++ [[125]])=fin)∧Hid (s.out.length+zbi (((List.range n).drop k).flatMap (fun k=>rw1 (F k) (NW k))++ [[125]])≤1000000000)∧Hid (Fb p w wr)) (fun vi wr=>n - (intOf vi).toNat)
 case atStart=>
  refine⟨0,_,Nat.zero_le _,rfl,HP1,hide ?_,hide ?_,hide ?_,HF1⟩
  ·rw[List.drop_zero,uq HM];exact(uq HO0).2
  ·rw[List.drop_zero,uq HM];exact uq HFin
  ·rw[List.drop_zero,uq HM];have:=zaO _ _ (uq HO0).1;have:=uq HL;omega
 case round=>
  obtain⟨k,s,hk,rfl,HPk,HOk,HEk,HLk,HFk⟩:=hrel;by_cases hlt:k<n
  ·have li:(k:Int)<(n:Int):=by omega
   obtain⟨rst,HRst⟩:∃ rst,Hid (((List.range n).drop (k+1)).flatMap (fun k=>rw1 (F k) (NW k))++ [[125]]=rst):=⟨_,hide rfl⟩;have hd:((List.range n).drop k).flatMap (fun k=>rw1 (F k) (NW k))++ [[125]]= [[114,105,110,103]]++((if F k then [[102,114,101,101]]else [])++(lw (NW k)++rst)):=by
    rw[zbn n k hlt,List.append_assoc,uq HRst];simp only[rw1,List.append_assoc]
   rw[hd]at HOk HEk HLk;rw[zaq,zaq,zaq]at HOk;rw[zah,zah,zah]at HLk;rw[← zas,← zas,← zas]at HEk;have l1:=hide (zaO _ _ (uq HOk).1);have l2:=hide (zaO _ _ (uq HOk).2.1);have l3:=hide (zaO _ _ (uq HOk).2.2.1);obtain⟨ad,ea,hadp,e0,e1⟩:=(uq HC) k hlt;subst ea;have c0:=zaj (uq HFk) e0 (by rw[zae];exact hadp);have c1:=zaj (uq HFk) e1 (by show(ad.add (k * 2)).block<p;rw[zae];exact hadp);have HTk:=hide ((uq T) k hlt);have HE1:=HEk;clear hd e0 e1 hadp HEk;have HPk1:=hide ((uq HPk).keep ((Keep.refl wr).alloc (.cells #[.bool (F k),.slice (A k) (N k) (C k)] 93)));have HFk1:Hid (Fb p w (wr.alloc (.cells #[.bool (F k),.slice (A k) (N k) (C k)] 93))):=hide ((uq HFk).trans (Fb.keep ((Keep.refl wr).alloc _)));have HBk:=hide (heap_alloc_new wr (.cells #[.bool (F k),.slice (A k) (N k) (C k)] 93));have HNp:Hid (wr.heap.size≠p):=hide (by have:=Pr.lt (uq HPk);omega);obtain⟨fk,HFK⟩:∃ fk,Hid (F k=fk):=⟨_,rfl⟩;obtain⟨nwk,HNW⟩:∃ nwk,Hid (NW k=nwk):=⟨_,rfl⟩;rw[uq HFK]at HOk HLk HE1 l2 l3 c0 HPk1 HFk1 HBk;rw[uq HNW]at HOk HLk HE1 l3 HTk;generalize A k=x1 at c1 HPk1 HFk1 HBk HTk;generalize N k=x2 at c1 HPk1 HFk1 HBk HTk;generalize C k=x3 at c1 HPk1 HFk1 HBk HTk
   go_upto_region 5 with fail
   generalize wr.alloc (.cells #[.bool fk,.slice x1 x2 x3] 93)=w2 at HPk1 HFk1 HBk ⊢;generalize wr.heap.size=qb at HBk HNp ⊢;clear c0 c1;go_wp2_with fail
   (have T1:=zaU (W:=w2) [[114,105,110,103]] rfl (uq HPk1) (by simp) (uq HOk).1 (by have:=uq HLk;omega);simp only[wc,List.map_cons,List.map_nil]at T1;refine T1.mono ?_;clear T1;rintro e w3 ⟨rfl,hp,hf⟩;have HP3:=hide hp;have HF3:=hide ((uq HFk1).trans hf);have HB3:=hide (hf.words (uq HBk) (by decide) (uq HNp));clear hp hf)
   have d0:w3.cell? ⟨qb,0,none⟩=some (.bool fk):=by simp[World.cell?,uq HB3]
   have d1:w3.cell? ⟨qb,1,none⟩=some (.slice x1 x2 x3):=by simp[World.cell?,uq HB3]
   cases fk with
   |true=>
    go_wp2_with fail
    (have T1:=zaU (W:=w3) [[102,114,101,101]] rfl (uq HP3) (by simp) (uq HOk).2.1 (by have:=uq HLk;have:=uq l1;simp only[if_true]at *;omega);simp only[wc,List.map_cons,List.map_nil]at T1;refine T1.mono ?_;clear T1;rintro e w4 ⟨rfl,hp,hf⟩;have HP4:=hide hp;have HF4:=hide ((uq HF3).trans hf);have HB4:=hide (hf.words (uq HB3) (by decide) (uq HNp));clear hp hf)
    clear d0 d1;have d1:w4.cell? ⟨qb,1,none⟩=some (.slice x1 x2 x3):=by simp[World.cell?,uq HB4]
    go_wp2_with fail
    (refine((uq HTk) w4 _ (uq HF4) (uq HP4) (uq HOk).2.2.1 (by have:=uq HLk;have:=uq l1;have:=uq l2;simp only[if_true]at *;omega)).mono ?_;rintro e w5 ⟨rfl,hp,hf⟩;have HP5:=hide hp;have HF5:=hide ((uq HF4).trans hf);clear hp hf);clear d1;go_wp2_with fail
    go_roundw
    case rel=>
     refine⟨k+1,_,hlt,by go_num,HP5,hide ?_,hide ?_,hide ?_,HF5⟩
     ·rw[uq HRst];exact(uq HOk).2.2.2
     ·rw[uq HRst];exact uq HE1
     ·rw[uq HRst];have:=uq HLk;have:=uq l1;have:=uq l2;have:=uq l3;simp only[if_true]at *;omega
    case measure=>simp[intOf];omega
   |false=>
    go_wp2_with fail
    (refine((uq HTk) w3 _ (uq HF3) (uq HP3) (uq HOk).2.2.1 (by have:=uq HLk;have:=uq l1;have:=uq l2;simp only[Bool.false_eq_true,if_false]at *;omega)).mono ?_;rintro e w5 ⟨rfl,hp,hf⟩;have HP5:=hide hp;have HF5:=hide ((uq HF3).trans hf);clear hp hf);clear d0 d1;go_wp2_with fail
    go_roundw
    case rel=>
     refine⟨k+1,_,hlt,by go_num,HP5,hide ?_,hide ?_,hide ?_,HF5⟩
     ·rw[uq HRst];exact(uq HOk).2.2.2
     ·rw[uq HRst];exact uq HE1
     ·rw[uq HRst];have:=uq HLk;have:=uq l1;have:=uq l2;have:=uq l3;simp only[Bool.false_eq_true,if_false,zmt]at *;omega
    case measure=>simp[intOf];omega
  ·rw[zbV n k hlt,List.nil_append]at HOk HEk HLk;go_wp2_with fail
   (have T1:=zaU (W:=wr) [[125]] rfl (uq HPk) (by simp) (uq HOk) (uq HLk);simp only[wc,List.map_cons,List.map_nil]at T1;refine T1.mono ?_;clear T1;rintro e w2 ⟨rfl,hp,hf⟩;have HP2:=hide hp;have HF2:=hide ((uq HFk).trans hf);clear hp hf)
   go_wp2_with fail
   go_end0
   have h9:=uq HP2;rw[uq HEk]at h9;exact⟨rfl,h9,uq HF2⟩
end S
end Go.Proofs.YtfepanidippjlaaGreatDoor
