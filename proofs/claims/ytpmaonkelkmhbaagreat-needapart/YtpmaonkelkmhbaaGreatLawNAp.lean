/- Proved: for every network and every number (greater networks than the law's Few lets in are let by): foes of a network that may be stand in two groups, in one ring of one group, or are told by a pair of its job. -/
import Derived.Test.YtpmaonkelkmhbaaGreatNqO
import Derived.Test.YtpmaonkelkmhbaaGreatNjF
import Derived.Test.YtpmaonkelkmhbaaGreatQParse
import Derived.Test.YtpmaonkelkmhbaaGreatSRow
import Derived.Deep.DrawnRows
import Derived.Test.YtpmaonkelkmhbaaGreatRows
import Derived.Test.YtpmaonkelkmhbaaGreatNjN
import Derived.Test.YtpmaonkelkmhbaaGreatNjM
import Derived.Test.YtpmaonkelkmhbaaGreatVDt
import Derived.Test.YtpmaonkelkmhbaaGreatVMap
import Derived.Test.YtpmaonkelkmhbaaGreatVDh
import Derived.WalkKit
import Derived.ProofKit
import Derived.OpenShut
import Derived.ShutString
import Derived.ChangeOld
import Derived.ChangeMaps5
import Derived.Below
namespace Go.Proofs.YtpmaonkelkmhbaaGreat
open Go.RowKit
attribute [local go_sem ↓] Go.wp_at_zero Go.wp_at_succ
set_option linter.unusedVariables false
set_option linter.unusedSimpArgs false
set_option maxRecDepth 100000
namespace Nd
open S V
def sm10:List UInt8:= [99,121,99,108,101,32,51,48,48,32,116,111,32,57,48,48,32,98,121,32,49,48,59,32,112,101,97,107,32,49,47,49,59,32,110,111,100,101,32,97,32,123,32,104,101,97,100,32,110,32]++([118,111,108,117,109,101,32,52,48,48,32,102,108,111,119,32,49,56,48,48,32,117,115,101,32,49,47,49,32,115,112,101,101,100,32,49,53,48,48,32,103,114,97,100,101,32,48,32,119,105]++([100,116,104,32,49,56,48,48,32,108,101,110,103,116,104,32,54,48,48,32,103,114,101,101,110,32,55,48,59,32,119,97,108,107,32,119,32,119,105,116,104,32,112,32,108,111,110,103,32,49]++([53,48,48,32,112,97,99,101,32,49,50,48,32,108,101,97,115,116,32,55,48,59,32,112,104,97,115,101,32,112,58,32,110,59,32,103,114,111,117,112,32,123,32,114,105,110,103,32,112,59]++([32,125,32,125]))))
def zcp:List (List D):= [[dS [97],.row 84 11 [[dS [110],dI 400,dI 1800,dI 1,dI 1,dI 1500,dI 0,dI 1800,dI 600,dI 70,dI 48]],.row 86 6 [[dS [119],dS [112],dI 1500,dI 120,dI 70,dI 135]],.row 45 3 [[dS [112],.row 9 1 [[dS [110]]],dI 179]],.row 62 1 [[.row 59 2 [[dB false,.row 9 1 [[dS [112]]]]]]],.row 48 3 [],dI 39]]
def t10:List D:= [dI 300,dI 900,dI 10,dI 1,dI 1,.row 39 7 zcp,.row 70 6 [],dI 0,dI 0]
theorem zfi:sm10.length=204:=by decide
theorem zjb:N sm10= .ok t10:=by kernel_rfl
theorem zoZ:zk5 t10=(0,0):=by kernel_rfl
theorem zpl:nsE zcp=none:=by kernel_rfl
theorem zo6:ofL 1 1 zcp 0 0=0:=by kernel_rfl
theorem g10:g2 (sub zcp 1 0) (sub zcp 2 0) (sub zcp 3 0) 0=195:=by kernel_rfl
theorem y10:yW (sub zcp 1 0) (sub zcp 3 0) 0=35:=by kernel_rfl
theorem r10:rW (sub zcp 1 0) (sub zcp 3 0) 0=16:=by kernel_rfl
theorem x10:xZ (sub zcp 1 0) (sub zcp 3 0) 1 1 0=(2,9):=by kernel_rfl
theorem l10:(sub zcp 3 0).length=1:=by kernel_rfl
mutual
def shb:Ty→D→Bool
 | .i,.val (.int .i64 n)=>decide (-9223372036854775808≤n∧n≤9223372036854775807)
 | .s,.val (.string x)=>decide (x.size≤maxLen)
 | .b,.val (.bool _)=>true
 | .row e z fs,.row e' z' L=>decide (e=e'∧z=z'∧L.length≤maxLen)&&L.all (fun ds=>zn0 fs ds)
 | _,_=>false
def zn0:List Ty→List D→Bool
 | [],[]=>true
 |t :: ts,d :: ds=>shb t d&&zn0 ts ds
 | _,_=>false
end
mutual
theorem znP:∀(t:Ty) (d:D),shb t d=true→Sh1 t d
 | .i,.val (.int .i64 n),h=>by simp only[shb,decide_eq_true_eq]at h;simp only[Sh1];exact⟨n,rfl,h.1,h.2⟩
 | .s,.val (.string x),h=>by
  simp only[shb,decide_eq_true_eq]at h;simp only[Sh1];exact⟨x.data.toList,by simp[dS,sv],by rw[Array.length_toList];exact h⟩
 | .b,.val (.bool x),h=>by simp only[Sh1];exact⟨x,rfl⟩
 | .row e z fs,.row e' z' L,h=>by
  simp only[shb,Bool.and_eq_true,decide_eq_true_eq]at h;obtain⟨⟨rfl,rfl,hl⟩,ha⟩:=h;simp only[Sh1];exact⟨L,rfl,hl,fun ds hds=>zeJ fs ds (List.all_eq_true.1 ha ds hds)⟩
theorem zeJ:∀(ts:List Ty) (ds:List D),zn0 ts ds=true→ShL ts ds
 | [],[],h=>by simp only[ShL]
 |t :: ts,d :: ds,h=>by
  simp only[zn0,Bool.and_eq_true]at h;simp only[ShL];exact⟨d,ds,rfl,znP t d h.1,zeJ ts ds h.2⟩
end
theorem zo7:ShL zgo t10:=zeJ _ _ (by kernel_rfl)
theorem ziD (v:Value) (w:World) (h:By w v sm10):Calls Tryz.prog 16 #[v] w (Q.Pp (.ok t10) w):=by
 cases hT:T sm10 with
 |error x=>
  have eN:N sm10= .error (x.1,(x.2:Int)):=by unfold N;rw[hT]
  rw[zjb]at eN;cases eN
 |ok L=>
  have eN:N sm10=Q.fstE (ziK L):=by
   unfold N;rw[hT]
   show(match ziK L with| .error x=>Except.error x| .ok (c,_)=>Except.ok c)=_;rcases ziK L with x|⟨c,r⟩<;>rfl
  rw[← zjb,eN];refine Q.parse_ok v L w (hide (Q.T_wq (by rw[zfi];decide) hT)) (hide fun w' hk=>?_);have:=zgn v sm10 w' (by rw[zfi];decide) (h.keep hk);rwa[hT]at this
def ar10:Array Value:=(sm10.map fun x=>Value.int .u8 (x.toNat:Int)).toArray
theorem zhI:ar10.size=204:=by kernel_rfl
theorem zhJ (w:World) (C:Array Value) (n:Nat) (hn:C.size=n):(convert 73 73 (.slice (some ⟨w.heap.size,0,none⟩) n n)).run Tryz.prog (w.alloc (.cells C 5))= .ok (.slice (some ⟨w.heap.size,0,none⟩) n n) (w.alloc (.cells C 5 (n,n+1))):=by
 subst hn;have hsh:(w.alloc (.cells C 5)).shape? w.heap.size=some (5,C.size):=by
  have:(w.alloc (.cells C 5)).heap[w.heap.size]? =some (.cells C 5):=by
   show(w.heap.push (.cells C 5))[w.heap.size]? =_;simp
  unfold World.shape?
  rw[this]
 have hfr:(w.alloc (.cells C 5)).freeze ⟨w.heap.size,C.size,none⟩ 1=w.alloc (.cells C 5 (C.size,C.size+1)):=by
  have hm:∀(a:Array Obj) (x:Obj) (f:Obj→Obj),(a.push x).modify a.size f=a.push (f x):=by
   intro a x f
   apply Array.ext
   ·simp
   ·intro i h1 h2
    simp only[Array.getElem_modify,Array.getElem_push];by_cases h:a.size=i
    ·subst h;simp
    ·have hi:i<a.size:=by simp at h1;omega
     simp[h,hi]
  unfold World.freeze
  rw[if_neg (by decide)];show({ w.alloc (.cells C 5)with heap:=(w.heap.push (.cells C 5)).modify w.heap.size _ } :World)=_;rw[hm]
  rfl
 simp[convert,run_underlying Tryz.underlying73,run_underlying Tryz.underlying5,markStringish,hsh];exact hfr
theorem znQ (w:World) (l:List UInt8) (t:TypeId) (fr:Nat×Nat):By (w.alloc (.cells ((l.map fun x=>Value.int .u8 (x.toNat:Int)).toArray) t fr)) (.slice (some ⟨w.heap.size,0,none⟩) l.length l.length) l:=by
 refine⟨_,_,rfl,Nat.le_refl _,fun k hk=>⟨_,rfl,by simp,?_⟩⟩;rw[zaP,Nat.zero_add,World.cell?_alloc_mark,List.getElem?_toArray,List.getElem?_map,List.getD_eq_getElem?_getD,List.getElem?_eq_getElem hk]
 rfl
theorem zeK {P:Program} {ops:Array Oper} {Q:Exit→Act→World→Prop} {o:Oper} {rest:List Oper} {a:Act} {w w':World} {v:Value} (hg:o.guard=none) (hr:(execOp a.eval o).run P w= .ok (.value v) w') (h:wpList P ops Q rest (a.put o.dst v) w'):wpList P ops Q (o :: rest) a w:=
 wpList_plain hg fun K hK=>by
  unfold Oper.wp
  rw[hr];exact hK _ _ h
theorem zlH (w:World):By (w.alloc (.cells ar10 5 (204,205))) (.slice (some ⟨w.heap.size,0,none⟩) 204 204) sm10:=znQ w sm10 5 (204,205)
def Q10 (w:World) (e:Ending) (w':World):Prop:=∃ ad lc,e= .returned (.tuple #[.slice (some ad) 1 lc,.int .i64 0])∧Keep w w'∧ad.block<w'.heap.size∧∃(t:List UInt8) (a:Option Addr) (k c:Nat),w'.cell? ad=some (.string (sv t))∧w'.cell? ⟨ad.block,ad.off+1,none⟩=some (.int .i64 195)∧w'.cell? ⟨ad.block,ad.off+2,none⟩=some (.int .i64 35)∧w'.cell? ⟨ad.block,ad.off+3,none⟩=some (.int .i64 16)∧w'.cell? ⟨ad.block,ad.off+4,none⟩=some (.int .i64 2)∧w'.cell? ⟨ad.block,ad.off+5,none⟩=some (.int .i64 9)∧w'.cell? ⟨ad.block,ad.off+6,none⟩=some (.slice a k c)
theorem zo0 {w:World} {us:List Value} (hr:Rvs w t10 us):Calls Tryz.prog 17 #[.agg us.toArray,.int .i64 0] w (Q10 w):=by
 have TC:∀ w',Keep w w'→Calls Tryz.prog 37 #[.agg us.toArray] w' fun e w''=>e= .returned (.tuple #[.int .i64 0,.int .i64 0])∧Keep w' w'':=fun w' k=>by have:=zgN zo7 (Rvs.keep k _ _ hr);rw[zoZ]at this;exact this
 have hsh:=zo7;simp only[t10,Rvs,Rv,dS,dI,dB]at hr;obtain⟨_,_,rfl,rfl,⟨_,_,rfl,rfl,⟨_,_,rfl,rfl,⟨_,_,rfl,rfl,⟨_,_,rfl,rfl,⟨_,_,rfl,⟨aN,cN,rfl,yN,mN⟩,⟨_,_,rfl,⟨aS,cS,rfl,yS,mS⟩,⟨_,_,rfl,rfl,⟨_,_,rfl,rfl,rfl⟩⟩⟩⟩⟩⟩⟩⟩⟩:=hr;have qN:∀ ds∈zcp,ShL za5 ds:=by
  simp only[ShL,Sh1,zgo,t10]at hsh;obtain⟨_,_,e0,_,⟨_,_,e1,_,⟨_,_,e2,_,⟨_,_,e3,_,⟨_,_,e4,_,⟨_,_,e5,⟨L,e6,_,q⟩,_⟩⟩⟩⟩⟩⟩:=hsh;cases e0;cases e1;cases e2;cases e3;cases e4;cases e5;cases e6
  exact q
 refine(znC 300 900 10 1 1 aN cN aS 0 cS 0 0 zcp 0 0 (by decide) qN mN ⟨by decide,by decide⟩ ⟨by decide,by decide⟩ 0 (fun _=>zpl) TC).mono ?_;rintro e w' ⟨v,rfl,hk,_,h0⟩;obtain⟨vs,ho,hw⟩:=h0 zo6;obtain⟨la,lc,rfl,hcell⟩:=zly ho hw;have l1:(sub zcp 3 (0:Int).toNat).length=1:=l10;obtain⟨ad,a,c,rfl,hb,c0,c1,c2,c3,c4,c5,c6,_⟩:=hcell 0 (by rw[l1];omega);have e0:ad.add (0 * 7)=ad:=by simp[Addr.add]
 rw[e0]at c0 c1 c2 c3 c4 c5 c6;rw[show g2 (sub zcp 1 (0:Int).toNat) (sub zcp 2 (0:Int).toNat) (sub zcp 3 (0:Int).toNat) 0=195 from g10]at c1;rw[show yW (sub zcp 1 (0:Int).toNat) (sub zcp 3 (0:Int).toNat) 0=35 from y10]at c2;rw[show rW (sub zcp 1 (0:Int).toNat) (sub zcp 3 (0:Int).toNat) 0=16 from r10]at c3;rw[show xZ (sub zcp 1 (0:Int).toNat) (sub zcp 3 (0:Int).toNat) 1 1 0=(2,9)from x10]at c4 c5;rw[show ofL 1 1 zcp 0 0=0 from zo6,l1];exact⟨ad,lc,rfl,hk,hb,_,a,_,c,c0,c1,c2,c3,c4,c5,c6⟩
set_option maxHeartbeats 4000000 in
theorem zhK (w:World):Calls Tryz.prog 6 #[] w fun e w'=>e= .returned (.bool true)∧Keep w w':=by
 have T2:=hide ziD;have TO:=hide (fun(w':World) (us:List Value) (h:Rvs w' t10 us)=>zo0 h);have hcv0:=fun w=>zhJ w ar10 204 zhI
 go_enter Tryz.func6,Tryz.ntmps6
 go_upto_region 1 with fail
 have hcv:=hcv0 w;clear hcv0;refine wp_region_lit ?_;refine zeK rfl (v:= .slice (some ⟨w.heap.size,0,none⟩) 204 204) (w':=w.alloc (.cells ar10 5)) (by kernel_rfl) ?_;try simp only[Act.put,List.setIfInBounds_toArray,List.set_cons_zero,List.set_cons_succ]
 go_wp2_with fail
 (refine((uq T2) _ _ (zlH _)).mono ?_;rintro e w3 ⟨hk,u0,u1,u2,u3,u4,a5,n5,c5,a6,n6,c6,u7,u8,rfl,hr⟩);have R3:=hide (Rds.rv _ _ _ hr);have K3:=hide (((Keep.refl w).alloc _).trans hk);clear hk hr hcv;have n1:=heap_alloc_new w3 (.cells #[.int .i64 u0,.int .i64 u1,.int .i64 u2,.int .i64 u3,.int .i64 u4,.slice a5 n5 c5,.slice a6 n6 c6,.int .i64 u7,.int .i64 u8] 27);have K4:=hide ((Keep.refl w3).alloc (.cells #[.int .i64 u0,.int .i64 u1,.int .i64 u2,.int .i64 u3,.int .i64 u4,.slice a5 n5 c5,.slice a6 n6 c6,.int .i64 u7,.int .i64 u8] 27))
 go_upto_region 2 with fail
 generalize w3.alloc (.cells #[.int .i64 u0,.int .i64 u1,.int .i64 u2,.int .i64 u3,.int .i64 u4,.slice a5 n5 c5,.slice a6 n6 c6,.int .i64 u7,.int .i64 u8] 27)=w4 at K4 n1 ⊢;generalize w3.heap.size=b1 at n1 ⊢;have g0:w4.cell? ⟨b1,0,none⟩=some (.int .i64 u0):=by simp[World.cell?,n1]
 have g1:w4.cell? ⟨b1,1,none⟩=some (.int .i64 u1):=by simp[World.cell?,n1]
 have g2:w4.cell? ⟨b1,2,none⟩=some (.int .i64 u2):=by simp[World.cell?,n1]
 have g3:w4.cell? ⟨b1,3,none⟩=some (.int .i64 u3):=by simp[World.cell?,n1]
 have g4:w4.cell? ⟨b1,4,none⟩=some (.int .i64 u4):=by simp[World.cell?,n1]
 have g5:w4.cell? ⟨b1,5,none⟩=some (.slice a5 n5 c5):=by simp[World.cell?,n1]
 have g6:w4.cell? ⟨b1,6,none⟩=some (.slice a6 n6 c6):=by simp[World.cell?,n1]
 have g7:w4.cell? ⟨b1,7,none⟩=some (.int .i64 u7):=by simp[World.cell?,n1]
 have g8:w4.cell? ⟨b1,8,none⟩=some (.int .i64 u8):=by simp[World.cell?,n1]
 clear n1;have TK:=hide ((uq TO) _ _ (Rvs.keep (uq K4) _ _ (uq R3)));go_wp2_with fail
 (refine(uq TK).mono ?_;rintro e w5 ⟨ad,lc,rfl,hk,hb,t,wa,wn,wc,c0,c1,c2,c3,c4,c5,c6⟩;have K5:=hide (((uq K3).trans (uq K4)).trans hk);clear hk);clear g0 g1 g2 g3 g4 g5 g6 g7 g8;have TL:=hide (zfT (some ad) 1 lc (fun _=>t) (fun _=>195) (fun _=>35) (fun _=>16) (fun _=>(2,9)) (fun _=>wa) (fun _=>wn) (fun _=>wc) (fun _=>230) (fun _=>246) w5 (by omega) (hide fun k hk=>by
  have:k=0:=by omega
  subst this;have e0:ad.add (0 * 7)=ad:=by simp[Addr.add]
  refine⟨ad,rfl,hb,?_⟩;rw[e0];exact⟨c0,c1,c2,c3,c4,c5,c6⟩) (hide fun k hk=>⟨by unfold wrap64;omega,by unfold wrap64;omega⟩))
 have HC:Hid (∀ w',Keep w5 w'→w'.cell? ⟨ad.block,ad.off+1,none⟩=some (.int .i64 195)∧w'.cell? ⟨ad.block,ad.off+2,none⟩=some (.int .i64 35)∧w'.cell? ⟨ad.block,ad.off+3,none⟩=some (.int .i64 16)∧w'.cell? ⟨ad.block,ad.off+4,none⟩=some (.int .i64 2)∧w'.cell? ⟨ad.block,ad.off+5,none⟩=some (.int .i64 9)):=hide (fun w' k9=>⟨W.Keep.cl k9 c1,W.Keep.cl k9 c2,W.Keep.cl k9 c3,W.Keep.cl k9 c4,W.Keep.cl k9 c5⟩);clear c0 c1 c2 c3 c4 c5 c6 hb;go_wp2_with fail
 (refine(uq TL).mono ?_;rintro e w6 ⟨v,rfl,hk,ho⟩;have K6:=hide hk;obtain⟨g,cap,rfl,hg,_,_,hcell⟩:=own_cell ho (by omega);have m0:=hcell 0 (.int .i64 246) rfl;clear hk ho hcell);obtain⟨c1,c2,c3,c4,c5⟩:=(uq HC) w6 (uq K6);go_wp2_with fail
 go_ret;exact⟨rfl,(uq K5).trans (uq K6)⟩
end Nd
end Go.Proofs.YtpmaonkelkmhbaaGreat
namespace Go.Proofs.YtpmaonkelkmhbaaGreat.nap
open Go.ChangeShapes Go.WideShapes Go.ChangeAt Go.RowKit Go.Joins
open Go.WideMaps Go.WideElems
open Go.ChangeMaps (open_string)
attribute [local go_sem ↓] Go.wp_at_zero Go.wp_at_succ
set_option linter.unusedVariables false
set_option linter.unusedSimpArgs false
set_option maxRecDepth 10000
open S V Nd
set_option maxHeartbeats 2000000 in
theorem znR (a0 a1 a2 a3 a4:Int) (aN:Option Addr) (nN cN:Nat) (aS:Option Addr) (nS cS:Nat) (a5 a6:Int) (i:Int) (c cp:Int) (w:World) (h:¬(c=0∧0≤i∧i<(nN:Int)))
  (TC:Hid (∀ w',Keep w w'→Calls Tryz.prog 4 #[.agg #[.int .i64 a0,.int .i64 a1,.int .i64 a2,.int .i64 a3,.int .i64 a4,.slice aN nN cN,.slice aS nS cS,.int .i64 a5,.int .i64 a6]] w' fun e w''=>e= .returned (.tuple #[.int .i64 c,.int .i64 cp])∧Keep w' w''))
  (TF:Hid (∀ w',Keep w w'→Calls Tryz.prog 5 #[.agg #[.int .i64 a0,.int .i64 a1,.int .i64 a2,.int .i64 a3,.int .i64 a4,.slice aN nN cN,.slice aS nS cS,.int .i64 a5,.int .i64 a6]] w' (S.Ak w')))
  (AW:Hid (∀ w',Calls Tryz.prog 6 #[] w' fun e w''=>e= .returned (.bool true)∧Keep w' w'')):
  Calls Tryz.prog 3 #[.agg #[.int .i64 a0,.int .i64 a1,.int .i64 a2,.int .i64 a3,.int .i64 a4,.slice aN nN cN,.slice aS nS cS,.int .i64 a5,.int .i64 a6],.int .i64 i] w fun e w'=>e= .returned (.bool true)∧Keep w w':=by
 have hx0:=heap_alloc_new w (.cells #[.int .i64 a0,.int .i64 a1,.int .i64 a2,.int .i64 a3,.int .i64 a4,.slice aN nN cN,.slice aS nS cS,.int .i64 a5,.int .i64 a6] 27);have KB:=hide ((Keep.refl w).alloc (.cells #[.int .i64 a0,.int .i64 a1,.int .i64 a2,.int .i64 a3,.int .i64 a4,.slice aN nN cN,.slice aS nS cS,.int .i64 a5,.int .i64 a6] 27));have HH:=hide h;clear h;go_enter Tryz.func3,Tryz.ntmps3
 go_upto_region 1 with fail
 generalize w.alloc (.cells #[.int .i64 a0,.int .i64 a1,.int .i64 a2,.int .i64 a3,.int .i64 a4,.slice aN nN cN,.slice aS nS cS,.int .i64 a5,.int .i64 a6] 27)=wb at hx0 KB ⊢;obtain⟨q0,hq⟩:∃ q,w.heap.size=q:=⟨_,rfl⟩;rw[hq]at hx0 ⊢;have HX:Hid (∀ w':World,Keep wb w'→w'.cell? ⟨q0,0,none⟩=some (.int .i64 a0)∧w'.cell? ⟨q0,1,none⟩=some (.int .i64 a1)∧w'.cell? ⟨q0,2,none⟩=some (.int .i64 a2)∧w'.cell? ⟨q0,3,none⟩=some (.int .i64 a3)∧w'.cell? ⟨q0,4,none⟩=some (.int .i64 a4)∧w'.cell? ⟨q0,5,none⟩=some (.slice aN nN cN)∧w'.cell? ⟨q0,6,none⟩=some (.slice aS nS cS)∧w'.cell? ⟨q0,7,none⟩=some (.int .i64 a5)∧w'.cell? ⟨q0,8,none⟩=some (.int .i64 a6)):=hide (fun w' k9=>by
  have h1:=k9.block q0 (Array.getElem?_eq_some_iff.1 hx0).1;rw[hx0]at h1;refine⟨?_,?_,?_,?_,?_,?_,?_,?_,?_⟩<;>simp[World.cell?,h1])
 clear hx0 hq;obtain⟨z0,z1,z2,z3,z4,z5,z6,z7,z8⟩:=(uq HX) wb (Keep.refl _);go_wp2_with fail
 (refine((uq TC) _ (uq KB)).mono ?_;rintro e w2 ⟨rfl,hk9⟩;have K2:=hide hk9;clear hk9);clear z0 z1 z2 z3 z4 z5 z6 z7 z8;obtain⟨z0,z1,z2,z3,z4,z5,z6,z7,z8⟩:=(uq HX) w2 (uq K2);go_wp2_with fail
 (refine((uq TF) _ ((uq KB).trans (uq K2))).mono ?_;rintro e w3 ⟨b,rfl,hk9⟩;have K3:=hide ((uq K2).trans hk9);clear hk9);clear z0 z1 z2 z3 z4 z5 z6 z7 z8;obtain⟨z0,z1,z2,z3,z4,z5,z6,z7,z8⟩:=(uq HX) w3 (uq K3);cases b with
 |false=>
  go_wp2_with fail
  (refine((uq AW) _).mono ?_;rintro e w4 ⟨rfl,hk9⟩);go_wp2_with fail
  go_ret;exact⟨rfl,(uq KB).trans ((uq K3).trans hk9)⟩
 |true=>
  by_cases hc:c=0
  ·subst hc;by_cases h0:i<0
   ·go_wp2_with fail
    (refine((uq AW) _).mono ?_;rintro e w4 ⟨rfl,hk9⟩);go_wp2_with fail
    go_ret;exact⟨rfl,(uq KB).trans ((uq K3).trans hk9)⟩
   ·have h1:(nN:Int)≤i:=by have:=uq HH;omega
    go_wp2_with fail
    (refine((uq AW) _).mono ?_;rintro e w4 ⟨rfl,hk9⟩);go_wp2_with fail
    go_ret;exact⟨rfl,(uq KB).trans ((uq K3).trans hk9)⟩
  ·have hcb:(c !=0)=true:=by simpa using hc
   go_wp2_with fail
   (refine((uq AW) _).mono ?_;rintro e w4 ⟨rfl,hk9⟩);go_wp2_with fail
   go_ret;exact⟨rfl,(uq KB).trans ((uq K3).trans hk9)⟩
set_option maxHeartbeats 2000000 in
theorem zn1 {w:World} {ds:List D} {us:List Value} (hs:ShL zgo ds) (hr:Rvs w ds us) (i:Int):Calls Tryz.prog 3 #[.agg us.toArray,.int .i64 i] w fun e w'=>e= .returned (.bool true)∧Below w.heap.size w w':=by
 have TF:∀ w',Keep w w'→Calls Tryz.prog 5 #[.agg us.toArray] w' (S.Ak w'):=fun w' k=>zkZ hs (Rvs.keep k _ _ hr)
 have TC:∀ w',Keep w w'→Calls Tryz.prog 4 #[.agg us.toArray] w' fun e w''=>e= .returned (.tuple #[.int .i64 (zk5 ds).1,.int .i64 (zk5 ds).2])∧Keep w' w'':=fun w' k=>zfZ hs (Rvs.keep k _ _ hr)
 simp only[ShL,Sh1,zgo]at hs;obtain⟨_,_,rfl,⟨a0,rfl,_⟩,⟨_,_,rfl,⟨a1,rfl,_⟩,⟨_,_,rfl,⟨a2,rfl,_⟩,⟨_,_,rfl,⟨a3,rfl,i3⟩,⟨_,_,rfl,⟨a4,rfl,i4⟩,⟨_,_,rfl,⟨LN,rfl,bN,qN⟩,⟨_,_,rfl,⟨LS,rfl,bS,qS⟩,⟨_,_,rfl,⟨a5,rfl,_⟩,⟨_,_,rfl,⟨a6,rfl,_⟩,rfl⟩⟩⟩⟩⟩⟩⟩⟩⟩:=hs;simp only[Rvs,Rv,dS,dI,dB]at hr;obtain⟨_,_,rfl,rfl,⟨_,_,rfl,rfl,⟨_,_,rfl,rfl,⟨_,_,rfl,rfl,⟨_,_,rfl,rfl,⟨_,_,rfl,⟨aN,cN,rfl,yN9,mN⟩,⟨_,_,rfl,⟨aS,cS,rfl,yS,mS⟩,⟨_,_,rfl,rfl,⟨_,_,rfl,rfl,rfl⟩⟩⟩⟩⟩⟩⟩⟩⟩:=hr;obtain⟨c,cp,TC,hv⟩:∃ c cp:Int,(∀ w',Keep w w'→Calls Tryz.prog 4 #[.agg #[.int .i64 a0,.int .i64 a1,.int .i64 a2,.int .i64 a3,.int .i64 a4,.slice aN LN.length cN,.slice aS LS.length cS,.int .i64 a5,.int .i64 a6]] w' fun e w''=>e= .returned (.tuple #[.int .i64 c,.int .i64 cp])∧Keep w' w'')∧(c=0→nsE LN=none):=
  ⟨_,_,TC,fun h=>(znt (a0:=a0) (a1:=a1) (a2:=a2) (a3:=a3) (a4:=a4) (LN:=LN) (LS:=LS) (a5:=a5) (a6:=a6) h).2.1⟩
 show Calls _ _ #[.agg #[.int .i64 a0,.int .i64 a1,.int .i64 a2,.int .i64 a3,.int .i64 a4,.slice aN LN.length cN,.slice aS LS.length cS,.int .i64 a5,.int .i64 a6],.int .i64 i] w _;by_cases h0:c=0∧0≤i∧i<(LN.length:Int)
 ·obtain⟨rfl,hi0,hi1⟩:=h0;obtain⟨j,rfl⟩:∃ j:Nat,i=(j:Int):=⟨i.toNat,by omega⟩;have hj:j<LN.length:=by omega
  have hnl:zb2 (sub LN 1 j) (sub LN 2 j) (sub LN 3 j) (sub LN 4 j) (sub LN 5 j) (iv LN 6 j)=none:=zhs (hv rfl) j hj;obtain⟨l1,l2,l3,l4,l5,_⟩:=cn_le (zaN hnl).1;obtain⟨⟨s11,s12,s13,s14⟩,⟨s21,s22,s23,s24⟩,⟨s31,s32,s33,s34⟩,⟨s41,s42,s43,s44⟩,⟨s51,s52,s53,s54⟩⟩:=zeV qN mN j hj;have hcl:=S.clNode (Keep.refl w) qN mN j hj;rw[s11,s21,s31,s41,s51]at hcl;have b3:(sub LN 3 j).length≤maxLen:=by unfold maxLen;omega
  have hgr:∀ g,g<(sub LN 4 j).length→Nj.PlQ (sub LN 4 j).length (ln (sub LN 4 j) 0) (gN (sub LN 4 j)) (gH (sub LN 4 j)) [] (-1) (-1):=fun g hg=> .inl ⟨rfl,rfl⟩
  refine Nj.nap_yes a0 a1 a2 a3 a4 aN LN.length cN aS LS.length cS a5 a6 j (sv (V.tn LN j)) (sA w aN 7 1 j) (sub LN 1 j).length (sC w aN 7 1 j) (sA w aN 7 2 j) (sub LN 2 j).length (sC w aN 7 2 j) (sA w aN 7 3 j) (sub LN 3 j).length (sC w aN 7 3 j) (sA w aN 7 4 j) (sub LN 4 j).length (sC w aN 7 4 j) (sA w aN 7 5 j) (sub LN 5 j).length (sC w aN 7 5 j) (iv LN 6 j) (V.tn (sub LN 5 j)) (un (sub LN 5 j)) (iv (sub LN 5 j) 2) (V.tn (sub LN 3 j)) (sA w (sA w aN 7 3 j) 3 1) (ln (sub LN 3 j) 1) (sC w (sA w aN 7 3 j) 3 1) (iv (sub LN 3 j) 2)
   (sA w (sA w aN 7 4 j) 1 0) (ln (sub LN 4 j) 0) (sC w (sA w aN 7 4 j) 1 0) (fun g r=>fB (S.gt ((sub (sub LN 4 j) 0 g).getD r []) 0)) (fun g r=>sA w (sA w (sA w aN 7 4 j) 1 0 g) 2 1 r) (gN (sub LN 4 j)) (fun g r=>sC w (sA w (sA w aN 7 4 j) 1 0 g) 2 1 r) (gH (sub LN 4 j)) (fun f=>(hI (sub LN 3 j) (V.tn (sub LN 5 j) f)).toNat) (fun f=>(hI (sub LN 3 j) (un (sub LN 5 j) f)).toNat) (Nj.fP (sub LN 3 j) (sub LN 4 j) (sub LN 5 j)) cp
   w hj (by omega) (by omega) (by omega) (hide hcl) (hide fun k hk=>S.clFoe (Keep.refl w) s54 s53 k hk) (hide fun k hk=>?_) (hide fun g hg=>?_) (hide fun g hg r hr=>?_) (hide fun g hg r hr m hm=>?_) (hide fun g hg=>(Nj.ring_parts hnl hg).1) (hide fun f hf=>?_) (hide fun g hg k hk xa xb he=>Nj.fP_at hk he) (hide fun g hg=>Nj.fP_few hnl hg) (hide fun f hf g hg h2 a b ha hb=>Nj.fP_found hnl hf hg h2 ha hb) (hide TC) (hide TF)
   (hide fun w' q kw hz=>Nj.jobs_tree s14 (Rvss.keep kw _ _ _ _ s13) s34 (Rvss.keep kw _ _ _ _ s33) s44 (Rvss.keep kw _ _ _ _ s43) s54 (Rvss.keep kw _ _ _ _ s53) hnl q hz) (hide fun f hf w' kw=>?_) (hide fun f hf w' kw=>?_) (hide fun m hm w' kw=>?_) (hide zhK)
  ·obtain⟨ad,e,hb,e0,e1,e2⟩:=S.clPhase (Keep.refl w) s34 s33 k hk;rw[(S.rsPhase s34 s33 k hk).1]at e1;exact⟨ad,e,hb,e0,e1,e2⟩
  ·obtain⟨ad,e,hb,e0⟩:=S.clGroup (Keep.refl w) s44 s43 g hg;rw[(S.rsGroup s44 s43 g hg).1]at e0;exact⟨ad,e,hb,e0⟩
  ·obtain⟨r1,r2,r3,r4⟩:=S.rsGroup s44 s43 g hg;obtain⟨ad,e,hb,e0,e1⟩:=S.clRow (Keep.refl w) r4 r3 r hr;rw[(S.rsRow r4 r3 r hr).1]at e1;exact⟨ad,e,hb,e0,e1⟩
  ·obtain⟨r1,r2,r3,r4⟩:=S.rsGroup s44 s43 g hg;obtain⟨t1,t2,t3,t4⟩:=S.rsRow r4 r3 r hr;obtain⟨ad,e,hb,e0,_⟩:=V.clName t4 t3 m hm;exact⟨ad,e,hb,e0⟩
  ·obtain⟨⟨m1,e1,x1,_⟩,m2,e2,x2,_⟩:=Nj.foe_home hnl hf;simp only[e1,e2,Int.toNat_natCast];exact⟨x1,x2⟩
  ·obtain⟨⟨m1,e1,x1,_⟩,m2,e2,x2,_⟩:=Nj.foe_home hnl hf;have ee:((hI (sub LN 3 j) (V.tn (sub LN 5 j) f)).toNat:Int)=hI (sub LN 3 j) (V.tn (sub LN 5 j) f):=by rw[e1,Int.toNat_natCast]
   rw[ee];exact zdE _ s34 (Rvss.keep kw _ _ _ _ s33) b3
  ·obtain⟨⟨m1,e1,x1,_⟩,m2,e2,x2,_⟩:=Nj.foe_home hnl hf;have ee:((hI (sub LN 3 j) (un (sub LN 5 j) f)).toNat:Int)=hI (sub LN 3 j) (un (sub LN 5 j) f):=by rw[e2,Int.toNat_natCast]
   rw[ee];exact zdE _ s34 (Rvss.keep kw _ _ _ _ s33) b3
  ·exact Nj.place_core (sv (V.tn LN j)) (sA w aN 7 1 j) (sub LN 1 j).length (sC w aN 7 1 j) (sA w aN 7 2 j) (sub LN 2 j).length (sC w aN 7 2 j) (sA w aN 7 3 j) (sub LN 3 j).length (sC w aN 7 3 j) (sA w aN 7 4 j) (sub LN 4 j).length (sC w aN 7 4 j) (sA w aN 7 5 j) (sub LN 5 j).length (sC w aN 7 5 j) (iv LN 6 j) (V.tn (sub LN 3 j) m) (sA w (sA w aN 7 4 j) 1 0) (ln (sub LN 4 j) 0) (sC w (sA w aN 7 4 j) 1 0) (fun g r=>fB (S.gt ((sub (sub LN 4 j) 0 g).getD r []) 0)) (fun g r=>sA w (sA w (sA w aN 7 4 j) 1 0 g) 2 1 r) (gN (sub LN 4 j)) (fun g r=>sC w (sA w (sA w aN 7 4 j) 1 0 g) 2 1 r) (gH (sub LN 4 j)) w' (by omega)
    (hide fun g hg=>⟨by have:=(Nj.ring_parts hnl hg).1;omega,fun k hk=>by have:=((Nj.ring_parts hnl hg).2 k hk).1;omega⟩)
    (hide fun g hg=>by
     obtain⟨ad,e,hb,e0⟩:=S.clGroup kw s44 s43 g hg;rw[(S.rsGroup s44 s43 g hg).1]at e0;exact⟨ad,e,Nat.lt_of_lt_of_le hb kw.size,e0⟩)
    (hide fun g hg r hr=>by
     obtain⟨r1,r2,r3,r4⟩:=S.rsGroup s44 s43 g hg;obtain⟨ad,e,hb,e0,e1⟩:=S.clRow kw r4 r3 r hr;rw[(S.rsRow r4 r3 r hr).1]at e1;exact⟨ad,e,Nat.lt_of_lt_of_le hb kw.size,e0,e1⟩)
    (hide fun g hg r hr k hk=>by
     obtain⟨r1,r2,r3,r4⟩:=S.rsGroup s44 s43 g hg;obtain⟨t1,t2,t3,t4⟩:=S.rsRow r4 r3 r hr;obtain⟨ad,e,hb,e0,_⟩:=V.clName t4 t3 k hk;exact⟨ad,e,Nat.lt_of_lt_of_le hb kw.size,V.far_cell kw (by rw[V.add_block9];exact hb) e0⟩)
 ·exact znR a0 a1 a2 a3 a4 aN LN.length cN aS LS.length cS a5 a6 i c cp w h0 (hide TC) (hide TF) (hide zhK)
theorem zlI:laidOutB Tryz.prog=true:=by kernel_rfl
theorem own:ownKnob Tryz.prog.godebug=none:=by kernel_rfl
set_option maxHeartbeats 400000 in
set_option maxRecDepth 100000 in
theorem znS (os:Os) (started:os.Started) (H:Type) (enc:TypeId×Value→H):
  ReturnsInHanded {} Tryz.checked os 3 .any (Rows.needApartSpec.pre6 enc Tryz.prog Tryz.f3 Rows.needApartRow.domain false) (Rows.needApartSpec.post enc Tryz.prog Tryz.f3 false true false false):=by
 refine returnsInHanded_of_change (C:=Tryz.checked) own started (by kernel_rfl) Tryz.func3
  (ChangeSpec.witness6 (enc:=enc) (C:=Tryz.checked) false ⟨#[],#[.agg #[.int .i64 0,.int .i64 0,.int .i64 0,.int .i64 0,.int .i64 0,.slice none 0 0,.slice none 0 0,.int .i64 0,.int .i64 0],.int .i64 0],[]⟩ 8 (by kernel_rfl) (by kernel_rfl) (by kernel_rfl) (by kernel_rfl)) ?_
 intro W base args ds gs before hval0 hW hcnd _
 have hval:∀(j:Nat) t v,Tryz.f3.params[j]? =some t→args[j]? =some v→Value.okWide Tryz.prog W .any base t v:=hval0;have hW':=hW;obtain⟨p,q,hA0,hV,rfl,hfz,hnd⟩:=hW;have hA:DataW.TrodAll enc Tryz.prog W 0 (fun _=>true) true Tryz.f3.params.toList args.toList ds p:=hA0;rw[Tryz.params3]at hA hval;obtain⟨v0,vs0,d0,ds0,p0,q0,hargs,rfl,rfl,h0,r0⟩:=trodAll_cons hA;obtain⟨v1,vs1,d1,ds1,p1,q1,rfl,rfl,rfl,h1,r1⟩:=trodAll_cons r0;obtain⟨rfl,rfl,rfl⟩:=trodAll_nil r1;obtain rfl:args=#[v0,v1]:=by cases args;simp_all
 obtain⟨rfl,rfl⟩:=trodVars_none hV;have k0:=h0;have lt0:∀ x∈p0,x.block<W.heap.size:=by obtain⟨m,hm⟩:=k0;exact DataW.trod_lt m _ _ _ hm
 obtain⟨es0,us0,rfl,s0,x0⟩:=zec Tryz.underlying27 S.net_desc (hval 0 27 v0 rfl rfl) h0;clear h0;obtain⟨a1,rfl,rfl,rfl,w1⟩:=open_int Tryz.underlying3 (hval 1 3 v1 rfl rfl) h1;clear hA0 hval0;refine(zn1 s0 x0 a1).mono fun e W' ⟨he,bel⟩=>?_
 subst he;exact⟨_,rfl,_,_,_,[],_,[],hW',trodAll_mk1 (shut_bool Tryz.underlying4 _),(trodAll_cons_mk (Below.trod zlI (by kernel_rfl) (of_decide_eq_true (by kernel_rfl)) k0 bel lt0) (trodAll_cons_mk (shut_int Tryz.underlying3 w1) trodAll_mk0)),rfl,bel.frame _,fun h=>by cases h⟩
theorem over:Rows.needApartRow.holds Tryz.pinned (OpenSpec.ofChange Rows.needApartSpec):=
 OpenClaim.holds_of_wide 3 Tryz.f3 rfl rfl rfl rfl rfl rfl rfl ⟨rfl,rfl,rfl,rfl,rfl⟩ rfl rfl rfl rfl rfl (by kernel_rfl) Tryz.func3 (by kernel_rfl)
  (of_decide_eq_true (by kernel_rfl)) (by unfold Func.isWrapper;first|(rw[if_pos (by decide+kernel)];kernel_rfl)|(rw[if_neg (by decide+kernel)];exact⟨rfl,rfl⟩))
  (fun os started H enc _=>znS os started H enc)
end Go.Proofs.YtpmaonkelkmhbaaGreat.nap
namespace Go.Proofs.YtpmaonkelkmhbaaGreat
theorem NeedApart_holds:Rows.NeedApartSaid:=nap.over
end Go.Proofs.YtpmaonkelkmhbaaGreat
