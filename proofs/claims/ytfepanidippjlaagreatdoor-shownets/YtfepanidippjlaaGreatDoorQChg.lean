/- Which networks have a text, as trees. -/
import Derived.Test.YtfepanidippjlaaGreatDoorNOpn
import Derived.Test.YtfepanidippjlaaGreatDoorLRightA
import Derived.Test.YtfepanidippjlaaGreatDoorNVal
import Derived.Test.YtfepanidippjlaaGreatDoorNCut
namespace Go.Proofs.YtfepanidippjlaaGreatDoor
open Go.RowKit
attribute [local go_sem ↓] Go.wp_at_zero Go.wp_at_succ
set_option linter.unusedVariables false
set_option linter.unusedSimpArgs false
set_option maxRecDepth 10000
namespace S
def d0:D:= .val (.bool false)
def tS (d:D):List UInt8:=(fS d).data.toList
def gt (ds:List D) (k:Nat):D:=ds.getD k d0
def nmB (s:List UInt8):Bool:=rg ⟨1,s,0,0⟩&& !decide (s∈words)
def nuB (n:Int):Bool:=decide (0≤n∧n≤999999999999999999)
def grB (n:Int):Bool:=decide (-999999999999999999≤n∧n≤999999999999999999)
def zbs (l:List Int):Bool:=l.all nuB
def zbb (lo hi:Nat) (B:List D→Bool) (L:List (List D)):Bool:=decide (lo≤L.length∧L.length≤hi)&&L.all B
def zc1 (ds:List D):Bool:=nmB (tS (gt ds 0))
def za7 (ds:List D):Bool:=nmB (tS (gt ds 0))&&(grB (fI (gt ds 6))&&zbs [fI (gt ds 1),fI (gt ds 2),fI (gt ds 3),fI (gt ds 4),fI (gt ds 5),fI (gt ds 7),fI (gt ds 8),fI (gt ds 9)])
def zbx (ds:List D):Bool:=nmB (tS (gt ds 0))&&(nmB (tS (gt ds 1))&&zbs [fI (gt ds 2),fI (gt ds 3),fI (gt ds 4)])
def zbm (ds:List D):Bool:=nmB (tS (gt ds 0))&&zbb 1 16 zc1 (fL (gt ds 1))
def zdq (ds:List D):Bool:=zbb 1 4 zc1 (fL (gt ds 1))
def zbT (ds:List D):Bool:=zbb 1 2 zdq (fL (gt ds 0))
def zd7 (ds:List D):Bool:=nmB (tS (gt ds 0))&&nmB (tS (gt ds 1))
def zbv (ds:List D):Bool:=nmB (tS (gt ds 0))&&(nmB (tS (gt ds 1))&&(nmB (tS (gt ds 2))&&zbs [fI (gt ds 3),fI (gt ds 4)]))
def zbR (ds:List D):Bool:=nmB (tS (gt ds 0))&&(zbb 0 16 za7 (fL (gt ds 1))&&(zbb 0 8 zbx (fL (gt ds 2))&&(zbb 0 16 zbm (fL (gt ds 3))&&(zbb 0 4 zbT (fL (gt ds 4))&&zbb 0 64 zd7 (fL (gt ds 5))))))
def zcs (ds:List D):Bool:=zbs [fI (gt ds 0),fI (gt ds 1),fI (gt ds 2),fI (gt ds 3),fI (gt ds 4),fI (gt ds 7),fI (gt ds 8)]&&(zbb 0 12 zbR (fL (gt ds 5))&&zbb 0 12 zbv (fL (gt ds 6)))
def zbK:List Ty:= [.s]
def zc2:List Ty:= [.s,.i,.i,.i,.i,.i,.i,.i,.i,.i,.i]
def zfO:List Ty:= [.s,.s,.i,.i,.i,.i]
def zbD:List Ty:= [.s,.row 9 1 zbK,.i]
def zeG:List Ty:= [.b,.row 9 1 zbK]
def zbE:List Ty:= [.row 93 2 zeG]
def zfP:List Ty:= [.s,.s,.i]
def zcR:List Ty:= [.s,.s,.s,.i,.i,.i]
def zbL:List Ty:= [.s,.row 84 11 zc2,.row 86 6 zfO,.row 88 3 zbD,.row 91 1 zbE,.row 95 3 zfP,.i]
def zct:List Ty:= [.i,.i,.i,.i,.i,.row 46 7 zbL,.row 49 6 zcR,.i,.i]
theorem net_desc:zga Tryz.prog 12 27=some zct:=by kernel_rfl
theorem za4 {lo hi:Nat} {B:List D→Bool} {L:List (List D)} (h:¬(lo≤L.length∧L.length≤hi)):zbb lo hi B L=false:=by simp only[zbb,decide_eq_false h,Bool.false_and]
theorem zan {lo hi:Nat} {B:List D→Bool} {L:List (List D)} {k:Nat} (hk:k<L.length) (h:B (L.getD k [])=false):zbb lo hi B L=false:=by
 unfold zbb
 rw[Bool.and_eq_false_iff];right;rw[List.all_eq_false];refine⟨L.getD k [],?_,by rw[h];simp⟩;rw[List.getD_eq_getElem?_getD,List.getElem?_eq_getElem hk];exact List.getElem_mem hk
theorem zaR {lo hi:Nat} {B:List D→Bool} {L:List (List D)} (h:lo≤L.length∧L.length≤hi) (hB:∀ k,k<L.length→B (L.getD k [])=true):zbb lo hi B L=true:=by
 unfold zbb
 rw[decide_eq_true h,Bool.true_and,List.all_eq_true];intro x hx
 obtain⟨k,hk,rfl⟩:=List.getElem_of_mem hx;have:=hB k hk;rwa[List.getD_eq_getElem?_getD,List.getElem?_eq_getElem hk]at this
theorem zcu (l:List UInt8):tS (dS l)=l:=rfl
end S
end Go.Proofs.YtfepanidippjlaaGreatDoor
namespace Go.Proofs.YtfepanidippjlaaGreatDoor
open Go.RowKit
set_option linter.unusedVariables false
set_option linter.unusedSimpArgs false
set_option maxRecDepth 10000
def bc (l:List UInt8):List Value:=l.map fun x=>Value.int .u8 (x.toNat:Int)
theorem zeM (l m:List UInt8):bc (l++m)=bc l++bc m:=List.map_append
end Go.Proofs.YtfepanidippjlaaGreatDoor
namespace Go.Proofs.YtfepanidippjlaaGreatDoor
open Go.RowKit
attribute [local go_sem ↓] Go.wp_at_zero Go.wp_at_succ
set_option linter.unusedVariables false
set_option linter.unusedSimpArgs false
set_option maxRecDepth 10000
set_option maxHeartbeats 4000000 in
theorem zhs (w:World):Calls Tryz.prog 93 #[] w fun e w'=>e= .returned (.slice (some ⟨w.heap.size,0,none⟩) 42 42)∧w'=w.alloc (.cells ((words.map fun x=>Value.string (sv x)).toArray) 9):=by
 go_enter Tryz.func93,Tryz.ntmps93;go_wp2_with fail
 go_ret;exact⟨rfl,rfl⟩
set_option maxHeartbeats 4000000 in
theorem zmj (s:ByteArray) (ad:Addr) (n cap:Nat) (X:Nat→ByteArray) (B:Nat→Bool) (r:Bool) (w:World) (hn:n≤100000)
  (HC:Hid (∀ k,k<n→w.cell? (ad.add k)=some (.string (X k))))
  (HB:Hid (∀ k,k<n→((X k).toList==s.toList)=B k))
  (H1:Hid (∀ k,k<n→B k=true→r=true))
  (H2:Hid ((∀ k,k<n→B k=false)→r=false)):
  Calls Tryz.prog 92 #[.string s,.slice (some ad) n cap] w fun e w'=>e= .returned (.bool r)∧w'=w:=by
 go_enter Tryz.func92,Tryz.ntmps92;go_wp2_with fail
 go_loop [5] (fun vi=>∃ k:Nat,k≤n∧vi= .int .i64 (k:Int)∧Hid (∀ j,j<k→B j=false)) (fun vi=>n - (intOf vi).toNat)
 case atStart=>exact⟨0,Nat.zero_le _,rfl,hide fun j hj=>by omega⟩
 case round=>
  obtain⟨k,hk,rfl,HN⟩:=hrel;by_cases hlt:k<n
  ·have li:(k:Int)<(n:Int):=by omega
   have ck:=(uq HC) k hlt;have hb:=(uq HB) k hlt;have HQ:=hide ((uq H1) k hlt);generalize X k=x at *;obtain⟨b,hbk⟩:∃ b,B k=b:=⟨_,rfl⟩;rw[hbk]at hb;have HBK:=hide hbk;clear hbk;cases b with
   |true=>
    have hr:=(uq HQ) (uq HBK);subst hr;go_wp2_with fail
    go_ret;exact⟨rfl,rfl⟩
   |false=>
    go_wp2_with fail
    exact⟨⟨k+1,hlt,by go_num,hide fun j hj=>(Nat.lt_succ_iff_lt_or_eq.1 hj).elim ((uq HN) j) (fun e=>e▸uq HBK)⟩,by simp[intOf];omega⟩
  ·have hr:=(uq H2) (fun j hj=>(uq HN) j (by omega));subst hr;go_wp2_with fail
   go_ret;exact⟨rfl,rfl⟩
theorem zmk (l:List UInt8):(sv l).toList=l:=ByteArray.toList_mk l
theorem zi8 (s:ByteArray) (g:Nat) (w:World) (HC:∀ k,k<42→w.cell? ⟨g,k,none⟩=some (.string (sv (words.getD k [])))):
  Calls Tryz.prog 92 #[.string s,.slice (some ⟨g,0,none⟩) 42 42] w fun e w'=>e= .returned (.bool (decide (s.toList∈words)))∧w'=w:=by
 refine zmj s ⟨g,0,none⟩ 42 42 (fun k=>sv (words.getD k [])) (fun k=>words.getD k []==s.toList) _ w (by decide) (hide fun k hk=>?_) (hide fun k hk=>by rw[zmk]) (hide fun k hk hb=>?_) (hide fun h=>?_)
 ·rw[zbo,Nat.zero_add];exact HC k hk
 ·rw[decide_eq_true_iff,← eq_of_beq hb,List.getD_eq_getElem?_getD,List.getElem?_eq_getElem (show k<words.length from hk)];exact List.getElem_mem _
 ·rw[decide_eq_false_iff_not];intro hm
  obtain⟨k,hk,e⟩:=List.getElem_of_mem hm;have:=h k hk;rw[List.getD_eq_getElem?_getD,List.getElem?_eq_getElem hk,Option.getD_some,e]at this;simp at this
set_option maxHeartbeats 4000000 in
theorem zht (s:ByteArray) (r:Bool) (w:World) (o:Obj)
  (T1:Hid (∀ w:World,Calls Tryz.prog 93 #[] w fun e w'=>e= .returned (.slice (some ⟨w.heap.size,0,none⟩) 42 42)∧w'=w.alloc o))
  (T2:Hid (∀ w:World,Calls Tryz.prog 92 #[.string s,.slice (some ⟨w.heap.size,0,none⟩) 42 42] (w.alloc o) fun e w'=>e= .returned (.bool r)∧w'=w.alloc o)):
  Calls Tryz.prog 60 #[.string s] w fun e w'=>e= .returned (.bool r)∧Keep w w':=by
 go_enter Tryz.func60,Tryz.ntmps60;go_wp2_with fail
 (refine((uq T1) _).mono ?_;rintro e w2 ⟨rfl,rfl⟩);go_wp2_with fail
 (refine((uq T2) _).mono ?_;rintro e w2 ⟨rfl,rfl⟩);go_wp2_with fail
 go_ret;exact⟨rfl,(Keep.refl w).alloc _⟩
theorem zdu (s:ByteArray) (w:World):Calls Tryz.prog 60 #[.string s] w fun e w'=>e= .returned (.bool (decide (s.toList∈words)))∧Keep w w':=by
 refine zht s _ w _ (hide fun w=>zhs w) (hide fun w=>zi8 s w.heap.size _ fun k hk=>?_);rw[World.cell?_alloc_mark,List.getElem?_toArray,List.getElem?_map,List.getD_eq_getElem?_getD,List.getElem?_eq_getElem (show k<words.length from hk)]
 rfl
namespace Q
theorem frb (w:World) (b j:Nat) (v:Value) (hv:v.oneCell'=true):Fr (fun i=>i=b) w (w.setCell ⟨b,j,none⟩ v):=(Fr.refl (fun i=>i=b) w).set ⟨b,j,none⟩ v rfl hv
set_option maxHeartbeats 1000000 in
theorem zhu (b:Nat) (e x:Int) (w:World) (he:(e==0)=false) (c1:w.cell? ⟨b,1,none⟩=some (.int .i64 e)):Calls Tryz.prog 70 #[.pointer (some ⟨b,0,none⟩),.int .i64 x] w fun r w'=>r= .returned (.tuple #[])∧w'=w:=by
 go_enter Tryz.func70,Tryz.ntmps70;go_wp2_with fail
 go_end0
 exact⟨rfl,rfl⟩
set_option maxHeartbeats 2000000 in
theorem zgf (b m cap:Nat) (ad:Addr) (x p pp:Int) (w:World) (hb:ad.block≠b) (c0:w.cell? ⟨b,0,none⟩=some (.slice (some ad) (m+1) cap)) (c1:w.cell? ⟨b,1,none⟩=some (.int .i64 0)) (c2:w.cell? ⟨b,2,none⟩=some (.int .i64 p)) (f1:w.frozen? ⟨b,1,none⟩=false) (f2:w.frozen? ⟨b,2,none⟩=false) (t3:w.cell? ⟨ad.block,ad.off+3,none⟩=some (.int .i64 pp)):
  Calls Tryz.prog 70 #[.pointer (some ⟨b,0,none⟩),.int .i64 x] w fun r w'=>r= .returned (.tuple #[])∧w'=(w.setCell ⟨b,1,none⟩ (.int .i64 x)).setCell ⟨b,2,none⟩ (.int .i64 pp):=by
 have d0:(w.setCell ⟨b,1,none⟩ (.int .i64 x)).cell? ⟨b,0,none⟩=some (.slice (some ad) (m+1) cap):=by rw[zc0 _ _ _ _ (by simp)];exact c0
 have d2:(w.setCell ⟨b,1,none⟩ (.int .i64 x)).cell? ⟨b,2,none⟩=some (.int .i64 p):=by rw[zc0 _ _ _ _ (by simp)];exact c2
 have d3:(w.setCell ⟨b,1,none⟩ (.int .i64 x)).cell? ⟨ad.block,ad.off+3,none⟩=some (.int .i64 pp):=by rw[zmc _ _ _ _ (fun e=>hb e.symm)];exact t3
 have d4:(w.setCell ⟨b,1,none⟩ (.int .i64 x)).frozen? ⟨b,2,none⟩=false:=by rw[World.frozen?_setCell];exact f2
 go_enter Tryz.func70,Tryz.ntmps70
 go_upto_region 2 with fail
 obtain⟨w1,HW⟩:∃ w1,Hid (w.setCell ⟨b,1,none⟩ (.int .i64 x)=w1):=⟨_,rfl⟩;rw[uq HW]at d0 d2 d3 d4 ⊢;go_wp2_with fail
 go_end0
 exact⟨rfl,by rw[uq HW]⟩
set_option maxHeartbeats 2000000 in
theorem zeN (b m cap:Nat) (ad:Addr) (e kk nn pp:Int) (S:ByteArray) (w:World) (h:(e==0)=false∨((e==0)=true∧(kk !=0)=false)) (c0:w.cell? ⟨b,0,none⟩=some (.slice (some ad) (m+1) cap)) (c1:w.cell? ⟨b,1,none⟩=some (.int .i64 e)) (t0:w.cell? ad=some (.int .i64 kk)) (t1:w.cell? ⟨ad.block,ad.off+1,none⟩=some (.string S)) (t2:w.cell? ⟨ad.block,ad.off+2,none⟩=some (.int .i64 nn)) (t3:w.cell? ⟨ad.block,ad.off+3,none⟩=some (.int .i64 pp)):
  Calls Tryz.prog 68 #[.pointer (some ⟨b,0,none⟩)] w fun r w'=>r= .returned (.agg #[.int .i64 kk,.string S,.int .i64 nn,.int .i64 pp])∧Keep w w':=by
 have k:∀ o,Keep w (w.alloc o):=fun o=>(Keep.refl w).alloc o
 have g0:∀ o,(w.alloc o).cell? ⟨b,0,none⟩=some (.slice (some ad) (m+1) cap):=fun o=>kcell (k o) c0
 have q0:∀ o,(w.alloc o).cell? ad=some (.int .i64 kk):=fun o=>kcell (k o) t0
 have q1:∀ o,(w.alloc o).cell? ⟨ad.block,ad.off+1,none⟩=some (.string S):=fun o=>kcell (k o) t1
 have q2:∀ o,(w.alloc o).cell? ⟨ad.block,ad.off+2,none⟩=some (.int .i64 nn):=fun o=>kcell (k o) t2
 have q3:∀ o,(w.alloc o).cell? ⟨ad.block,ad.off+3,none⟩=some (.int .i64 pp):=fun o=>kcell (k o) t3
 have g1:∀ o o2,((w.alloc o).alloc o2).cell? ⟨b,1,none⟩=some (.int .i64 e):=fun o o2=>kcell ((k o).alloc o2) c1
 have HK:=hide k;clear k;rcases h with h|⟨h,h2⟩
 ·go_enter Tryz.func68,Tryz.ntmps68;go_wp2_with fail
  refine bodyPost_ret (v:= .agg #[.int .i64 kk,.string S,.int .i64 nn,.int .i64 pp]) ?_ rfl ?_
  ·simp[results,Tryz.results68,go_sem]
  ·exact⟨rfl,by repeat(first|apply zab|apply Keep.alloc|apply Keep.drew|exact Keep.refl _)⟩
 ·go_enter Tryz.func68,Tryz.ntmps68;go_wp2_with fail
  refine bodyPost_ret (v:= .agg #[.int .i64 kk,.string S,.int .i64 nn,.int .i64 pp]) ?_ rfl ?_
  ·simp[results,Tryz.results68,go_sem]
  ·exact⟨rfl,by repeat(first|apply zab|apply Keep.alloc|apply Keep.drew|exact Keep.refl _)⟩
set_option maxHeartbeats 2000000 in
theorem zml (b m cap:Nat) (ad:Addr) (kk nn pp:Int) (S:ByteArray) (w:World) (hc:¬cap=1) (hk:(kk !=0)=true) (c0:w.cell? ⟨b,0,none⟩=some (.slice (some ad) (m+1) cap)) (c1:w.cell? ⟨b,1,none⟩=some (.int .i64 0)) (f0:w.frozen? ⟨b,0,none⟩=false) (t0:w.cell? ad=some (.int .i64 kk)) (t1:w.cell? ⟨ad.block,ad.off+1,none⟩=some (.string S)) (t2:w.cell? ⟨ad.block,ad.off+2,none⟩=some (.int .i64 nn)) (t3:w.cell? ⟨ad.block,ad.off+3,none⟩=some (.int .i64 pp)):
  Calls Tryz.prog 68 #[.pointer (some ⟨b,0,none⟩)] w fun r w'=>r= .returned (.agg #[.int .i64 kk,.string S,.int .i64 nn,.int .i64 pp])∧Keep (w.setCell ⟨b,0,none⟩ (.slice (some ⟨ad.block,ad.off+4,none⟩) m (cap - 1))) w':=by
 have hb:b<w.heap.size:=zdN c0;have k:∀ o,Keep w (w.alloc o):=fun o=>(Keep.refl w).alloc o
 have g0:∀ o,(w.alloc o).cell? ⟨b,0,none⟩=some (.slice (some ad) (m+1) cap):=fun o=>kcell (k o) c0
 have q0:∀ o,(w.alloc o).cell? ad=some (.int .i64 kk):=fun o=>kcell (k o) t0
 have q1:∀ o,(w.alloc o).cell? ⟨ad.block,ad.off+1,none⟩=some (.string S):=fun o=>kcell (k o) t1
 have q2:∀ o,(w.alloc o).cell? ⟨ad.block,ad.off+2,none⟩=some (.int .i64 nn):=fun o=>kcell (k o) t2
 have q3:∀ o,(w.alloc o).cell? ⟨ad.block,ad.off+3,none⟩=some (.int .i64 pp):=fun o=>kcell (k o) t3
 have HK:=hide k;clear k;go_enter Tryz.func68,Tryz.ntmps68;have g1:∀ o o2,((w.alloc o).alloc o2).cell? ⟨b,1,none⟩=some (.int .i64 0):=fun o o2=>kcell (((uq HK) o).alloc o2) c1
 have g3:∀ o o2,((w.alloc o).alloc o2).cell? ⟨b,0,none⟩=some (.slice (some ad) (m+1) cap):=fun o o2=>kcell (((uq HK) o).alloc o2) c0
 have g4:∀ o o2,((w.alloc o).alloc o2).frozen? ⟨b,0,none⟩=false:=fun o o2=>zmb (((uq HK) o).alloc o2) c0 f0
 go_upto_region 4 with fail
 clear g0 g1 g3 g4 q0 q1 q2 q3 t0 t1 t2 t3 HK c0 c1 f0;go_wp2_with fail
 refine bodyPost_ret (v:= .agg #[.int .i64 kk,.string S,.int .i64 nn,.int .i64 pp]) ?_ rfl ?_
 ·simp[results,Tryz.results68,go_sem]
 ·exact⟨rfl,by repeat(first|apply zab|apply Keep.alloc|apply Keep.drew|exact Keep.refl _)⟩
set_option maxHeartbeats 2000000 in
theorem zmm (b:Nat) (e:Int) (X:ByteArray) (w:World) (he:(e==0)=false) (c1:w.cell? ⟨b,1,none⟩=some (.int .i64 e)):Calls Tryz.prog 67 #[.pointer (some ⟨b,0,none⟩),.string X] w fun r w'=>r= .returned (.bool false)∧w'=w:=by
 go_enter Tryz.func67,Tryz.ntmps67;go_wp2_with fail
 go_ret;exact⟨rfl,rfl⟩
set_option maxHeartbeats 2000000 in
theorem zi9 (b m cap:Nat) (ad:Addr) (kk:Int) (S X:ByteArray) (w:World) (x y z r0:Bool) (hx:(kk !=2)=x) (hy:(kk !=0)=y) (hz:(S.toList==X.toList)=z) (hr:(x&&(y&&z))=r0) (c0:w.cell? ⟨b,0,none⟩=some (.slice (some ad) (m+1) cap)) (c1:w.cell? ⟨b,1,none⟩=some (.int .i64 0)) (t0:w.cell? ad=some (.int .i64 kk)) (t1:w.cell? ⟨ad.block,ad.off+1,none⟩=some (.string S)):Calls Tryz.prog 67 #[.pointer (some ⟨b,0,none⟩),.string X] w fun r w'=>r= .returned (.bool r0)∧w'=w:=by
 subst hr;cases x with
 |false=>
  go_enter Tryz.func67,Tryz.ntmps67;go_wp2_with fail
  go_ret;exact⟨rfl,rfl⟩
 |true=>cases y with
  |false=>
   go_enter Tryz.func67,Tryz.ntmps67;go_wp2_with fail
   go_ret;exact⟨rfl,rfl⟩
  |true=>cases z with
   |false=>
    go_enter Tryz.func67,Tryz.ntmps67;go_wp2_with fail
    go_ret;exact⟨rfl,rfl⟩
   |true=>
    go_enter Tryz.func67,Tryz.ntmps67;go_wp2_with fail
    go_ret;exact⟨rfl,rfl⟩
theorem Rm.tok {w:World} {b:Nat} {ad:Addr} {cap:Nat} {e p:Int} {t:Tok} {r:List Tok} (h:Rm w b ad cap e p (t :: r)):Tc w ad t:=by
 have:=h.tc 0 (by simp);rw[Nat.zero_mul]at this;have e0:ad.add 0=ad:=by unfold Addr.add;rw[if_pos rfl]
 rw[e0]at this;exact this
theorem Rm.num {w:World} {b:Nat} {ad:Addr} {cap:Nat} {e p:Int} {t:Tok} {r:List Tok} (h:Rm w b ad cap e p (t :: r)):0≤t.n∧t.n≤999999999999999999:=h.wq.1.2.2 t List.mem_cons_self
def isq (s:List UInt8):Except Er (List Tok)→Bool
 | .ok (t :: _)=>decide (t.s=s)
 | _=>false
def zhv (x:Int):Except Er (List Tok)→Except Er (List Tok)
 | .ok (t :: _)=> .error (x,t.p)
 |Y=>Y
def zer:Except Er (List Tok)→Except Er (List Tok)
 | .ok (t :: r)=>if t.k=0 then .ok (t :: r)else .ok r
 |Y=>Y
theorem zdl {w:World} {b:Nat} {Y:Except Er (List Tok)} (s:List UInt8) (hs:wrd s=true) (h:Sr w b Y):Calls Tryz.prog 67 #[.pointer (some ⟨b,0,none⟩),.string (sv s)] w fun r w'=>r= .returned (.bool (isq s Y))∧w'=w:=by
 cases Y with
 |error x=>
  obtain⟨ad,cap,t,r',h1,h2⟩:=h.dead;exact zmm b x.1 _ w (by simpa using h2) h1.c1
 |ok r=>
  obtain⟨ad,cap,p,t,r',rfl,h1⟩:=h.alive;obtain⟨t0,t1,t2,t3⟩:=h1.tok;refine zi9 b r'.length cap ad t.k (sv t.s) (sv s) w _ _ _ _ rfl rfl rfl ?_ h1.c0 h1.c1 t0 t1;show(t.k !=2&&(t.k !=0&&((sv t.s).toList==(sv s).toList)))=decide (t.s=s);rw[show(sv t.s).toList=t.s from ByteArray.toList_mk _,show(sv s).toList=s from ByteArray.toList_mk _];by_cases e:t.s=s
  ·have:=(h1.wq.2 t List.mem_cons_self).word hs e;simp[this,e]
  ·have e2:(t.s==s)=false:=by simpa using e
   simp[e,e2]
theorem zcG {w:World} {b:Nat} {Y:Except Er (List Tok)} (x:Int) (hx:x≠0) (h:Sr w b Y):Calls Tryz.prog 70 #[.pointer (some ⟨b,0,none⟩),.int .i64 x] w fun r w'=>r= .returned (.tuple #[])∧Fr (fun i=>i=b) w w'∧Sr w' b (zhv x Y):=by
 cases Y with
 |error y=>
  obtain⟨ad,cap,t,r',h1,h2⟩:=h.dead;refine(zhu b y.1 x w (by simpa using h2) h1.c1).mono ?_;rintro r w' ⟨rfl,rfl⟩;exact⟨rfl,.refl _ _,h⟩
 |ok r=>
  obtain⟨ad,cap,p,t,r',rfl,h1⟩:=h.alive;obtain⟨t0,t1,t2,t3⟩:=h1.tok;refine(zgf b r'.length cap ad x p t.p w (by have:=h1.lt;omega) h1.c0 h1.c1 h1.c2 h1.f1 h1.f2 t3).mono ?_;rintro r w' ⟨rfl,rfl⟩;exact⟨rfl,(frb w b 1 _ rfl).trans (frb _ b 2 _ rfl),zoA (x:=(x,t.p)) h1.fail hx⟩
theorem zbU {w:World} {b:Nat} {Y:Except Er (List Tok)} (h:Sr w b Y):Calls Tryz.prog 68 #[.pointer (some ⟨b,0,none⟩)] w fun r w'=>∃ t,r= .returned (tv t)∧(0≤t.n∧t.n≤999999999999999999)∧Fr (fun i=>i=b) w w'∧Sr w' b (zer Y)∧∀ r,Y= .ok r→∃ r',r=t :: r':=by
 cases Y with
 |error y=>
  obtain⟨ad,cap,t,r',h1,h2⟩:=h.dead;obtain⟨t0,t1,t2,t3⟩:=h1.tok;refine(zeN b r'.length cap ad y.1 t.k t.n t.p (sv t.s) w (.inl (by simpa using h2)) h1.c0 h1.c1 t0 t1 t2 t3).mono ?_;rintro r w' ⟨rfl,hk⟩;exact⟨t,rfl,h1.num,.keep hk,h.keep hk,fun r e=>by cases e⟩
 |ok r=>
  obtain⟨ad,cap,p,t,r',rfl,h1⟩:=h.alive;obtain⟨t0,t1,t2,t3⟩:=h1.tok;by_cases hk:t.k=0
  ·refine(zeN b r'.length cap ad 0 t.k t.n t.p (sv t.s) w (.inr ⟨rfl,by simp[hk]⟩) h1.c0 h1.c1 t0 t1 t2 t3).mono ?_;rintro r w' ⟨rfl,hk2⟩;refine⟨t,rfl,h1.num,.keep hk2,?_,fun r e=>by cases e;exact⟨_,rfl⟩⟩;show Sr w' b (if t.k=0 then .ok (t :: r')else .ok r');rw[if_pos hk];exact h.keep hk2
  ·obtain⟨h2,h3,h4⟩:=h1.next (.inl hk);refine(zml b r'.length cap ad t.k t.n t.p (sv t.s) w (by omega) (by simpa using hk) h1.c0 h1.c1 h1.f0 t0 t1 t2 t3).mono ?_;rintro r w' ⟨rfl,hk2⟩;refine⟨t,rfl,h1.num,(frb w b 0 _ rfl).trans (.keep hk2),?_,fun r e=>by cases e;exact⟨_,rfl⟩⟩;show Sr w' b (if t.k=0 then .ok (t :: r')else .ok r');rw[if_neg hk];exact(zoz h2).keep hk2
set_option maxHeartbeats 2000000 in
theorem zhw (b:Nat) (X:ByteArray) (q:Bool) (w:World) (Q:World→Prop)
  (T1:Hid (Calls Tryz.prog 67 #[.pointer (some ⟨b,0,none⟩),.string X] w fun r w'=>r= .returned (.bool q)∧w'=w))
  (T2:Hid (q=false→Calls Tryz.prog 70 #[.pointer (some ⟨b,0,none⟩),.int .i64 50] w fun r w'=>r= .returned (.tuple #[])∧Calls Tryz.prog 68 #[.pointer (some ⟨b,0,none⟩)] w' fun r w''=>∃ t,r= .returned (tv t)∧Q w''))
  (T3:Hid (q=true→Calls Tryz.prog 68 #[.pointer (some ⟨b,0,none⟩)] w fun r w''=>∃ t,r= .returned (tv t)∧Q w'')):
  Calls Tryz.prog 63 #[.pointer (some ⟨b,0,none⟩),.string X] w fun r w'=>r= .returned (.tuple #[])∧Q w':=by
 cases q with
 |false=>
  replace T2:=hide ((uq T2) rfl);clear T3;go_enter Tryz.func63,Tryz.ntmps63;go_wp2_with fail
  (refine(uq T1).mono ?_;rintro e w1 ⟨rfl,rfl⟩);go_wp2_with fail
  (refine(uq T2).mono ?_;rintro e w2 ⟨rfl,hn⟩;have HN:=hide hn;clear hn);go_wp2_with fail
  (refine(uq HN).mono ?_;rintro e w3 ⟨t,rfl,hq⟩;have HQ:=hide hq;clear hq);go_wp2_with fail
  go_end0
  exact⟨rfl,uq HQ⟩
 |true=>
  replace T3:=hide ((uq T3) rfl);clear T2;go_enter Tryz.func63,Tryz.ntmps63;go_wp2_with fail
  (refine(uq T1).mono ?_;rintro e w1 ⟨rfl,rfl⟩);go_wp2_with fail
  (refine(uq T3).mono ?_;rintro e w3 ⟨t,rfl,hq⟩;have HQ:=hide hq;clear hq);go_wp2_with fail
  go_end0
  exact⟨rfl,uq HQ⟩
theorem zaH {w:World} {b:Nat} {X:Rs} (s:List UInt8) (hs:wrd s=true) (h:Sr w b (zap X)):Calls Tryz.prog 63 #[.pointer (some ⟨b,0,none⟩),.string (sv s)] w fun r w'=>r= .returned (.tuple #[])∧Did (zau s) [] b X w w':=by
 refine zhw b (sv s) (isq s (zap X)) w _ (hide (zdl s hs h)) (hide fun hq=>?_) (hide fun hq=>?_)
 ·refine(zcG 50 (by decide) h).mono ?_;rintro r w' ⟨rfl,hf,hs'⟩;refine⟨rfl,(zbU hs').mono ?_⟩;rintro r w'' ⟨t,rfl,_,hf2,hs2,_⟩;refine⟨t,rfl,hf.trans hf2,?_⟩;rcases X with x|⟨c,r⟩
  ·exact⟨hs2,fun c r e=>by cases e⟩
  ·obtain⟨ad,cap,p,u,r',e,h1⟩:=Sr.alive (r:=r) h;subst e;have hne:u.s≠s:=by simpa [isq,zap]using hq
   have e1:bnd (.ok (c,u :: r')) (zau s)= .error (50,u.p):=by show(if u.s=s then _ else _)=_;rw[if_neg hne];rfl
   rw[e1];exact⟨hs2,fun c r e=>by cases e⟩
 ·refine(zbU h).mono ?_;rintro r w'' ⟨t,rfl,_,hf2,hs2,_⟩;refine⟨t,rfl,hf2,?_⟩;rcases X with x|⟨c,r⟩
  ·cases hq
  ·obtain⟨ad,cap,p,u,r',e,h1⟩:=Sr.alive (r:=r) h;subst e;have he:u.s=s:=by simpa [isq,zap]using hq
   have e1:bnd (.ok (c,u :: r')) (zau s)= .ok (c,r'):=by show(if u.s=s then _ else _)=_;rw[if_pos he]
   have hk:=((h1.wq.2 u List.mem_cons_self).word hs he).1;rw[e1];have:zer (zap (.ok (c,u :: r')))= .ok r':=by show(if u.k=0 then _ else _)=_;rw[if_neg hk]
   rw[this]at hs2;exact⟨hs2,fun c2 r2 e2=>by cases e2;exact⟨c,_,rfl,by simp⟩⟩
end Q
end Go.Proofs.YtfepanidippjlaaGreatDoor
namespace Go.Proofs.YtfepanidippjlaaGreatDoor
open Go.RowKit
set_option linter.unusedVariables false
set_option linter.unusedSimpArgs false
set_option maxRecDepth 10000
namespace Q
def chg (w:World) (b:Nat) (o:Obj) (os:Array Obj) (k:Nat):World:= { w with heap:=w.heap.setIfInBounds b o++os,drawn:=k }
theorem zbc (w:World) (b:Nat) (o:Obj) (os:Array Obj) (k i:Nat) (hi:i<w.heap.size) (hb:i≠b):(chg w b o os k).heap[i]? =w.heap[i]? :=by
 simp only[chg];rw[Array.getElem?_append_left (by simpa using hi),Array.getElem?_setIfInBounds_ne (fun e=>hb e.symm)]
theorem zd8 (w:World) (b:Nat) (o:Obj) (os:Array Obj) (k:Nat) (hb:b<w.heap.size):(chg w b o os k).heap[b]? =some o:=by
 simp only[chg];rw[Array.getElem?_append_left (by simpa using hb),Array.getElem?_setIfInBounds_self];simp[hb]
theorem zar {w w':World} {b:Nat} (h:Fr (fun i=>i=b) w w') (hb:b<w.heap.size):∃ o os k,w'=chg w b o os k:=by
 have hb':b<w'.heap.size:=Nat.lt_of_lt_of_le hb h.size;refine⟨w'.heap[b],w'.heap.extract w.heap.size w'.heap.size,w'.drawn,?_⟩;have e:w'.heap=w.heap.setIfInBounds b w'.heap[b]++w'.heap.extract w.heap.size w'.heap.size:=by
  apply Array.ext_getElem?;intro i
  by_cases hi:i<w.heap.size
  ·rw[Array.getElem?_append_left (by simpa using hi)];by_cases e:i=b
   ·subst e;rw[Array.getElem?_setIfInBounds_self];simp[hi,hb']
   ·rw[Array.getElem?_setIfInBounds_ne (fun x=>e x.symm),h.block i hi e]
  ·rw[Array.getElem?_append_right (by simp;omega),Array.getElem?_extract];simp only[Array.size_setIfInBounds];by_cases h6:i<w'.heap.size
   ·rw[if_pos (by omega)];congr 1;omega
   ·rw[if_neg (by omega),Array.getElem?_eq_none (by omega)]
 obtain⟨h1,h2,h3,h4,h5,_,_⟩:=h;obtain⟨a,b2,c,d,f⟩:=w';obtain⟨a',b',c',d',f'⟩:=w;simp only at h1 h2 h3 e;subst h1 h2 h3;simp only[chg];rw[← e]
@[go_sem,simp] theorem zaZ (w:World) (b:Nat) (o:Obj) (os:Array Obj) (k:Nat):(chg w b o os k).heap.size=w.heap.size+os.size:=by simp[chg]
@[go_sem] theorem zpE (w:World) (b:Nat) (o:Obj) (os:Array Obj) (k n i:Nat) (hn:n<w.heap.size) (hb:¬n=b):(chg w b o os k).cell? ⟨n,i,none⟩=w.cell? ⟨n,i,none⟩:=
 World.cell?_of_block (a:=⟨n,i,none⟩) (zbc w b o os k n hn hb)
@[go_sem] theorem zni (w:World) (b:Nat) (o:Obj) (os:Array Obj) (k n i:Nat) (hn:n<w.heap.size) (hb:¬n=b):(chg w b o os k).frozen? ⟨n,i,none⟩=w.frozen? ⟨n,i,none⟩:=
 World.frozen?_of_block (a:=⟨n,i,none⟩) (zbc w b o os k n hn hb)
@[go_sem] theorem zmn (w:World) (b:Nat) (o:Obj) (os:Array Obj) (k n i:Nat) (v:Value) (hn:n<w.heap.size) (hb:¬n=b):(chg w b o os k).setCell ⟨n,i,none⟩ v=chg (w.setCell ⟨n,i,none⟩ v) b o os k:=by
 unfold World.setCell chg
 congr 1;apply Array.ext_getElem?;intro j
 simp only[Array.getElem?_modify,Array.getElem?_append,Array.size_modify,Array.size_setIfInBounds,Array.getElem?_setIfInBounds];by_cases hj:j<w.heap.size
 ·by_cases e1:b=j
  ·subst e1;simp[hj,hb]
  ·simp[hj,e1]
 ·have:¬n=j:=by omega
  simp[hj,this]
theorem zes (w:World) (b:Nat) (o o2:Obj) (s1 s2:Array Obj) (k1 k2:Nat) (hb:b<w.heap.size):chg (chg w b o s1 k1) b o2 s2 k2=chg w b o2 (s1++s2) k2:=by
 unfold chg
 congr 1;simp only;rw[← Array.append_assoc];congr 1;apply Array.ext_getElem?;intro j
 simp only[Array.getElem?_append,Array.size_setIfInBounds,Array.getElem?_setIfInBounds,Array.size_append];by_cases e:b=j
 ·subst e;simp[hb];omega
 ·simp[e]
def SF (w:World) (b:Nat) (Y:Except Er (List Tok)) (A:World):Prop:=Fr (fun i=>i=b) w A∧Sr A b Y
theorem SF.eqv {w:World} {b:Nat} {Y:Except Er (List Tok)} {A B:World} (h:SF w b Y A) (hb:b<w.heap.size) (e:∀ i,i<w.heap.size→B.heap[i]? =A.heap[i]?) (hs:w.heap.size≤B.heap.size) (h1:B.os=A.os) (h2:B.tape=A.tape) (h3:B.output=A.output):SF w b Y B:=
 ⟨⟨h1.trans h.1.os,h2.trans h.1.tape,h3.trans h.1.output,hs,fun i hi hn=>(e i hi).trans (h.1.block i hi hn),fun i hi=>(zhl (e i hi)).trans (h.1.shape i hi),fun i hi k=>zfb (e i hi) (h.1.ones i hi k)⟩,h.2.far (fun i hi=>e i (by omega))⟩
theorem SF.keep {w:World} {b:Nat} {Y:Except Er (List Tok)} {A B:World} (h:SF w b Y A) (k:Keep A B):SF w b Y B:=⟨h.1.trans (.keep k),h.2.keep k⟩
theorem SF.step {w:World} {b:Nat} {X:Rs} {A B:World} {p:Sp} {ds:List D} (h:SF w b (zap X) A) (k:Did p ds b X A B):SF w b (zap (bnd X p)) B:=⟨h.1.trans k.1,k.2.1⟩
theorem SF.box1 {w:World} {b:Nat} {Y:Except Er (List Tok)} {o1 o1' o:Obj} {os:Array Obj} {k:Nat} (hb:b<w.heap.size) (h:SF w b Y (chg (w.alloc o1) b o os k)):SF w b Y (chg (w.alloc o1') b o os k):=by
 refine h.eqv hb (fun i hi=>?_) (by simp only[zaZ,World.size_alloc];omega) rfl rfl rfl;by_cases e:i=b
 ·subst e;rw[zd8 _ _ _ _ _ (by rw[World.size_alloc];omega),zd8 _ _ _ _ _ (by rw[World.size_alloc];omega)]
 ·rw[zbc _ _ _ _ _ _ (by rw[World.size_alloc];omega) e,zbc _ _ _ _ _ _ (by rw[World.size_alloc];omega) e,heap_alloc_old _ _ hi,heap_alloc_old _ _ hi]
theorem SF.box2 {w:World} {b:Nat} {Y:Except Er (List Tok)} {o1 o1' o2 o2' o:Obj} {os:Array Obj} {k:Nat} (hb:b<w.heap.size) (h:SF w b Y (chg ((w.alloc o1).alloc o2) b o os k)):SF w b Y (chg ((w.alloc o1').alloc o2') b o os k):=by
 refine h.eqv hb (fun i hi=>?_) (by simp only[zaZ,World.size_alloc];omega) rfl rfl rfl;by_cases e:i=b
 ·subst e;rw[zd8 _ _ _ _ _ (by rw[World.size_alloc,World.size_alloc];omega),zd8 _ _ _ _ _ (by rw[World.size_alloc,World.size_alloc];omega)]
 ·rw[zbc _ _ _ _ _ _ (by rw[World.size_alloc,World.size_alloc];omega) e,zbc _ _ _ _ _ _ (by rw[World.size_alloc,World.size_alloc];omega) e,heap_alloc_old _ _ (by rw[World.size_alloc];omega),heap_alloc_old _ _ hi,heap_alloc_old _ _ (by rw[World.size_alloc];omega),heap_alloc_old _ _ hi]
theorem zaS {w:World} {b:Nat} (hb:b<w.heap.size) {o1 o o2:Obj} {s1 s2:Array Obj} {k1 k2:Nat} :chg (chg (w.alloc o1) b o s1 k1) b o2 s2 k2=chg (w.alloc o1) b o2 (s1++s2) k2:=zes _ _ _ _ _ _ _ _ (by rw[World.size_alloc];omega)
theorem zaD {w:World} {b:Nat} (hb:b<w.heap.size) {o1 o3 o o2:Obj} {s1 s2:Array Obj} {k1 k2:Nat} :chg (chg ((w.alloc o1).alloc o3) b o s1 k1) b o2 s2 k2=chg ((w.alloc o1).alloc o3) b o2 (s1++s2) k2:=zes _ _ _ _ _ _ _ _ (by rw[World.size_alloc,World.size_alloc];omega)
@[go_sem] theorem zqN (a:Nat):a<a+1:=by omega
@[go_sem] theorem zqO (a:Nat):a<a+1+1:=by omega
end Q
end Go.Proofs.YtfepanidippjlaaGreatDoor
