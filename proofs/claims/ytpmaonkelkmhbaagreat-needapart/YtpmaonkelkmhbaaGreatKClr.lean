/- Package demand: the flow ratios of a node, over letters. -/
import Derived.Test.YtpmaonkelkmhbaaGreatDWk
import Derived.Laws.AppendOwn
import Derived.Laws.OwnMore
import Derived.Laws.MakeOwn
import Derived.OwnWalk
import Derived.Test.YtpmaonkelkmhbaaGreatLSkip
import Derived.Test.YtpmaonkelkmhbaaGreatChecked
import Derived.LoopTactic
namespace Go.Proofs.YtpmaonkelkmhbaaGreat
open Go.RowKit
attribute [local go_sem ↓] Go.wp_at_zero Go.wp_at_succ
set_option linter.unusedVariables false
set_option linter.unusedSimpArgs false
set_option maxRecDepth 10000
namespace W
def fz (Z:Nat→Int):Nat→Nat→Int
 | _,0=>0
 |k,m+1=>if Z k=0 then fz Z (k+1) m else Z k
theorem ziW {Z:Nat→Int} {k n:Nat} {r:Int} (h:fz Z k (n - k)=r) (hk:k<n) (hz:¬Z k=0):r=Z k:=by
 rw[show n - k=(n - (k+1))+1 by omega,fz,if_neg hz]at h;exact h.symm
theorem znf {Z:Nat→Int} {k n:Nat} {r:Int} (h:fz Z k (n - k)=r) (hk:k<n) (hz:Z k=0):fz Z (k+1) (n - (k+1))=r:=by
 rw[show n - k=(n - (k+1))+1 by omega,fz,if_pos hz]at h;exact h
theorem ziX {Z:Nat→Int} {k n:Nat} {r:Int} (h:fz Z k (n - k)=r) (hk:n≤k):r=0:=by
 rw[show n - k=0 by omega]at h;exact h.symm
def cp (X Y:Nat→Int):Nat→List Value
 |0=> []
 |k+1=>cp X Y k++ [.int .i64 (X k),.int .i64 (Y k)]
theorem zoA:(Tryz.prog.info? 23).map (fun i=>(i.zero,i.size,i.bytes))=some (some (.agg #[.int .i64 0,.int .i64 0]),2,16):=by kernel_rfl
theorem info_f {t:TypeId} {z:Value} {a b:Nat} (h:(Tryz.prog.info? t).map (fun i=>(i.zero,i.size,i.bytes))=some (some z,a,b)):∃ i,Tryz.prog.info? t=some i∧i.zero=some z∧i.size=a∧i.bytes=b:=by
 cases hi:Tryz.prog.info? t with
 |none=>rw[hi]at h;cases h
 |some i=>rw[hi]at h;simp at h;exact⟨i,rfl,h.1,h.2.1,h.2.2⟩
theorem own_k {w w':World} {base:Nat} {e:TypeId} {z n:Nat} {v:Value} {xs:List Value} (h:w.ownsRow base e z v n xs) (hk:Keep w w'):w'.ownsRow base e z v n xs:=
 h.kept (row:=none) ⟨hk.os,hk.tape,hk.output,hk.size,fun i hi _=>hk.block i hi⟩ (by cases v.ownBlock<;>simp)
theorem own_mono {w:World} {B B':Nat} {e:TypeId} {z n:Nat} {v:Value} {xs:List Value} (h:w.ownsRow B e z v n xs) (hb:B'≤B):w.ownsRow B' e z v n xs:=by
 obtain⟨h1,h2⟩:=h;refine⟨h1,?_⟩;rcases h2 with h2|⟨g,cap,cur,e,hg,r⟩
 ·exact .inl h2
 ·exact .inr ⟨g,cap,cur,e,by omega,r⟩
theorem add_pl (b o n:Nat):(⟨b,o,none⟩:Addr).add n=⟨b,o+n,none⟩:=by unfold Addr.add;split<;>simp_all
theorem zes (w:World) (a b:Value) (t:TypeId):∀ j u,[a,b][j]? =some u→(w.alloc (.cells #[a,b] t)).cell? ((⟨w.heap.size,0,none⟩:Addr).add j)=some u:=by
 intro j u hj
 rw[add_pl,Nat.zero_add]
 match j,hj with
 |0,hj=>simp at hj;subst hj;simp[go_sem]
 |1,hj=>simp at hj;subst hj;simp[go_sem]
 |j+2,hj=>simp at hj
theorem zik (w:World) (o:Obj) (a b:Value) (t:TypeId):∀ j u,[a,b][j]? =some u→((w.alloc o).alloc (.cells #[a,b] t)).cell? ((⟨w.heap.size+1,0,none⟩:Addr).add j)=some u:=by
 have h:=zes (w.alloc o) a b t;rw[World.size_alloc]at h;exact h
theorem zdI {w W:World} {a:Addr} {v:Value} (h:Keep w W) (hb:a.block<w.heap.size) (hc:w.cell? a=some v):W.cell? a=some v:=by rw[Below.cell h hb];exact hc
theorem ab9 (ad:Addr) (n:Nat):(ad.add n).block=ad.block:=by unfold Addr.add;split<;>rfl
def Rp (n:Nat) (X Y Z:Nat→Int) (w:World) (e:Ending) (w':World):Prop:=∃ v z,e= .returned (.tuple #[v,.int .i64 z])∧Keep w w'∧z=fz Z 0 n∧((¬z=0∧v= .slice none 0 0)∨(z=0∧w'.ownsRow w.heap.size 23 2 v n (cp X Y n)))
set_option maxHeartbeats 8000000 in
theorem ratios_core (s:ByteArray) (x1:Option Addr) (n1 c1:Nat) (x2:Option Addr) (n2 c2:Nat) (x3:Option Addr) (n3 c3:Nat) (x4:Option Addr) (n4 c4:Nat) (x5:Option Addr) (n5 c5:Nat) (p:Int) (pn pd:Int) (HN:Nat→ByteArray) (V1 V2 V3 V4 V5 V6 V7 V8 V9 V10:Nat→Int) (X Y Z:Nat→Int) (w:World) (hn:n1≤1000)
  (HC:Hid (∀ k,k<n1→∃ ad,x1=some ad∧ad.block<w.heap.size∧w.cell? (ad.add (k * 11))=some (.string (HN k))∧w.cell? ⟨(ad.add (k * 11)).block,(ad.add (k * 11)).off+1,none⟩=some (.int .i64 (V1 k))∧w.cell? ⟨(ad.add (k * 11)).block,(ad.add (k * 11)).off+2,none⟩=some (.int .i64 (V2 k))∧w.cell? ⟨(ad.add (k * 11)).block,(ad.add (k * 11)).off+3,none⟩=some (.int .i64 (V3 k))∧w.cell? ⟨(ad.add (k * 11)).block,(ad.add (k * 11)).off+4,none⟩=some (.int .i64 (V4 k))∧w.cell? ⟨(ad.add (k * 11)).block,(ad.add (k * 11)).off+5,none⟩=some (.int .i64 (V5 k))∧w.cell? ⟨(ad.add (k * 11)).block,(ad.add (k * 11)).off+6,none⟩=some (.int .i64 (V6 k))∧w.cell? ⟨(ad.add (k * 11)).block,(ad.add (k * 11)).off+7,none⟩=some (.int .i64 (V7 k))∧w.cell? ⟨(ad.add (k * 11)).block,(ad.add (k * 11)).off+8,none⟩=some (.int .i64 (V8 k))∧w.cell? ⟨(ad.add (k * 11)).block,(ad.add (k * 11)).off+9,none⟩=some (.int .i64 (V9 k))∧w.cell? ⟨(ad.add (k * 11)).block,(ad.add (k * 11)).off+10,none⟩=some (.int .i64 (V10 k))))
  (T:Hid (∀ k,k<n1→∀ w,Calls Tryz.prog 98 #[.agg #[.string (HN k),.int .i64 (V1 k),.int .i64 (V2 k),.int .i64 (V3 k),.int .i64 (V4 k),.int .i64 (V5 k),.int .i64 (V6 k),.int .i64 (V7 k),.int .i64 (V8 k),.int .i64 (V9 k),.int .i64 (V10 k)],.agg #[.int .i64 pn,.int .i64 pd]] w fun e w'=>e= .returned (.tuple #[.agg #[.int .i64 (X k),.int .i64 (Y k)],.int .i64 (Z k)])∧Keep w w')):
  Calls Tryz.prog 75 #[.agg #[.string s,.slice x1 n1 c1,.slice x2 n2 c2,.slice x3 n3 c3,.slice x4 n4 c4,.slice x5 n5 c5,.int .i64 p],.agg #[.int .i64 pn,.int .i64 pd]] w (Rp n1 X Y Z w):=by
 obtain⟨i0,hi,hz0,hz1,hz2⟩:=info_f zoA;have HRR:Hid (fz Z 0 (n1 - 0)=fz Z 0 n1):=hide rfl;obtain⟨r,hr⟩:∃ r,fz Z 0 n1=r:=⟨_,rfl⟩;rw[hr]at HRR;have HR:=hide hr;clear hr;obtain⟨ZZ,hZ,hmk⟩:∃ ZZ:Array Value,ZZ.size=n1 * 2∧∀ w,(Instr.makeSlice 105 (.int .i64 0) (.int .i64 (n1:Int))).run Tryz.prog w= .ok (.slice (some ⟨w.heap.size,0,none⟩) 0 n1) (w.alloc (.cells ZZ 23)):=by
  refine⟨madeCells (Value.agg #[.int .i64 0,.int .i64 0]).cells (n1 * 2),by simp[size_madeCells],fun w=>?_⟩;have h:=run_make (P:=Tryz.prog) w 105 23 i0 _ Tryz.underlying105 hi hz0 .i64 .i64 0 (n1:Int) (by omega) (by omega) (by rw[hz2];omega) (by omega);rw[hz1]at h;simpa using h
 have hnw:=heap_alloc_new w (.cells #[.string s,.slice x1 n1 c1,.slice x2 n2 c2,.slice x3 n3 c3,.slice x4 n4 c4,.slice x5 n5 c5,.int .i64 p] 39);have hnw2:=heap_alloc_new (w.alloc (.cells #[.string s,.slice x1 n1 c1,.slice x2 n2 c2,.slice x3 n3 c3,.slice x4 n4 c4,.slice x5 n5 c5,.int .i64 p] 39)) (.cells #[.int .i64 pn,.int .i64 pd] 23);have hnw1:((w.alloc (.cells #[.string s,.slice x1 n1 c1,.slice x2 n2 c2,.slice x3 n3 c3,.slice x4 n4 c4,.slice x5 n5 c5,.int .i64 p] 39)).alloc (.cells #[.int .i64 pn,.int .i64 pd] 23)).heap[w.heap.size]? =some (.cells #[.string s,.slice x1 n1 c1,.slice x2 n2 c2,.slice x3 n3 c3,.slice x4 n4 c4,.slice x5 n5 c5,.int .i64 p] 39 (0,0)):=by rw[heap_alloc_old _ _ (by simp)];exact hnw
 have K1:=hide (((Keep.refl w).alloc (.cells #[.string s,.slice x1 n1 c1,.slice x2 n2 c2,.slice x3 n3 c3,.slice x4 n4 c4,.slice x5 n5 c5,.int .i64 p] 39)).alloc (.cells #[.int .i64 pn,.int .i64 pd] 23));rw[World.size_alloc]at hnw2;clear hnw;go_enter Tryz.func75,Tryz.ntmps75
 go_upto_region 1 with fail
 generalize (w.alloc (.cells #[.string s,.slice x1 n1 c1,.slice x2 n2 c2,.slice x3 n3 c3,.slice x4 n4 c4,.slice x5 n5 c5,.int .i64 p] 39)).alloc (.cells #[.int .i64 pn,.int .i64 pd] 23)=wb at hnw1 hnw2 K1 ⊢;obtain⟨q,HQ⟩:∃ q,Hid (w.heap.size=q):=⟨_,hide rfl⟩;rw[uq HQ]at hnw1 hnw2 ⊢;have HX:Hid (∀ w':World,Keep wb w'→w'.cell? ⟨q,1,none⟩=some (.slice x1 n1 c1)∧w'.cell? ⟨q+1,0,none⟩=some (.int .i64 pn)∧w'.cell? ⟨q+1,1,none⟩=some (.int .i64 pd)):=hide (fun w' k9=>by
  have h1:=k9.block q (Array.getElem?_eq_some_iff.1 hnw1).1;have h2:=k9.block (q+1) (Array.getElem?_eq_some_iff.1 hnw2).1;rw[hnw1]at h1;rw[hnw2]at h2;refine⟨?_,?_,?_⟩<;>simp[World.cell?,h1,h2])
 clear hnw1 hnw2;have hrow0:=hide (World.ownsRow_made (base:=wb.heap.size) (e:=23) (size:=2) wb ZZ n1 (Nat.le_refl _) (by unfold maxLen;omega) hZ);obtain⟨f1,f2,f3⟩:=(uq HX) wb (Keep.refl _);have lq0:q<wb.heap.size:=World.block_lt_of_cell? wb _ f1;go_wp2_with fail
 clear f1 f2 f3 lq0
 go_loopw [6,18] (fun vs vi wr=>∃ k:Nat,k≤n1∧vi= .int .i64 (k:Int)∧Hid (wr.ownsRow wb.heap.size 23 2 vs k (cp X Y k))∧Hid (fz Z k (n1 - k)=r)∧Hid (Keep wb wr)) (fun vs vi _=>n1 - (intOf vi).toNat)
 case atStart=>exact⟨0,Nat.zero_le _,rfl,hrow0,HRR,hide ((Keep.refl wb).alloc _)⟩
 case round=>
  obtain⟨k,hk,rfl,HROW,HFZ,HK⟩:=hrel;by_cases hlt:k<n1
  ·have li:(k:Int)<(n1:Int):=by omega
   obtain⟨ad,rfl,hb,e0,e1,e2,e3,e4,e5,e6,e7,e8,e9,e10⟩:=(uq HC) k hlt;have KW:=hide ((uq K1).trans (uq HK));have x0:=zdI (uq KW) (by show(ad.add (k * 11)).block<_;rw[ab9];exact hb) e0;have x1':=zdI (uq KW) (by show(ad.add (k * 11)).block<_;rw[ab9];exact hb) e1;have x2':=zdI (uq KW) (by show(ad.add (k * 11)).block<_;rw[ab9];exact hb) e2;have x3':=zdI (uq KW) (by show(ad.add (k * 11)).block<_;rw[ab9];exact hb) e3;have x4':=zdI (uq KW) (by show(ad.add (k * 11)).block<_;rw[ab9];exact hb) e4;have x5':=zdI (uq KW) (by show(ad.add (k * 11)).block<_;rw[ab9];exact hb) e5;have x6':=zdI (uq KW) (by show(ad.add (k * 11)).block<_;rw[ab9];exact hb) e6;have x7':=zdI (uq KW) (by show(ad.add (k * 11)).block<_;rw[ab9];exact hb) e7;have x8':=zdI (uq KW) (by show(ad.add (k * 11)).block<_;rw[ab9];exact hb) e8;have x9':=zdI (uq KW) (by show(ad.add (k * 11)).block<_;rw[ab9];exact hb) e9;have x10':=zdI (uq KW) (by show(ad.add (k * 11)).block<_;rw[ab9];exact hb) e10;clear e0 e1 e2 e3 e4 e5 e6 e7 e8 e9 e10;obtain⟨f1,f2,f3⟩:=(uq HX) wr (uq HK);have TT:=hide ((uq T) k hlt);have lq:q+1<wr.heap.size:=World.block_lt_of_cell? wr _ f2;have hsz:=Below.size (uq HK);clear f1;go_wp2_with fail
   refine((uq TT) _).mono ?_;rintro e w2 ⟨rfl,hk2⟩;have HK2:=hide (((uq HK).alloc _).trans hk2);have HROW2:=hide (own_k (own_k (uq HROW) ((Keep.refl wr).alloc _)) hk2);clear hk2 f2 f3 lq x0 x1' x2' x3' x4' x5' x6' x7' x8' x9' x10';have hsz2:=Below.size (uq HK2);by_cases hz:Z k=0
   ·have HF2:=hide (znf (uq HFZ) hlt hz);have hzb:(Z k !=0)=false:=by simp[hz]
    obtain⟨xk,hxk⟩:∃ x,X k=x:=⟨_,rfl⟩;obtain⟨yk,hyk⟩:∃ x,Y k=x:=⟨_,rfl⟩;have HCP:Hid (cp X Y (k+1)=cp X Y k++ [.int .i64 xk,.int .i64 yk]):=hide (by rw[← hxk,← hyk];rfl);rw[hxk,hyk,hz];clear hxk hyk hz hzb;have hkk:k≤1000:=by omega
    go_wp2_with (at_builtin;refine wpList_append_own _ rfl _ _ 105 rfl wb.heap.size 23 i0 _ 2 16 Tryz.underlying105 hi hz0 hz1 hz2 rfl (by decide) _ _ _ rfl (((uq HROW2).alloc _).alloc _) ⟨w2.heap.size+1,0,none⟩ 1 1 [.int .i64 xk,.int .i64 yk] rfl rfl (zik w2 _ _ _ _) (by simp[Value.oneCell']) (by unfold maxLen;omega) (by omega) (by simp;omega) ?_;intro v' w4 hown' hgrow hnil;have HOWN:=hide hown';have HK4:Hid (Keep wb w4):=hide (Below.grown (((uq HK2).alloc _).alloc _) hgrow (by simp;omega) (fun j ej=>((uq HROW2).lt j ej).1));clear hown' hgrow hnil)
    go_roundw
    case rel=>exact⟨k+1,hlt,by go_num,by rw[uq HCP];exact HOWN,HF2,HK4⟩
    case measure=>simp[intOf];omega
   ·have hr0:=ziW (uq HFZ) hlt hz;have hzb:(Z k !=0)=true:=by simp[hz]
    have HR0:=hide hr0;have HZ:=hide hz;clear hr0 hz;go_wp2_with fail
    go_ret2;refine⟨_,_,rfl,(uq K1).trans ((uq HK2).alloc _),?_,.inl ⟨uq HZ,rfl⟩⟩;rw[uq HR,uq HR0]
  ·have li:¬(k:Int)<(n1:Int):=by omega
   have e:k=n1:=by omega
   subst e;have hr0:=ziX (uq HFZ) (Nat.le_refl _);have HR0:=hide hr0;clear hr0;go_wp2_with fail
   go_ret2;exact⟨_,_,rfl,(uq K1).trans (uq HK),by rw[uq HR,uq HR0],.inr ⟨rfl,own_mono (uq HROW) (uq K1).size⟩⟩
end W
namespace W
theorem zlh:(Tryz.prog.info? 105).map (fun i=>(i.zero,i.size,i.bytes))=some (some (.slice none 0 0),1,24):=by kernel_rfl
theorem own_blk {w:World} {B:Nat} {T:TypeId} {z:Nat} {v:Value} {n:Nat} {xs:List Value} (h:w.ownsRow B T z v n xs):∀ k,v.ownBlock=some k→∃ cur,w.heap[k]? =some (.cells cur T (0,0)):=by
 intro k hk
 rcases h.2 with ⟨rfl,_⟩|⟨g,cap,cur,rfl,_,hb,_⟩
 ·cases hk
 ·cases hk;exact⟨cur,hb⟩
theorem own_other {w w':World} {B:Nat} {e T:TypeId} {z n:Nat} {v:Value} {xs:List Value} {row:Option Nat} (h:w.ownsRow B e z v n xs) (hg:w.grownBy w' row) (hT:T≠e) (hr:∀ k,row=some k→∃ cur,w.heap[k]? =some (.cells cur T (0,0))):w'.ownsRow B e z v n xs:=by
 obtain⟨h1,h2⟩:=h;refine⟨h1,?_⟩;rcases h2 with h2|⟨g,cap,cur,e1,hg1,hh,r⟩
 ·exact .inl h2
 ·have hlt:g<w.heap.size:=(Array.getElem?_eq_some_iff.1 hh).1;have hne:some g≠row:=by
   intro h
   obtain⟨cur2,h3⟩:=hr g h.symm;rw[hh]at h3;injection h3 with h4
   injection h4 with h5 h6
   exact hT h6.symm
  exact .inr ⟨g,cap,cur,e1,hg1,by rw[hg.block g hlt hne];exact hh,r⟩
def Tr (w:World) (rows:List Value) (n:Nat) (N:Nat→Nat) (X Y:Nat→Nat→Int):Prop:=rows.length=n∧∀ i,i<n→w.ownsRow 0 23 2 (rows.getD i (.bool false)) (N i) (cp (X i) (Y i) (N i))
def Tb (w:World) (v:Value) (n:Nat) (N:Nat→Nat) (X Y:Nat→Nat→Int):Prop:=∃ rows,w.ownsRow 0 105 1 v n rows∧Tr w rows n N X Y
theorem Tr.keep {w w':World} {rows:List Value} {n:Nat} {N:Nat→Nat} {X Y:Nat→Nat→Int} (h:Tr w rows n N X Y) (k:Keep w w'):Tr w' rows n N X Y:=⟨h.1,fun i hi=>own_k (h.2 i hi) k⟩
theorem Tr.grown {w w':World} {rows:List Value} {n:Nat} {N:Nat→Nat} {X Y:Nat→Nat→Int} {row:Option Nat} (h:Tr w rows n N X Y) (hg:w.grownBy w' row) (hr:∀ k,row=some k→∃ cur,w.heap[k]? =some (.cells cur 105 (0,0))):Tr w' rows n N X Y:=⟨h.1,fun i hi=>own_other (h.2 i hi) hg (by decide) hr⟩
theorem Tr.snoc {w:World} {rows:List Value} {n:Nat} {N:Nat→Nat} {X Y:Nat→Nat→Int} {v:Value} (h:Tr w rows n N X Y) (hv:w.ownsRow 0 23 2 v (N n) (cp (X n) (Y n) (N n))):Tr w (rows++ [v]) (n+1) N X Y:=by
 refine⟨by rw[List.length_append,h.1];rfl,fun i hi=>?_⟩;by_cases hlt:i<n
 ·rw[List.getD_eq_getElem?_getD,List.getElem?_append_left (by rw[h.1];exact hlt),← List.getD_eq_getElem?_getD];exact h.2 i hlt
 ·have:i=n:=by omega
  subst this;rw[List.getD_eq_getElem?_getD,List.getElem?_append_right (by rw[h.1];exact Nat.le_refl _),h.1,Nat.sub_self];exact hv
theorem Tr.nil (w:World) (N:Nat→Nat) (X Y:Nat→Nat→Int):Tr w [] 0 N X Y:=⟨rfl,fun i hi=>by omega⟩
theorem zli (w:World) (a:Value) (t:TypeId):∀ j u,[a][j]? =some u→(w.alloc (.cells #[a] t)).cell? ((⟨w.heap.size,0,none⟩:Addr).add j)=some u:=by
 intro j u hj
 rw[add_pl,Nat.zero_add]
 match j,hj with
 |0,hj=>simp at hj;subst hj;simp[go_sem]
 |j+1,hj=>simp at hj
def tz (N:Nat→Nat) (Z:Nat→Nat→Int) (n:Nat):Int:=fz (fun i=>fz (Z i) 0 (N i)) 0 n
def Tq (n:Nat) (N:Nat→Nat) (X Y Z:Nat→Nat→Int) (w:World) (e:Ending) (w':World):Prop:=∃ v z,e= .returned (.tuple #[v,.int .i64 z])∧Keep w w'∧z=tz N Z n∧((¬z=0∧v= .slice none 0 0)∨(z=0∧Tb w' v n N X Y))
set_option maxHeartbeats 8000000 in
theorem table_core (a0 a1 a2 a3 a4:Int) (aN:Option Addr) (nN cN:Nat) (aS:Option Addr) (nS cS:Nat) (a5 a6:Int) (T:Nat→ByteArray) (X1 X2 X3 X4 X5:Nat→Option Addr) (N1 C1 N2 C2 N3 C3 N4 C4 N5 C5:Nat→Nat) (P:Nat→Int) (X Y Z:Nat→Nat→Int) (w:World) (hn:nN≤1000)
  (HC:Hid (∀ k,k<nN→∃ ad,aN=some ad∧ad.block<w.heap.size∧w.cell? (ad.add (k * 7))=some (.string (T k))∧w.cell? ⟨(ad.add (k * 7)).block,(ad.add (k * 7)).off+1,none⟩=some (.slice (X1 k) (N1 k) (C1 k))∧w.cell? ⟨(ad.add (k * 7)).block,(ad.add (k * 7)).off+2,none⟩=some (.slice (X2 k) (N2 k) (C2 k))∧w.cell? ⟨(ad.add (k * 7)).block,(ad.add (k * 7)).off+3,none⟩=some (.slice (X3 k) (N3 k) (C3 k))∧w.cell? ⟨(ad.add (k * 7)).block,(ad.add (k * 7)).off+4,none⟩=some (.slice (X4 k) (N4 k) (C4 k))∧w.cell? ⟨(ad.add (k * 7)).block,(ad.add (k * 7)).off+5,none⟩=some (.slice (X5 k) (N5 k) (C5 k))∧w.cell? ⟨(ad.add (k * 7)).block,(ad.add (k * 7)).off+6,none⟩=some (.int .i64 (P k))))
  (TR:Hid (∀ k,k<nN→∀ w',Keep w w'→Calls Tryz.prog 75 #[.agg #[.string (T k),.slice (X1 k) (N1 k) (C1 k),.slice (X2 k) (N2 k) (C2 k),.slice (X3 k) (N3 k) (C3 k),.slice (X4 k) (N4 k) (C4 k),.slice (X5 k) (N5 k) (C5 k),.int .i64 (P k)],.agg #[.int .i64 a3,.int .i64 a4]] w' (Rp (N1 k) (X k) (Y k) (Z k) w'))):
  Calls Tryz.prog 55 #[.agg #[.int .i64 a0,.int .i64 a1,.int .i64 a2,.int .i64 a3,.int .i64 a4,.slice aN nN cN,.slice aS nS cS,.int .i64 a5,.int .i64 a6]] w (Tq nN N1 X Y Z w):=by
 obtain⟨i0,hi,hz0,hz1,hz2⟩:=info_f zlh;obtain⟨ZS,hZS⟩:∃ ZS:Nat→Int,ZS=fun i=>fz (Z i) 0 (N1 i):=⟨_,rfl⟩
 have HZS:Hid (∀ i,ZS i=fz (Z i) 0 (N1 i)):=hide (fun i=>by rw[hZS]);obtain⟨r,hr⟩:∃ r,tz N1 Z nN=r:=⟨_,rfl⟩;have HRR:Hid (fz ZS 0 (nN - 0)=r):=hide (by rw[hZS,← hr];rfl);have HR:=hide hr;clear hr hZS;obtain⟨ZZ,hZ,hmk⟩:∃ ZZ:Array Value,ZZ.size=nN * 1∧∀ w,(Instr.makeSlice 128 (.int .i64 0) (.int .i64 (nN:Int))).run Tryz.prog w= .ok (.slice (some ⟨w.heap.size,0,none⟩) 0 nN) (w.alloc (.cells ZZ 105)):=by
  refine⟨madeCells (Value.slice none 0 0).cells (nN * 1),by simp[size_madeCells],fun w=>?_⟩;have h:=run_make (P:=Tryz.prog) w 128 105 i0 _ Tryz.underlying128 hi hz0 .i64 .i64 0 (nN:Int) (by omega) (by omega) (by rw[hz2];omega) (by omega);rw[hz1]at h;simpa using h
 have hnw:=heap_alloc_new w (.cells #[.int .i64 a0,.int .i64 a1,.int .i64 a2,.int .i64 a3,.int .i64 a4,.slice aN nN cN,.slice aS nS cS,.int .i64 a5,.int .i64 a6] 27);have K1:=hide ((Keep.refl w).alloc (.cells #[.int .i64 a0,.int .i64 a1,.int .i64 a2,.int .i64 a3,.int .i64 a4,.slice aN nN cN,.slice aS nS cS,.int .i64 a5,.int .i64 a6] 27));go_enter Tryz.func55,Tryz.ntmps55
 go_upto_region 1 with fail
 generalize w.alloc (.cells #[.int .i64 a0,.int .i64 a1,.int .i64 a2,.int .i64 a3,.int .i64 a4,.slice aN nN cN,.slice aS nS cS,.int .i64 a5,.int .i64 a6] 27)=wb at hnw K1 ⊢;obtain⟨q,HQ⟩:∃ q,Hid (w.heap.size=q):=⟨_,hide rfl⟩;rw[uq HQ]at hnw ⊢;have HX:Hid (∀ w':World,Keep wb w'→w'.cell? ⟨q,5,none⟩=some (.slice aN nN cN)∧w'.cell? ⟨q,3,none⟩=some (.int .i64 a3)∧w'.cell? ⟨q,4,none⟩=some (.int .i64 a4)):=hide (fun w' k9=>by
  have h1:=k9.block q (Array.getElem?_eq_some_iff.1 hnw).1;rw[hnw]at h1;refine⟨?_,?_,?_⟩<;>simp[World.cell?,h1])
 clear hnw;have hrow0:=hide (World.ownsRow_made (base:=wb.heap.size) (e:=105) (size:=1) wb ZZ nN (Nat.le_refl _) (by unfold maxLen;omega) hZ);obtain⟨f1,f2,f3⟩:=(uq HX) wb (Keep.refl _);have lq0:q<wb.heap.size:=World.block_lt_of_cell? wb _ f1;go_wp2_with fail
 clear f1 f2 f3 lq0
 go_loopw [4,16] (fun vs vi wr=>∃(k:Nat) (rows:List Value),k≤nN∧vi= .int .i64 (k:Int)∧Hid (wr.ownsRow wb.heap.size 105 1 vs k rows)∧Hid (Tr wr rows k N1 X Y)∧Hid (fz ZS k (nN - k)=r)∧Hid (Keep wb wr)) (fun vs vi _=>nN - (intOf vi).toNat)
 case atStart=>exact⟨0,[],Nat.zero_le _,rfl,hrow0,hide (Tr.nil _ _ _ _),HRR,hide ((Keep.refl wb).alloc _)⟩
 case round=>
  obtain⟨k,rows,hk,rfl,HROW,HTR,HFZ,HK⟩:=hrel;by_cases hlt:k<nN
  ·have li:(k:Int)<(nN:Int):=by omega
   obtain⟨ad,rfl,hb,e0,e1,e2,e3,e4,e5,e6⟩:=(uq HC) k hlt;have KW:=hide ((uq K1).trans (uq HK));have y0:=zdI (uq KW) (by show(ad.add (k * 7)).block<_;rw[ab9];exact hb) e0;have y1:=zdI (uq KW) (by show(ad.add (k * 7)).block<_;rw[ab9];exact hb) e1;have y2:=zdI (uq KW) (by show(ad.add (k * 7)).block<_;rw[ab9];exact hb) e2;have y3:=zdI (uq KW) (by show(ad.add (k * 7)).block<_;rw[ab9];exact hb) e3;have y4:=zdI (uq KW) (by show(ad.add (k * 7)).block<_;rw[ab9];exact hb) e4;have y5:=zdI (uq KW) (by show(ad.add (k * 7)).block<_;rw[ab9];exact hb) e5;have y6:=zdI (uq KW) (by show(ad.add (k * 7)).block<_;rw[ab9];exact hb) e6;clear e0 e1 e2 e3 e4 e5 e6;obtain⟨f1,f2,f3⟩:=(uq HX) wr (uq HK);have TT:=hide ((uq TR) k hlt);have lq:q<wr.heap.size:=World.block_lt_of_cell? wr _ f2;have hsz:=Below.size (uq HK);clear f1;go_wp2_with fail
   refine((uq TT) _ ((uq KW).alloc _)).mono ?_;rintro e w2 ⟨rv,z,rfl,hk2,hze,hres⟩;have HK2:=hide (((uq HK).alloc _).trans hk2);have HROW2:=hide (own_k (own_k (uq HROW) ((Keep.refl wr).alloc _)) hk2);have HTR2:=hide (((uq HTR).keep ((Keep.refl wr).alloc _)).keep hk2);have HZE:Hid (z=ZS k):=hide (hze.trans ((uq HZS) k).symm);have HRES:=hide hres;clear hk2 hze hres f2 f3 lq y0 y1 y2 y3 y4 y5 y6;have hsz2:=Below.size (uq HK2);by_cases hz:z=0
   ·subst hz;have HF2:=hide (znf (uq HFZ) hlt (uq HZE).symm);have HRV:Hid (w2.ownsRow 0 23 2 rv (N1 k) (cp (X k) (Y k) (N1 k))):=hide (by
     rcases uq HRES with ⟨h,_⟩|⟨_,h⟩
     ·exact absurd rfl h
     ·exact own_mono h (Nat.zero_le _))
    obtain⟨ra,rn,rc,hrv⟩:∃ a n c,rv= .slice a n c:=by
     rcases(uq HRV).2 with ⟨h,_⟩|⟨g,cap,cur,h,_⟩<;>exact⟨_,_,_,h⟩
    subst hrv;clear HRES HZE;have hkk:k≤1000:=by omega
    go_wp2_with (at_builtin;refine wpList_append_own _ rfl _ _ 128 rfl wb.heap.size 105 i0 _ 1 24 Tryz.underlying128 hi hz0 hz1 hz2 rfl (by decide) _ _ _ rfl ((uq HROW2).alloc _) ⟨w2.heap.size,0,none⟩ 1 1 [.slice ra rn rc] rfl rfl (zli w2 _ _) (by simp[Value.oneCell']) (by unfold maxLen;omega) (by omega) (by simp;omega) ?_;intro v' w4 hown' hgrow hnil;have HOWN:=hide hown';have HK4:Hid (Keep wb w4):=hide (Below.grown ((uq HK2).alloc _) hgrow (by simp;omega) (fun j ej=>((uq HROW2).lt j ej).1));have HTR4:Hid (Tr w4 (rows++ [.slice ra rn rc]) (k+1) N1 X Y):=hide (Tr.grown (((uq HTR2).snoc (uq HRV)).keep ((Keep.refl w2).alloc _)) hgrow (own_blk ((uq HROW2).alloc _)));clear hown' hgrow hnil)
    go_roundw
    case rel=>exact⟨k+1,rows++ [.slice ra rn rc],hlt,by go_num,HOWN,HTR4,HF2,HK4⟩
    case measure=>simp[intOf];omega
   ·have hr0:r=z:=by
     have h:=ziW (uq HFZ) hlt (by rw[← uq HZE];exact hz);rw[h,← uq HZE]
    have hzb:(z !=0)=true:=by simp[hz]
    have HR0:=hide hr0;have HZ:=hide hz;clear hr0 hz HZE;go_wp2_with fail
    go_ret2;refine⟨_,_,rfl,(uq K1).trans (uq HK2),?_,.inl ⟨uq HZ,rfl⟩⟩;rw[uq HR,uq HR0]
  ·have li:¬(k:Int)<(nN:Int):=by omega
   have e:k=nN:=by omega
   subst e;have hr0:=ziX (uq HFZ) (Nat.le_refl _);have HR0:=hide hr0;clear hr0;go_wp2_with fail
   go_ret2;exact⟨_,_,rfl,(uq K1).trans (uq HK),by rw[uq HR,uq HR0],.inr ⟨rfl,rows,own_mono (uq HROW) (Nat.zero_le _),uq HTR⟩⟩
end W
end Go.Proofs.YtpmaonkelkmhbaaGreat
namespace Go.Proofs.YtpmaonkelkmhbaaGreat
open Go.RowKit
set_option linter.unusedVariables false
def up (n d:Int):Int:=n / d+(if n % d=0 then 0 else 1)
theorem zng {n d k:Int} (hd:0<d):up (n+k * d) d=up n d+k:=by
 unfold up
 rw[Int.add_mul_ediv_right _ _ (by omega),Int.add_mul_emod_self_right];omega
def yK (s g:Int):Bool:=decide (1≤s∧s≤10000∧ -200≤g∧g≤200)
def rK (a b s:Int):Bool:=decide (0≤a∧a≤100000∧0≤b∧b≤100000∧1≤s∧s≤10000)
def fK (a s:Int):Bool:=decide (1≤a∧a≤100000∧1≤s∧s≤10000)
def yN (s g:Int):Int:=if yK s g then 10+up (10000 * s) (610000+1962 * g)else 0
def yE (s g:Int):Int:=if yK s g then 0 else 1
def rN (a b s:Int):Int:=if rK a b s then up (10 * (a+b)) s else 0
def rE (a b s:Int):Int:=if rK a b s then 0 else 1
def fN (a s:Int):Int:=if fK a s then up (10 * a) s else 0
def fE (a s:Int):Int:=if fK a s then 0 else 1
end Go.Proofs.YtpmaonkelkmhbaaGreat
namespace Go.Proofs.YtpmaonkelkmhbaaGreat
open Go.RowKit
set_option linter.unusedVariables false
set_option linter.unusedSimpArgs false
set_option maxRecDepth 10000
set_option maxHeartbeats 400000 in
theorem zlj (a b t:Int) (w:World) (h2:a≤9223372036854775807) (h4:b≤9223372036854775807) (ha:0≤a) (hb:0<b) (e1:a.tdiv b=t) (e2:a.tmod b=0) (e3:a / b=t) (e4:a % b=0) (t1:0≤t) (t2:t≤9223372036854775807):
  Calls Tryz.prog 83 #[.int .i64 a,.int .i64 b] w fun e w'=>e= .returned (.tuple #[.int .i64 t,.int .i64 0])∧w'=w:=by
 have hda:decide (a<0)=false:=by simp;omega
 have hdb:decide (b<0)=false:=by simp;omega
 have hz:(b==0)=false:=by simp;omega
 have hx1:(a== -9223372036854775808)=false:=by simp;omega
 go_enter Tryz.func83,Tryz.ntmps83;go_wp2;go_ret2;exact⟨rfl,rfl⟩
set_option maxHeartbeats 400000 in
theorem zlk (a b t m:Int) (w:World) (h2:a≤9223372036854775807) (h4:b≤9223372036854775807) (ha:0≤a) (hb:0<b) (e1:a.tdiv b=t) (e2:a.tmod b=m) (e3:a / b=t) (e4:a % b=m) (hm:(m==0)=false) (hm':¬m=0) (t1:0≤t) (t2:t≤4611686018427387904):
  Calls Tryz.prog 83 #[.int .i64 a,.int .i64 b] w fun e w'=>e= .returned (.tuple #[.int .i64 (t+1),.int .i64 0])∧w'=w:=by
 have hmn:(m !=0)=true:=by simp[hm']
 have hda:decide (a<0)=false:=by simp;omega
 have hdb:decide (b<0)=false:=by simp;omega
 have hz:(b==0)=false:=by simp;omega
 have hx1:(a== -9223372036854775808)=false:=by simp;omega
 go_enter Tryz.func83,Tryz.ntmps83;go_wp2;go_ret2;exact⟨rfl,rfl⟩
theorem zet (a b:Int) (w:World) (h2:a≤4611686018427387904) (h4:b≤9223372036854775807) (ha:0≤a) (hb:0<b):
  Calls Tryz.prog 83 #[.int .i64 a,.int .i64 b] w fun e w'=>e= .returned (.tuple #[.int .i64 (up a b),.int .i64 0])∧w'=w:=by
 have d0:0≤a / b:=Int.ediv_nonneg ha (by omega);have d1:a / b≤a:=Int.ediv_le_self _ ha;have e1:a.tdiv b=a / b:=Int.tdiv_eq_ediv_of_nonneg ha;have e2:a.tmod b=a % b:=Int.tmod_eq_emod_of_nonneg ha;by_cases hm:a % b=0
 ·rw[show up a b=a / b by unfold up;rw[if_pos hm];omega];exact zlj a b _ w (by omega) h4 ha hb e1 (by omega) rfl hm d0 (by omega)
 ·rw[show up a b=a / b+1 by unfold up;rw[if_neg hm]];exact zlk a b _ _ w (by omega) h4 ha hb e1 e2 rfl rfl (by simpa using hm) hm d0 (by omega)
def Bds (w:World) (ad:Addr) (n:Nat) (f:Nat→Int×Int×Int):Prop:=ad.block<w.heap.size∧∀ k,k<n→w.cell? (ad.add (k * 3))=some (.int .i64 (f k).1)
 ∧w.cell? ⟨(ad.add (k * 3)).block,(ad.add (k * 3)).off+1,none⟩=some (.int .i64 (f k).2.1)∧w.cell? ⟨(ad.add (k * 3)).block,(ad.add (k * 3)).off+2,none⟩=some (.int .i64 (f k).2.2)
theorem zcf (ad:Addr) (n:Nat):(ad.add n).block=ad.block:=by unfold Addr.add;split<;>rfl
theorem Bds.keep {w w':World} {ad:Addr} {n:Nat} {f:Nat→Int×Int×Int} (h:Bds w ad n f) (hk:Keep w w'):Bds w' ad n f:=by
 have hs:=Below.size hk;have hb:=h.1;refine⟨by omega,fun k hlt=>?_⟩;obtain⟨h4,h5,h6⟩:=h.2 k hlt;refine⟨?_,?_,?_⟩
 ·rw[Below.cell hk (by rw[zcf];exact hb)];exact h4
 ·rw[Below.cell (p:=⟨(ad.add (k * 3)).block,(ad.add (k * 3)).off+1,none⟩) hk (by show(ad.add (k * 3)).block<_;rw[zcf];exact hb)];exact h5
 ·rw[Below.cell (p:=⟨(ad.add (k * 3)).block,(ad.add (k * 3)).off+2,none⟩) hk (by show(ad.add (k * 3)).block<_;rw[zcf];exact hb)];exact h6
set_option maxHeartbeats 2000000 in
theorem zcU (ad:Addr) (n cap:Nat) (f:Nat→Int×Int×Int) (r:Bool) (w:World) (hn:n≤50) (HB:Hid (Bds w ad n f))
  (H1:Hid (∀ k,k<n→((f k).1<(f k).2.1∨(f k).2.2<(f k).1)→r=false)) (H2:Hid ((∀ k,k<n→(f k).2.1≤(f k).1∧(f k).1≤(f k).2.2)→r=true)):
  Calls Tryz.prog 82 #[.slice (some ad) n cap] w fun e w'=>e= .returned (.bool r)∧Keep w w':=by
 go_enter Tryz.func82,Tryz.ntmps82;go_wp2_with fail
 go_loopw [7] (fun iv wr=>∃ k:Nat,iv= .int .i64 (k:Int)∧k≤n∧Hid (∀ j,j<k→(f j).2.1≤(f j).1∧(f j).1≤(f j).2.2)∧Hid (Keep w wr)) (fun iv _=>n - (intOf iv).toNat)
 case atStart=>exact⟨0,rfl,by omega,hide fun j hj=>by omega,hide (Keep.refl _)⟩
 case round=>
  obtain⟨k,rfl,hk,HS,KW⟩:=hrel;by_cases hlt:k<n
  ·have li:(k:Int)<(n:Int):=by omega
   obtain⟨c0,c1,c2⟩:=((uq HB).keep (uq KW)).2 k hlt;have HQ:=hide ((uq H1) k hlt);have HT:Hid (((f k).2.1≤(f k).1∧(f k).1≤(f k).2.2)→∀ j,j<k+1→(f j).2.1≤(f j).1∧(f j).1≤(f j).2.2):=by
    intro h j hj
    rcases Nat.lt_succ_iff_lt_or_eq.1 hj with h'|h'
    ·exact(uq HS) j h'
    ·rw[h'];exact h
   generalize (f k).1=x at c0 HQ HT;generalize (f k).2.1=y at c1 HQ HT;generalize (f k).2.2=z at c2 HQ HT;by_cases h1:x<y
   ·have hr:=(uq HQ) (.inl h1);subst hr;go_wp2_with fail
    go_ret;exact⟨rfl,by repeat(first|exact uq KW|apply Keep.alloc|apply Keep.drew)⟩
   ·by_cases h2:z<x
    ·have hr:=(uq HQ) (.inr h2);subst hr;go_wp2_with fail
     go_ret;exact⟨rfl,by repeat(first|exact uq KW|apply Keep.alloc|apply Keep.drew)⟩
    ·have HN:=hide ((uq HT) ⟨by omega,by omega⟩);go_wp2_with fail
     go_roundw
     case rel=>exact⟨k+1,by go_num,by omega,HN,hide (by repeat(first|exact uq KW|apply Keep.alloc|apply Keep.drew))⟩
     case measure=>simp[intOf];omega
  ·have li:¬(k:Int)<(n:Int):=by omega
   have hr:=(uq H2) (fun j hj=>(uq HS) j (by omega));subst hr;go_wp2_with fail
   go_ret;exact⟨rfl,uq KW⟩
end Go.Proofs.YtpmaonkelkmhbaaGreat
