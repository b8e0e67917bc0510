/- Package need: pairs, an iterator over places. -/
import Derived.Test.YtpmaonkelkmhbaaGreatNjF
import Derived.RangeFuncBox
import Derived.RangeFuncNested
import Derived.RangeFuncBound
import Derived.RangeFuncCalls
import Derived.RangeFuncLeaves
import Derived.Shelf.Abstract
import Derived.Shelf.RegionOpen
import Derived.WalkKit
import Derived.OwnWalkIn
import Derived.TacticsInMore
import Derived.LoopNIn
import Derived.LoopIn
import Derived.Maps.AppendAt
import Derived.Test.YtpmaonkelkmhbaaGreatLSkip
namespace Go.Proofs.YtpmaonkelkmhbaaGreat
open Go.RowKit Go.Shelf
attribute [local go_sem] Oper.semAt_some
set_option linter.unusedVariables false
set_option linter.unusedSimpArgs false
namespace Nj
def OnlyP (Q:Exit→Act→World→Prop):Exit→Act→World→Prop
 | .normal,a,w=>Q .normal a w
 | _,_,_=>False
theorem OnlyP.imp {Q:Exit→Act→World→Prop} :∀ e a w,OnlyP Q e a w→Q e a w
 | .normal,_,_,h=>h
 | .exit _,_,_,h=>h.elim
 | .goto _,_,_,h=>h.elim
 | .ret,_,_,h=>h.elim
 | .panic _,_,_,h=>h.elim
 | .outgrown,_,_,h=>h.elim
theorem zlz {P:Program} {n:Nat} {row:String} {args:Array Value} {w:World} {R:Value→World→Prop} (h:Rows P row args w R):RowsIn Fence.wide n P row args w R:=
 fun c cs _=>let ⟨v,w',r,s⟩:=h c cs;⟨v,w',r,stepsIn_wide.2 s⟩
theorem zoT {P:Program} {o:Oper} {a:Act} {w:World} {K:Act→World→Prop} {Q:Exit→Act→World→Prop} (l n:Nat) (hd:∀ c,o.op≠ .defer c) (h:o.wp P a w K Q):o.wpIn (Fence.wide.inRound l) n P a w K Q:=by
 unfold Oper.wpIn
 refine⟨fun f _=>trivial,?_⟩;rw[show(Fence.wide.inRound l).round=some l from rfl,Oper.semAt_some _ _ _ hd];unfold Oper.wp at h
 generalize (execOp a.eval o).run P w=r at h ⊢;cases r with
 |ok x w'=>
  cases x<;>simp only[Oper.upon,Oper.uponIn]at h ⊢
  case value=>exact h
  case skip=>exact h
  case defer=>exact h
  case enter=>exact⟨fun h=>by simp[Fence.wide,Fence.inRound]at h,CallsIn.inRound l (callsIn_wide.2 h)⟩
  case row=>exact⟨fun h=>by simp[Fence.wide,Fence.inRound]at h,zlz h⟩
 |halt x w'=>
  cases x<;>simp only[Oper.upon,Oper.uponIn]at h ⊢
  exact h
theorem zfg {P:Program} {ops:Array Oper} {md:Region.Mode} {Q:Exit→Act→World→Prop} (l n:Nat) (hd:∀(i:Nat) (o:Oper),ops[i]? =some o→∀ c,o.op≠ .defer c) (hL:¬LetsOut Q):∀(fuel:Nat) (listed:Array Bool) (a:Act) (w:World),wpAny P md ops Q fuel listed a w→wpAnyIn (Fence.wide.inRound l) n P md ops Q fuel listed a w
 |0,listed,a,w,h=>h
 |fuel+1,listed,a,w,h=>by
  refine⟨h.1,fun i hi=>?_⟩;have h2:=h.2 i hi;unfold wpOp at h2
  unfold wpOpIn
  cases ho:ops[i]? with
  |none=>rw[ho]at h2;exact zfg l n hd hL fuel _ a w h2
  |some o=>
   rw[ho]at h2;simp only at h2 ⊢;by_cases hw:Region.wanted o (yielded ops a.tmps)=true
   ·rw[if_pos hw]at h2 ⊢;rcases h2 with h2|⟨_,h2⟩
    ·exact Oper.wpIn_mono (fun a w h=>zfg l n hd hL fuel _ a w h) (zoT l n (hd i o ho) h2)
    ·exact absurd h2 hL
   ·rw[if_neg hw]at h2 ⊢;exact⟨fun _ _=>trivial,zfg l n hd hL fuel _ _ w h2⟩
theorem zeF {P:Program} {ops:Array Oper} {S:World→Prop} {Q:Exit→Act→World→Prop} {id l n:Nat} {a:Act} {w:World} (hm:P.follows .mixedOrders=true) (hd:∀(i:Nat) (o:Oper),ops[i]? =some o→∀ c,o.op≠ .defer c) (hS:S w.drew)
  (h:S w.drew→wpAnyH P .any ops (OnlyP Q) S ops.size (Array.replicate ops.size false) a w.drew):(Code.region id ops true).wpIn (Fence.wide.inRound l) n P Q a w:=
 wpIn_mono (wpIn_region_any hm (zfg l n hd (fun⟨_,_,h⟩=>h) _ _ _ _ (wpAny_of_held _ _ _ _ (h hS)))) OnlyP.imp
theorem ziy {ops:Array Oper} (h:ops.toList.all (fun o=>match o.op with| .defer _=>false| _=>true)=true):∀(i:Nat) (o:Oper),ops[i]? =some o→∀ c,o.op≠ .defer c:=by
 intro i o ho c hc
 rw[List.all_eq_true]at h;have:=h o (by rw[Array.mem_toList_iff];exact Array.mem_of_getElem? ho);rw[hc]at this;cases this
abbrev Px (m1 m2:Nat):= { p:Nat×Nat // p.1<m1∧p.2<m2 }
def evP {m1 m2:Nat} (x:Px m1 m2):Array Value:=#[.agg #[.int .i64 (x.1.1:Int),.int .i64 (x.1.2:Int)]]
def vls {m1 m2:Nat} (l:List (Px m1 m2)):List (Nat×Nat):=l.map Subtype.val
theorem zfh {m1 m2:Nat} (l:List (Px m1 m2)) (x:Px m1 m2):vls (l++ [x])=vls l++ [x.1]:=by simp[vls]
def Kd (n B1 B2:Nat) (A B:World):Prop:=Below n A B∧(B1<A.heap.size→B.heap[B1]? =A.heap[B1]?)∧(B2<A.heap.size→B.heap[B2]? =A.heap[B2]?)
theorem Kd.refl (n B1 B2:Nat) (A:World):Kd n B1 B2 A A:=⟨Below.refl _ _,fun _=>rfl,fun _=>rfl⟩
theorem Kd.trans {n B1 B2:Nat} {A B C:World} (h:Kd n B1 B2 A B) (k:Kd n B1 B2 B C):Kd n B1 B2 A C:=
 ⟨h.1.trans k.1,fun hb=>(k.2.1 (Nat.lt_of_lt_of_le hb h.1.size)).trans (h.2.1 hb),fun hb=>(k.2.2 (Nat.lt_of_lt_of_le hb h.1.size)).trans (h.2.2 hb)⟩
theorem Kd.cell {n B1 B2:Nat} {A B:World} (h:Kd n B1 B2 A B) {v:Value} (hc:A.cell? ⟨B2,0,none⟩=some v):B.cell? ⟨B2,0,none⟩=some v:=by
 have hb:=World.block_lt_of_cell? A _ hc;rw[← hc];simp only[World.cell?,h.2.2 hb]
theorem znE {n B1 B2 C:Nat} (hn:n≤C) (h1:B1<C) (h2:B2<C) (W:World) (l:Nat) (o o':Obj) (hl:C≤l) (ho:W.heap[l]? =some o) (hc:o.isCells=false) (hw:o.isWalk=false):Kd n B1 B2 W (W.putObj l o'):=by
 have hlt:=(Array.getElem?_eq_some_iff.1 ho).1;have hg:=grownBy_putObj' W l o';refine⟨⟨hg.1,hg.2,hg.3,hg.4,fun k hk=>?_⟩,fun hb=>hg.5 B1 hb (fun e=>by cases e;omega),fun hb=>hg.5 B2 hb (fun e=>by cases e;omega)⟩;by_cases hkl:k<W.heap.size
 ·exact hg.5 k hkl (fun e=>by cases e;omega)
 ·omega
def prR (a:Nat):Nat→List (Nat×Nat)
 |0=> []
 |b+1=>prR a b++ [(a,b)]
def prA (m:Nat):Nat→List (Nat×Nat)
 |0=> []
 |a+1=>prA m a++prR a m
theorem zeG (a:Nat):∀ b,(prR a b).length=b
 |0=>rfl
 |b+1=>by rw[prR,List.length_append,zeG a b];rfl
theorem zcW (m:Nat):∀ a,(prA m a).length=a * m
 |0=>by simp[prA]
 |a+1=>by rw[prA,List.length_append,zcW m a,zeG,Nat.succ_mul]
theorem zoU {m n a b:Nat} (ha:a<n) (hb:b<m):(prA m a++prR a b).length<(prA m n).length:=by
 rw[List.length_append,zcW,zeG,zcW];have:(a+1) * m≤n * m:=Nat.mul_le_mul_right _ ha;rw[Nat.succ_mul]at this;omega
theorem zhw {a x y:Nat} :∀ b,(x,y)∈prR a b↔x=a∧y<b
 |0=>by simp[prR]
 |b+1=>by
  rw[prR,List.mem_append,zhw b];simp;omega
theorem zhx {m x y:Nat} :∀ a,(x,y)∈prA m a↔x<a∧y<m
 |0=>by simp[prA]
 |a+1=>by
  rw[prA,List.mem_append,zhx a,zhw];omega
set_option maxRecDepth 100000 in
set_option maxHeartbeats 4000000 in
theorem zhy (n:Nat) (l B1 B2 n₀ m1 m2:Nat) (h1m:m1≤1000) (h2m:m2≤1000) (J Jx:List (Px m1 m2)→World→Prop)
  (W:World) (hJ:AbidesFrom W.heap.size J)
  (hY:∀ pre x W1,J pre W1→pre.length<(prA m2 m1).length→YieldAt Fence.wide (n - 1) Tryz.prog l (evP x) W1 fun e W'=>
   (e= .returned (.bool true)∧J (pre++ [x]) W'∧Kd n₀ B1 B2 W1 W')∨(e= .returned (.bool false)∧Jx (pre++ [x]) W'))
  (hB1:W.cell? ⟨B1,0,none⟩=some (.int .i64 (m1:Int))) (hB2:W.cell? ⟨B2,0,none⟩=some (.int .i64 (m2:Int))) (h0:J [] W):
  CallsIn Fence.wide n Tryz.prog 86 #[.func (.yield l) #[] #[],.pointer (some ⟨B1,0,none⟩),.pointer (some ⟨B2,0,none⟩)] W fun e W'=>(∃ v,e= .returned v)∧
   ((∃ ys,vls ys=prA m2 m1∧J ys W')∨(∃ pre,True∧Jx pre W')):=by
 refine callsIn_of_wp Tryz.func86 rfl trivial ?_ rfl;simp only[Tryz.ntmps86,List.size_toArray,List.length_cons,List.length_nil,Nat.reduceAdd,Nat.reduceSub,Array.replicate_succ,Array.replicate_zero,List.push_toArray,List.append_toArray,List.nil_append,List.cons_append]
 gi_wp2
 gi_loopw [7] (fun i wr=>∃(k:Nat) (pre:List (Px m1 m2)),k≤m1∧i= .int .i64 k∧vls pre=prA m2 k∧J pre wr∧Kd n₀ B1 B2 W wr)
  (fun i _=>m1 - (intOf i).toNat)
 case atStart=>exact⟨0,[],Nat.zero_le _,rfl,rfl,h0,Kd.refl _ _ _ _⟩
 case round=>
  obtain⟨k,pre,hk,rfl,hv,hJs,hnx⟩:=hrel;by_cases hlt:k<m1
  ·have li:(k:Int)<(m1:Int):=by omega
   have c2:=hnx.cell hB2;obtain⟨wo,hwo⟩:∃ wo,wo=wr:=⟨_,rfl⟩;subst hwo
   gi_wp2
   gi_loopw [11] (fun i wr=>∃(b:Nat) (pre:List (Px m1 m2)),b≤m2∧i= .int .i64 b∧vls pre=prA m2 k++prR k b∧J pre wr∧Kd n₀ B1 B2 W wr)
    (fun i _=>m2 - (intOf i).toNat)
   case atStart=>exact⟨0,pre,Nat.zero_le _,rfl,by simpa [prR]using hv,hJs,hnx⟩
   case round=>
    clear hJs hnx c2 hv;obtain⟨b,pre,hb,rfl,hv,hJs,hnx⟩:=hrel;by_cases hbl:b<m2
    ·have lb:(b:Int)<(m2:Int):=by omega
     have hpl:pre.length<(prA m2 m1).length:=by
      have:=zoU hlt hbl;rw[← hv]at this;simpa [vls]using this
     obtain⟨fn,tmps,assign,body,hy,hRo⟩:=hY pre ⟨(k,b),hlt,hbl⟩ wr hJs hpl;dsimp only[evP]at hy;have HV:Hid (vls (pre++ [⟨(k,b),hlt,hbl⟩])=prA m2 k++prR k (b+1)):=hide (by rw[zfh,hv,List.append_assoc];rfl)
     gi_wp2
     refine⟨fun h=>(by simp[Fence.wide]at h),hRo.mono ?_⟩;rintro e W3 (⟨rfl,hJ3,hk3⟩|⟨rfl,hJx3⟩)
     ·gi_wp2
      go_roundw
      case rel=>exact⟨b+1,_,hbl,by simp,uq HV,hJ3,hnx.trans hk3⟩
      case measure=>simp[intOf];omega
     ·gi_wp2
      refine bodyPost_ret (results_none rfl _ _ _) rfl ?_;exact⟨⟨_,rfl⟩,.inr ⟨_,trivial,hJx3⟩⟩
    ·have lb:¬(b:Int)<(m2:Int):=by omega
     obtain rfl:b=m2:=by omega
     gi_wp2
     go_roundw
     case rel=>exact⟨k+1,pre,hlt,by simp,hv,hJs,hnx⟩
     case measure=>simp[intOf];omega
  ·have li:¬(k:Int)<(m1:Int):=by omega
   obtain rfl:k=m1:=by omega
   gi_wp2
   go_end0
   exact⟨⟨_,rfl⟩,.inl ⟨pre,hv,hJs⟩⟩
set_option maxHeartbeats 1000000 in
theorem zhz (m1 m2:Nat) (w:World):
  Calls Tryz.prog 62 #[.int .i64 (m1:Int),.int .i64 (m2:Int)] w fun e w'=>e= .returned (.func (.func 86) #[] #[.pointer (some ⟨w.heap.size,0,none⟩),.pointer (some ⟨w.heap.size+1,0,none⟩)])∧w'=(w.alloc (.cells #[.int .i64 (m1:Int)] 3)).alloc (.cells #[.int .i64 (m2:Int)] 3):=by
 go_enter Tryz.func62,Tryz.ntmps62;go_wp2;go_ret;exact⟨by first|rfl|simp,rfl⟩
theorem zeH (m1 m2:Nat) (h1m:m1≤1000) (h2m:m2≤1000) (n₀ B1 B2:Nat) (w:World) (hb1:B1<w.heap.size) (hb2:B2<w.heap.size) (b1:w.cell? ⟨B1,0,none⟩=some (.int .i64 (m1:Int))) (b2:w.cell? ⟨B2,0,none⟩=some (.int .i64 (m2:Int))) (n:Nat):
  SeqStopsK Fence.wide n Tryz.prog 86 #[.pointer (some ⟨B1,0,none⟩),.pointer (some ⟨B2,0,none⟩)] (evP (m1:=m1) (m2:=m2)) (Kd n₀ B1 B2) (fun ys=>vls ys=prA m2 m1) (fun _=>True) (prA m2 m1).length w:=
 fun l J Jx W hW hJ hJx hY h0=>
  zhy n l B1 B2 n₀ m1 m2 h1m h2m J Jx W hJ hY ((hW.cell (p:=⟨B1,0,none⟩) hb1).trans b1) ((hW.cell (p:=⟨B2,0,none⟩) hb2).trans b2) h0
end Nj
end Go.Proofs.YtpmaonkelkmhbaaGreat
namespace Go.Proofs.YtpmaonkelkmhbaaGreat
open Go.RowKit
attribute [local go_sem ↓] Go.wp_at_zero Go.wp_at_succ
set_option linter.unusedVariables false
set_option linter.unusedSimpArgs false
set_option maxRecDepth 10000
namespace Nj
theorem zgr:(Tryz.prog.info? 9).map (fun i=>(i.zero,i.size,i.bytes))=some (some (.string ⟨#[]⟩),1,16):=by kernel_rfl
theorem znF:(Tryz.prog.info? 43).map (fun i=>(i.zero,i.size,i.bytes))=some (some (.slice none 0 0),1,24):=by kernel_rfl
theorem own_mono {w:World} {B B':Nat} {e:TypeId} {z n:Nat} {v:Value} {xs:List Value} (h:w.ownsRow B e z v n xs) (hb:B'≤B):w.ownsRow B' e z v n xs:=by
 obtain⟨h1,h2⟩:=h;refine⟨h1,?_⟩;rcases h2 with h2|⟨g,cap,cur,e,hg,r⟩
 ·exact .inl h2
 ·exact .inr ⟨g,cap,cur,e,by omega,r⟩
theorem own_k {w w':World} {base:Nat} {e:TypeId} {z n:Nat} {v:Value} {xs:List Value} (h:w.ownsRow base e z v n xs) (hk:Keep w w'):w'.ownsRow base e z v n xs:=
 h.kept (row:=none) ⟨hk.os,hk.tape,hk.output,hk.size,fun i hi _=>hk.block i hi⟩ (by cases v.ownBlock<;>simp)
theorem zbA {w:World} {B:Nat} {e:TypeId} {z n:Nat} {v:Value} {xs:List Value} (h:w.ownsRow B e z v n xs):∃ a cap,v= .slice a n cap:=by
 rcases h.2 with ⟨rfl,h0⟩|⟨g,cap,cur,rfl,_⟩
 ·exact⟨none,0,by rw[h0]⟩
 ·exact⟨_,cap,rfl⟩
theorem zoV {w w':World} {B n T:Nat} {e t:TypeId} {z m:Nat} {v:Value} {xs:List Value} {arr:Array Value} (h:w.ownsRow B e z v m xs) (hn:w.heap.size≤n) (hT:w.heap[T]? =some (.cells arr t (0,0))) (he:e≠t) (hb:∀ b,b<n→b≠T→w'.heap[b]? =w.heap[b]?):w'.ownsRow B e z v m xs:=by
 refine⟨h.1,?_⟩;rcases h.2 with h2|⟨g,cap,cur,hv,hg,hc,r⟩
 ·exact .inl h2
 ·refine .inr ⟨g,cap,cur,hv,hg,?_,r⟩;rw[hb g (Nat.lt_of_lt_of_le (Array.getElem?_eq_some_iff.1 hc).1 hn) (fun e9=>?_)]
  ·exact hc
  ·subst e9;rw[hc]at hT;injection hT with hT
   injection hT with h3 h4
   exact he h4
def ss (G:Nat→List UInt8) (n:Nat):List Value:=(List.range n).map (fun o=> .string (sv (G o)))
theorem zlA (G:Nat→List UInt8) (n:Nat):ss G (n+1)=ss G n++ [.string (sv (G n))]:=by simp[ss,List.range_succ]
theorem zoW (G:Nat→List UInt8) {n o:Nat} (h:o<n):(ss G n)[o]? =some (.string (sv (G o))):=by simp[ss,h]
def Ht (w:World) (T:Nat) (us:List Value):Prop:=w.heap[T]? =some (.cells us.toArray 43 (0,0))
theorem Ht.lt {w:World} {T:Nat} {us:List Value} (h:Ht w T us):T<w.heap.size:=(Array.getElem?_eq_some_iff.1 h).1
theorem Ht.cell {w:World} {T i:Nat} {us:List Value} (h:Ht w T us) (hi:i<us.length):w.cell? ⟨T,i,none⟩=some (us.getD i undef):=by
 unfold Ht at h
 simp[World.cell?,h,hi]
theorem Ht.fz {w:World} {T:Nat} {us:List Value} (h:Ht w T us) (i:Nat):w.frozen? ⟨T,i,none⟩=false:=by
 unfold Ht at h
 simp[World.frozen?,h]
theorem Ht.set {w:World} {T i:Nat} {us:List Value} (h:Ht w T us) (u:Value):Ht (w.setCell ⟨T,i,none⟩ u) T (us.set i u):=by
 unfold Ht
 rw[Q.set_cells h u,List.setIfInBounds_toArray]
theorem Ht.keep {w w':World} {T:Nat} {us:List Value} (h:Ht w T us) (hk:Keep w w'):Ht w' T us:=(hk.block T h.lt).trans h
def Hs (w:World) (T rn:Nat) (N:Nat→Nat) (G:Nat→Nat→List UInt8):Prop:=∃ us:List Value,us.length=rn∧Ht w T us∧∀ k,k<rn→w.ownsRow 0 9 1 (us.getD k undef) (N k) (ss (G k) (N k))
theorem Hs.keep {w w':World} {T rn:Nat} {N:Nat→Nat} {G:Nat→Nat→List UInt8} (h:Hs w T rn N G) (hk:Keep w w'):Hs w' T rn N G:=by
 obtain⟨us,h1,h2,h3⟩:=h;exact⟨us,h1,h2.keep hk,fun k h=>own_k (h3 k h) hk⟩
theorem zdH {us:List Value} {i j:Nat} {u:Value} (hi:i<us.length):(us.set i u).getD j undef=if j=i then u else us.getD j undef:=by
 rw[List.getD_eq_getElem?_getD,List.getD_eq_getElem?_getD,List.getElem?_set];by_cases h:j=i
 ·subst h;simp[hi]
 ·rw[if_neg (fun e=>h e.symm),if_neg h]
def Ho (w:World) (T rn k:Nat) (N:Nat→Nat) (G:Nat→Nat→List UInt8):Prop:=∃ us:List Value,us.length=rn∧Ht w T us∧(∀ j,j<k→w.ownsRow 0 9 1 (us.getD j undef) (N j) (ss (G j) (N j)))∧∀ j,k≤j→j<rn→us.getD j undef= .slice none 0 0
theorem Ho.keep {w w':World} {T rn k:Nat} {N:Nat→Nat} {G:Nat→Nat→List UInt8} (h:Ho w T rn k N G) (hk:Keep w w'):Ho w' T rn k N G:=by
 obtain⟨us,h1,h2,h3,h4⟩:=h;exact⟨us,h1,h2.keep hk,fun j h=>own_k (h3 j h) hk,h4⟩
def Hm (W w:World) (T k o:Nat) (us:List Value) (G:Nat→List UInt8):Prop:=∃ u,Ht w T (us.set k u)∧w.ownsRow W.heap.size 9 1 u o (ss G o)∧(∀ b,b<W.heap.size→b≠T→w.heap[b]? =W.heap[b]?)
theorem Hm.keep {W w w':World} {T k o:Nat} {us:List Value} {G:Nat→List UInt8} (h:Hm W w T k o us G) (hs:W.heap.size≤w.heap.size) (hk:Keep w w'):Hm W w' T k o us G:=by
 obtain⟨u,h1,h2,h3⟩:=h;exact⟨u,h1.keep hk,own_k h2 hk,fun b hb hT=>(hk.block b (by omega)).trans (h3 b hb hT)⟩
theorem Hm.out {W w:World} {T rn k:Nat} {us:List Value} {N:Nat→Nat} {G:Nat→Nat→List UInt8} (hl:us.length=rn) (hk:k<rn) (hT:Ht W T us) (h3:∀ j,j<k→W.ownsRow 0 9 1 (us.getD j undef) (N j) (ss (G j) (N j))) (h4:∀ j,k≤j→j<rn→us.getD j undef= .slice none 0 0) (h:Hm W w T k (N k) us (G k)):Ho w T rn (k+1) N G:=by
 obtain⟨u,h5,h6,h7⟩:=h;refine⟨us.set k u,by simp[hl],h5,fun j hj=>?_,fun j hj hr=>?_⟩
 ·rw[zdH (by omega)];by_cases e:j=k
  ·subst e;rw[if_pos rfl];exact own_mono h6 (Nat.zero_le _)
  ·rw[if_neg e];exact zoV (h3 j (by omega)) (Nat.le_refl _) hT (by decide) h7
 ·rw[zdH (by omega),if_neg (by omega)];exact h4 j (by omega) hr
theorem Hm.start {W:World} {T rn k:Nat} {us:List Value} (G:Nat→List UInt8) (hl:us.length=rn) (hk:k<rn) (hT:Ht W T us) (h4:∀ j,k≤j→j<rn→us.getD j undef= .slice none 0 0):Hm W W T k 0 us G:=by
 refine⟨.slice none 0 0,?_,World.ownsRow_nil _ _ _ _,fun b _ _=>rfl⟩;have:us.set k (.slice none 0 0)=us:=by
  apply List.ext_getElem?;intro j
  rw[List.getElem?_set];by_cases e:k=j
  ·subst e;have:=h4 k (Nat.le_refl _) hk;rw[List.getD_eq_getElem?_getD,List.getElem?_eq_getElem (by omega)]at this;rw[if_pos rfl,if_pos (by omega),List.getElem?_eq_getElem (by omega)];simpa using this.symm
  ·rw[if_neg e]
 rw[this];exact hT
theorem zlB {W w w7:World} {T k o:Nat} {us:List Value} {G:Nat→List UInt8} {u v7:Value} (hk:k<us.length) (hTW:T<W.heap.size) (hs:W.heap.size≤w.heap.size) (h1:Ht w T (us.set k u)) (h2:w.ownsRow W.heap.size 9 1 u o (ss G o)) (h3:∀ b,b<W.heap.size→b≠T→w.heap[b]? =W.heap[b]?)
  (h7:w7.ownsRow W.heap.size 9 1 v7 (o+1) (ss G o++ [.string (sv (G o))])) (hg:w.grownBy w7 u.ownBlock):Ht w7 T (us.set k u)∧Hm W (w7.setCell ⟨T,k,none⟩ v7) T k (o+1) us G:=by
 have hb:∀ b,b<W.heap.size→w7.heap[b]? =w.heap[b]? :=fun b hb=>hg.block b (by omega) (fun e=>by have:=(h2.lt b e.symm).1;omega)
 have h8:Ht w7 T (us.set k u):=(hb T hTW).trans h1;refine⟨h8,v7,?_,?_,fun b hb2 hT=>?_⟩
 ·have:=h8.set (i:=k) v7;rwa[List.set_set]at this
 ·rw[zlA];refine h7.kept (row:=some T) ⟨rfl,rfl,rfl,by simp,fun b hb2 hne=>heap_setCell_other w7 _ b v7 (fun e=>hne (by rw[e]))⟩ (.inr (fun e=>?_));have:=(h7.lt T e).1;omega
 ·rw[heap_setCell_other w7 _ b v7 hT,hb b hb2];exact h3 b hb2 hT
end Nj
end Go.Proofs.YtpmaonkelkmhbaaGreat
namespace Go.Proofs.YtpmaonkelkmhbaaGreat
open Go.RowKit Go.Shelf
attribute [local go_sem] Oper.semAt_some
attribute [local go_sem ↓] Go.wp_at_zero Go.wp_at_succ
set_option linter.unusedVariables false
set_option linter.unusedSimpArgs false
namespace Nj
theorem znG:(Tryz.prog.info? 57).map (fun i=>(i.zero,i.size,i.bytes))=some (some (.agg #[.int .i64 0,.int .i64 0]),2,16):=by kernel_rfl
def Tw (W:World) (B:Nat) (t:TypeId) (p:Nat×Nat):Prop:=W.heap[B]? =some (.cells #[.int .i64 (p.1:Int),.int .i64 (p.2:Int)] t (0,0))
theorem Tw.lt {W:World} {B:Nat} {t:TypeId} {p:Nat×Nat} (h:Tw W B t p):B<W.heap.size:=(Array.getElem?_eq_some_iff.1 h).1
theorem Tw.c0 {W:World} {B:Nat} {t:TypeId} {p:Nat×Nat} (h:Tw W B t p):W.cell? ⟨B,0,none⟩=some (.int .i64 (p.1:Int)):=by simp[World.cell?,show W.heap[B]? =_ from h]
theorem Tw.c1 {W:World} {B:Nat} {t:TypeId} {p:Nat×Nat} (h:Tw W B t p):W.cell? ⟨B,1,none⟩=some (.int .i64 (p.2:Int)):=by simp[World.cell?,show W.heap[B]? =_ from h]
theorem Tw.new (W:World) (t:TypeId) (p:Nat×Nat):Tw (W.alloc (.cells #[.int .i64 (p.1:Int),.int .i64 (p.2:Int)] t)) W.heap.size t p:=World.alloc_heap_new W _
theorem Tw.kept {W W':World} {row:Option Nat} {B:Nat} {t:TypeId} {p:Nat×Nat} (h:Tw W B t p) (hg:W.grownBy W' row) (hne:some B≠row):Tw W' B t p:=(hg.block B h.lt hne).trans h
theorem Tw.keep {W W':World} {B:Nat} {t:TypeId} {p:Nat×Nat} (h:Tw W B t p) (hk:Keep W W'):Tw W' B t p:=(hk.block B h.lt).trans h
theorem znH {B₀ B:Nat} {t:TypeId} {p:Nat×Nat} (G:Prop):OwnFrom B₀ (fun(_:Unit) W=>Tw W B t p∧G):=by
 rintro _ X Y row ⟨h,g⟩ hg hrow;refine⟨h.kept hg (fun e'=>?_),g⟩;obtain⟨_,o,ho,hc⟩:=hrow B e'.symm;rw[show X.heap[B]? =_ from h]at ho;cases ho;cases hc
theorem zbl {B₀ B:Nat} {t:TypeId} {v:Value} {β:Type} :OwnFrom B₀ (fun(_:β) W=>Boxed W B t v):=by
 rintro _ X Y row h hg hrow;refine h.kept hg (fun e'=>?_);obtain⟨_,o,ho,hc⟩:=hrow B e'.symm;rw[show X.heap[B]? =_ from h]at ho;cases ho;cases hc
def pcs:List (Nat×Nat)→List Value
 | []=> []
 |x :: L=> .int .i64 (x.1:Int) :: .int .i64 (x.2:Int) :: pcs L
theorem zhA:∀(L M:List (Nat×Nat)),pcs (L++M)=pcs L++pcs M
 | [],M=>rfl
 |x :: L,M=>by rw[List.cons_append,pcs,pcs,zhA L M];rfl
def zp (Z:Nat→Nat→Bool) (L:List (Nat×Nat)):List (Nat×Nat):=L.filter (fun x=>Z x.1 x.2)
theorem zi6 (Z:Nat→Nat→Bool) (L:List (Nat×Nat)):(zp Z L).length≤L.length:=List.length_filter_le _ _
theorem znI {Z:Nat→Nat→Bool} {L:List (Nat×Nat)} {x:Nat×Nat} (h:Z x.1 x.2=true):zp Z (L++ [x])=zp Z L++ [x]:=by simp[zp,h]
theorem zoX {Z:Nat→Nat→Bool} {L:List (Nat×Nat)} {x:Nat×Nat} (h:Z x.1 x.2=false):zp Z (L++ [x])=zp Z L:=by simp[zp,h]
theorem zes (w:World) (x y:Value) (t:TypeId):∀ j u,[x,y][j]? =some u→(w.alloc (.cells #[x,y] t)).cell? ((⟨w.heap.size,0,none⟩:Addr).add j)=some u:=Nd.new_v w [x,y] t
def b6 (w:World) (fa:Option Addr) (fn fc T1 T2 m1 m2:Nat):World:=(((((w.alloc (.cells #[.slice fa fn fc] 37)).alloc (.cells #[.slice (some ⟨T1,0,none⟩) m1 m1] 111)).alloc (.cells #[.slice (some ⟨T2,0,none⟩) m2 m2] 111)).alloc (.cells #[.slice none 0 0] 53)).alloc (.cells #[.int .i64 (m1:Int)] 3)).alloc (.cells #[.int .i64 (m2:Int)] 3)
def B5 (W:World) (S:Nat) (fv av bv:Value) (m1 m2:Nat):Prop:=Boxed W S 37 fv∧Boxed W (S+1) 111 av∧Boxed W (S+2) 111 bv∧Boxed W (S+4) 3 (.int .i64 (m1:Int))∧Boxed W (S+5) 3 (.int .i64 (m2:Int))
theorem zlC (w:World) (fa:Option Addr) (fn fc T1 T2 m1 m2:Nat):(b6 w fa fn fc T1 T2 m1 m2).heap.size=w.heap.size+6:=by unfold b6;simp
theorem znJ (w:World) (fa:Option Addr) (fn fc T1 T2 m1 m2:Nat):Boxed (b6 w fa fn fc T1 T2 m1 m2) (w.heap.size+3) 53 (.slice none 0 0):=by
 have h:=((Boxed.new (((w.alloc (.cells #[.slice fa fn fc] 37)).alloc (.cells #[.slice (some ⟨T1,0,none⟩) m1 m1] 111)).alloc (.cells #[.slice (some ⟨T2,0,none⟩) m2 m2] 111)) 53 (.slice none 0 0)).alloc (.cells #[.int .i64 (m1:Int)] 3)).alloc (.cells #[.int .i64 (m2:Int)] 3);simp only[World.size_alloc]at h;exact h
theorem ziz (w:World) (fa:Option Addr) (fn fc T1 T2 m1 m2:Nat):B5 (b6 w fa fn fc T1 T2 m1 m2) w.heap.size (.slice fa fn fc) (.slice (some ⟨T1,0,none⟩) m1 m1) (.slice (some ⟨T2,0,none⟩) m2 m2) m1 m2:=by
 refine⟨?_,?_,?_,?_,?_⟩
 ·exact(((((Boxed.new w _ _).alloc _).alloc _).alloc _).alloc _).alloc _
 ·have h:=((((Boxed.new (w.alloc (.cells #[.slice fa fn fc] 37)) 111 (.slice (some ⟨T1,0,none⟩) m1 m1)).alloc (.cells #[.slice (some ⟨T2,0,none⟩) m2 m2] 111)).alloc (.cells #[.slice none 0 0] 53)).alloc (.cells #[.int .i64 (m1:Int)] 3)).alloc (.cells #[.int .i64 (m2:Int)] 3);simp only[World.size_alloc]at h;exact h
 ·have h:=(((Boxed.new ((w.alloc (.cells #[.slice fa fn fc] 37)).alloc (.cells #[.slice (some ⟨T1,0,none⟩) m1 m1] 111)) 111 (.slice (some ⟨T2,0,none⟩) m2 m2)).alloc (.cells #[.slice none 0 0] 53)).alloc (.cells #[.int .i64 (m1:Int)] 3)).alloc (.cells #[.int .i64 (m2:Int)] 3);simp only[World.size_alloc]at h;exact h
 ·have h:=(Boxed.new ((((w.alloc (.cells #[.slice fa fn fc] 37)).alloc (.cells #[.slice (some ⟨T1,0,none⟩) m1 m1] 111)).alloc (.cells #[.slice (some ⟨T2,0,none⟩) m2 m2] 111)).alloc (.cells #[.slice none 0 0] 53)) 3 (.int .i64 (m1:Int))).alloc (.cells #[.int .i64 (m2:Int)] 3);simp only[World.size_alloc]at h;exact h
 ·have h:=Boxed.new (((((w.alloc (.cells #[.slice fa fn fc] 37)).alloc (.cells #[.slice (some ⟨T1,0,none⟩) m1 m1] 111)).alloc (.cells #[.slice (some ⟨T2,0,none⟩) m2 m2] 111)).alloc (.cells #[.slice none 0 0] 53)).alloc (.cells #[.int .i64 (m1:Int)] 3)) 3 (.int .i64 (m2:Int));simp only[World.size_alloc]at h;exact h
theorem znK {B₀ S:Nat} {fv av bv:Value} {m1 m2:Nat} {β:Type} :OwnFrom B₀ (fun(_:β) W=>B5 W S fv av bv m1 m2):=by
 rintro s X Y row ⟨h1,h2,h3,h4,h5⟩ hg hrow;exact⟨zbl s X Y row h1 hg hrow,zbl s X Y row h2 hg hrow,zbl s X Y row h3 hg hrow,zbl s X Y row h4 hg hrow,zbl s X Y row h5 hg hrow⟩
theorem zch {W W':World} {B:Nat} {t:TypeId} {v:Value} (h:Boxed W B t v) (hk:Keep W W'):Boxed W' B t v:=(hk.block B h.lt).trans h
theorem B5.keep {W W':World} {S:Nat} {fv av bv:Value} {m1 m2:Nat} (h:B5 W S fv av bv m1 m2) (hk:Keep W W'):B5 W' S fv av bv m1 m2:=⟨zch h.1 hk,zch h.2.1 hk,zch h.2.2.1 hk,zch h.2.2.2.1 hk,zch h.2.2.2.2 hk⟩
theorem B5.set {W:World} {S:Nat} {fv av bv:Value} {m1 m2:Nat} (h:B5 W S fv av bv m1 m2) (u:Value):B5 (W.setCell ⟨S+3,0,none⟩ u) S fv av bv m1 m2:=
 ⟨h.1.other (by omega) u,h.2.1.other (by omega) u,h.2.2.1.other (by omega) u,h.2.2.2.1.other (by omega) u,h.2.2.2.2.other (by omega) u⟩
theorem B5.kept {W W':World} {S:Nat} {fv av bv:Value} {m1 m2 n₀ z k:Nat} {v:Value} {xs:List Value} (h:B5 W S fv av bv m1 m2) (hr:W.ownsRow n₀ 57 z v k xs) (hg:W.grownBy W' v.ownBlock):B5 W' S fv av bv m1 m2:=
 ⟨h.1.kept hg (h.1.not_row (by decide) hr),h.2.1.kept hg (h.2.1.not_row (by decide) hr),h.2.2.1.kept hg (h.2.2.1.not_row (by decide) hr),h.2.2.2.1.kept hg (h.2.2.2.1.not_row (by decide) hr),h.2.2.2.2.kept hg (h.2.2.2.2.not_row (by decide) hr)⟩
theorem zlD {W W':World} {S n:Nat} {fv av bv:Value} {m1 m2:Nat} (h:B5 W S fv av bv m1 m2) (h':B5 W' S fv av bv m1 m2) (hb:Below n W W'):Kd n (S+4) (S+5) W W':=⟨hb,fun _=>(h'.2.2.2.1).trans (h.2.2.2.1).symm,fun _=>(h'.2.2.2.2).trans (h.2.2.2.2).symm⟩
theorem zhB {W W':World} (hk:Keep W W'):KeepsOthers W W':=⟨hk.size,fun k o h _=>(hk.block k (Array.getElem?_eq_some_iff.1 h).1).trans h⟩
set_option maxRecDepth 100000 in
set_option maxHeartbeats 8000000 in
theorem zf2 (fa:Option Addr) (fn fc T1 T2 m1 m2:Nat) (A B:Nat→Option Addr) (N1 C1 N2 C2:Nat→Nat) (Z:Nat→Nat→Bool) (w:World) (h1m:m1≤1000) (h2m:m2≤1000)
  (HA:Hid (T1<w.heap.size∧∀ a,a<m1→w.cell? ⟨T1,a,none⟩=some (.slice (A a) (N1 a) (C1 a)))) (HB:Hid (T2<w.heap.size∧∀ b,b<m2→w.cell? ⟨T2,b,none⟩=some (.slice (B b) (N2 b) (C2 b))))
  (TF:Hid (∀ a,a<m1→∀ b,b<m2→∀ w',Keep w w'→Calls Tryz.prog 63 #[.slice fa fn fc,.slice (A a) (N1 a) (C1 a),.slice (B b) (N2 b) (C2 b)] w' fun e w''=>e= .returned (.bool (Z a b))∧Keep w' w'')):
  Calls Tryz.prog 41 #[.slice fa fn fc,.slice (some ⟨T1,0,none⟩) m1 m1,.slice (some ⟨T2,0,none⟩) m2 m2] w fun e w'=>∃ v,e= .returned v∧Keep w w'∧w'.ownsRow w.heap.size 57 2 v (zp Z (prA m2 m1)).length (pcs (zp Z (prA m2 m1))):=by
 obtain⟨i0,hi,hz0,hz1,hz2⟩:=zay znG;refine(callsIn_wide (n:=9)).1 ?_;refine callsIn_of_wp_marks Tryz.func41 rfl trivial ?_ rfl;simp only[Tryz.ntmps41,List.size_toArray,List.length_cons,List.length_nil,Nat.reduceAdd,Nat.reduceSub,Array.replicate_succ,Array.replicate_zero,List.push_toArray,List.append_toArray,List.nil_append,List.cons_append]
 gi_wp2_with fail
 refine⟨trivial,callsIn_wide.2 ((zhz m1 m2 _).mono ?_)⟩;rintro e w2 ⟨rfl,rfl⟩
 gi_wp2_with fail
 have hw0:Below w.heap.size w (b6 w fa fn fc T1 T2 m1 m2):=((((((Below.refl _ w).alloc (Nat.le_refl _) _).alloc (by simp) _).alloc (by simp;omega) _).alloc (by simp;omega) _).alloc (by simp;omega) _).alloc (by simp;omega) _;have hB5:=ziz w fa fn fc T1 T2 m1 m2;have hsz0:=zlC w fa fn fc T1 T2 m1 m2;have hbl:Boxed (b6 w fa fn fc T1 T2 m1 m2) (w.heap.size+3) 53 (.slice none 0 0):=znJ w fa fn fc T1 T2 m1 m2;have HE:Hid ((((((w.alloc (.cells #[.slice fa fn fc] 37)).alloc (.cells #[.slice (some ⟨T1,0,none⟩) m1 m1] 111)).alloc (.cells #[.slice (some ⟨T2,0,none⟩) m2 m2] 111)).alloc (.cells #[.slice none 0 0] 53)).alloc (.cells #[.int .i64 (m1:Int)] 3)).alloc (.cells #[.int .i64 (m2:Int)] 3)=b6 w fa fn fc T1 T2 m1 m2):=hide rfl;rw[uq HE];clear HE;have HKY:=hide hw0;generalize b6 w fa fn fc T1 T2 m1 m2=W0 at hw0 hB5 hsz0 hbl HKY ⊢;refine wpIn_rangeFunc_ownH rfl (by omega) (gf:=86) (lb:=#[.pointer (some ⟨w.heap.size+4,0,none⟩),.pointer (some ⟨w.heap.size+5,0,none⟩)]) rfl trivial (enters_of Tryz.func86 (by kernel_rfl) rfl)
  (zeH m1 m2 h1m h2m w.heap.size (w.heap.size+4) (w.heap.size+5) W0 (by omega) (by omega) hB5.2.2.2.1.cell hB5.2.2.2.2.cell _) (fun h k=>Kd.trans h k) (znE (by omega) (by omega) (by omega)) (Below.refl _ _) (fun _=>rfl)
  (fun pre W=>(∃ v,Boxed W (w.heap.size+3) 53 v∧W.ownsRow w.heap.size 57 2 v (zp Z (vls pre)).length (pcs (zp Z (vls pre)))∧True)∧B5 W w.heap.size (.slice fa fn fc) (.slice (some ⟨T1,0,none⟩) m1 m1) (.slice (some ⟨T2,0,none⟩) m2 m2) m1 m2∧Below w.heap.size w W)
  (fun _ _ _=>False)
  (OwnFrom.and (Own.from (holdsRow_own w.heap.size (w.heap.size+3) 53 57 2 (fun pre:List (Px m1 m2)=>(zp Z (vls pre)).length) (fun pre=>pcs (zp Z (vls pre))) (fun _ _=>True)) _) (OwnFrom.and znK (ownFrom_below (Nat.le_refl _) (by omega))))
  (fun _ _ _ _ _ hs _ _=>hs)
  ⟨⟨_,hbl,World.ownsRow_nil _ _ _ _,trivial⟩,hB5,hw0⟩
  (fun x a' W=>∃ Bx,Tw W Bx 57 x.1∧a'= { tmps:=#[.slice fa fn fc,.slice (some ⟨T1,0,none⟩) m1 m1,.slice (some ⟨T2,0,none⟩) m2 m2,.pointer (some ⟨w.heap.size,0,none⟩),.pointer (some ⟨w.heap.size+1,0,none⟩),.pointer (some ⟨w.heap.size+2,0,none⟩),.slice none 0 0,.pointer (some ⟨w.heap.size+3,0,none⟩),.pointer (some ⟨Bx,0,none⟩),.slice (some ⟨T1,0,none⟩) m1 m1,.int .i64 (m1:Int),.slice (some ⟨T2,0,none⟩) m2 m2,.int .i64 (m2:Int),.func (.func 86) #[] #[.pointer (some ⟨w.heap.size+4,0,none⟩),.pointer (some ⟨w.heap.size+5,0,none⟩)],.agg #[.int .i64 (x.1.1:Int),.int .i64 (x.1.2:Int)],undef,undef,undef,undef,undef,undef,undef,undef,undef,undef,undef,undef,undef,undef,undef,undef,undef],defers:= [] })
  (fun x a'=>by rintro s A B row ⟨Bx,h1,h2⟩ hg hr;exact⟨Bx,znH _ s A B row ⟨h1,h2⟩ hg hr⟩)
  ?assign ?body ?done ?stop
 case assign=>
  rintro l pre x W K ⟨⟨v,hv,hrow,_⟩,hB5,hB⟩ hK;dsimp only[evP]
  gi_wp2
  have hk9:=(Keep.refl W).alloc (.cells #[.int .i64 (x.1.1:Int),.int .i64 (x.1.2:Int)] 57);exact hK _ _ ((KeepsOthers.alloc _ _).from _) (zlD hB5 (hB5.keep hk9) ((Below.refl _ W).alloc hB.size _)) ⟨⟨v,hv.alloc _,hrow.alloc _,trivial⟩,hB5.keep hk9,hB.alloc hB.size _⟩ ⟨W.heap.size,Tw.new W _ _,rfl⟩
 case body=>
  rintro l pre x a' W hl' ⟨r,hr⟩ ⟨⟨v,hv,hrow,_⟩,hB5,hB⟩ ⟨Bx,hx,rfl⟩ hlt;have HV:=hide hv;have HRW:=hide hrow;have H5:=hide hB5;have HBW:=hide hB;have HX:=hide hx;obtain⟨⟨xa,xb⟩,hxa,hxb⟩:=x;simp only at hxa hxb;have TFx:=hide (fun w' (k:Keep w w')=>(uq TF) xa hxa xb hxb w' k);have hvs:Hid (vls (pre++ [⟨(xa,xb),hxa,hxb⟩])=vls pre++ [(xa,xb)]):=hide (zfh pre _);have CK:Hid (∀ w',Keep W w'→w'.cell? ⟨w.heap.size,0,none⟩=some (.slice fa fn fc)∧w'.cell? ⟨w.heap.size+1,0,none⟩=some (.slice (some ⟨T1,0,none⟩) m1 m1)∧w'.cell? ⟨w.heap.size+2,0,none⟩=some (.slice (some ⟨T2,0,none⟩) m2 m2)∧w'.cell? ⟨Bx,0,none⟩=some (.int .i64 (xa:Int))∧w'.cell? ⟨Bx,1,none⟩=some (.int .i64 (xb:Int))∧w'.cell? ⟨T1,xa,none⟩=some (.slice (A xa) (N1 xa) (C1 xa))∧w'.cell? ⟨T2,xb,none⟩=some (.slice (B xb) (N2 xb) (C2 xb))):=hide (fun w' hk=>⟨(hB5.keep hk).1.cell,(hB5.keep hk).2.1.cell,(hB5.keep hk).2.2.1.cell,(hx.keep hk).c0,(hx.keep hk).c1,(Below.cell (p:=⟨T1,xa,none⟩) (hB.trans (Below.mono hk hB.size)) (uq HA).1).trans ((uq HA).2 xa hxa),(Below.cell (p:=⟨T2,xb,none⟩) (hB.trans (Below.mono hk hB.size)) (uq HB).1).trans ((uq HB).2 xb hxb)⟩);have la:(xa:Int)<(m1:Int):=by omega
  have lb:(xb:Int)<(m2:Int):=by omega
  have la0:(0:Int)≤(xa:Int):=by omega
  have lb0:(0:Int)≤(xb:Int):=by omega
  clear hv hrow hB5 hB hx hr
  gi_wp2_with fail
  refine zeF (S:=fun w'=>w'.cell? ⟨w.heap.size,0,none⟩=some (.slice fa fn fc)∧w'.cell? ⟨w.heap.size+1,0,none⟩=some (.slice (some ⟨T1,0,none⟩) m1 m1)∧w'.cell? ⟨w.heap.size+2,0,none⟩=some (.slice (some ⟨T2,0,none⟩) m2 m2)∧w'.cell? ⟨Bx,0,none⟩=some (.int .i64 (xa:Int))∧w'.cell? ⟨Bx,1,none⟩=some (.int .i64 (xb:Int))∧w'.cell? ⟨T1,xa,none⟩=some (.slice (A xa) (N1 xa) (C1 xa))∧w'.cell? ⟨T2,xb,none⟩=some (.slice (B xb) (N2 xb) (C2 xb))) (by kernel_rfl) (ziy (by rfl)) (uq CK _ ((Keep.refl _).drew)) (fun hHeld=>?_);refine tkk 0 15 hHeld ?_;try simp only[Act.put,Ya,Yb,Yc]
  refine tkk 1 16 hHeld ?_;try simp only[Act.put,Ya,Yb,Yc]
  refine tkk 2 17 hHeld ?_;try simp only[Act.put,Ya,Yb,Yc]
  refine tkk 3 18 hHeld ?_;try simp only[Act.put,Ya,Yb,Yc]
  refine tkk 4 19 hHeld ?_;try simp only[Act.put,Ya,Yb,Yc]
  refine tkk 5 20 hHeld ?_;try simp only[Act.put,Ya,Yb,Yc]
  refine tkk 6 21 hHeld ?_;try simp only[Act.put,Ya,Yb,Yc]
  refine tkk 7 22 hHeld ?_;try simp only[Act.put,Ya,Yb,Yc]
  refine tkk 8 23 hHeld ?_;try simp only[Act.put,Ya,Yb,Yc]
  refine tkk 9 24 hHeld ?_;try simp only[Act.put,Ya,Yb,Yc]
  refine tkk 10 25 hHeld ?_;try simp only[Act.put,Ya,Yb,Yc]
  refine zal 11 (fun K hK=>?_);go_simp;clear hHeld;(refine((uq TFx) _ ((uq HBW).trans (Below.mono ((Keep.refl _).drew) (uq HBW).size))).mono ?_;rintro e w5 ⟨rfl,hk9⟩);try go_wp2_with fail
  refine hK.out _ _ ?_ (fun hHeld=>?_)
  ·exact uq CK _ (((Keep.refl _).drew).trans hk9)
  clear hK K;try simp only[Act.put,Ya,Yb,Yc]
  refine wpAnyH_done (by kernel_rfl) ?_ _;clear hHeld;dsimp only[OnlyP];have K5:Keep W w5:=((Keep.refl W).drew).trans hk9;have HK5:=hide K5;have hb5:Below w.heap.size w w5:=(uq HBW).trans (Below.mono K5 (uq HBW).size);have HB5:=hide hb5;have hv5:=zch (uq HV) K5;have hrow5:=own_k (uq HRW) K5;have hB55:=(uq H5).keep K5;have hx5:=(uq HX).keep K5;have hzb:(zp Z (vls pre)).length≤1000000:=by
   have h1:=zi6 Z (vls pre);have h2:(vls pre).length=pre.length:=by simp[vls]
   have h3:=zcW m2 m1;have h4:m1 * m2≤1000 * 1000:=Nat.mul_le_mul h1m h2m;omega
  clear hk9 K5 CK TFx;cases hz:Z xa xb
  ·have hzn:Hid (zp Z (vls (pre++ [⟨(xa,xb),hxa,hxb⟩]))=zp Z (vls pre)):=hide (by rw[uq hvs];exact zoX hz);clear hz
   gi_wp2
   exact⟨(zhB (uq HK5)).from _,zlD (uq H5) hB55 (Below.mono (uq HK5) (uq HBW).size),⟨v,hv5,by rw[uq hzn];exact hrow5,trivial⟩,hB55,hb5⟩
  ·have hzn:Hid (zp Z (vls (pre++ [⟨(xa,xb),hxa,hxb⟩]))=zp Z (vls pre)++ [(xa,xb)]):=hide (by rw[uq hvs];exact znI hz);clear hz;obtain⟨zl,hzl⟩:∃ L,zp Z (vls pre)=L:=⟨_,rfl⟩;rw[hzl]at hzb hrow5 hzn;clear hzl;have HV5:=hide hv5;have HR5:=hide hrow5;have HH5:=hide hB55;have hc:=hv5.cell;have hc0:=hx5.c0;have hc1:=hx5.c1;simp only at hc0 hc1;clear hv5 hrow5 hB55 hx5 hb5
   gi_wp2_with (gi_at_builtin;refine wpListIn_append_own _ rfl _ _ 53 rfl w.heap.size 57 i0 (.agg #[.int .i64 0,.int .i64 0]) 2 16 Tryz.underlying53 hi hz0 hz1 hz2 rfl (by decide) _ _ _ rfl ((uq HR5).alloc _) ⟨w5.heap.size,0,none⟩ 1 1 [.int .i64 (xa:Int),.int .i64 (xb:Int)] rfl rfl (zes _ _ _ _) (by simp[Value.oneCell']) (by unfold maxLen;omega) (by omega) (by have:=(uq HB5).size;simp;omega) ?_;intro v' w1 hown' hgrow _;obtain⟨g',cap',rfl⟩:=ownsRow_succ hown';obtain⟨hv1,hv2,hr2,hk2,hb2⟩:=(uq HV5).appended (by decide) (uq HR5) (uq HB5).size (by omega) hown' hgrow;have hB51:=(((uq HH5).keep ((Keep.refl w5).alloc _)).kept ((uq HR5).alloc _) hgrow);have hc1:=hv1.cell;have hf1:=hv1.frozen)
   refine⟨((zhB (uq HK5)).trans hk2).from _,zlD (uq H5) (hB51.set _) ((Below.mono (uq HK5) (uq HBW).size).trans hb2),⟨_,hv2,?_,trivial⟩,hB51.set _,(uq HB5).trans hb2⟩;rw[uq hzn,zhA,List.length_append];exact hr2
 case done=>
  rintro D ys W hD hys ⟨⟨v,hv,hrow,_⟩,hB5,hB⟩ hK;rw[hys]at hrow;obtain⟨zl,hzl⟩:∃ zl,zp Z (prA m2 m1)=zl:=⟨_,rfl⟩;have HZ:=hide hzl;rw[hzl]at hrow;clear hzl;have hBK:=hB.trans (belowK_b (w:=w) (Nat.le_refl _) W D (.deferred (some [])) (.deferred none) (by omega) hK rfl rfl);have hown:=ownsRow_putObj hrow (.deferred none) hK rfl;obtain⟨ao,co,rfl⟩:=zbA hrow;obtain⟨N,hN⟩:∃ N,zl.length=N:=⟨_,rfl⟩;rw[hN]at hv;have HN:=hide hN;have HF:=hide (⟨hBK,hown⟩:_∧_);have hc:=hv.cell;clear hBK hown hrow hv hB5 hB hN
  gi_wp2_with fail
  refine⟨by simp,.inl ⟨_,_,rfl,run_takeDeferred hK,?_⟩⟩;refine⟨_,results_tmp rfl _ _ _,.slice ao N co,rfl,(uq HF).1,?_⟩;rw[uq HZ];have h:=(uq HF).2;rw[uq HN]at h ⊢;exact h
 case stop=>
  rintro D c pre W _ _ hf _;exact hf.elim
end Nj
end Go.Proofs.YtpmaonkelkmhbaaGreat
