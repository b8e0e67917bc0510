/- Package show: the printer, whose first part is a strings.Builder: what it writes. -/
import Derived.Test.YtfepanidippjlaaGreatDoorQOne
import Derived.Test.YtfepanidippjlaaGreatDoorQNames
import Derived.Lib.Builder
import Derived.Lib.AppendStr
namespace Go.Proofs.YtfepanidippjlaaGreatDoor
open Go.RowKit
attribute [local go_sem ↓] Go.wp_at_zero Go.wp_at_succ
set_option linter.unusedVariables false
set_option linter.unusedSimpArgs false
set_option maxRecDepth 10000
namespace S
def TB:TypeId:=5
def TP:TypeId:=55
def Bt (w:World) (i:Nat):Prop:=∃ cur fz,w.heap[i]? =some (.cells cur TB fz)
structure Fb (p:Nat) (w w':World):Prop where
 os:w'.os=w.os
 tape:w'.tape=w.tape
 output:w'.output=w.output
 size:w.heap.size≤w'.heap.size
 block:∀ i,i<w.heap.size→i≠p→(i<p∨¬Bt w i)→w'.heap[i]? =w.heap[i]?
theorem Fb.refl (p:Nat) (w:World):Fb p w w:=⟨rfl,rfl,rfl,Nat.le_refl _,fun _ _ _ _=>rfl⟩
theorem Fb.trans {p:Nat} {a b c:World} (h:Fb p a b) (k:Fb p b c):Fb p a c:=
 ⟨k.os.trans h.os,k.tape.trans h.tape,k.output.trans h.output,Nat.le_trans h.size k.size,fun i hi hp hb=>by
  have e:=h.block i hi hp hb;exact(k.block i (Nat.lt_of_lt_of_le hi h.size) hp (hb.imp id (fun hb ⟨cur,fz,hc⟩=>hb ⟨cur,fz,e▸hc⟩))).trans e⟩
theorem Fb.keep {p:Nat} {a b:World} (k:Keep a b):Fb p a b:=⟨k.os,k.tape,k.output,k.size,fun i hi _ _=>k.block i hi⟩
theorem Fb.set (w:World) (p j:Nat) (v:Value):Fb p w (w.setCell ⟨p,j,none⟩ v):=⟨rfl,rfl,rfl,by simp[World.setCell],fun i hi hp _=>Below.heap_setCell _ _ _ _ hp⟩
theorem Fb.grown {p:Nat} {w w':World} {v:Value} {n:Nat} {xs:List Value} (h:w.ownsRow (p+1) TB 1 v n xs) (g:w.grownBy w' v.ownBlock):Fb p w w':=
 ⟨g.os,g.tape,g.output,g.size,fun i hi _ hb=>g.block i hi (fun e=>by
  rcases h.2 with ⟨rfl,_⟩|⟨gg,cap,cur,rfl,hge,hg,_⟩
  ·simp[Value.ownBlock]at e
  ·simp only[Value.ownBlock,Option.some.injEq]at e;subst e;rcases hb with hb|hb
   ·omega
   ·exact hb ⟨cur,_,hg⟩)⟩
def Pr (w:World) (p:Nat) (out:List UInt8) (op:Int) (la:ByteArray):Prop:=∃ q v,(q= .pointer none∨q= .pointer (some ⟨p,0,none⟩))∧w.heap[p]? =some (.cells #[q,v,.int .i64 op,.string la] TP (0,0))∧w.ownsRow (p+1) TB 1 v out.length (bc out)
theorem zeP {w:World} {p base:Nat} {arr:Array Value} {v:Value} {n:Nat} {xs:List Value} (hp:w.heap[p]? =some (.cells arr TP (0,0))) (h:w.ownsRow base TB 1 v n xs):v.ownBlock≠some p:=by
 intro e
 rcases h.2 with ⟨rfl,_⟩|⟨g,cap,cur,rfl,_,hg,_⟩
 ·simp[Value.ownBlock]at e
 ·simp only[Value.ownBlock,Option.some.injEq]at e;subst e;rw[hp]at hg;injection hg with hg
  injection hg with _ hg _
  exact absurd hg (by decide)
theorem Pr.keep {w w':World} {p:Nat} {out:List UInt8} {op:Int} {la:ByteArray} (h:Pr w p out op la) (k:Keep w w'):Pr w' p out op la:=by
 obtain⟨q,v,h1,h2,h3⟩:=h;exact⟨q,v,h1,by rw[k.block p (Array.getElem?_eq_some_iff.1 h2).1];exact h2,zds h3 k⟩
theorem zoB:(Tryz.prog.info? 5).map (fun i=>(i.zero,i.size,i.bytes))=some (some (.int .u8 0),1,1):=by kernel_rfl
theorem zkb:(Tryz.prog.info? 53).map (·.size)=some 2:=by kernel_rfl
theorem zqG:liesAt Tryz.prog Tryz.prog.depth TP (4 / Tryz.prog.cellsOf TP) 0 53 1=true:=by kernel_rfl
set_option maxHeartbeats 2000000 in
theorem zgg (p:Nat) (w:World) (h0:w.cell? ⟨p,0,none⟩=some (.pointer (some ⟨p,0,none⟩))):Calls Tryz.prog 114 #[.pointer (some ⟨p,0,none⟩)] w fun e w'=>e= .returned (.tuple #[])∧w'=w:=by
 obtain⟨j,hj,_⟩:=Option.map_eq_some_iff.1 zkb;have hq:=Lib.run_neq_ptr_same (P:=Tryz.prog) w ⟨p,0,none⟩ Tryz.underlying51 hj;go_enter Tryz.func114,Tryz.ntmps114;go_wp2_with fail
 go_end0
 exact⟨rfl,rfl⟩
set_option maxHeartbeats 2000000 in
theorem zfg (p:Nat) (w:World) (h0:w.cell? ⟨p,0,none⟩=some (.pointer none)) (hsh:w.shape? p=some (TP,4)) (hfz:w.frozen? ⟨p,0,none⟩=false):Calls Tryz.prog 114 #[.pointer (some ⟨p,0,none⟩)] w fun e w'=>e= .returned (.tuple #[])∧w'=w.setCell ⟨p,0,none⟩ (.pointer (some ⟨p,0,none⟩)):=by
 obtain⟨j,hj,hjs⟩:=Option.map_eq_some_iff.1 zkb;have r1:=Lib.run_to_unsafe (P:=Tryz.prog) w ⟨p,0,none⟩ Tryz.underlying51 Tryz.underlying136 hj (by rw[hjs];decide) hsh (Nat.zero_lt_succ 3);have r2:=Lib.run_from_unsafe (P:=Tryz.prog) w ⟨p,0,none⟩ Tryz.underlying136 Tryz.underlying51 hj hsh zqG;go_enter Tryz.func114,Tryz.ntmps114;go_wp2_with fail
 rw[run_callFunc_extern Tryz.func148 (by kernel_rfl) (by kernel_rfl) (by kernel_rfl) (e:=Extern.AbiNoEscape.same) (by kernel_rfl)];rw[Lib.run_noEscape];simp only[Result.andThen];rw[Oper.upon_value];go_wp2_with fail
 go_end0
 exact⟨rfl,rfl⟩
theorem zhA {w:World} {p:Nat} {a b c d:Value} {t:TypeId} {fr:Nat×Nat} (h:w.heap[p]? =some (.cells #[a,b,c,d] t fr)) (u:Value):(w.setCell ⟨p,0,none⟩ u).heap[p]? =some (.cells #[u,b,c,d] t fr):=by simp[World.setCell,Array.getElem?_modify,h]
theorem zeQ {w:World} {p:Nat} {a b c d:Value} {t:TypeId} {fr:Nat×Nat} (h:w.heap[p]? =some (.cells #[a,b,c,d] t fr)) (u:Value):(w.setCell ⟨p,1,none⟩ u).heap[p]? =some (.cells #[a,u,c,d] t fr):=by simp[World.setCell,Array.getElem?_modify,h]
theorem zhB {w:World} {p:Nat} {a b c d:Value} {t:TypeId} {fr:Nat×Nat} (h:w.heap[p]? =some (.cells #[a,b,c,d] t fr)) (u:Value):(w.setCell ⟨p,2,none⟩ u).heap[p]? =some (.cells #[a,b,u,d] t fr):=by simp[World.setCell,Array.getElem?_modify,h]
theorem zeR {w:World} {p:Nat} {a b c d:Value} {t:TypeId} {fr:Nat×Nat} (h:w.heap[p]? =some (.cells #[a,b,c,d] t fr)) (u:Value):(w.setCell ⟨p,3,none⟩ u).heap[p]? =some (.cells #[a,b,c,u] t fr):=by simp[World.setCell,Array.getElem?_modify,h]
theorem zdg {w:World} {p j base:Nat} {v u:Value} {n:Nat} {xs:List Value} (h:w.ownsRow base TB 1 v n xs) (hn:v.ownBlock≠some p):(w.setCell ⟨p,j,none⟩ u).ownsRow base TB 1 v n xs:=zj8 h (fun g hg=>Below.heap_setCell _ _ _ _ (fun e=>hn (by have e2:g=p:=e;rw[hg,e2])))
def Us (w:World) (p:Nat) (out:List UInt8) (op:Int) (la:ByteArray):Prop:=∃ v,w.heap[p]? =some (.cells #[.pointer (some ⟨p,0,none⟩),v,.int .i64 op,.string la] TP (0,0))∧w.ownsRow (p+1) TB 1 v out.length (bc out)
theorem zeS {w:World} {p:Nat} {out:List UInt8} {op:Int} {la:ByteArray} (h:Pr w p out op la):Calls Tryz.prog 114 #[.pointer (some ⟨p,0,none⟩)] w fun e w'=>e= .returned (.tuple #[])∧Us w' p out op la∧Fb p w w':=by
 obtain⟨q,v,h1,h2,h3⟩:=h;rcases h1 with rfl|rfl
 ·refine(zfg p w (by simp[World.cell?,h2]) (by simp[World.shape?,h2]) (by simp[World.frozen?,h2])).mono ?_;rintro e w' ⟨rfl,rfl⟩;exact⟨rfl,⟨v,zhA h2 _,zdg h3 (zeP h2 h3)⟩,Fb.set _ _ _ _⟩
 ·refine(zgg p w (by simp[World.cell?,h2])).mono ?_;rintro e w' ⟨rfl,rfl⟩;exact⟨rfl,⟨v,h2,h3⟩,Fb.refl _ _⟩
theorem zoC (s:ByteArray):Lib.strCells s=bc s.data.toList:=rfl
theorem zfS {w:World} {base:Nat} {v:Value} {n:Nat} {xs:List Value} (h:w.ownsRow base TB 1 v n xs):∃ a c,v= .slice a n c:=by
 rcases h.2 with ⟨rfl,rfl⟩|⟨g,cap,cur,rfl,_⟩
 ·exact⟨_,_,rfl⟩
 ·exact⟨_,_,rfl⟩
set_option maxHeartbeats 4000000 in
theorem zby {w:World} {p:Nat} {out:List UInt8} {op:Int} {la:ByteArray} (s:ByteArray) (hl:out.length+s.size≤100000000000) (h:Pr w p out op la):Calls Tryz.prog 78 #[.pointer (some ⟨p,0,none⟩),.string s] w fun e w'=>e= .returned (.tuple #[.int .i64 s.size,.nilIface])∧Pr w' p (out++s.data.toList) op la∧Fb p w w':=by
 obtain⟨i0,hi,hz0,hz1,hz2⟩:=zaN zoB;have HI0:=hide hi;have HZ0:=hide hz0;have HZ1:=hide hz1;have HZ2:=hide hz2;have HP:=hide h;clear hi hz0 hz1 hz2 h;go_enter Tryz.func78,Tryz.ntmps78;go_wp2_with fail
 (refine(zeS (uq HP)).mono ?_;rintro e w1 ⟨rfl,⟨v,hb,ho⟩,hf⟩;have HF:=hide hf;have HBk:=hide hb;have HO:=hide ho;clear hf hb ho);obtain⟨va,vc,rfl⟩:=zfS (uq HO);have c1:w1.cell? ⟨p,1,none⟩=some (.slice va out.length vc):=by simp[World.cell?,uq HBk]
 obtain⟨n,HN⟩:∃ n,Hid (out.length=n):=⟨_,rfl⟩;rw[uq HN]at HO c1 hl HBk;go_wp2_with (at_builtin;refine Lib.wpList_append_own_string _ rfl _ _ 29 9 rfl (p+1) 5 i0 Tryz.underlying29 Tryz.underlying9 (uq HI0) (uq HZ0) (uq HZ1) (uq HZ2) _ _ _ rfl (uq HO) s rfl (by unfold maxLen;omega) (by omega) (by have:=(Array.getElem?_eq_some_iff.1 (uq HBk)).1;omega) ?_;intro v' w2 hown' hgrow _;have HOW:=hide hown';have HGR:=hide hgrow;obtain⟨a',c',rfl⟩:=zfS hown';have hb2:w2.heap[p]? =some (.cells #[.pointer (some ⟨p,0,none⟩),.slice va n vc,.int .i64 op,.string la] TP (0,0)):=(by rw[hgrow.block p (Array.getElem?_eq_some_iff.1 (uq HBk)).1 (fun e=>zeP (uq HBk) (uq HO) e.symm)];exact uq HBk);have HB2:=hide hb2;have d1:w2.cell? ⟨p,1,none⟩=some (.slice va n vc):=(by simp[World.cell?,hb2]);have f1:w2.frozen? ⟨p,1,none⟩=false:=(by simp[World.frozen?,hb2]);clear hown' hgrow hb2)
 go_ret2;refine⟨rfl,⟨_,_,.inr rfl,zeQ (uq HB2) _,?_⟩,((uq HF).trans (Fb.grown (uq HO) (uq HGR))).trans (Fb.set _ _ _ _)⟩;have ho:=zdg (p:=p) (j:=1) (u:= .slice a' (n+s.size) c') (uq HOW) (zeP (uq HB2) (uq HOW));rw[zoC,← zeM]at ho;rw[List.length_append,uq HN,Array.length_toList];exact ho
set_option maxHeartbeats 4000000 in
theorem zjd {w:World} {p:Nat} {out:List UInt8} {op:Int} {la:ByteArray} (c:UInt8) (hl:out.length+1≤100000000000) (h:Pr w p out op la):Calls Tryz.prog 116 #[.pointer (some ⟨p,0,none⟩),.int .u8 (c.toNat:Int)] w fun e w'=>e= .returned .nilIface∧Pr w' p (out++ [c]) op la∧Fb p w w':=by
 obtain⟨i0,hi,hz0,hz1,hz2⟩:=zaN zoB;have HI0:=hide hi;have HZ0:=hide hz0;have HZ1:=hide hz1;have HZ2:=hide hz2;have HP:=hide h;clear hi hz0 hz1 hz2 h;obtain⟨x,HX⟩:∃ x:Int,Hid ((c.toNat:Int)=x):=⟨_,rfl⟩;rw[uq HX];go_enter Tryz.func116,Tryz.ntmps116;go_wp2_with fail
 (refine(zeS (uq HP)).mono ?_;rintro e w1 ⟨rfl,⟨v,hb,ho⟩,hf⟩;have HF:=hide hf;have HBk:=hide hb;have HO:=hide ho;clear hf hb ho);obtain⟨va,vc,rfl⟩:=zfS (uq HO);have c1:w1.cell? ⟨p,1,none⟩=some (.slice va out.length vc):=by simp[World.cell?,uq HBk]
 obtain⟨n,HN⟩:∃ n,Hid (out.length=n):=⟨_,rfl⟩;rw[uq HN]at HO c1 hl HBk;go_wp2_with (at_builtin;refine wpList_append_own _ rfl _ _ 29 rfl (p+1) 5 i0 (.int .u8 0) 1 1 Tryz.underlying29 (uq HI0) (uq HZ0) (uq HZ1) (uq HZ2) rfl (by decide) _ _ _ rfl ((uq HO).alloc _) ⟨w1.heap.size,0,none⟩ 1 1 [.int .u8 x] rfl rfl (Q.new_cells w1 [.int .u8 x] 5) (by simp[Value.oneCell']) (by unfold maxLen;omega) (by omega) (by have:=(Array.getElem?_eq_some_iff.1 (uq HBk)).1;rw[World.size_alloc];omega) ?_;intro v' w2 hown' hgrow _;have HOW:=hide hown';have HGR:=hide hgrow;obtain⟨a',c',rfl⟩:=zfS hown';have hb2:w2.heap[p]? =some (.cells #[.pointer (some ⟨p,0,none⟩),.slice va n vc,.int .i64 op,.string la] TP (0,0)):=(by have hlt:=(Array.getElem?_eq_some_iff.1 (uq HBk)).1;rw[hgrow.block p (by rw[World.size_alloc];omega) (fun e=>zeP (uq HBk) (uq HO) e.symm),heap_alloc_old _ _ hlt];exact uq HBk);have HB2:=hide hb2;have d1:w2.cell? ⟨p,1,none⟩=some (.slice va n vc):=(by simp[World.cell?,hb2]);have f1:w2.frozen? ⟨p,1,none⟩=false:=(by simp[World.frozen?,hb2]);clear hown' hgrow hb2)
 go_ret;refine⟨rfl,⟨_,_,.inr rfl,zeQ (uq HB2) _,?_⟩,(((uq HF).trans (Fb.keep ((Keep.refl w1).alloc _))).trans (Fb.grown ((uq HO).alloc _) (uq HGR))).trans (Fb.set _ _ _ _)⟩;have ho:=zdg (p:=p) (j:=1) (u:= .slice a' (n+1) c') (uq HOW) (zeP (uq HB2) (uq HOW));rw[← uq HX,show bc out++ [Value.int .u8 (c.toNat:Int)]=bc (out++ [c])from(zeM out [c]).symm]at ho;rw[List.length_append,uq HN];exact ho
set_option maxHeartbeats 2000000 in
theorem zeu {w:World} {p:Nat} {out:List UInt8} {op:Int} {la:ByteArray} (hl:out.length+1≤100000000000) (h:Pr w p out op la):Calls Tryz.prog 80 #[.pointer (some ⟨p,0,none⟩)] w fun e w'=>e= .returned (.tuple #[])∧Pr w' p (out++ [10]) op ⟨#[]⟩∧Fb p w w':=by
 have HP:=hide h;clear h;go_enter Tryz.func80,Tryz.ntmps80;go_wp2_with fail
 (refine(zjd 10 hl (uq HP)).mono ?_;rintro e w1 ⟨rfl,⟨q,v,hq,hb,ho⟩,hf⟩;have HF:=hide hf;have HBk:=hide hb;have HO:=hide ho;have HQ:=hide hq;clear hf hb ho hq);have c3:w1.cell? ⟨p,3,none⟩=some (.string la):=by simp[World.cell?,uq HBk]
 have f3:w1.frozen? ⟨p,3,none⟩=false:=by simp[World.frozen?,uq HBk]
 go_wp2_with fail
 go_end0
 exact⟨rfl,⟨q,v,uq HQ,zeR (uq HBk) _,zdg (uq HO) (zeP (uq HBk) (uq HO))⟩,(uq HF).trans (Fb.set _ _ _ _)⟩
end S
end Go.Proofs.YtfepanidippjlaaGreatDoor
