/- Package show: the printer, whose first part is a strings.Builder: what it writes. -/
import Derived.Test.YthceiikgecoimaaGreatDoorQOne
import Derived.Test.YthceiikgecoimaaGreatDoorQNames
import Derived.Lib.Builder
import Derived.Lib.AppendStr
import Derived.Test.YthceiikgecoimaaGreatDoorLVal
import Derived.Deep.DrawnRows
import Derived.Deep.RegionHeld
namespace Go.Proofs.YthceiikgecoimaaGreatDoor
open Go.RowKit
attribute [local go_sem ↓] Go.wp_at_zero Go.wp_at_succ
set_option linter.unusedVariables false
set_option linter.unusedSimpArgs false
set_option maxRecDepth 10000
namespace S
def TB:TypeId:=5
def TP:TypeId:=54
def Bt (w:World) (i:Nat):Prop:=∃ cur fz,w.heap[i]? =some (.cells cur TB fz)
structure Fb (p:Nat) (w w':World):Prop where
 os:w'.os=w.os
 tape:w'.tape=w.tape
 output:w'.output=w.output
 size:w.heap.size<=w'.heap.size
 block:∀ i,i<w.heap.size->i≠p->(i<p\/¬Bt w i)->w'.heap[i]? =w.heap[i]?
theorem Fb.refl (p:Nat) (w:World):Fb p w w:=⟨rfl,rfl,rfl,Nat.le_refl _,λ_ _ _ _=>rfl⟩
theorem Fb.trans {p:Nat} {a b c:World} (h:Fb p a b) (k:Fb p b c):Fb p a c:=
 ⟨k.os.trans h.os,k.tape.trans h.tape,k.output.trans h.output,Nat.le_trans h.size k.size,λi hi hp hb=>by
  have e:=h.block i hi hp hb;exact(k.block i (Nat.lt_of_lt_of_le hi h.size) hp (hb.imp id (λhb ⟨cur,fz,hc⟩=>hb ⟨cur,fz,e▸hc⟩))).trans e⟩
theorem Fb.keep {p:Nat} {a b:World} (k:Keep a b):Fb p a b:=⟨k.os,k.tape,k.output,k.size,λi hi _ _=>k.block i hi⟩
theorem Fb.set (w:World) (p j:Nat) (v:Value):Fb p w (w.setCell ⟨p,j,none⟩ v):=⟨rfl,rfl,rfl,by simp[World.setCell],λi hi hp _=>Below.heap_setCell _ _ _ _ hp⟩
theorem Fb.grown {p:Nat} {w w':World} {v:Value} {n:Nat} {xs:List Value} (h:w.ownsRow (p+1) TB 1 v n xs) (g:w.grownBy w' v.ownBlock):Fb p w w':=
 ⟨g.os,g.tape,g.output,g.size,λi hi _ hb=>g.block i hi (λe=>by
  rcases h.2 with ⟨rfl,_⟩|⟨gg,cap,cur,rfl,hge,hg,_⟩
  ·simp[Value.ownBlock]at e
  ·simp only[Value.ownBlock,Option.some.injEq]at e;subst e;rcases hb with hb|hb
   ·omega
   ·exact hb ⟨cur,_,hg⟩)⟩
def Pr (w:World) (p:Nat) (out:List UInt8) (op:Int) (la:ByteArray):Prop:=∃ q v,(q= .pointer none\/q= .pointer (some ⟨p,0,none⟩))/\w.heap[p]? =some (.cells #[q,v,.int .i64 op,.string la] TP (0,0))/\w.ownsRow (p+1) TB 1 v out.length (bc out)
theorem zf5 {w:World} {p base:Nat} {arr:Array Value} {v:Value} {n:Nat} {xs:List Value} (hp:w.heap[p]? =some (.cells arr TP (0,0))) (h:w.ownsRow base TB 1 v n xs):v.ownBlock≠some p:=by
 intro e
 rcases h.2 with ⟨rfl,_⟩|⟨g,cap,cur,rfl,_,hg,_⟩
 ·simp[Value.ownBlock]at e
 ·simp only[Value.ownBlock,Option.some.injEq]at e;subst e;rw[hp]at hg;injection hg with hg
  injection hg with _ hg _
  exact absurd hg (by decide)
theorem Pr.keep {w w':World} {p:Nat} {out:List UInt8} {op:Int} {la:ByteArray} (h:Pr w p out op la) (k:Keep w w'):Pr w' p out op la:=by
 obtain⟨q,v,h1,h2,h3⟩:=h;exact⟨q,v,h1,by rw[k.block p (Array.getElem?_eq_some_iff.1 h2).1];exact h2,zeq h3 k⟩
theorem zq3:(Tryz.prog.info? 5).map (λi=>(i.zero,i.size,i.bytes))=some (some (.int .u8 0),1,1):=by kernel_rfl
theorem zl4:(Tryz.prog.info? 52).map (·.size)=some 2:=by kernel_rfl
theorem zsY:liesAt Tryz.prog Tryz.prog.depth TP (4 / Tryz.prog.cellsOf TP) 0 52 1=true:=by kernel_rfl
set_option maxHeartbeats 2000000 in
theorem zhL (p:Nat) (w:World) (h0:w.cell? ⟨p,0,none⟩=some (.pointer (some ⟨p,0,none⟩))):Calls Tryz.prog 95 #[.pointer (some ⟨p,0,none⟩)] w λe w'=>e= .returned (.tuple #[])/\w'=w:=by
 obtain⟨j,hj,_⟩:=Option.map_eq_some_iff.1 zl4;have hq:=Lib.run_neq_ptr_same (P:=Tryz.prog) w ⟨p,0,none⟩ Tryz.underlying50 hj;go_enter Tryz.func95,Tryz.ntmps95;go_wp2_with fail
 go_end0
 exact⟨rfl,rfl⟩
set_option maxHeartbeats 2000000 in
theorem zgB (p:Nat) (w:World) (h0:w.cell? ⟨p,0,none⟩=some (.pointer none)) (hsh:w.shape? p=some (TP,4)) (hfz:w.frozen? ⟨p,0,none⟩=false):Calls Tryz.prog 95 #[.pointer (some ⟨p,0,none⟩)] w λe w'=>e= .returned (.tuple #[])/\w'=w.setCell ⟨p,0,none⟩ (.pointer (some ⟨p,0,none⟩)):=by
 obtain⟨j,hj,hjs⟩:=Option.map_eq_some_iff.1 zl4;have r1:=Lib.run_to_unsafe (P:=Tryz.prog) w ⟨p,0,none⟩ Tryz.underlying50 Tryz.underlying128 hj (by rw[hjs];decide) hsh (Nat.zero_lt_succ 3);have r2:=Lib.run_from_unsafe (P:=Tryz.prog) w ⟨p,0,none⟩ Tryz.underlying128 Tryz.underlying50 hj hsh zsY;go_enter Tryz.func95,Tryz.ntmps95;go_wp2_with fail
 rw[run_callFunc_extern Tryz.func130 (by kernel_rfl) (by kernel_rfl) (by kernel_rfl) (e:=Extern.AbiNoEscape.same) (by kernel_rfl)];rw[Lib.run_noEscape];simp only[Result.andThen];rw[Oper.upon_value];go_wp2_with fail
 go_end0
 exact⟨rfl,rfl⟩
theorem zjf {w:World} {p:Nat} {a b c d:Value} {t:TypeId} {fr:Nat×Nat} (h:w.heap[p]? =some (.cells #[a,b,c,d] t fr)) (u:Value):(w.setCell ⟨p,0,none⟩ u).heap[p]? =some (.cells #[u,b,c,d] t fr):=by simp[World.setCell,Array.getElem?_modify,h]
theorem zf6 {w:World} {p:Nat} {a b c d:Value} {t:TypeId} {fr:Nat×Nat} (h:w.heap[p]? =some (.cells #[a,b,c,d] t fr)) (u:Value):(w.setCell ⟨p,1,none⟩ u).heap[p]? =some (.cells #[a,u,c,d] t fr):=by simp[World.setCell,Array.getElem?_modify,h]
theorem zjg {w:World} {p:Nat} {a b c d:Value} {t:TypeId} {fr:Nat×Nat} (h:w.heap[p]? =some (.cells #[a,b,c,d] t fr)) (u:Value):(w.setCell ⟨p,2,none⟩ u).heap[p]? =some (.cells #[a,b,u,d] t fr):=by simp[World.setCell,Array.getElem?_modify,h]
theorem zf7 {w:World} {p:Nat} {a b c d:Value} {t:TypeId} {fr:Nat×Nat} (h:w.heap[p]? =some (.cells #[a,b,c,d] t fr)) (u:Value):(w.setCell ⟨p,3,none⟩ u).heap[p]? =some (.cells #[a,b,c,u] t fr):=by simp[World.setCell,Array.getElem?_modify,h]
theorem zdZ {w:World} {p j base:Nat} {v u:Value} {n:Nat} {xs:List Value} (h:w.ownsRow base TB 1 v n xs) (hn:v.ownBlock≠some p):(w.setCell ⟨p,j,none⟩ u).ownsRow base TB 1 v n xs:=zhh h (λg hg=>Below.heap_setCell _ _ _ _ (λe=>hn (by have e2:g=p:=e;rw[hg,e2])))
def Us (w:World) (p:Nat) (out:List UInt8) (op:Int) (la:ByteArray):Prop:=∃ v,w.heap[p]? =some (.cells #[.pointer (some ⟨p,0,none⟩),v,.int .i64 op,.string la] TP (0,0))/\w.ownsRow (p+1) TB 1 v out.length (bc out)
theorem zf8 {w:World} {p:Nat} {out:List UInt8} {op:Int} {la:ByteArray} (h:Pr w p out op la):Calls Tryz.prog 95 #[.pointer (some ⟨p,0,none⟩)] w λe w'=>e= .returned (.tuple #[])/\Us w' p out op la/\Fb p w w':=by
 obtain⟨q,v,h1,h2,h3⟩:=h;rcases h1 with rfl|rfl
 ·refine(zgB p w (by simp[World.cell?,h2]) (by simp[World.shape?,h2]) (by simp[World.frozen?,h2])).mono ?_;rintro e w' ⟨rfl,rfl⟩;exact⟨rfl,⟨v,zjf h2 _,zdZ h3 (zf5 h2 h3)⟩,Fb.set _ _ _ _⟩
 ·refine(zhL p w (by simp[World.cell?,h2])).mono ?_;rintro e w' ⟨rfl,rfl⟩;exact⟨rfl,⟨v,h2,h3⟩,Fb.refl _ _⟩
theorem zq4 (s:ByteArray):Lib.strCells s=bc s.data.toList:=rfl
theorem zho {w:World} {base:Nat} {v:Value} {n:Nat} {xs:List Value} (h:w.ownsRow base TB 1 v n xs):∃ a c,v= .slice a n c:=by
 rcases h.2 with ⟨rfl,rfl⟩|⟨g,cap,cur,rfl,_⟩
 ·exact⟨_,_,rfl⟩
 ·exact⟨_,_,rfl⟩
set_option maxHeartbeats 4000000 in
theorem zbX {w:World} {p:Nat} {out:List UInt8} {op:Int} {la:ByteArray} (s:ByteArray) (hl:out.length+s.size<=100000000000) (h:Pr w p out op la):Calls Tryz.prog 62 #[.pointer (some ⟨p,0,none⟩),.string s] w λe w'=>e= .returned (.tuple #[.int .i64 s.size,.nilIface])/\Pr w' p (out++s.data.toList) op la/\Fb p w w':=by
 obtain⟨i0,hi,hz0,hz1,hz2⟩:=zaG zq3;have HI0:=zh hi;have HZ0:=zh hz0;have HZ1:=zh hz1;have HZ2:=zh hz2;have HP:=zh h;clear hi hz0 hz1 hz2 h;go_enter Tryz.func62,Tryz.ntmps62;go_wp2_with fail
 (refine(zf8 (uq HP)).mono ?_;rintro e w1 ⟨rfl,⟨v,hb,ho⟩,hf⟩;have HF:=zh hf;have HBk:=zh hb;have HO:=zh ho;clear hf hb ho);obtain⟨va,vc,rfl⟩:=zho (uq HO);have c1:w1.cell? ⟨p,1,none⟩=some (.slice va out.length vc):=by simp[World.cell?,uq HBk]
 obtain⟨n,HN⟩:∃ n,Hid (out.length=n):=⟨_,rfl⟩;rw[uq HN]at HO c1 hl HBk;go_wp2_with (at_builtin;refine Lib.wpList_append_own_string _ rfl _ _ 29 9 rfl (p+1) 5 i0 Tryz.underlying29 Tryz.underlying9 (uq HI0) (uq HZ0) (uq HZ1) (uq HZ2) _ _ _ rfl (uq HO) s rfl (by unfold maxLen;omega) (by omega) (by have:=(Array.getElem?_eq_some_iff.1 (uq HBk)).1;omega) ?_;intro v' w2 hown' hgrow _;have HOW:=zh hown';have HGR:=zh hgrow;obtain⟨a',c',rfl⟩:=zho hown';have hb2:w2.heap[p]? =some (.cells #[.pointer (some ⟨p,0,none⟩),.slice va n vc,.int .i64 op,.string la] TP (0,0)):=(by rw[hgrow.block p (Array.getElem?_eq_some_iff.1 (uq HBk)).1 (λe=>zf5 (uq HBk) (uq HO) e.symm)];exact uq HBk);have HB2:=zh hb2;have d1:w2.cell? ⟨p,1,none⟩=some (.slice va n vc):=(by simp[World.cell?,hb2]);have f1:w2.frozen? ⟨p,1,none⟩=false:=(by simp[World.frozen?,hb2]);clear hown' hgrow hb2)
 go_ret2;refine⟨rfl,⟨_,_,.inr rfl,zf6 (uq HB2) _,?_⟩,((uq HF).trans (Fb.grown (uq HO) (uq HGR))).trans (Fb.set _ _ _ _)⟩;have ho:=zdZ (p:=p) (j:=1) (u:= .slice a' (n+s.size) c') (uq HOW) (zf5 (uq HB2) (uq HOW));rw[zq4,<- zf2]at ho;rw[List.length_append,uq HN,Array.length_toList];exact ho
set_option maxHeartbeats 4000000 in
theorem zk1 {w:World} {p:Nat} {out:List UInt8} {op:Int} {la:ByteArray} (c:UInt8) (hl:out.length+1<=100000000000) (h:Pr w p out op la):Calls Tryz.prog 97 #[.pointer (some ⟨p,0,none⟩),.int .u8 (c.toNat:Int)] w λe w'=>e= .returned .nilIface/\Pr w' p (out++ [c]) op la/\Fb p w w':=by
 obtain⟨i0,hi,hz0,hz1,hz2⟩:=zaG zq3;have HI0:=zh hi;have HZ0:=zh hz0;have HZ1:=zh hz1;have HZ2:=zh hz2;have HP:=zh h;clear hi hz0 hz1 hz2 h;obtain⟨x,HX⟩:∃ x:Int,Hid ((c.toNat:Int)=x):=⟨_,rfl⟩;rw[uq HX];go_enter Tryz.func97,Tryz.ntmps97;go_wp2_with fail
 (refine(zf8 (uq HP)).mono ?_;rintro e w1 ⟨rfl,⟨v,hb,ho⟩,hf⟩;have HF:=zh hf;have HBk:=zh hb;have HO:=zh ho;clear hf hb ho);obtain⟨va,vc,rfl⟩:=zho (uq HO);have c1:w1.cell? ⟨p,1,none⟩=some (.slice va out.length vc):=by simp[World.cell?,uq HBk]
 obtain⟨n,HN⟩:∃ n,Hid (out.length=n):=⟨_,rfl⟩;rw[uq HN]at HO c1 hl HBk;go_wp2_with (at_builtin;refine wpList_append_own _ rfl _ _ 29 rfl (p+1) 5 i0 (.int .u8 0) 1 1 Tryz.underlying29 (uq HI0) (uq HZ0) (uq HZ1) (uq HZ2) rfl (by decide) _ _ _ rfl ((uq HO).alloc _) ⟨w1.heap.size,0,none⟩ 1 1 [.int .u8 x] rfl rfl (Q.new_cells w1 [.int .u8 x] 5) (by simp[Value.oneCell']) (by unfold maxLen;omega) (by omega) (by have:=(Array.getElem?_eq_some_iff.1 (uq HBk)).1;rw[World.size_alloc];omega) ?_;intro v' w2 hown' hgrow _;have HOW:=zh hown';have HGR:=zh hgrow;obtain⟨a',c',rfl⟩:=zho hown';have hb2:w2.heap[p]? =some (.cells #[.pointer (some ⟨p,0,none⟩),.slice va n vc,.int .i64 op,.string la] TP (0,0)):=(by have hlt:=(Array.getElem?_eq_some_iff.1 (uq HBk)).1;rw[hgrow.block p (by rw[World.size_alloc];omega) (λe=>zf5 (uq HBk) (uq HO) e.symm),heap_alloc_old _ _ hlt];exact uq HBk);have HB2:=zh hb2;have d1:w2.cell? ⟨p,1,none⟩=some (.slice va n vc):=(by simp[World.cell?,hb2]);have f1:w2.frozen? ⟨p,1,none⟩=false:=(by simp[World.frozen?,hb2]);clear hown' hgrow hb2)
 go_ret;refine⟨rfl,⟨_,_,.inr rfl,zf6 (uq HB2) _,?_⟩,(((uq HF).trans (Fb.keep ((zk w1).alloc _))).trans (Fb.grown ((uq HO).alloc _) (uq HGR))).trans (Fb.set _ _ _ _)⟩;have ho:=zdZ (p:=p) (j:=1) (u:= .slice a' (n+1) c') (uq HOW) (zf5 (uq HB2) (uq HOW));rw[<- uq HX,show bc out++ [Value.int .u8 (c.toNat:Int)]=bc (out++ [c])from(zf2 out [c]).symm]at ho;rw[List.length_append,uq HN];exact ho
set_option maxHeartbeats 2000000 in
theorem zfI {w:World} {p:Nat} {out:List UInt8} {op:Int} {la:ByteArray} (hl:out.length+1<=100000000000) (h:Pr w p out op la):Calls Tryz.prog 64 #[.pointer (some ⟨p,0,none⟩)] w λe w'=>e= .returned (.tuple #[])/\Pr w' p (out++ [10]) op ⟨#[]⟩/\Fb p w w':=by
 have HP:=zh h;clear h;go_enter Tryz.func64,Tryz.ntmps64;go_wp2_with fail
 (refine(zk1 10 hl (uq HP)).mono ?_;rintro e w1 ⟨rfl,⟨q,v,hq,hb,ho⟩,hf⟩;have HF:=zh hf;have HBk:=zh hb;have HO:=zh ho;have HQ:=zh hq;clear hf hb ho hq);have c3:w1.cell? ⟨p,3,none⟩=some (.string la):=by simp[World.cell?,uq HBk]
 have f3:w1.frozen? ⟨p,3,none⟩=false:=by simp[World.frozen?,uq HBk]
 go_wp2_with fail
 go_end0
 exact⟨rfl,⟨q,v,uq HQ,zf7 (uq HBk) _,zdZ (uq HO) (zf5 (uq HBk) (uq HO))⟩,(uq HF).trans (Fb.set _ _ _ _)⟩
end S
namespace S
set_option maxHeartbeats 4000000 in
theorem zsZ (w:World):Calls Tryz.prog 96 #[.string ⟨#[32,32]⟩,.int .i64 0] w λe w'=>e= .returned (.string ⟨#[]⟩)/\Keep w w':=by
 go_enter Tryz.func96,Tryz.ntmps96;go_wp2;go_ret;exact⟨rfl,zk _⟩
set_option maxHeartbeats 4000000 in
theorem zs0 (w:World):Calls Tryz.prog 96 #[.string ⟨#[32,32]⟩,.int .i64 1] w λe w'=>e= .returned (.string ⟨#[32,32]⟩)/\Keep w w':=by
 go_enter Tryz.func96,Tryz.ntmps96;go_wp2;go_ret;exact⟨rfl,zk _⟩
set_option maxHeartbeats 4000000 in
theorem zsi (w:World):Calls Tryz.prog 131 #[.int .u64 2,.int .u64 2] w λe w'=>e= .returned (.tuple #[.int .u64 0,.int .u64 4])/\w'=w:=by
 go_enter Tryz.func131,Tryz.ntmps131;go_wp2;go_ret2;exact⟨by kernel_rfl,rfl⟩
set_option maxHeartbeats 4000000 in
theorem zsj (S:ByteArray) (w:World) (h1:¬(S.size:Int)<2) (h2:((S.extract 0 2).toList== [32,32])=true):Calls Tryz.prog 132 #[.string S,.string ⟨#[32,32]⟩] w λe w'=>e= .returned (.bool true)/\w'=w:=by
 go_enter Tryz.func132,Tryz.ntmps132;go_wp2;go_ret;exact⟨rfl,rfl⟩
set_option maxHeartbeats 8000000 in
theorem zs1 (w:World):Calls Tryz.prog 96 #[.string ⟨#[32,32]⟩,.int .i64 2] w λe w'=>e= .returned (.string ⟨#[32,32,32,32]⟩)/\Keep w w':=by
 have T1:=zh (zsi w);go_enter Tryz.func96,Tryz.ntmps96;go_wp2_with fail
 (refine(uq T1).mono ?_;rintro e w ⟨rfl,rfl⟩);go_wp2_with fail
 (refine(zsj _ _ (by decide) (by kernel_rfl)).mono ?_;rintro e w ⟨rfl,rfl⟩);go_wp2_with fail
 go_ret;exact⟨by kernel_rfl,zk _⟩
def gp (op:Int) (la wd:List UInt8):List UInt8:=if la= []then List.replicate (2 * op.toNat) 32 else if la= [47]then []else if wd= [44]\/wd= [59]\/wd= [58]\/wd= [47]then []else [32]
structure St where
 out:List UInt8
 op:Int
 la:List UInt8
def op1 (op:Int) (wd:List UInt8):Int:=if wd= [125]then op - 1 else op
def ps (st:St) (wd:List UInt8):St:=
 if wd= [123]then⟨st.out++gp (op1 st.op wd) st.la wd++wd++ [10],op1 st.op wd+1,[]⟩
 else if wd= [125]\/wd= [59]then⟨st.out++gp (op1 st.op wd) st.la wd++wd++ [10],op1 st.op wd,[]⟩
 else⟨st.out++gp (op1 st.op wd) st.la wd++wd,op1 st.op wd,wd⟩
def pss (st:St) (ws:List (List UInt8)):St:=ws.foldl ps st
def ok1 (st:St) (wd:List UInt8):Prop:=0<=op1 st.op wd/\op1 st.op wd<=2
def oks:St->List (List UInt8)->Prop
 | _,[]=>True
 |st,wd :: ws=>ok1 st wd/\oks (ps st wd) ws
def zbt (ws:List (List UInt8)):Nat:=(ws.map (λw=>w.length+8)).sum
theorem zfb {op:Int} {la wd:List UInt8} (h1:0<=op) (h2:op<=2):(gp op la wd).length<=4:=by
 unfold gp
 split
 ·rw[List.length_replicate];omega
 ·split
  ·simp
  ·split<;>simp
theorem zf9 {st:St} {wd:List UInt8} (h:ok1 st wd):(ps st wd).out.length<=st.out.length+(wd.length+8):=by
 have:=zfb (la:=st.la) (wd:=wd) h.1 h.2;unfold ps
 split
 ·simp only[List.length_append,List.length_singleton];omega
 ·split
  ·simp only[List.length_append,List.length_singleton];omega
  ·simp only[List.length_append];omega
set_option maxHeartbeats 4000000 in
theorem zk2 (p:Nat) (op:Int) (la wd:ByteArray) (r:ByteArray) (b0 b1 b2 b3 b4 b5:Bool) (w:World) (h0:la.toList.isEmpty=b0) (h1:(la.toList== [47])=b1) (h2:(wd.toList== [44])=b2) (h3:(wd.toList== [59])=b3) (h4:(wd.toList== [58])=b4) (h5:(wd.toList== [47])=b5)
  (c2:w.cell? ⟨p,2,none⟩=some (.int .i64 op)) (c3:w.cell? ⟨p,3,none⟩=some (.string la))
  (T1:Hid (b0=true->Calls Tryz.prog 96 #[.string ⟨#[32,32]⟩,.int .i64 op] w λe w'=>e= .returned (.string r)/\Keep w w'))
  (HR:Hid (b0=false->r=if b1 then⟨#[]⟩else if b2 || b3 || b4 || b5 then⟨#[]⟩else⟨#[32]⟩)):
  Calls Tryz.prog 63 #[.pointer (some ⟨p,0,none⟩),.string wd] w λe w'=>e= .returned (.string r)/\Keep w w':=by
 cases b0 with
 |true=>
  replace T1:=zh ((uq T1) rfl);clear HR;go_enter Tryz.func63,Tryz.ntmps63;go_wp2_with fail
  (refine(uq T1).mono ?_;rintro e w2 ⟨rfl,hk⟩;have HK:=zh hk;clear hk);go_wp2_with fail
  go_ret;exact⟨rfl,uq HK⟩
 |false=>
  replace HR:=zh ((uq HR) rfl);clear T1;cases b1 with
  |true=>
   have hr:r=⟨#[]⟩:=uq HR;subst hr;go_enter Tryz.func63,Tryz.ntmps63;go_wp2_with fail
   go_ret;exact⟨rfl,zk _⟩
  |false=>
   have hr:r=if b2 || b3 || b4 || b5 then⟨#[]⟩else⟨#[32]⟩:=uq HR
   clear HR;cases b2<;>cases b3<;>cases b4<;>cases b5<;>simp only[Bool.or_self,Bool.or_false,Bool.or_true,Bool.false_or,Bool.true_or,if_true,if_false,Bool.false_eq_true]at hr<;>subst hr<;>
   (go_enter Tryz.func63,Tryz.ntmps63
    go_wp2_with fail
    go_ret;exact⟨rfl,zk _⟩)
theorem zcz (s:List UInt8):(sv s).toList=s:=ByteArray.toList_mk s
theorem zfJ {w:World} {p:Nat} {out:List UInt8} {op:Int} {la:List UInt8} (wd:List UInt8) (h:Pr w p out op (sv la)) (h1:0<=op) (h2:op<=2):Calls Tryz.prog 63 #[.pointer (some ⟨p,0,none⟩),.string (sv wd)] w λe w'=>e= .returned (.string (sv (gp op la wd)))/\Keep w w':=by
 obtain⟨q,v,hq,hb,ho⟩:=h;refine zk2 p op (sv la) (sv wd) _ la.isEmpty (la== [47]) (wd== [44]) (wd== [59]) (wd== [58]) (wd== [47]) w (by rw[zcz]) (by rw[zcz]) (by rw[zcz]) (by rw[zcz]) (by rw[zcz]) (by rw[zcz]) (by simp[World.cell?,hb]) (by simp[World.cell?,hb]) (zh λe=>?_) (zh λe=>?_)
 ·have hla:la= []:=by simpa using e
  unfold gp
  rw[if_pos hla];have h3:op=0\/op=1\/op=2:=by omega
  rcases h3 with rfl|rfl|rfl
  ·exact zsZ w
  ·exact zs0 w
  ·exact zs1 w
 ·have hla:¬la= []:=by intro x;subst x;simp at e
  unfold gp
  rw[if_neg hla];by_cases e1:la= [47]
  ·rw[if_pos e1];simp[e1];rfl
  ·rw[if_neg e1];have e1':(la== [47])=false:=by simpa using e1
   rw[e1'];by_cases e2:wd= [44]\/wd= [59]\/wd= [58]\/wd= [47]
   ·rw[if_pos e2];have:(wd== [44] || wd== [59] || wd== [58] || wd== [47])=true:=by rcases e2 with rfl|rfl|rfl|rfl<;>rfl
    rw[this];rfl
   ·rw[if_neg e2];have:(wd== [44] || wd== [59] || wd== [58] || wd== [47])=false:=by
     simp only[not_or]at e2;obtain⟨a,b,c,d⟩:=e2;simp[a,b,c,d]
    rw[this];rfl
theorem Fb.words {p g:Nat} {w w':World} {cur:Array Value} {t:TypeId} {fz:Nat×Nat} (h:Fb p w w') (hg:w.heap[g]? =some (.cells cur t fz)) (ht:t≠TB) (hp:g≠p):w'.heap[g]? =some (.cells cur t fz):=
 (h.block g (Array.getElem?_eq_some_iff.1 hg).1 hp (.inr λ⟨c,f,e⟩=>by rw[hg]at e;injection e with e;injection e with _ e _;exact ht e)).trans hg
theorem Pr.cells {w:World} {p:Nat} {out:List UInt8} {op:Int} {la:ByteArray} (h:Pr w p out op la):(w.cell? ⟨p,2,none⟩=some (.int .i64 op)/\w.frozen? ⟨p,2,none⟩=false)/\(w.cell? ⟨p,3,none⟩=some (.string la)/\w.frozen? ⟨p,3,none⟩=false):=by
 obtain⟨q,v,hq,hb,ho⟩:=h;exact⟨⟨by simp[World.cell?,hb],by simp[World.frozen?,hb]⟩,⟨by simp[World.cell?,hb],by simp[World.frozen?,hb]⟩⟩
theorem Pr.setOp {w:World} {p:Nat} {out:List UInt8} {op:Int} {la:ByteArray} (h:Pr w p out op la) (x:Int):Pr (w.setCell ⟨p,2,none⟩ (.int .i64 x)) p out x la:=by
 obtain⟨q,v,hq,hb,ho⟩:=h;exact⟨q,v,hq,zjg hb _,zdZ ho (zf5 hb ho)⟩
theorem Pr.setLa {w:World} {p:Nat} {out:List UInt8} {op:Int} {la:ByteArray} (h:Pr w p out op la) (x:ByteArray):Pr (w.setCell ⟨p,3,none⟩ (.string x)) p out op x:=by
 obtain⟨q,v,hq,hb,ho⟩:=h;exact⟨q,v,hq,zf7 hb _,zdZ ho (zf5 hb ho)⟩
theorem Pr.lt {w:World} {p:Nat} {out:List UInt8} {op:Int} {la:ByteArray} (h:Pr w p out op la):p<w.heap.size:=by
 obtain⟨q,v,hq,hb,ho⟩:=h;exact(Array.getElem?_eq_some_iff.1 hb).1
def wc (ws:List (List UInt8)):List Value:=ws.map (λs=> .string (sv s))
set_option maxHeartbeats 16000000 in
theorem zk3 (p g cap:Nat) (ws:List (List UInt8)) (st:St) (w:World) (hg:w.heap[g]? =some (.cells (wc ws).toArray 9)) (hgp:g≠p) (hn:ws.length<=100000)
  (HP:Hid (Pr w p st.out st.op (sv st.la))) (HO:Hid (oks st ws)) (HLn:Hid (st.out.length+zbt ws<=1000000000)):
  Calls Tryz.prog 30 #[.pointer (some ⟨p,0,none⟩),.slice (some ⟨g,0,none⟩) ws.length cap] w λe w'=>e= .returned (.tuple #[])/\Pr w' p (pss st ws).out (pss st ws).op (sv (pss st ws).la)/\Fb p w w':=by
 have HG:=zh hg;have HGP:=zh hgp;clear hg hgp;obtain⟨fin,HFin⟩:∃ fin,Hid (pss st ws=fin):=⟨_,rfl⟩;rw[uq HFin];obtain⟨n,HN⟩:∃ n,Hid (ws.length=n):=⟨_,rfl⟩;rw[uq HN]at hn |-;go_enter Tryz.func30,Tryz.ntmps30;go_wp2_with fail
 go_loopw [8] (λvi wr=>∃(k:Nat) (s:St),k<=n/\vi= .int .i64 (k:Int)/\Hid (Pr wr p s.out s.op (sv s.la))/\Hid (oks s (ws.drop k))/\Hid (pss s (ws.drop k)=fin)/\Hid (s.out.length+zbt (ws.drop k)<=1000000000)/\Hid (Fb p w wr)) (λvi wr=>n - (intOf vi).toNat)
 case atStart=>exact⟨0,st,Nat.zero_le _,rfl,HP,zh (by rw[List.drop_zero];exact uq HO),zh (by rw[List.drop_zero];exact uq HFin),zh (by rw[List.drop_zero];exact uq HLn),zh (Fb.refl _ _)⟩
 case round=>
  obtain⟨k,s,hk,rfl,HPk,HOk,HEk,HLk,HFk⟩:=hrel;by_cases hlt:k<n
  ·have li:(k:Int)<(n:Int):=by omega
   obtain⟨wd,hwd⟩:∃ wd,ws.drop k=wd :: ws.drop (k+1):=⟨_,List.drop_eq_getElem_cons (by have:=uq HN;omega)⟩;have hat:ws[k]? =some wd:=by
    have:=congrArg (·[0]?) hwd;simpa [List.getElem?_drop]using this
   rw[hwd]at HOk HEk HLk;have HO1:Hid (ok1 s wd/\oks (ps s wd) (ws.drop (k+1))):=HOk;have HE1:Hid (pss (ps s wd) (ws.drop (k+1))=fin):=HEk;have HL1:Hid (s.out.length+(wd.length+8)+zbt (ws.drop (k+1))<=1000000000):=zh (by have:=uq HLk;simp only[zbt,List.map_cons,List.sum_cons]at this |-;omega);have HGk:=zh ((uq HFk).words (uq HG) (by decide) (uq HGP));have cw:wr.cell? ⟨g,k,none⟩=some (.string (sv wd)):=by simp[World.cell?,uq HGk,wc,hat]
   clear HOk HEk HLk hwd hat;obtain⟨c2,c3⟩:=(uq HPk).cells;obtain⟨c2a,c2b⟩:=c2;clear c3;have HLN:Hid (s.out.length+(wd.length+8)<=1000000000):=zh (by have:=uq HL1;omega);have HGL:=zh (zfb (la:=s.la) (wd:=wd) (uq HO1).1.1 (uq HO1).1.2);obtain⟨S,HS⟩:∃ S,Hid (sv wd=S):=⟨_,rfl⟩;rw[uq HS]at cw;have rop: -5<=s.op/\s.op<=5:=by have:=(uq HO1).1;unfold ok1 op1 at this;split at this<;>omega
   have hw1:wrap64 (s.op - 1)=s.op - 1:=by unfold wrap64;omega
   by_cases hk0:wd= [123]
   ·have hk1:¬wd= [125]:=by rw[hk0];decide
    have b1:(S.toList== [125])=false:=by rw[<- uq HS,zcz];simpa using hk1
    have b0:(S.toList== [123])=true:=by rw[<- uq HS,zcz];simpa using hk0
    have HP2:=HPk;have HF2:=HFk;have HOP:Hid (op1 s.op wd=s.op):=zh (by unfold op1;rw[if_neg hk1])
    go_upto_region 5 with fail
    rw[<- uq HOP]at HP2;clear cw c2a c2b;obtain⟨opx,HOX⟩:∃ opx,Hid (op1 s.op wd=opx):=⟨_,rfl⟩;rw[uq HOX]at HP2;have HRG:Hid (0<=opx/\opx<=2):=zh (by rw[<- uq HOX];exact(uq HO1).1);obtain⟨G,HGd⟩:∃ G,Hid (sv (gp opx s.la wd)=G):=⟨_,rfl⟩;have HGQ:Hid ((gp opx s.la wd).length<=4):=zh (zfb (uq HRG).1 (uq HRG).2);refine wp_region_held_drew (S:=λ_=>True) (by kernel_rfl) (by trivial) (λzH=>?_);refine tk4 0 21 1 22 2 23 3 24 zH ?_;try simp only[Yq]
    refine tkk 4 25 zH ?_;try simp only[Yq]
    have HP2d:=zh ((uq HP2).keep (zk _).drew);have HF2d:=zh ((uq HF2).trans (Fb.keep (zk _).drew));generalize wr.drew=w2d at HP2d HF2d |-;refine zaq 5 (λK hK=>?_);go_simp;clear zH
    (have T5:=zfJ wd (uq HP2d) (uq HRG).1 (uq HRG).2;rw[uq HS,uq HGd]at T5;refine T5.mono ?_;clear T5;rintro e w3 ⟨rfl,hk3⟩;have HP3:=zh ((uq HP2d).keep hk3);have HF3:=zh ((uq HF2d).trans (Fb.keep hk3));clear hk3)
    try go_wp2_with fail
    refine hK.out _ _ ?_ (λzH=>?_)
    ·trivial
    clear hK K;try simp only[Yq]
    refine zaq 6 (λK hK=>?_);go_simp;clear zH
    (have T6:=zbX (sv (gp opx s.la wd)) (by have:=uq HLN;have:=uq HGQ;rw[zbB];omega) (uq HP3);simp only[zcZ]at T6;rw[uq HGd]at T6;refine T6.mono ?_;clear T6;rintro e w4 ⟨rfl,hp,hf⟩;have HP4:=zh hp;have HF4:=zh ((uq HF3).trans hf);clear hp hf)
    try go_wp2_with fail
    refine hK.out _ _ ?_ (λzH=>?_)
    ·trivial
    clear hK K;try simp only[Yq]
    refine wpAnyH_done (by kernel_rfl) ?_ _;clear zH;go_wp2_with fail
    (have T7:=zbX (sv wd) (by have:=uq HLN;have:=uq HGQ;rw[zbB,List.length_append];omega) (uq HP4);simp only[zcZ]at T7;rw[uq HS]at T7;refine T7.mono ?_;clear T7;rintro e w5 ⟨rfl,hp,hf⟩;have HP5:=zh hp;have HF5:=zh ((uq HF4).trans hf);clear hp hf)
    skip
    obtain⟨d2,d3⟩:=(uq HP5).cells;obtain⟨d3a,d3b⟩:=d3;clear d2
    go_upto_region 8 with fail
    replace HP5:=zh ((uq HP5).setLa S);replace HF5:=zh ((uq HF5).trans (Fb.set w5 p 3 (.string S)));generalize w5.setCell ⟨p,3,none⟩ (.string S)=w6 at HP5 HF5 |-;clear d3a d3b;obtain⟨e2,e3⟩:=(uq HP5).cells;obtain⟨e2a,e2b⟩:=e2;clear e3;have hw2:wrap64 (opx+1)=opx+1:=by have:=uq HRG;unfold wrap64;omega
    go_upto_region 11 with fail
    replace HP5:=zh ((uq HP5).setOp (opx+1));replace HF5:=zh ((uq HF5).trans (Fb.set w6 p 2 (.int .i64 (opx+1))));generalize w6.setCell ⟨p,2,none⟩ (.int .i64 (opx+1))=w7 at HP5 HF5 |-;clear e2a e2b;go_wp2_with fail
    (refine(zfI (by have:=uq HLN;have:=uq HGQ;simp only[List.length_append];omega) (uq HP5)).mono ?_;rintro e w8 ⟨rfl,hp,hf⟩;replace HP5:=zh hp;replace HF5:=zh ((uq HF5).trans hf);clear hp hf);go_wp2_with fail
    go_roundw
    case rel=>
     refine⟨k+1,ps s wd,hlt,by go_num,zh ?_,zh (uq HO1).2,HE1,zh ?_,HF5⟩
     ·have e9:ps s wd=⟨s.out++gp opx s.la wd++wd++ [10],opx+1,[]⟩:=by unfold ps;rw[if_pos hk0,uq HOX]
      rw[e9];first|exact uq HP5|(have h9:=uq HP5;rw[<- uq HS]at h9;exact h9)
     ·have:=zf9 (uq HO1).1;have:=uq HL1;omega
    case measure=>simp[intOf];omega
   ·have b0:(S.toList== [123])=false:=by rw[<- uq HS,zcz];simpa using hk0
    by_cases hk1:wd= [125]
    ·have b1:(S.toList== [125])=true:=by rw[<- uq HS,zcz];simpa using hk1
     go_upto_region 5 with fail
     have HP2:=zh ((uq HPk).setOp (s.op - 1));have HF2:=zh ((uq HFk).trans (Fb.set wr p 2 (.int .i64 (s.op - 1))));generalize wr.setCell ⟨p,2,none⟩ (.int .i64 (s.op - 1))=w2 at HP2 HF2 |-;have HOP:Hid (op1 s.op wd=s.op - 1):=zh (by unfold op1;rw[if_pos hk1]);rw[<- uq HOP]at HP2;clear cw c2a c2b;obtain⟨opx,HOX⟩:∃ opx,Hid (op1 s.op wd=opx):=⟨_,rfl⟩;rw[uq HOX]at HP2;have HRG:Hid (0<=opx/\opx<=2):=zh (by rw[<- uq HOX];exact(uq HO1).1);obtain⟨G,HGd⟩:∃ G,Hid (sv (gp opx s.la wd)=G):=⟨_,rfl⟩;have HGQ:Hid ((gp opx s.la wd).length<=4):=zh (zfb (uq HRG).1 (uq HRG).2);refine wp_region_held_drew (S:=λ_=>True) (by kernel_rfl) (by trivial) (λzH=>?_);refine tk4 0 21 1 22 2 23 3 24 zH ?_;try simp only[Yq]
     refine tkk 4 25 zH ?_;try simp only[Yq]
     have HP2d:=zh ((uq HP2).keep (zk _).drew);have HF2d:=zh ((uq HF2).trans (Fb.keep (zk _).drew));generalize w2.drew=w2d at HP2d HF2d |-;refine zaq 5 (λK hK=>?_);go_simp;clear zH
     (have T5:=zfJ wd (uq HP2d) (uq HRG).1 (uq HRG).2;rw[uq HS,uq HGd]at T5;refine T5.mono ?_;clear T5;rintro e w3 ⟨rfl,hk3⟩;have HP3:=zh ((uq HP2d).keep hk3);have HF3:=zh ((uq HF2d).trans (Fb.keep hk3));clear hk3)
     try go_wp2_with fail
     refine hK.out _ _ ?_ (λzH=>?_)
     ·trivial
     clear hK K;try simp only[Yq]
     refine zaq 6 (λK hK=>?_);go_simp;clear zH
     (have T6:=zbX (sv (gp opx s.la wd)) (by have:=uq HLN;have:=uq HGQ;rw[zbB];omega) (uq HP3);simp only[zcZ]at T6;rw[uq HGd]at T6;refine T6.mono ?_;clear T6;rintro e w4 ⟨rfl,hp,hf⟩;have HP4:=zh hp;have HF4:=zh ((uq HF3).trans hf);clear hp hf)
     try go_wp2_with fail
     refine hK.out _ _ ?_ (λzH=>?_)
     ·trivial
     clear hK K;try simp only[Yq]
     refine wpAnyH_done (by kernel_rfl) ?_ _;clear zH;go_wp2_with fail
     (have T7:=zbX (sv wd) (by have:=uq HLN;have:=uq HGQ;rw[zbB,List.length_append];omega) (uq HP4);simp only[zcZ]at T7;rw[uq HS]at T7;refine T7.mono ?_;clear T7;rintro e w5 ⟨rfl,hp,hf⟩;have HP5:=zh hp;have HF5:=zh ((uq HF4).trans hf);clear hp hf)
     skip
     obtain⟨d2,d3⟩:=(uq HP5).cells;obtain⟨d3a,d3b⟩:=d3;clear d2
     go_upto_region 8 with fail
     replace HP5:=zh ((uq HP5).setLa S);replace HF5:=zh ((uq HF5).trans (Fb.set w5 p 3 (.string S)));generalize w5.setCell ⟨p,3,none⟩ (.string S)=w6 at HP5 HF5 |-;clear d3a d3b;go_wp2_with fail
     (refine(zfI (by have:=uq HLN;have:=uq HGQ;simp only[List.length_append];omega) (uq HP5)).mono ?_;rintro e w8 ⟨rfl,hp,hf⟩;replace HP5:=zh hp;replace HF5:=zh ((uq HF5).trans hf);clear hp hf);go_wp2_with fail
     go_roundw
     case rel=>
      refine⟨k+1,ps s wd,hlt,by go_num,zh ?_,zh (uq HO1).2,HE1,zh ?_,HF5⟩
      ·have e9:ps s wd=⟨s.out++gp opx s.la wd++wd++ [10],opx,[]⟩:=by unfold ps;rw[if_neg hk0,if_pos (.inl hk1),uq HOX]
       rw[e9];first|exact uq HP5|(have h9:=uq HP5;rw[<- uq HS]at h9;exact h9)
      ·have:=zf9 (uq HO1).1;have:=uq HL1;omega
     case measure=>simp[intOf];omega
    ·have b1:(S.toList== [125])=false:=by rw[<- uq HS,zcz];simpa using hk1
     by_cases hk2:wd= [59]
     ·have b2:(S.toList== [59])=true:=by rw[<- uq HS,zcz];simpa using hk2
      have HP2:=HPk;have HF2:=HFk;have HOP:Hid (op1 s.op wd=s.op):=zh (by unfold op1;rw[if_neg hk1])
      go_upto_region 5 with fail
      rw[<- uq HOP]at HP2;clear cw c2a c2b;obtain⟨opx,HOX⟩:∃ opx,Hid (op1 s.op wd=opx):=⟨_,rfl⟩;rw[uq HOX]at HP2;have HRG:Hid (0<=opx/\opx<=2):=zh (by rw[<- uq HOX];exact(uq HO1).1);obtain⟨G,HGd⟩:∃ G,Hid (sv (gp opx s.la wd)=G):=⟨_,rfl⟩;have HGQ:Hid ((gp opx s.la wd).length<=4):=zh (zfb (uq HRG).1 (uq HRG).2);refine wp_region_held_drew (S:=λ_=>True) (by kernel_rfl) (by trivial) (λzH=>?_);refine tk4 0 21 1 22 2 23 3 24 zH ?_;try simp only[Yq]
      refine tkk 4 25 zH ?_;try simp only[Yq]
      have HP2d:=zh ((uq HP2).keep (zk _).drew);have HF2d:=zh ((uq HF2).trans (Fb.keep (zk _).drew));generalize wr.drew=w2d at HP2d HF2d |-;refine zaq 5 (λK hK=>?_);go_simp;clear zH
      (have T5:=zfJ wd (uq HP2d) (uq HRG).1 (uq HRG).2;rw[uq HS,uq HGd]at T5;refine T5.mono ?_;clear T5;rintro e w3 ⟨rfl,hk3⟩;have HP3:=zh ((uq HP2d).keep hk3);have HF3:=zh ((uq HF2d).trans (Fb.keep hk3));clear hk3)
      try go_wp2_with fail
      refine hK.out _ _ ?_ (λzH=>?_)
      ·trivial
      clear hK K;try simp only[Yq]
      refine zaq 6 (λK hK=>?_);go_simp;clear zH
      (have T6:=zbX (sv (gp opx s.la wd)) (by have:=uq HLN;have:=uq HGQ;rw[zbB];omega) (uq HP3);simp only[zcZ]at T6;rw[uq HGd]at T6;refine T6.mono ?_;clear T6;rintro e w4 ⟨rfl,hp,hf⟩;have HP4:=zh hp;have HF4:=zh ((uq HF3).trans hf);clear hp hf)
      try go_wp2_with fail
      refine hK.out _ _ ?_ (λzH=>?_)
      ·trivial
      clear hK K;try simp only[Yq]
      refine wpAnyH_done (by kernel_rfl) ?_ _;clear zH;go_wp2_with fail
      (have T7:=zbX (sv wd) (by have:=uq HLN;have:=uq HGQ;rw[zbB,List.length_append];omega) (uq HP4);simp only[zcZ]at T7;rw[uq HS]at T7;refine T7.mono ?_;clear T7;rintro e w5 ⟨rfl,hp,hf⟩;have HP5:=zh hp;have HF5:=zh ((uq HF4).trans hf);clear hp hf)
      skip
      obtain⟨d2,d3⟩:=(uq HP5).cells;obtain⟨d3a,d3b⟩:=d3;clear d2
      go_upto_region 8 with fail
      replace HP5:=zh ((uq HP5).setLa S);replace HF5:=zh ((uq HF5).trans (Fb.set w5 p 3 (.string S)));generalize w5.setCell ⟨p,3,none⟩ (.string S)=w6 at HP5 HF5 |-;clear d3a d3b;go_wp2_with fail
      (refine(zfI (by have:=uq HLN;have:=uq HGQ;simp only[List.length_append];omega) (uq HP5)).mono ?_;rintro e w8 ⟨rfl,hp,hf⟩;replace HP5:=zh hp;replace HF5:=zh ((uq HF5).trans hf);clear hp hf);go_wp2_with fail
      go_roundw
      case rel=>
       refine⟨k+1,ps s wd,hlt,by go_num,zh ?_,zh (uq HO1).2,HE1,zh ?_,HF5⟩
       ·have e9:ps s wd=⟨s.out++gp opx s.la wd++wd++ [10],opx,[]⟩:=by unfold ps;rw[if_neg hk0,if_pos (.inr hk2),uq HOX]
        rw[e9];first|exact uq HP5|(have h9:=uq HP5;rw[<- uq HS]at h9;exact h9)
       ·have:=zf9 (uq HO1).1;have:=uq HL1;omega
      case measure=>simp[intOf];omega
     ·have b2:(S.toList== [59])=false:=by rw[<- uq HS,zcz];simpa using hk2
      have HP2:=HPk;have HF2:=HFk;have HOP:Hid (op1 s.op wd=s.op):=zh (by unfold op1;rw[if_neg hk1])
      go_upto_region 5 with fail
      rw[<- uq HOP]at HP2;clear cw c2a c2b;obtain⟨opx,HOX⟩:∃ opx,Hid (op1 s.op wd=opx):=⟨_,rfl⟩;rw[uq HOX]at HP2;have HRG:Hid (0<=opx/\opx<=2):=zh (by rw[<- uq HOX];exact(uq HO1).1);obtain⟨G,HGd⟩:∃ G,Hid (sv (gp opx s.la wd)=G):=⟨_,rfl⟩;have HGQ:Hid ((gp opx s.la wd).length<=4):=zh (zfb (uq HRG).1 (uq HRG).2);refine wp_region_held_drew (S:=λ_=>True) (by kernel_rfl) (by trivial) (λzH=>?_);refine tk4 0 21 1 22 2 23 3 24 zH ?_;try simp only[Yq]
      refine tkk 4 25 zH ?_;try simp only[Yq]
      have HP2d:=zh ((uq HP2).keep (zk _).drew);have HF2d:=zh ((uq HF2).trans (Fb.keep (zk _).drew));generalize wr.drew=w2d at HP2d HF2d |-;refine zaq 5 (λK hK=>?_);go_simp;clear zH
      (have T5:=zfJ wd (uq HP2d) (uq HRG).1 (uq HRG).2;rw[uq HS,uq HGd]at T5;refine T5.mono ?_;clear T5;rintro e w3 ⟨rfl,hk3⟩;have HP3:=zh ((uq HP2d).keep hk3);have HF3:=zh ((uq HF2d).trans (Fb.keep hk3));clear hk3)
      try go_wp2_with fail
      refine hK.out _ _ ?_ (λzH=>?_)
      ·trivial
      clear hK K;try simp only[Yq]
      refine zaq 6 (λK hK=>?_);go_simp;clear zH
      (have T6:=zbX (sv (gp opx s.la wd)) (by have:=uq HLN;have:=uq HGQ;rw[zbB];omega) (uq HP3);simp only[zcZ]at T6;rw[uq HGd]at T6;refine T6.mono ?_;clear T6;rintro e w4 ⟨rfl,hp,hf⟩;have HP4:=zh hp;have HF4:=zh ((uq HF3).trans hf);clear hp hf)
      try go_wp2_with fail
      refine hK.out _ _ ?_ (λzH=>?_)
      ·trivial
      clear hK K;try simp only[Yq]
      refine wpAnyH_done (by kernel_rfl) ?_ _;clear zH;go_wp2_with fail
      (have T7:=zbX (sv wd) (by have:=uq HLN;have:=uq HGQ;rw[zbB,List.length_append];omega) (uq HP4);simp only[zcZ]at T7;rw[uq HS]at T7;refine T7.mono ?_;clear T7;rintro e w5 ⟨rfl,hp,hf⟩;have HP5:=zh hp;have HF5:=zh ((uq HF4).trans hf);clear hp hf)
      skip
      obtain⟨d2,d3⟩:=(uq HP5).cells;obtain⟨d3a,d3b⟩:=d3;clear d2
      go_upto_region 8 with fail
      replace HP5:=zh ((uq HP5).setLa S);replace HF5:=zh ((uq HF5).trans (Fb.set w5 p 3 (.string S)));generalize w5.setCell ⟨p,3,none⟩ (.string S)=w6 at HP5 HF5 |-;clear d3a d3b;go_wp2_with fail
      go_roundw
      case rel=>
       refine⟨k+1,ps s wd,hlt,by go_num,zh ?_,zh (uq HO1).2,HE1,zh ?_,HF5⟩
       ·have e9:ps s wd=⟨s.out++gp opx s.la wd++wd,opx,wd⟩:=by unfold ps;rw[if_neg hk0,if_neg (λx=>x.elim hk1 hk2),uq HOX]
        rw[e9];first|exact uq HP5|(have h9:=uq HP5;rw[<- uq HS]at h9;exact h9)
       ·have:=zf9 (uq HO1).1;have:=uq HL1;omega
      case measure=>simp[intOf];omega
  ·have hkn:k=n:=by omega
   have HD:Hid (s=fin):=zh (by have:=uq HEk;rw[List.drop_eq_nil_of_le (by have:=uq HN;omega)]at this;exact this);go_wp2_with fail
   go_end0
   rw[<- uq HD];exact⟨rfl,uq HPk,uq HFk⟩
end S
end Go.Proofs.YthceiikgecoimaaGreatDoor
