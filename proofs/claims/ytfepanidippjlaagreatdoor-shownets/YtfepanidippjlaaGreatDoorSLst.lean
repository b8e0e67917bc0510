/- Package show: words are put. -/
import Derived.Test.YtfepanidippjlaaGreatDoorSBld
import Derived.Test.YtfepanidippjlaaGreatDoorLEnd
import Derived.Deep.DrawnRows
import Derived.Deep.RegionHeld
namespace Go.Proofs.YtfepanidippjlaaGreatDoor
open Go.RowKit
attribute [local go_sem ↓] Go.wp_at_zero Go.wp_at_succ
set_option linter.unusedVariables false
set_option linter.unusedSimpArgs false
set_option maxRecDepth 10000
namespace S
set_option maxHeartbeats 4000000 in
theorem zqH (w:World):Calls Tryz.prog 115 #[.string ⟨#[32,32]⟩,.int .i64 0] w fun e w'=>e= .returned (.string ⟨#[]⟩)∧Keep w w':=by
 go_enter Tryz.func115,Tryz.ntmps115;go_wp2;go_ret;exact⟨rfl,Keep.refl _⟩
set_option maxHeartbeats 4000000 in
theorem zqI (w:World):Calls Tryz.prog 115 #[.string ⟨#[32,32]⟩,.int .i64 1] w fun e w'=>e= .returned (.string ⟨#[32,32]⟩)∧Keep w w':=by
 go_enter Tryz.func115,Tryz.ntmps115;go_wp2;go_ret;exact⟨rfl,Keep.refl _⟩
set_option maxHeartbeats 4000000 in
theorem zp5 (w:World):Calls Tryz.prog 149 #[.int .u64 2,.int .u64 2] w fun e w'=>e= .returned (.tuple #[.int .u64 0,.int .u64 4])∧w'=w:=by
 go_enter Tryz.func149,Tryz.ntmps149;go_wp2;go_ret2;exact⟨by kernel_rfl,rfl⟩
set_option maxHeartbeats 4000000 in
theorem zp6 (S:ByteArray) (w:World) (h1:¬(S.size:Int)<2) (h2:((S.extract 0 2).toList== [32,32])=true):Calls Tryz.prog 150 #[.string S,.string ⟨#[32,32]⟩] w fun e w'=>e= .returned (.bool true)∧w'=w:=by
 go_enter Tryz.func150,Tryz.ntmps150;go_wp2;go_ret;exact⟨rfl,rfl⟩
set_option maxHeartbeats 8000000 in
theorem zqJ (w:World):Calls Tryz.prog 115 #[.string ⟨#[32,32]⟩,.int .i64 2] w fun e w'=>e= .returned (.string ⟨#[32,32,32,32]⟩)∧Keep w w':=by
 have T1:=hide (zp5 w);go_enter Tryz.func115,Tryz.ntmps115;go_wp2_with fail
 (refine(uq T1).mono ?_;rintro e w ⟨rfl,rfl⟩);go_wp2_with fail
 (refine(zp6 _ _ (by decide) (by kernel_rfl)).mono ?_;rintro e w ⟨rfl,rfl⟩);go_wp2_with fail
 go_ret;exact⟨by kernel_rfl,Keep.refl _⟩
def gp (op:Int) (la wd:List UInt8):List UInt8:=if la= []then List.replicate (2 * op.toNat) 32 else if la= [47]then []else if wd= [44]∨wd= [59]∨wd= [58]∨wd= [47]then []else [32]
structure St where
 out:List UInt8
 op:Int
 la:List UInt8
def op1 (op:Int) (wd:List UInt8):Int:=if wd= [125]then op - 1 else op
def ps (st:St) (wd:List UInt8):St:=
 if wd= [123]then⟨st.out++gp (op1 st.op wd) st.la wd++wd++ [10],op1 st.op wd+1,[]⟩
 else if wd= [125]∨wd= [59]then⟨st.out++gp (op1 st.op wd) st.la wd++wd++ [10],op1 st.op wd,[]⟩
 else⟨st.out++gp (op1 st.op wd) st.la wd++wd,op1 st.op wd,wd⟩
def pss (st:St) (ws:List (List UInt8)):St:=ws.foldl ps st
def ok1 (st:St) (wd:List UInt8):Prop:=0≤op1 st.op wd∧op1 st.op wd≤2
def oks:St→List (List UInt8)→Prop
 | _,[]=>True
 |st,wd :: ws=>ok1 st wd∧oks (ps st wd) ws
def zbi (ws:List (List UInt8)):Nat:=(ws.map (fun w=>w.length+8)).sum
theorem zd9 {op:Int} {la wd:List UInt8} (h1:0≤op) (h2:op≤2):(gp op la wd).length≤4:=by
 unfold gp
 split
 ·rw[List.length_replicate];omega
 ·split
  ·simp
  ·split<;>simp
theorem zeT {st:St} {wd:List UInt8} (h:ok1 st wd):(ps st wd).out.length≤st.out.length+(wd.length+8):=by
 have:=zd9 (la:=st.la) (wd:=wd) h.1 h.2;unfold ps
 split
 ·simp only[List.length_append,List.length_singleton];omega
 ·split
  ·simp only[List.length_append,List.length_singleton];omega
  ·simp only[List.length_append];omega
set_option maxHeartbeats 4000000 in
theorem zje (p:Nat) (op:Int) (la wd:ByteArray) (r:ByteArray) (b0 b1 b2 b3 b4 b5:Bool) (w:World) (h0:la.toList.isEmpty=b0) (h1:(la.toList== [47])=b1) (h2:(wd.toList== [44])=b2) (h3:(wd.toList== [59])=b3) (h4:(wd.toList== [58])=b4) (h5:(wd.toList== [47])=b5)
  (c2:w.cell? ⟨p,2,none⟩=some (.int .i64 op)) (c3:w.cell? ⟨p,3,none⟩=some (.string la))
  (T1:Hid (b0=true→Calls Tryz.prog 115 #[.string ⟨#[32,32]⟩,.int .i64 op] w fun e w'=>e= .returned (.string r)∧Keep w w'))
  (HR:Hid (b0=false→r=if b1 then⟨#[]⟩else if b2 || b3 || b4 || b5 then⟨#[]⟩else⟨#[32]⟩)):
  Calls Tryz.prog 79 #[.pointer (some ⟨p,0,none⟩),.string wd] w fun e w'=>e= .returned (.string r)∧Keep w w':=by
 cases b0 with
 |true=>
  replace T1:=hide ((uq T1) rfl);clear HR;go_enter Tryz.func79,Tryz.ntmps79;go_wp2_with fail
  (refine(uq T1).mono ?_;rintro e w2 ⟨rfl,hk⟩;have HK:=hide hk;clear hk);go_wp2_with fail
  go_ret;exact⟨rfl,uq HK⟩
 |false=>
  replace HR:=hide ((uq HR) rfl);clear T1;cases b1 with
  |true=>
   have hr:r=⟨#[]⟩:=uq HR;subst hr;go_enter Tryz.func79,Tryz.ntmps79;go_wp2_with fail
   go_ret;exact⟨rfl,Keep.refl _⟩
  |false=>
   have hr:r=if b2 || b3 || b4 || b5 then⟨#[]⟩else⟨#[32]⟩:=uq HR
   clear HR;cases b2<;>cases b3<;>cases b4<;>cases b5<;>simp only[Bool.or_self,Bool.or_false,Bool.or_true,Bool.false_or,Bool.true_or,if_true,if_false,Bool.false_eq_true]at hr<;>subst hr<;>
   (go_enter Tryz.func79,Tryz.ntmps79
    go_wp2_with fail
    go_ret;exact⟨rfl,Keep.refl _⟩)
theorem zb5 (s:List UInt8):(sv s).toList=s:=ByteArray.toList_mk s
theorem zev {w:World} {p:Nat} {out:List UInt8} {op:Int} {la:List UInt8} (wd:List UInt8) (h:Pr w p out op (sv la)) (h1:0≤op) (h2:op≤2):Calls Tryz.prog 79 #[.pointer (some ⟨p,0,none⟩),.string (sv wd)] w fun e w'=>e= .returned (.string (sv (gp op la wd)))∧Keep w w':=by
 obtain⟨q,v,hq,hb,ho⟩:=h;refine zje p op (sv la) (sv wd) _ la.isEmpty (la== [47]) (wd== [44]) (wd== [59]) (wd== [58]) (wd== [47]) w (by rw[zb5]) (by rw[zb5]) (by rw[zb5]) (by rw[zb5]) (by rw[zb5]) (by rw[zb5]) (by simp[World.cell?,hb]) (by simp[World.cell?,hb]) (hide fun e=>?_) (hide fun e=>?_)
 ·have hla:la= []:=by simpa using e
  unfold gp
  rw[if_pos hla];have h3:op=0∨op=1∨op=2:=by omega
  rcases h3 with rfl|rfl|rfl
  ·exact zqH w
  ·exact zqI w
  ·exact zqJ w
 ·have hla:¬la= []:=by intro x;subst x;simp at e
  unfold gp
  rw[if_neg hla];by_cases e1:la= [47]
  ·rw[if_pos e1];simp[e1];rfl
  ·rw[if_neg e1];have e1':(la== [47])=false:=by simpa using e1
   rw[e1'];by_cases e2:wd= [44]∨wd= [59]∨wd= [58]∨wd= [47]
   ·rw[if_pos e2];have:(wd== [44] || wd== [59] || wd== [58] || wd== [47])=true:=by rcases e2 with rfl|rfl|rfl|rfl<;>rfl
    rw[this];rfl
   ·rw[if_neg e2];have:(wd== [44] || wd== [59] || wd== [58] || wd== [47])=false:=by
     simp only[not_or]at e2;obtain⟨a,b,c,d⟩:=e2;simp[a,b,c,d]
    rw[this];rfl
theorem Fb.words {p g:Nat} {w w':World} {cur:Array Value} {t:TypeId} {fz:Nat×Nat} (h:Fb p w w') (hg:w.heap[g]? =some (.cells cur t fz)) (ht:t≠TB) (hp:g≠p):w'.heap[g]? =some (.cells cur t fz):=
 (h.block g (Array.getElem?_eq_some_iff.1 hg).1 hp (.inr fun⟨c,f,e⟩=>by rw[hg]at e;injection e with e;injection e with _ e _;exact ht e)).trans hg
theorem Pr.cells {w:World} {p:Nat} {out:List UInt8} {op:Int} {la:ByteArray} (h:Pr w p out op la):(w.cell? ⟨p,2,none⟩=some (.int .i64 op)∧w.frozen? ⟨p,2,none⟩=false)∧(w.cell? ⟨p,3,none⟩=some (.string la)∧w.frozen? ⟨p,3,none⟩=false):=by
 obtain⟨q,v,hq,hb,ho⟩:=h;exact⟨⟨by simp[World.cell?,hb],by simp[World.frozen?,hb]⟩,⟨by simp[World.cell?,hb],by simp[World.frozen?,hb]⟩⟩
theorem Pr.setOp {w:World} {p:Nat} {out:List UInt8} {op:Int} {la:ByteArray} (h:Pr w p out op la) (x:Int):Pr (w.setCell ⟨p,2,none⟩ (.int .i64 x)) p out x la:=by
 obtain⟨q,v,hq,hb,ho⟩:=h;exact⟨q,v,hq,zhB hb _,zdg ho (zeP hb ho)⟩
theorem Pr.setLa {w:World} {p:Nat} {out:List UInt8} {op:Int} {la:ByteArray} (h:Pr w p out op la) (x:ByteArray):Pr (w.setCell ⟨p,3,none⟩ (.string x)) p out op x:=by
 obtain⟨q,v,hq,hb,ho⟩:=h;exact⟨q,v,hq,zeR hb _,zdg ho (zeP hb ho)⟩
theorem Pr.lt {w:World} {p:Nat} {out:List UInt8} {op:Int} {la:ByteArray} (h:Pr w p out op la):p<w.heap.size:=by
 obtain⟨q,v,hq,hb,ho⟩:=h;exact(Array.getElem?_eq_some_iff.1 hb).1
def wc (ws:List (List UInt8)):List Value:=ws.map (fun s=> .string (sv s))
set_option maxHeartbeats 16000000 in
theorem zjf (p g cap:Nat) (ws:List (List UInt8)) (st:St) (w:World) (hg:w.heap[g]? =some (.cells (wc ws).toArray 9)) (hgp:g≠p) (hn:ws.length≤100000)
  (HP:Hid (Pr w p st.out st.op (sv st.la))) (HO:Hid (oks st ws)) (HLn:Hid (st.out.length+zbi ws≤1000000000)):
  Calls Tryz.prog 41 #[.pointer (some ⟨p,0,none⟩),.slice (some ⟨g,0,none⟩) ws.length cap] w fun e w'=>e= .returned (.tuple #[])∧Pr w' p (pss st ws).out (pss st ws).op (sv (pss st ws).la)∧Fb p w w':=by
 have HG:=hide hg;have HGP:=hide hgp;clear hg hgp;obtain⟨fin,HFin⟩:∃ fin,Hid (pss st ws=fin):=⟨_,rfl⟩;rw[uq HFin];obtain⟨n,HN⟩:∃ n,Hid (ws.length=n):=⟨_,rfl⟩;rw[uq HN]at hn ⊢;go_enter Tryz.func41,Tryz.ntmps41;go_wp2_with fail
 go_loopw [8] (fun vi wr=>∃(k:Nat) (s:St),k≤n∧vi= .int .i64 (k:Int)∧Hid (Pr wr p s.out s.op (sv s.la))∧Hid (oks s (ws.drop k))∧Hid (pss s (ws.drop k)=fin)∧Hid (s.out.length+zbi (ws.drop k)≤1000000000)∧Hid (Fb p w wr)) (fun vi wr=>n - (intOf vi).toNat)
 case atStart=>exact⟨0,st,Nat.zero_le _,rfl,HP,hide (by rw[List.drop_zero];exact uq HO),hide (by rw[List.drop_zero];exact uq HFin),hide (by rw[List.drop_zero];exact uq HLn),hide (Fb.refl _ _)⟩
 case round=>
  obtain⟨k,s,hk,rfl,HPk,HOk,HEk,HLk,HFk⟩:=hrel;by_cases hlt:k<n
  ·have li:(k:Int)<(n:Int):=by omega
   obtain⟨wd,hwd⟩:∃ wd,ws.drop k=wd :: ws.drop (k+1):=⟨_,List.drop_eq_getElem_cons (by have:=uq HN;omega)⟩;have hat:ws[k]? =some wd:=by
    have:=congrArg (·[0]?) hwd;simpa [List.getElem?_drop]using this
   rw[hwd]at HOk HEk HLk;have HO1:Hid (ok1 s wd∧oks (ps s wd) (ws.drop (k+1))):=HOk;have HE1:Hid (pss (ps s wd) (ws.drop (k+1))=fin):=HEk;have HL1:Hid (s.out.length+(wd.length+8)+zbi (ws.drop (k+1))≤1000000000):=hide (by have:=uq HLk;simp only[zbi,List.map_cons,List.sum_cons]at this ⊢;omega);have HGk:=hide ((uq HFk).words (uq HG) (by decide) (uq HGP));have cw:wr.cell? ⟨g,k,none⟩=some (.string (sv wd)):=by simp[World.cell?,uq HGk,wc,hat]
   clear HOk HEk HLk hwd hat;obtain⟨c2,c3⟩:=(uq HPk).cells;obtain⟨c2a,c2b⟩:=c2;clear c3;have HLN:Hid (s.out.length+(wd.length+8)≤1000000000):=hide (by have:=uq HL1;omega);have HGL:=hide (zd9 (la:=s.la) (wd:=wd) (uq HO1).1.1 (uq HO1).1.2);obtain⟨S,HS⟩:∃ S,Hid (sv wd=S):=⟨_,rfl⟩;rw[uq HS]at cw;have rop: -5≤s.op∧s.op≤5:=by have:=(uq HO1).1;unfold ok1 op1 at this;split at this<;>omega
   have hw1:wrap64 (s.op - 1)=s.op - 1:=by unfold wrap64;omega
   by_cases hk0:wd= [123]
   ·have hk1:¬wd= [125]:=by rw[hk0];decide
    have b1:(S.toList== [125])=false:=by rw[← uq HS,zb5];simpa using hk1
    have b0:(S.toList== [123])=true:=by rw[← uq HS,zb5];simpa using hk0
    have HP2:=HPk;have HF2:=HFk;have HOP:Hid (op1 s.op wd=s.op):=hide (by unfold op1;rw[if_neg hk1])
    go_upto_region 5 with fail
    rw[← uq HOP]at HP2;clear cw c2a c2b;obtain⟨opx,HOX⟩:∃ opx,Hid (op1 s.op wd=opx):=⟨_,rfl⟩;rw[uq HOX]at HP2;have HRG:Hid (0≤opx∧opx≤2):=hide (by rw[← uq HOX];exact(uq HO1).1);obtain⟨G,HGd⟩:∃ G,Hid (sv (gp opx s.la wd)=G):=⟨_,rfl⟩;have HGQ:Hid ((gp opx s.la wd).length≤4):=hide (zd9 (uq HRG).1 (uq HRG).2);refine wp_region_held_drew (S:=fun _=>True) (by kernel_rfl) (by trivial) (fun hHeld=>?_);refine tkk 0 21 hHeld ?_;try simp only[Act.put,Ya,Yb,Yc]
    refine tkk 1 22 hHeld ?_;try simp only[Act.put,Ya,Yb,Yc]
    refine tkk 2 23 hHeld ?_;try simp only[Act.put,Ya,Yb,Yc]
    refine tkk 3 24 hHeld ?_;try simp only[Act.put,Ya,Yb,Yc]
    refine tkk 4 25 hHeld ?_;try simp only[Act.put,Ya,Yb,Yc]
    have HP2d:=hide ((uq HP2).keep (Keep.refl _).drew);have HF2d:=hide ((uq HF2).trans (Fb.keep (Keep.refl _).drew));generalize wr.drew=w2d at HP2d HF2d ⊢;refine zaC 5 (fun K hK=>?_);go_simp;clear hHeld
    (have T5:=zev wd (uq HP2d) (uq HRG).1 (uq HRG).2;rw[uq HS,uq HGd]at T5;refine T5.mono ?_;clear T5;rintro e w3 ⟨rfl,hk3⟩;have HP3:=hide ((uq HP2d).keep hk3);have HF3:=hide ((uq HF2d).trans (Fb.keep hk3));clear hk3)
    try go_wp2_with fail
    refine hK.out _ _ ?_ (fun hHeld=>?_)
    ·trivial
    clear hK K;try simp only[Act.put,Ya,Yb,Yc]
    refine zaC 6 (fun K hK=>?_);go_simp;clear hHeld
    (have T6:=zby (sv (gp opx s.la wd)) (by have:=uq HLN;have:=uq HGQ;rw[zad];omega) (uq HP3);simp only[zcr]at T6;rw[uq HGd]at T6;refine T6.mono ?_;clear T6;rintro e w4 ⟨rfl,hp,hf⟩;have HP4:=hide hp;have HF4:=hide ((uq HF3).trans hf);clear hp hf)
    try go_wp2_with fail
    refine hK.out _ _ ?_ (fun hHeld=>?_)
    ·trivial
    clear hK K;try simp only[Act.put,Ya,Yb,Yc]
    refine wpAnyH_done (by kernel_rfl) ?_ _;clear hHeld;go_wp2_with fail
    (have T7:=zby (sv wd) (by have:=uq HLN;have:=uq HGQ;rw[zad,List.length_append];omega) (uq HP4);simp only[zcr]at T7;rw[uq HS]at T7;refine T7.mono ?_;clear T7;rintro e w5 ⟨rfl,hp,hf⟩;have HP5:=hide hp;have HF5:=hide ((uq HF4).trans hf);clear hp hf)
    skip
    obtain⟨d2,d3⟩:=(uq HP5).cells;obtain⟨d3a,d3b⟩:=d3;clear d2
    go_upto_region 8 with fail
    replace HP5:=hide ((uq HP5).setLa S);replace HF5:=hide ((uq HF5).trans (Fb.set w5 p 3 (.string S)));generalize w5.setCell ⟨p,3,none⟩ (.string S)=w6 at HP5 HF5 ⊢;clear d3a d3b;obtain⟨e2,e3⟩:=(uq HP5).cells;obtain⟨e2a,e2b⟩:=e2;clear e3;have hw2:wrap64 (opx+1)=opx+1:=by have:=uq HRG;unfold wrap64;omega
    go_upto_region 11 with fail
    replace HP5:=hide ((uq HP5).setOp (opx+1));replace HF5:=hide ((uq HF5).trans (Fb.set w6 p 2 (.int .i64 (opx+1))));generalize w6.setCell ⟨p,2,none⟩ (.int .i64 (opx+1))=w7 at HP5 HF5 ⊢;clear e2a e2b;go_wp2_with fail
    (refine(zeu (by have:=uq HLN;have:=uq HGQ;simp only[List.length_append];omega) (uq HP5)).mono ?_;rintro e w8 ⟨rfl,hp,hf⟩;replace HP5:=hide hp;replace HF5:=hide ((uq HF5).trans hf);clear hp hf);go_wp2_with fail
    go_roundw
    case rel=>
     refine⟨k+1,ps s wd,hlt,by go_num,hide ?_,hide (uq HO1).2,HE1,hide ?_,HF5⟩
     ·have e9:ps s wd=⟨s.out++gp opx s.la wd++wd++ [10],opx+1,[]⟩:=by unfold ps;rw[if_pos hk0,uq HOX]
      rw[e9];first|exact uq HP5|(have h9:=uq HP5;rw[← uq HS]at h9;exact h9)
     ·have:=zeT (uq HO1).1;have:=uq HL1;omega
    case measure=>simp[intOf];omega
   ·have b0:(S.toList== [123])=false:=by rw[← uq HS,zb5];simpa using hk0
    by_cases hk1:wd= [125]
    ·have b1:(S.toList== [125])=true:=by rw[← uq HS,zb5];simpa using hk1
     go_upto_region 5 with fail
     have HP2:=hide ((uq HPk).setOp (s.op - 1));have HF2:=hide ((uq HFk).trans (Fb.set wr p 2 (.int .i64 (s.op - 1))));generalize wr.setCell ⟨p,2,none⟩ (.int .i64 (s.op - 1))=w2 at HP2 HF2 ⊢;have HOP:Hid (op1 s.op wd=s.op - 1):=hide (by unfold op1;rw[if_pos hk1]);rw[← uq HOP]at HP2;clear cw c2a c2b;obtain⟨opx,HOX⟩:∃ opx,Hid (op1 s.op wd=opx):=⟨_,rfl⟩;rw[uq HOX]at HP2;have HRG:Hid (0≤opx∧opx≤2):=hide (by rw[← uq HOX];exact(uq HO1).1);obtain⟨G,HGd⟩:∃ G,Hid (sv (gp opx s.la wd)=G):=⟨_,rfl⟩;have HGQ:Hid ((gp opx s.la wd).length≤4):=hide (zd9 (uq HRG).1 (uq HRG).2);refine wp_region_held_drew (S:=fun _=>True) (by kernel_rfl) (by trivial) (fun hHeld=>?_);refine tkk 0 21 hHeld ?_;try simp only[Act.put,Ya,Yb,Yc]
     refine tkk 1 22 hHeld ?_;try simp only[Act.put,Ya,Yb,Yc]
     refine tkk 2 23 hHeld ?_;try simp only[Act.put,Ya,Yb,Yc]
     refine tkk 3 24 hHeld ?_;try simp only[Act.put,Ya,Yb,Yc]
     refine tkk 4 25 hHeld ?_;try simp only[Act.put,Ya,Yb,Yc]
     have HP2d:=hide ((uq HP2).keep (Keep.refl _).drew);have HF2d:=hide ((uq HF2).trans (Fb.keep (Keep.refl _).drew));generalize w2.drew=w2d at HP2d HF2d ⊢;refine zaC 5 (fun K hK=>?_);go_simp;clear hHeld
     (have T5:=zev wd (uq HP2d) (uq HRG).1 (uq HRG).2;rw[uq HS,uq HGd]at T5;refine T5.mono ?_;clear T5;rintro e w3 ⟨rfl,hk3⟩;have HP3:=hide ((uq HP2d).keep hk3);have HF3:=hide ((uq HF2d).trans (Fb.keep hk3));clear hk3)
     try go_wp2_with fail
     refine hK.out _ _ ?_ (fun hHeld=>?_)
     ·trivial
     clear hK K;try simp only[Act.put,Ya,Yb,Yc]
     refine zaC 6 (fun K hK=>?_);go_simp;clear hHeld
     (have T6:=zby (sv (gp opx s.la wd)) (by have:=uq HLN;have:=uq HGQ;rw[zad];omega) (uq HP3);simp only[zcr]at T6;rw[uq HGd]at T6;refine T6.mono ?_;clear T6;rintro e w4 ⟨rfl,hp,hf⟩;have HP4:=hide hp;have HF4:=hide ((uq HF3).trans hf);clear hp hf)
     try go_wp2_with fail
     refine hK.out _ _ ?_ (fun hHeld=>?_)
     ·trivial
     clear hK K;try simp only[Act.put,Ya,Yb,Yc]
     refine wpAnyH_done (by kernel_rfl) ?_ _;clear hHeld;go_wp2_with fail
     (have T7:=zby (sv wd) (by have:=uq HLN;have:=uq HGQ;rw[zad,List.length_append];omega) (uq HP4);simp only[zcr]at T7;rw[uq HS]at T7;refine T7.mono ?_;clear T7;rintro e w5 ⟨rfl,hp,hf⟩;have HP5:=hide hp;have HF5:=hide ((uq HF4).trans hf);clear hp hf)
     skip
     obtain⟨d2,d3⟩:=(uq HP5).cells;obtain⟨d3a,d3b⟩:=d3;clear d2
     go_upto_region 8 with fail
     replace HP5:=hide ((uq HP5).setLa S);replace HF5:=hide ((uq HF5).trans (Fb.set w5 p 3 (.string S)));generalize w5.setCell ⟨p,3,none⟩ (.string S)=w6 at HP5 HF5 ⊢;clear d3a d3b;go_wp2_with fail
     (refine(zeu (by have:=uq HLN;have:=uq HGQ;simp only[List.length_append];omega) (uq HP5)).mono ?_;rintro e w8 ⟨rfl,hp,hf⟩;replace HP5:=hide hp;replace HF5:=hide ((uq HF5).trans hf);clear hp hf);go_wp2_with fail
     go_roundw
     case rel=>
      refine⟨k+1,ps s wd,hlt,by go_num,hide ?_,hide (uq HO1).2,HE1,hide ?_,HF5⟩
      ·have e9:ps s wd=⟨s.out++gp opx s.la wd++wd++ [10],opx,[]⟩:=by unfold ps;rw[if_neg hk0,if_pos (.inl hk1),uq HOX]
       rw[e9];first|exact uq HP5|(have h9:=uq HP5;rw[← uq HS]at h9;exact h9)
      ·have:=zeT (uq HO1).1;have:=uq HL1;omega
     case measure=>simp[intOf];omega
    ·have b1:(S.toList== [125])=false:=by rw[← uq HS,zb5];simpa using hk1
     by_cases hk2:wd= [59]
     ·have b2:(S.toList== [59])=true:=by rw[← uq HS,zb5];simpa using hk2
      have HP2:=HPk;have HF2:=HFk;have HOP:Hid (op1 s.op wd=s.op):=hide (by unfold op1;rw[if_neg hk1])
      go_upto_region 5 with fail
      rw[← uq HOP]at HP2;clear cw c2a c2b;obtain⟨opx,HOX⟩:∃ opx,Hid (op1 s.op wd=opx):=⟨_,rfl⟩;rw[uq HOX]at HP2;have HRG:Hid (0≤opx∧opx≤2):=hide (by rw[← uq HOX];exact(uq HO1).1);obtain⟨G,HGd⟩:∃ G,Hid (sv (gp opx s.la wd)=G):=⟨_,rfl⟩;have HGQ:Hid ((gp opx s.la wd).length≤4):=hide (zd9 (uq HRG).1 (uq HRG).2);refine wp_region_held_drew (S:=fun _=>True) (by kernel_rfl) (by trivial) (fun hHeld=>?_);refine tkk 0 21 hHeld ?_;try simp only[Act.put,Ya,Yb,Yc]
      refine tkk 1 22 hHeld ?_;try simp only[Act.put,Ya,Yb,Yc]
      refine tkk 2 23 hHeld ?_;try simp only[Act.put,Ya,Yb,Yc]
      refine tkk 3 24 hHeld ?_;try simp only[Act.put,Ya,Yb,Yc]
      refine tkk 4 25 hHeld ?_;try simp only[Act.put,Ya,Yb,Yc]
      have HP2d:=hide ((uq HP2).keep (Keep.refl _).drew);have HF2d:=hide ((uq HF2).trans (Fb.keep (Keep.refl _).drew));generalize wr.drew=w2d at HP2d HF2d ⊢;refine zaC 5 (fun K hK=>?_);go_simp;clear hHeld
      (have T5:=zev wd (uq HP2d) (uq HRG).1 (uq HRG).2;rw[uq HS,uq HGd]at T5;refine T5.mono ?_;clear T5;rintro e w3 ⟨rfl,hk3⟩;have HP3:=hide ((uq HP2d).keep hk3);have HF3:=hide ((uq HF2d).trans (Fb.keep hk3));clear hk3)
      try go_wp2_with fail
      refine hK.out _ _ ?_ (fun hHeld=>?_)
      ·trivial
      clear hK K;try simp only[Act.put,Ya,Yb,Yc]
      refine zaC 6 (fun K hK=>?_);go_simp;clear hHeld
      (have T6:=zby (sv (gp opx s.la wd)) (by have:=uq HLN;have:=uq HGQ;rw[zad];omega) (uq HP3);simp only[zcr]at T6;rw[uq HGd]at T6;refine T6.mono ?_;clear T6;rintro e w4 ⟨rfl,hp,hf⟩;have HP4:=hide hp;have HF4:=hide ((uq HF3).trans hf);clear hp hf)
      try go_wp2_with fail
      refine hK.out _ _ ?_ (fun hHeld=>?_)
      ·trivial
      clear hK K;try simp only[Act.put,Ya,Yb,Yc]
      refine wpAnyH_done (by kernel_rfl) ?_ _;clear hHeld;go_wp2_with fail
      (have T7:=zby (sv wd) (by have:=uq HLN;have:=uq HGQ;rw[zad,List.length_append];omega) (uq HP4);simp only[zcr]at T7;rw[uq HS]at T7;refine T7.mono ?_;clear T7;rintro e w5 ⟨rfl,hp,hf⟩;have HP5:=hide hp;have HF5:=hide ((uq HF4).trans hf);clear hp hf)
      skip
      obtain⟨d2,d3⟩:=(uq HP5).cells;obtain⟨d3a,d3b⟩:=d3;clear d2
      go_upto_region 8 with fail
      replace HP5:=hide ((uq HP5).setLa S);replace HF5:=hide ((uq HF5).trans (Fb.set w5 p 3 (.string S)));generalize w5.setCell ⟨p,3,none⟩ (.string S)=w6 at HP5 HF5 ⊢;clear d3a d3b;go_wp2_with fail
      (refine(zeu (by have:=uq HLN;have:=uq HGQ;simp only[List.length_append];omega) (uq HP5)).mono ?_;rintro e w8 ⟨rfl,hp,hf⟩;replace HP5:=hide hp;replace HF5:=hide ((uq HF5).trans hf);clear hp hf);go_wp2_with fail
      go_roundw
      case rel=>
       refine⟨k+1,ps s wd,hlt,by go_num,hide ?_,hide (uq HO1).2,HE1,hide ?_,HF5⟩
       ·have e9:ps s wd=⟨s.out++gp opx s.la wd++wd++ [10],opx,[]⟩:=by unfold ps;rw[if_neg hk0,if_pos (.inr hk2),uq HOX]
        rw[e9];first|exact uq HP5|(have h9:=uq HP5;rw[← uq HS]at h9;exact h9)
       ·have:=zeT (uq HO1).1;have:=uq HL1;omega
      case measure=>simp[intOf];omega
     ·have b2:(S.toList== [59])=false:=by rw[← uq HS,zb5];simpa using hk2
      have HP2:=HPk;have HF2:=HFk;have HOP:Hid (op1 s.op wd=s.op):=hide (by unfold op1;rw[if_neg hk1])
      go_upto_region 5 with fail
      rw[← uq HOP]at HP2;clear cw c2a c2b;obtain⟨opx,HOX⟩:∃ opx,Hid (op1 s.op wd=opx):=⟨_,rfl⟩;rw[uq HOX]at HP2;have HRG:Hid (0≤opx∧opx≤2):=hide (by rw[← uq HOX];exact(uq HO1).1);obtain⟨G,HGd⟩:∃ G,Hid (sv (gp opx s.la wd)=G):=⟨_,rfl⟩;have HGQ:Hid ((gp opx s.la wd).length≤4):=hide (zd9 (uq HRG).1 (uq HRG).2);refine wp_region_held_drew (S:=fun _=>True) (by kernel_rfl) (by trivial) (fun hHeld=>?_);refine tkk 0 21 hHeld ?_;try simp only[Act.put,Ya,Yb,Yc]
      refine tkk 1 22 hHeld ?_;try simp only[Act.put,Ya,Yb,Yc]
      refine tkk 2 23 hHeld ?_;try simp only[Act.put,Ya,Yb,Yc]
      refine tkk 3 24 hHeld ?_;try simp only[Act.put,Ya,Yb,Yc]
      refine tkk 4 25 hHeld ?_;try simp only[Act.put,Ya,Yb,Yc]
      have HP2d:=hide ((uq HP2).keep (Keep.refl _).drew);have HF2d:=hide ((uq HF2).trans (Fb.keep (Keep.refl _).drew));generalize wr.drew=w2d at HP2d HF2d ⊢;refine zaC 5 (fun K hK=>?_);go_simp;clear hHeld
      (have T5:=zev wd (uq HP2d) (uq HRG).1 (uq HRG).2;rw[uq HS,uq HGd]at T5;refine T5.mono ?_;clear T5;rintro e w3 ⟨rfl,hk3⟩;have HP3:=hide ((uq HP2d).keep hk3);have HF3:=hide ((uq HF2d).trans (Fb.keep hk3));clear hk3)
      try go_wp2_with fail
      refine hK.out _ _ ?_ (fun hHeld=>?_)
      ·trivial
      clear hK K;try simp only[Act.put,Ya,Yb,Yc]
      refine zaC 6 (fun K hK=>?_);go_simp;clear hHeld
      (have T6:=zby (sv (gp opx s.la wd)) (by have:=uq HLN;have:=uq HGQ;rw[zad];omega) (uq HP3);simp only[zcr]at T6;rw[uq HGd]at T6;refine T6.mono ?_;clear T6;rintro e w4 ⟨rfl,hp,hf⟩;have HP4:=hide hp;have HF4:=hide ((uq HF3).trans hf);clear hp hf)
      try go_wp2_with fail
      refine hK.out _ _ ?_ (fun hHeld=>?_)
      ·trivial
      clear hK K;try simp only[Act.put,Ya,Yb,Yc]
      refine wpAnyH_done (by kernel_rfl) ?_ _;clear hHeld;go_wp2_with fail
      (have T7:=zby (sv wd) (by have:=uq HLN;have:=uq HGQ;rw[zad,List.length_append];omega) (uq HP4);simp only[zcr]at T7;rw[uq HS]at T7;refine T7.mono ?_;clear T7;rintro e w5 ⟨rfl,hp,hf⟩;have HP5:=hide hp;have HF5:=hide ((uq HF4).trans hf);clear hp hf)
      skip
      obtain⟨d2,d3⟩:=(uq HP5).cells;obtain⟨d3a,d3b⟩:=d3;clear d2
      go_upto_region 8 with fail
      replace HP5:=hide ((uq HP5).setLa S);replace HF5:=hide ((uq HF5).trans (Fb.set w5 p 3 (.string S)));generalize w5.setCell ⟨p,3,none⟩ (.string S)=w6 at HP5 HF5 ⊢;clear d3a d3b;go_wp2_with fail
      go_roundw
      case rel=>
       refine⟨k+1,ps s wd,hlt,by go_num,hide ?_,hide (uq HO1).2,HE1,hide ?_,HF5⟩
       ·have e9:ps s wd=⟨s.out++gp opx s.la wd++wd,opx,wd⟩:=by unfold ps;rw[if_neg hk0,if_neg (fun x=>x.elim hk1 hk2),uq HOX]
        rw[e9];first|exact uq HP5|(have h9:=uq HP5;rw[← uq HS]at h9;exact h9)
       ·have:=zeT (uq HO1).1;have:=uq HL1;omega
      case measure=>simp[intOf];omega
  ·have hkn:k=n:=by omega
   have HD:Hid (s=fin):=hide (by have:=uq HEk;rw[List.drop_eq_nil_of_le (by have:=uq HN;omega)]at this;exact this);go_wp2_with fail
   go_end0
   rw[← uq HD];exact⟨rfl,uq HPk,uq HFk⟩
end S
namespace S
def Ps (w:World) (p:Nat) (st:St):Prop:=Pr w p st.out st.op (sv st.la)
theorem Ps.keep {w w':World} {p:Nat} {st:St} (h:Ps w p st) (k:Keep w w'):Ps w' p st:=Pr.keep h k
theorem zas (st:St) (a b:List (List UInt8)):pss (pss st a) b=pss st (a++b):=by simp[pss,List.foldl_append]
theorem zaq:∀(a b:List (List UInt8)) (st:St),oks st (a++b)↔oks st a∧oks (pss st a) b
 | [],b,st=>by simp[oks,pss]
 |x :: a,b,st=>by simp only[List.cons_append,oks,zaq a b,pss,List.foldl_cons];exact and_assoc.symm
theorem zah (a b:List (List UInt8)):zbi (a++b)=zbi a+zbi b:=by simp[zbi]
theorem zaO:∀(ws:List (List UInt8)) (st:St),oks st ws→(pss st ws).out.length≤st.out.length+zbi ws
 | [],st,_=>by simp[pss,zbi]
 |x :: ws,st,h=>by
  have h1:=zeT h.1;have h2:=zaO ws (ps st x) h.2;simp only[pss,List.foldl_cons,zbi,List.map_cons,List.sum_cons]at h2 ⊢;omega
theorem zaU {W:World} {p:Nat} {st:St} (ws:List (List UInt8)) {g:Nat} (hg:W.heap.size=g) (h:Ps W p st) (hn:ws.length≤100000) (ho:oks st ws) (hl:st.out.length+zbi ws≤1000000000):
  Calls Tryz.prog 41 #[.pointer (some ⟨p,0,none⟩),.slice (some ⟨g,0,none⟩) ws.length ws.length] (W.alloc (.cells (wc ws).toArray 9)) fun e w'=>e= .returned (.tuple #[])∧Ps w' p (pss st ws)∧Fb p W w':=by
 subst hg;have hp:=Pr.lt h;refine(zjf p W.heap.size ws.length ws st _ (heap_alloc_new W _) (by omega) hn (hide (Pr.keep h ((Keep.refl W).alloc _))) (hide ho) (hide hl)).mono ?_;rintro e w' ⟨rfl,h1,h2⟩;exact⟨rfl,h1,(Fb.keep ((Keep.refl W).alloc _)).trans h2⟩
def lw:List (List UInt8)→List (List UInt8)
 | []=> [[59]]
 |s :: l=>s :: (l.flatMap (fun x=> [[44],x])++ [[59]])
theorem zaj {w w':World} {p:Nat} (h:Fb p w w') {a:Addr} {v:Value} (hc:w.cell? a=some v) (hp:a.block<p):w'.cell? a=some v:=
 (World.cell?_of_block (h.block a.block (World.block_lt_of_cell? w a hc) (by omega) (.inl hp))).trans hc
set_option maxHeartbeats 8000000 in
theorem zhC (p:Nat) (ad:Addr) (m cap:Nat) (S0:List UInt8) (X:Nat→List UInt8) (st fin:St) (w:World) (hm:m≤1000) (hc:m+1≤cap) (hadp:ad.block<p)
  (c0:w.cell? ad=some (.string (sv S0))) (HC:Hid (∀ k,k<m→w.cell? ((⟨ad.block,ad.off+1,none⟩:Addr).add k)=some (.string (sv (X k)))))
  (HP:Hid (Ps w p st)) (HO:Hid (oks st (lw (S0 :: (List.range m).map X)))) (HL:Hid (st.out.length+zbi (lw (S0 :: (List.range m).map X))≤1000000000)) (HFin:Hid (pss st (lw (S0 :: (List.range m).map X))=fin)):
  Calls Tryz.prog 83 #[.pointer (some ⟨p,0,none⟩),.slice (some ad) (m+1) cap] w fun e w'=>e= .returned (.tuple #[])∧Ps w' p fin∧Fb p w w':=by
 have HAD:=hide hadp;obtain⟨S,HS⟩:∃ S,Hid (sv S0=S):=⟨_,rfl⟩;rw[uq HS]at c0;obtain⟨mid,HM⟩:∃ mid,Hid (((List.range m).map X).flatMap (fun x=> [[44],x])++ [[59]]=mid):=⟨_,hide rfl⟩;have HLW:Hid (lw (S0 :: (List.range m).map X)= [S0]++mid):=hide (by rw[← uq HM];rfl);rw[uq HLW]at HO HL HFin;have HO0:=hide ((zaq _ _ _).1 (uq HO));rw[zah]at HL;rw[← zas]at HFin;clear HO HLW hadp;obtain⟨bp,hbp⟩:∃ bp,(if cap=1 then some ad else some ⟨ad.block,ad.off+1,none⟩)=bp:=⟨_,rfl⟩;go_enter Tryz.func83,Tryz.ntmps83;go_wp2_with fail
 (have T1:=zaU (W:=w) [S0] rfl (uq HP) (by simp) (uq HO0).1 (by have:=uq HL;omega);simp only[wc,List.map_cons,List.map_nil]at T1;rw[uq HS]at T1;refine T1.mono ?_;clear T1;rintro e w1 ⟨rfl,hp,hf⟩;have HP1:=hide hp;have HF1:=hide hf;clear hp hf)
 clear c0;go_wp2_with fail
 have HBP:Hid (∀ k,k<m→∃ bd,bp=some bd∧bd.block<p∧w.cell? (bd.add k)=some (.string (sv (X k)))):=hide (fun k hk=>⟨⟨ad.block,ad.off+1,none⟩,by rw[← hbp,if_neg (by omega)],uq HAD,(uq HC) k hk⟩);clear hbp hc
 go_loopw [15] (fun vi wr=>∃(k:Nat) (s:St),k≤m∧vi= .int .i64 (k:Int)∧Hid (Ps wr p s)∧Hid (oks s ((((List.range m).map X).drop k).flatMap (fun x=> [[44],x])++ [[59]]))∧Hid (pss s ((((List.range m).map X).drop k).flatMap (fun x=> [[44],x])++ [[59]])=fin)∧Hid (s.out.length+zbi ((((List.range m).map X).drop k).flatMap (fun x=> [[44],x])++ [[59]])≤1000000000)∧Hid (Fb p w wr)) (fun vi wr=>m - (intOf vi).toNat)
 case atStart=>
  refine⟨0,pss st [S0],Nat.zero_le _,rfl,HP1,hide ?_,hide ?_,hide ?_,HF1⟩
  ·rw[List.drop_zero,uq HM];exact(uq HO0).2
  ·rw[List.drop_zero,uq HM];exact uq HFin
  ·rw[List.drop_zero,uq HM];have:=zaO [S0] st (uq HO0).1;have:=uq HL;omega
 case round=>
  obtain⟨k,s,hk,rfl,HPk,HOk,HEk,HLk,HFk⟩:=hrel;by_cases hlt:k<m
  ·have li:(k:Int)<(m:Int):=by omega
   have hd:((List.range m).map X).drop k=X k :: ((List.range m).map X).drop (k+1):=by
    rw[List.drop_eq_getElem_cons (by simpa using hlt)];simp
   rw[hd,List.flatMap_cons,List.append_assoc]at HOk HEk HLk;obtain⟨rst,HRst⟩:∃ rst,Hid ((((List.range m).map X).drop (k+1)).flatMap (fun x=> [[44],x])++ [[59]]=rst):=⟨_,hide rfl⟩;rw[uq HRst]at HOk HEk HLk;have HO2:=hide ((zaq _ _ _).1 (uq HOk));rw[zah]at HLk;rw[← zas]at HEk;obtain⟨bd,eb,hbb,hcb⟩:=(uq HBP) k hlt;subst eb;have ck:=zaj (uq HFk) hcb (by rw[zae];exact hbb);obtain⟨SX,HSX⟩:∃ SX,Hid (sv (X k)=SX):=⟨_,rfl⟩;rw[uq HSX]at ck;clear hd hbb hcb HOk;go_wp2_with fail
   (have T1:=zaU (W:=wr) [[44],X k] rfl (uq HPk) (by simp) (uq HO2).1 (by have:=uq HLk;omega);simp only[wc,List.map_cons,List.map_nil]at T1;rw[uq HSX]at T1;refine T1.mono ?_;clear T1;rintro e w2 ⟨rfl,hp,hf⟩;have HP2:=hide hp;have HF2:=hide ((uq HFk).trans hf);clear hp hf)
   clear ck;go_wp2_with fail
   go_roundw
   case rel=>
    refine⟨k+1,pss s [[44],X k],hlt,by go_num,HP2,hide ?_,hide ?_,hide ?_,HF2⟩
    ·rw[uq HRst];exact(uq HO2).2
    ·rw[uq HRst];exact uq HEk
    ·rw[uq HRst];have:=zaO [[44],X k] s (uq HO2).1;have:=uq HLk;omega
   case measure=>simp[intOf];omega
  ·have hd:((List.range m).map X).drop k= []:=List.drop_eq_nil_of_le (by simp;omega);rw[hd]at HOk HEk HLk;clear hd;go_wp2_with fail
   (have T1:=zaU (W:=wr) [[59]] rfl (uq HPk) (by simp) (uq HOk) (uq HLk);simp only[wc,List.map_cons,List.map_nil]at T1;refine T1.mono ?_;clear T1;rintro e w2 ⟨rfl,hp,hf⟩;have HP2:=hide hp;have HF2:=hide ((uq HFk).trans hf);clear hp hf)
   go_wp2_with fail
   go_end0
   have h9:=uq HP2;rw[show pss s [[59]]=fin from uq HEk]at h9;exact⟨rfl,h9,uq HF2⟩
end S
end Go.Proofs.YtfepanidippjlaaGreatDoor
