/- Package show: words of a row of names. -/
import Derived.Test.YthceiikgecoimaaGreatDoorSPut
import Derived.Test.YthceiikgecoimaaGreatDoorLVal
import Derived.Lib.ItoaNum
import Derived.Deep.DrawnRows
import Derived.Deep.RegionHeld
namespace Go.Proofs.YthceiikgecoimaaGreatDoor
open Go.RowKit
attribute [local go_sem ↓] Go.wp_at_zero Go.wp_at_succ
set_option linter.unusedVariables false
set_option linter.unusedSimpArgs false
set_option maxRecDepth 10000
namespace S
def Ps (w:World) (p:Nat) (st:St):Prop:=Pr w p st.out st.op (sv st.la)
theorem Ps.keep {w w':World} {p:Nat} {st:St} (h:Ps w p st) (k:Keep w w'):Ps w' p st:=Pr.keep h k
theorem zaF (st:St) (a b:List (List UInt8)):pss (pss st a) b=pss st (a++b):=by simp[pss,List.foldl_append]
theorem zaA:∀(a b:List (List UInt8)) (st:St),oks st (a++b)↔oks st a/\oks (pss st a) b
 | [],b,st=>by simp[oks,pss]
 |x :: a,b,st=>by simp only[List.cons_append,oks,zaA a b,pss,List.foldl_cons];exact and_assoc.symm
theorem zan (a b:List (List UInt8)):zbs (a++b)=zbs a+zbs b:=by simp[zbs]
theorem za3:∀(ws:List (List UInt8)) (st:St),oks st ws->(pss st ws).out.length<=st.out.length+zbs ws
 | [],st,_=>by simp[pss,zbs]
 |x :: ws,st,h=>by
  have h1:=zf5 h.1;have h2:=za3 ws (ps st x) h.2;simp only[pss,List.foldl_cons,zbs,List.map_cons,List.sum_cons]at h2 |-;omega
theorem za8 {W:World} {p:Nat} {st:St} (ws:List (List UInt8)) {g:Nat} (hg:W.heap.size=g) (h:Ps W p st) (hn:ws.length<=100000) (ho:oks st ws) (hl:st.out.length+zbs ws<=1000000000):
  Calls Tryz.prog 30 #[.pointer (some ⟨p,0,none⟩),.slice (some ⟨g,0,none⟩) ws.length ws.length] (W.alloc (.cells (wc ws).toArray 9)) λe w'=>e= .returned (.tuple #[])/\Ps w' p (pss st ws)/\Fb p W w':=by
 subst hg;have hp:=Pr.lt h;refine(zlb p W.heap.size ws.length ws st _ (heap_alloc_new W _) (by omega) hn (zh (Pr.keep h ((zk W).alloc _))) (zh ho) (zh hl)).mono ?_;rintro e w' ⟨rfl,h1,h2⟩;exact⟨rfl,h1,(Fb.keep ((zk W).alloc _)).trans h2⟩
def lw:List (List UInt8)->List (List UInt8)
 | []=> [[59]]
 |s :: l=>s :: (l.flatMap (λx=> [[44],x])++ [[59]])
theorem zau {w w':World} {p:Nat} (h:Fb p w w') {a:Addr} {v:Value} (hc:w.cell? a=some v) (hp:a.block<p):w'.cell? a=some v:=
 (World.cell?_of_block (h.block a.block (World.block_lt_of_cell? w a hc) (by omega) (.inl hp))).trans hc
set_option maxHeartbeats 8000000 in
theorem zji (p:Nat) (ad:Addr) (m cap:Nat) (S0:List UInt8) (X:Nat->List UInt8) (st fin:St) (w:World) (hm:m<=1000) (hc:m+1<=cap) (hadp:ad.block<p)
  (c0:w.cell? ad=some (.string (sv S0))) (HC:Hid (∀ k,k<m->w.cell? ((⟨ad.block,ad.off+1,none⟩:Addr).add k)=some (.string (sv (X k)))))
  (HP:Hid (Ps w p st)) (HO:Hid (oks st (lw (S0 :: (List.range m).map X)))) (HL:Hid (st.out.length+zbs (lw (S0 :: (List.range m).map X))<=1000000000)) (HFin:Hid (pss st (lw (S0 :: (List.range m).map X))=fin)):
  Calls Tryz.prog 67 #[.pointer (some ⟨p,0,none⟩),.slice (some ad) (m+1) cap] w λe w'=>e= .returned (.tuple #[])/\Ps w' p fin/\Fb p w w':=by
 have HAD:=zh hadp;obtain⟨S,HS⟩:∃ S,Hid (sv S0=S):=⟨_,rfl⟩;rw[uq HS]at c0;obtain⟨mid,HM⟩:∃ mid,Hid (((List.range m).map X).flatMap (λx=> [[44],x])++ [[59]]=mid):=⟨_,zh rfl⟩;have HLW:Hid (lw (S0 :: (List.range m).map X)= [S0]++mid):=zh (by rw[<- uq HM];rfl);rw[uq HLW]at HO HL HFin;have HO0:=zh ((zaA _ _ _).1 (uq HO));rw[zan]at HL;rw[<- zaF]at HFin;clear HO HLW hadp;obtain⟨bp,hbp⟩:∃ bp,(if cap=1 then some ad else some ⟨ad.block,ad.off+1,none⟩)=bp:=⟨_,rfl⟩;go_enter Tryz.func67,Tryz.ntmps67;go_wp2_with fail
 (have T1:=za8 (W:=w) [S0] rfl (uq HP) (by simp) (uq HO0).1 (by have:=uq HL;omega);simp only[wc,List.map_cons,List.map_nil]at T1;rw[uq HS]at T1;refine T1.mono ?_;clear T1;rintro e w1 ⟨rfl,hp,hf⟩;have HP1:=zh hp;have HF1:=zh hf;clear hp hf)
 clear c0;go_wp2_with fail
 have HBP:Hid (∀ k,k<m->∃ bd,bp=some bd/\bd.block<p/\w.cell? (bd.add k)=some (.string (sv (X k)))):=zh (λk hk=>⟨⟨ad.block,ad.off+1,none⟩,by rw[<- hbp,if_neg (by omega)],uq HAD,(uq HC) k hk⟩);clear hbp hc
 go_loopw [15] (λvi wr=>∃(k:Nat) (s:St),k<=m/\vi= .int .i64 (k:Int)/\Hid (Ps wr p s)/\Hid (oks s ((((List.range m).map X).drop k).flatMap (λx=> [[44],x])++ [[59]]))/\Hid (pss s ((((List.range m).map X).drop k).flatMap (λx=> [[44],x])++ [[59]])=fin)/\Hid (s.out.length+zbs ((((List.range m).map X).drop k).flatMap (λx=> [[44],x])++ [[59]])<=1000000000)/\Hid (Fb p w wr)) (λvi wr=>m - (intOf vi).toNat)
 case atStart=>
  refine⟨0,pss st [S0],Nat.zero_le _,rfl,HP1,zh ?_,zh ?_,zh ?_,HF1⟩
  ·rw[List.drop_zero,uq HM];exact(uq HO0).2
  ·rw[List.drop_zero,uq HM];exact uq HFin
  ·rw[List.drop_zero,uq HM];have:=za3 [S0] st (uq HO0).1;have:=uq HL;omega
 case round=>
  obtain⟨k,s,hk,rfl,HPk,HOk,HEk,HLk,HFk⟩:=hrel;by_cases hlt:k<m
  ·have li:(k:Int)<(m:Int):=by omega
   have hd:((List.range m).map X).drop k=X k :: ((List.range m).map X).drop (k+1):=by
    rw[List.drop_eq_getElem_cons (by simpa using hlt)];simp
   rw[hd,List.flatMap_cons,List.append_assoc]at HOk HEk HLk;obtain⟨rst,HRst⟩:∃ rst,Hid ((((List.range m).map X).drop (k+1)).flatMap (λx=> [[44],x])++ [[59]]=rst):=⟨_,zh rfl⟩;rw[uq HRst]at HOk HEk HLk;have HO2:=zh ((zaA _ _ _).1 (uq HOk));rw[zan]at HLk;rw[<- zaF]at HEk;obtain⟨bd,eb,hbb,hcb⟩:=(uq HBP) k hlt;subst eb;have ck:=zau (uq HFk) hcb (by rw[zag];exact hbb);obtain⟨SX,HSX⟩:∃ SX,Hid (sv (X k)=SX):=⟨_,rfl⟩;rw[uq HSX]at ck;clear hd hbb hcb HOk;go_wp2_with fail
   (have T1:=za8 (W:=wr) [[44],X k] rfl (uq HPk) (by simp) (uq HO2).1 (by have:=uq HLk;omega);simp only[wc,List.map_cons,List.map_nil]at T1;rw[uq HSX]at T1;refine T1.mono ?_;clear T1;rintro e w2 ⟨rfl,hp,hf⟩;have HP2:=zh hp;have HF2:=zh ((uq HFk).trans hf);clear hp hf)
   clear ck;go_wp2_with fail
   go_roundw
   case rel=>
    refine⟨k+1,pss s [[44],X k],hlt,by go_num,HP2,zh ?_,zh ?_,zh ?_,HF2⟩
    ·rw[uq HRst];exact(uq HO2).2
    ·rw[uq HRst];exact uq HEk
    ·rw[uq HRst];have:=za3 [[44],X k] s (uq HO2).1;have:=uq HLk;omega
   case measure=>simp[intOf];omega
  ·have hd:((List.range m).map X).drop k= []:=List.drop_eq_nil_of_le (by simp;omega);rw[hd]at HOk HEk HLk;clear hd;go_wp2_with fail
   (have T1:=za8 (W:=wr) [[59]] rfl (uq HPk) (by simp) (uq HOk) (uq HLk);simp only[wc,List.map_cons,List.map_nil]at T1;refine T1.mono ?_;clear T1;rintro e w2 ⟨rfl,hp,hf⟩;have HP2:=zh hp;have HF2:=zh ((uq HFk).trans hf);clear hp hf)
   go_wp2_with fail
   go_end0
   have h9:=uq HP2;rw[show pss s [[59]]=fin from uq HEk]at h9;exact⟨rfl,h9,uq HF2⟩
end S
namespace S
def dg (n:Int):List UInt8:=Lib.itoa n
structure Nc (p:Nat) (G:World->Prop):Prop where
 keep:∀ w w',G w->Keep w w'->G w'
 fb:∀ w w',G w->Fb p w w'->G w'
 num:∀(n:Int) (w:World), -999999999999999999<=n->n<=999999999999999999->G w->Calls Tryz.prog 31 #[.int .i64 n] w λe w'=>e= .returned (.string (sv (dg n)))/\Keep w w'
def Bh (hb:Nat) (S:ByteArray) (v1 v2 v3 v4 v5 v6 v7 v8 v9 v10:Int) (w:World):Prop:=w.heap[hb]? =some (.cells #[.string S,.int .i64 v1,.int .i64 v2,.int .i64 v3,.int .i64 v4,.int .i64 v5,.int .i64 v6,.int .i64 v7,.int .i64 v8,.int .i64 v9,.int .i64 v10] 77 (0,0))
section
variable {hb : Nat} {S : ByteArray} {v1 v2 v3 v4 v5 v6 v7 v8 v9 v10 : Int}
theorem zbn {w w':World} (h:Bh hb S v1 v2 v3 v4 v5 v6 v7 v8 v9 v10 w) (k:Keep w w'):Bh hb S v1 v2 v3 v4 v5 v6 v7 v8 v9 v10 w':=by unfold Bh at *;rw[k.block hb (Array.getElem?_eq_some_iff.1 h).1];exact h
theorem zlc {w w':World} {p:Nat} (h:Bh hb S v1 v2 v3 v4 v5 v6 v7 v8 v9 v10 w) (hp:hb≠p) (k:Fb p w w'):Bh hb S v1 v2 v3 v4 v5 v6 v7 v8 v9 v10 w':=k.words h (by decide) hp
theorem zaZ {w':World} (h:Bh hb S v1 v2 v3 v4 v5 v6 v7 v8 v9 v10 w'):w'.cell? ⟨hb,0,none⟩=some (.string S)/\w'.cell? ⟨hb,1,none⟩=some (.int .i64 v1)/\w'.cell? ⟨hb,2,none⟩=some (.int .i64 v2)/\w'.cell? ⟨hb,3,none⟩=some (.int .i64 v3)/\w'.cell? ⟨hb,4,none⟩=some (.int .i64 v4)/\w'.cell? ⟨hb,5,none⟩=some (.int .i64 v5)/\w'.cell? ⟨hb,6,none⟩=some (.int .i64 v6)/\w'.cell? ⟨hb,7,none⟩=some (.int .i64 v7)/\w'.cell? ⟨hb,8,none⟩=some (.int .i64 v8)/\w'.cell? ⟨hb,9,none⟩=some (.int .i64 v9)/\w'.cell? ⟨hb,10,none⟩=some (.int .i64 v10):=by
 unfold Bh at h
 refine⟨?_,?_,?_,?_,?_,?_,?_,?_,?_,?_,?_⟩<;>simp[World.cell?,h]
end
def hw (S0:List UInt8) (v1 v2 v3 v4 v5 v6 v7 v8 v9:Int):List (List UInt8):= [[104,101,97,100],S0,[118,111,108,117,109,101],dg v1,[102,108,111,119],dg v2]++([[117,115,101],dg v3,[47],dg v4]++([[115,112,101,101,100],dg v5,[103,114,97,100,101],dg v6]++([[119,105,100,116,104],dg v7,[108,101,110,103,116,104],dg v8,[103,114,101,101,110],dg v9,[59]])))
set_option maxHeartbeats 16000000 in
theorem zeD (p:Nat) (S0:List UInt8) (v1 v2 v3 v4 v5 v6 v7 v8 v9 v10:Int) (st:St) (w:World) (G:World->Prop) (hN:Nc p G) (Rv1:Hid (-999999999999999999<=v1/\v1<=999999999999999999)) (Rv2:Hid (-999999999999999999<=v2/\v2<=999999999999999999)) (Rv3:Hid (-999999999999999999<=v3/\v3<=999999999999999999)) (Rv4:Hid (-999999999999999999<=v4/\v4<=999999999999999999)) (Rv5:Hid (-999999999999999999<=v5/\v5<=999999999999999999)) (Rv6:Hid (-999999999999999999<=v6/\v6<=999999999999999999)) (Rv7:Hid (-999999999999999999<=v7/\v7<=999999999999999999)) (Rv8:Hid (-999999999999999999<=v8/\v8<=999999999999999999)) (Rv9:Hid (-999999999999999999<=v9/\v9<=999999999999999999))
  (HP:Hid (Ps w p st)) (HG:Hid (G w)) (HO:Hid (oks st (hw S0 v1 v2 v3 v4 v5 v6 v7 v8 v9))) (HL:Hid (st.out.length+zbs (hw S0 v1 v2 v3 v4 v5 v6 v7 v8 v9)<=1000000000)):
  Calls Tryz.prog 66 #[.pointer (some ⟨p,0,none⟩),.agg #[.string (sv S0),.int .i64 v1,.int .i64 v2,.int .i64 v3,.int .i64 v4,.int .i64 v5,.int .i64 v6,.int .i64 v7,.int .i64 v8,.int .i64 v9,.int .i64 v10]] w λe w'=>e= .returned (.tuple #[])/\Ps w' p (pss st (hw S0 v1 v2 v3 v4 v5 v6 v7 v8 v9))/\Fb p w w':=by
 obtain⟨fin,HFin⟩:∃ fin,Hid (pss st (hw S0 v1 v2 v3 v4 v5 v6 v7 v8 v9)=fin):=⟨_,rfl⟩;rw[uq HFin];have a1:=uq HO;have a2:=uq HL;have a3:=uq HFin;simp only[hw]at a1 a2 a3;rw[zaA,zaA,zaA]at a1;rw[zan,zan,zan]at a2;rw[<- zaF,<- zaF,<- zaF]at a3;have HO1:=zh a1.1;have HO2:=zh a1.2.1;have HO3:=zh a1.2.2.1;have HO4:=zh a1.2.2.2;have l1:=za3 _ _ a1.1;have l2:=za3 _ _ a1.2.1;have l3:=za3 _ _ a1.2.2.1;have HL1:Hid (st.out.length+zbs [[104,101,97,100],S0,[118,111,108,117,109,101],dg v1,[102,108,111,119],dg v2]<=1000000000):=zh (by omega);have HL2:Hid ((pss st [[104,101,97,100],S0,[118,111,108,117,109,101],dg v1,[102,108,111,119],dg v2]).out.length+zbs [[117,115,101],dg v3,[47],dg v4]<=1000000000):=zh (by omega);have HL3:Hid ((pss (pss st [[104,101,97,100],S0,[118,111,108,117,109,101],dg v1,[102,108,111,119],dg v2]) [[117,115,101],dg v3,[47],dg v4]).out.length+zbs [[115,112,101,101,100],dg v5,[103,114,97,100,101],dg v6]<=1000000000):=zh (by omega);have HL4:Hid ((pss (pss (pss st [[104,101,97,100],S0,[118,111,108,117,109,101],dg v1,[102,108,111,119],dg v2]) [[117,115,101],dg v3,[47],dg v4]) [[115,112,101,101,100],dg v5,[103,114,97,100,101],dg v6]).out.length+zbs [[119,105,100,116,104],dg v7,[108,101,110,103,116,104],dg v8,[103,114,101,101,110],dg v9,[59]]<=1000000000):=zh (by omega);have HFZ:=zh a3;clear a1 a2 a3 l1 l2 l3 HO HL HFin;obtain⟨S,HS0⟩:∃ S,Hid (sv S0=S):=⟨_,rfl⟩;rw[uq HS0];have HX0:Hid (Bh w.heap.size S v1 v2 v3 v4 v5 v6 v7 v8 v9 v10 (w.alloc (.cells #[.string S,.int .i64 v1,.int .i64 v2,.int .i64 v3,.int .i64 v4,.int .i64 v5,.int .i64 v6,.int .i64 v7,.int .i64 v8,.int .i64 v9,.int .i64 v10] 77))):=zh (heap_alloc_new w _);have HP0:=zh ((uq HP).keep ((zk w).alloc (.cells #[.string S,.int .i64 v1,.int .i64 v2,.int .i64 v3,.int .i64 v4,.int .i64 v5,.int .i64 v6,.int .i64 v7,.int .i64 v8,.int .i64 v9,.int .i64 v10] 77)));have HF0:Hid (Fb p w (w.alloc (.cells #[.string S,.int .i64 v1,.int .i64 v2,.int .i64 v3,.int .i64 v4,.int .i64 v5,.int .i64 v6,.int .i64 v7,.int .i64 v8,.int .i64 v9,.int .i64 v10] 77))):=zh (Fb.keep ((zk w).alloc _));have HG0:=zh (hN.keep _ _ (uq HG) ((zk w).alloc (.cells #[.string S,.int .i64 v1,.int .i64 v2,.int .i64 v3,.int .i64 v4,.int .i64 v5,.int .i64 v6,.int .i64 v7,.int .i64 v8,.int .i64 v9,.int .i64 v10] 77)));have HBP:Hid (w.heap.size≠p):=zh (by have:=Pr.lt (uq HP);omega);go_enter Tryz.func66,Tryz.ntmps66;go_wp2_with fail
 generalize w.alloc (.cells #[.string S,.int .i64 v1,.int .i64 v2,.int .i64 v3,.int .i64 v4,.int .i64 v5,.int .i64 v6,.int .i64 v7,.int .i64 v8,.int .i64 v9,.int .i64 v10] 77)=w0 at HX0 HP0 HF0 HG0 |-;generalize w.heap.size=hb at HX0 HBP |-;refine wp_region_held_drew (S:=λw'=>w'.cell? ⟨hb,0,none⟩=some (.string S)/\w'.cell? ⟨hb,1,none⟩=some (.int .i64 v1)/\w'.cell? ⟨hb,2,none⟩=some (.int .i64 v2)/\w'.cell? ⟨hb,3,none⟩=some (.int .i64 v3)/\w'.cell? ⟨hb,4,none⟩=some (.int .i64 v4)/\w'.cell? ⟨hb,5,none⟩=some (.int .i64 v5)/\w'.cell? ⟨hb,6,none⟩=some (.int .i64 v6)/\w'.cell? ⟨hb,7,none⟩=some (.int .i64 v7)/\w'.cell? ⟨hb,8,none⟩=some (.int .i64 v8)/\w'.cell? ⟨hb,9,none⟩=some (.int .i64 v9)/\w'.cell? ⟨hb,10,none⟩=some (.int .i64 v10)) (by kernel_rfl) (by exact zaZ (uq HX0)) (λzH=>?_);refine tk6 0 4 1 5 2 6 3 7 4 8 6 10 zH ?_;try simp only[Yq]
 refine tkk 7 11 zH ?_;try simp only[Yq]
 have HP1:=zh ((uq HP0).keep (zk w0).drew);have HF1:=zh ((uq HF0).trans (Fb.keep (zk w0).drew));have HG1:=zh (hN.keep _ _ (uq HG0) (zk w0).drew);have HX1:=zh (zbn (uq HX0) (zk w0).drew);generalize w0.drew=w1 at HP1 HF1 HG1 HX1 |-;refine zap 5 (λK hK=>?_);go_simp;clear zH;(refine(hN.num v1 _ (uq Rv1).1 (uq Rv1).2 (uq HG1)).mono ?_;rintro e w2 ⟨rfl,hk⟩;have HP2:=zh ((uq HP1).keep hk);have HF2:=zh ((uq HF1).trans (Fb.keep hk));have HG2:=zh (hN.keep _ _ (uq HG1) hk);have HX2:=zh (zbn (uq HX1) hk);clear hk);try go_wp2_with fail
 refine hK.out _ _ ?_ (λzH=>?_)
 ·exact zaZ (uq HX2)
 clear hK K;try simp only[Yq]
 refine zap 8 (λK hK=>?_);go_simp;clear zH;(refine(hN.num v2 _ (uq Rv2).1 (uq Rv2).2 (uq HG2)).mono ?_;rintro e w3 ⟨rfl,hk⟩;have HP3:=zh ((uq HP2).keep hk);have HF3:=zh ((uq HF2).trans (Fb.keep hk));have HG3:=zh (hN.keep _ _ (uq HG2) hk);have HX3:=zh (zbn (uq HX2) hk);clear hk);try go_wp2_with fail
 refine hK.out _ _ ?_ (λzH=>?_)
 ·exact zaZ (uq HX3)
 clear hK K;try simp only[Yq]
 refine zap 9 (λK hK=>?_);go_simp;clear zH;refine hK.out _ _ ?_ (λzH=>?_)
 ·exact zaZ (zbn (uq HX3) ((zk w3).alloc _))
 clear hK K;try simp only[Yq]
 refine zap 10 (λK hK=>?_);go_simp;clear zH
 (have T1:=za8 (W:=w3) [[104,101,97,100],S0,[118,111,108,117,109,101],dg v1,[102,108,111,119],dg v2] rfl (uq HP3) (by simp) (uq HO1) (uq HL1);simp only[wc,List.map_cons,List.map_nil]at T1;rw[uq HS0]at T1;refine T1.mono ?_;clear T1;rintro e w4 ⟨rfl,hp,hf⟩;have HP4:=zh hp;have HF4:=zh ((uq HF3).trans hf);have HG4:=zh (hN.fb _ _ (uq HG3) hf);have HX4:=zh (zlc (uq HX3) (uq HBP) hf);clear hp hf)
 try go_wp2_with fail
 refine hK.out _ _ ?_ (λzH=>?_)
 ·exact zaZ (uq HX4)
 clear hK K;try simp only[Yq]
 refine wpAnyH_done (by kernel_rfl) ?_ _;clear zH;go_wp2_with fail
 refine wp_region_held_drew (S:=λw'=>w'.cell? ⟨hb,0,none⟩=some (.string S)/\w'.cell? ⟨hb,1,none⟩=some (.int .i64 v1)/\w'.cell? ⟨hb,2,none⟩=some (.int .i64 v2)/\w'.cell? ⟨hb,3,none⟩=some (.int .i64 v3)/\w'.cell? ⟨hb,4,none⟩=some (.int .i64 v4)/\w'.cell? ⟨hb,5,none⟩=some (.int .i64 v5)/\w'.cell? ⟨hb,6,none⟩=some (.int .i64 v6)/\w'.cell? ⟨hb,7,none⟩=some (.int .i64 v7)/\w'.cell? ⟨hb,8,none⟩=some (.int .i64 v8)/\w'.cell? ⟨hb,9,none⟩=some (.int .i64 v9)/\w'.cell? ⟨hb,10,none⟩=some (.int .i64 v10)) (by kernel_rfl) (by exact zaZ (uq HX4)) (λzH=>?_);refine tk6 0 15 1 16 2 17 3 18 5 20 6 21 zH ?_;try simp only[Yq]
 refine tkk 7 22 zH ?_;try simp only[Yq]
 have HP5:=zh ((uq HP4).keep (zk w4).drew);have HF5:=zh ((uq HF4).trans (Fb.keep (zk w4).drew));have HG5:=zh (hN.keep _ _ (uq HG4) (zk w4).drew);have HX5:=zh (zbn (uq HX4) (zk w4).drew);generalize w4.drew=w5 at HP5 HF5 HG5 HX5 |-;refine zap 4 (λK hK=>?_);go_simp;clear zH;(refine(hN.num v3 _ (uq Rv3).1 (uq Rv3).2 (uq HG5)).mono ?_;rintro e w6 ⟨rfl,hk⟩;have HP6:=zh ((uq HP5).keep hk);have HF6:=zh ((uq HF5).trans (Fb.keep hk));have HG6:=zh (hN.keep _ _ (uq HG5) hk);have HX6:=zh (zbn (uq HX5) hk);clear hk);try go_wp2_with fail
 refine hK.out _ _ ?_ (λzH=>?_)
 ·exact zaZ (uq HX6)
 clear hK K;try simp only[Yq]
 refine zap 8 (λK hK=>?_);go_simp;clear zH;(refine(hN.num v4 _ (uq Rv4).1 (uq Rv4).2 (uq HG6)).mono ?_;rintro e w7 ⟨rfl,hk⟩;have HP7:=zh ((uq HP6).keep hk);have HF7:=zh ((uq HF6).trans (Fb.keep hk));have HG7:=zh (hN.keep _ _ (uq HG6) hk);have HX7:=zh (zbn (uq HX6) hk);clear hk);try go_wp2_with fail
 refine hK.out _ _ ?_ (λzH=>?_)
 ·exact zaZ (uq HX7)
 clear hK K;try simp only[Yq]
 refine zap 9 (λK hK=>?_);go_simp;clear zH;refine hK.out _ _ ?_ (λzH=>?_)
 ·exact zaZ (zbn (uq HX7) ((zk w7).alloc _))
 clear hK K;try simp only[Yq]
 refine zap 10 (λK hK=>?_);go_simp;clear zH
 (have T1:=za8 (W:=w7) [[117,115,101],dg v3,[47],dg v4] rfl (uq HP7) (by simp) (uq HO2) (uq HL2);simp only[wc,List.map_cons,List.map_nil]at T1;refine T1.mono ?_;clear T1;rintro e w8 ⟨rfl,hp,hf⟩;have HP8:=zh hp;have HF8:=zh ((uq HF7).trans hf);have HG8:=zh (hN.fb _ _ (uq HG7) hf);have HX8:=zh (zlc (uq HX7) (uq HBP) hf);clear hp hf)
 try go_wp2_with fail
 refine hK.out _ _ ?_ (λzH=>?_)
 ·exact zaZ (uq HX8)
 clear hK K;try simp only[Yq]
 refine wpAnyH_done (by kernel_rfl) ?_ _;clear zH;go_wp2_with fail
 refine wp_region_held_drew (S:=λw'=>w'.cell? ⟨hb,0,none⟩=some (.string S)/\w'.cell? ⟨hb,1,none⟩=some (.int .i64 v1)/\w'.cell? ⟨hb,2,none⟩=some (.int .i64 v2)/\w'.cell? ⟨hb,3,none⟩=some (.int .i64 v3)/\w'.cell? ⟨hb,4,none⟩=some (.int .i64 v4)/\w'.cell? ⟨hb,5,none⟩=some (.int .i64 v5)/\w'.cell? ⟨hb,6,none⟩=some (.int .i64 v6)/\w'.cell? ⟨hb,7,none⟩=some (.int .i64 v7)/\w'.cell? ⟨hb,8,none⟩=some (.int .i64 v8)/\w'.cell? ⟨hb,9,none⟩=some (.int .i64 v9)/\w'.cell? ⟨hb,10,none⟩=some (.int .i64 v10)) (by kernel_rfl) (by exact zaZ (uq HX8)) (λzH=>?_);refine tk4 0 26 1 27 2 28 4 30 zH ?_;try simp only[Yq]
 refine tkk 5 31 zH ?_;try simp only[Yq]
 have HP9:=zh ((uq HP8).keep (zk w8).drew);have HF9:=zh ((uq HF8).trans (Fb.keep (zk w8).drew));have HG9:=zh (hN.keep _ _ (uq HG8) (zk w8).drew);have HX9:=zh (zbn (uq HX8) (zk w8).drew);generalize w8.drew=w9 at HP9 HF9 HG9 HX9 |-;refine zap 3 (λK hK=>?_);go_simp;clear zH;(refine(hN.num v5 _ (uq Rv5).1 (uq Rv5).2 (uq HG9)).mono ?_;rintro e w10 ⟨rfl,hk⟩;have HP10:=zh ((uq HP9).keep hk);have HF10:=zh ((uq HF9).trans (Fb.keep hk));have HG10:=zh (hN.keep _ _ (uq HG9) hk);have HX10:=zh (zbn (uq HX9) hk);clear hk);try go_wp2_with fail
 refine hK.out _ _ ?_ (λzH=>?_)
 ·exact zaZ (uq HX10)
 clear hK K;try simp only[Yq]
 refine zap 6 (λK hK=>?_);go_simp;clear zH;(refine(hN.num v6 _ (uq Rv6).1 (uq Rv6).2 (uq HG10)).mono ?_;rintro e w11 ⟨rfl,hk⟩;have HP11:=zh ((uq HP10).keep hk);have HF11:=zh ((uq HF10).trans (Fb.keep hk));have HG11:=zh (hN.keep _ _ (uq HG10) hk);have HX11:=zh (zbn (uq HX10) hk);clear hk);try go_wp2_with fail
 refine hK.out _ _ ?_ (λzH=>?_)
 ·exact zaZ (uq HX11)
 clear hK K;try simp only[Yq]
 refine zap 7 (λK hK=>?_);go_simp;clear zH;refine hK.out _ _ ?_ (λzH=>?_)
 ·exact zaZ (zbn (uq HX11) ((zk w11).alloc _))
 clear hK K;try simp only[Yq]
 refine zap 8 (λK hK=>?_);go_simp;clear zH
 (have T1:=za8 (W:=w11) [[115,112,101,101,100],dg v5,[103,114,97,100,101],dg v6] rfl (uq HP11) (by simp) (uq HO3) (uq HL3);simp only[wc,List.map_cons,List.map_nil]at T1;refine T1.mono ?_;clear T1;rintro e w12 ⟨rfl,hp,hf⟩;have HP12:=zh hp;have HF12:=zh ((uq HF11).trans hf);have HG12:=zh (hN.fb _ _ (uq HG11) hf);have HX12:=zh (zlc (uq HX11) (uq HBP) hf);clear hp hf)
 try go_wp2_with fail
 refine hK.out _ _ ?_ (λzH=>?_)
 ·exact zaZ (uq HX12)
 clear hK K;try simp only[Yq]
 refine wpAnyH_done (by kernel_rfl) ?_ _;clear zH;go_wp2_with fail
 refine wp_region_held_drew (S:=λw'=>w'.cell? ⟨hb,0,none⟩=some (.string S)/\w'.cell? ⟨hb,1,none⟩=some (.int .i64 v1)/\w'.cell? ⟨hb,2,none⟩=some (.int .i64 v2)/\w'.cell? ⟨hb,3,none⟩=some (.int .i64 v3)/\w'.cell? ⟨hb,4,none⟩=some (.int .i64 v4)/\w'.cell? ⟨hb,5,none⟩=some (.int .i64 v5)/\w'.cell? ⟨hb,6,none⟩=some (.int .i64 v6)/\w'.cell? ⟨hb,7,none⟩=some (.int .i64 v7)/\w'.cell? ⟨hb,8,none⟩=some (.int .i64 v8)/\w'.cell? ⟨hb,9,none⟩=some (.int .i64 v9)/\w'.cell? ⟨hb,10,none⟩=some (.int .i64 v10)) (by kernel_rfl) (by exact zaZ (uq HX12)) (λzH=>?_);refine tk6 0 35 1 36 2 37 4 39 5 40 7 42 zH ?_;try simp only[Yq]
 refine tkk 8 43 zH ?_;try simp only[Yq]
 have HP13:=zh ((uq HP12).keep (zk w12).drew);have HF13:=zh ((uq HF12).trans (Fb.keep (zk w12).drew));have HG13:=zh (hN.keep _ _ (uq HG12) (zk w12).drew);have HX13:=zh (zbn (uq HX12) (zk w12).drew);generalize w12.drew=w13 at HP13 HF13 HG13 HX13 |-;refine zap 3 (λK hK=>?_);go_simp;clear zH;(refine(hN.num v7 _ (uq Rv7).1 (uq Rv7).2 (uq HG13)).mono ?_;rintro e w14 ⟨rfl,hk⟩;have HP14:=zh ((uq HP13).keep hk);have HF14:=zh ((uq HF13).trans (Fb.keep hk));have HG14:=zh (hN.keep _ _ (uq HG13) hk);have HX14:=zh (zbn (uq HX13) hk);clear hk);try go_wp2_with fail
 refine hK.out _ _ ?_ (λzH=>?_)
 ·exact zaZ (uq HX14)
 clear hK K;try simp only[Yq]
 refine zap 6 (λK hK=>?_);go_simp;clear zH;(refine(hN.num v8 _ (uq Rv8).1 (uq Rv8).2 (uq HG14)).mono ?_;rintro e w15 ⟨rfl,hk⟩;have HP15:=zh ((uq HP14).keep hk);have HF15:=zh ((uq HF14).trans (Fb.keep hk));have HG15:=zh (hN.keep _ _ (uq HG14) hk);have HX15:=zh (zbn (uq HX14) hk);clear hk);try go_wp2_with fail
 refine hK.out _ _ ?_ (λzH=>?_)
 ·exact zaZ (uq HX15)
 clear hK K;try simp only[Yq]
 refine zap 9 (λK hK=>?_);go_simp;clear zH;(refine(hN.num v9 _ (uq Rv9).1 (uq Rv9).2 (uq HG15)).mono ?_;rintro e w16 ⟨rfl,hk⟩;have HP16:=zh ((uq HP15).keep hk);have HF16:=zh ((uq HF15).trans (Fb.keep hk));have HG16:=zh (hN.keep _ _ (uq HG15) hk);have HX16:=zh (zbn (uq HX15) hk);clear hk);try go_wp2_with fail
 refine hK.out _ _ ?_ (λzH=>?_)
 ·exact zaZ (uq HX16)
 clear hK K;try simp only[Yq]
 refine zap 10 (λK hK=>?_);go_simp;clear zH;refine hK.out _ _ ?_ (λzH=>?_)
 ·exact zaZ (zbn (uq HX16) ((zk w16).alloc _))
 clear hK K;try simp only[Yq]
 refine zap 11 (λK hK=>?_);go_simp;clear zH
 (have T1:=za8 (W:=w16) [[119,105,100,116,104],dg v7,[108,101,110,103,116,104],dg v8,[103,114,101,101,110],dg v9,[59]] rfl (uq HP16) (by simp) (uq HO4) (uq HL4);simp only[wc,List.map_cons,List.map_nil]at T1;refine T1.mono ?_;clear T1;rintro e w17 ⟨rfl,hp,hf⟩;have HP17:=zh hp;have HF17:=zh ((uq HF16).trans hf);have HG17:=zh (hN.fb _ _ (uq HG16) hf);have HX17:=zh (zlc (uq HX16) (uq HBP) hf);clear hp hf)
 try go_wp2_with fail
 refine hK.out _ _ ?_ (λzH=>?_)
 ·exact zaZ (uq HX17)
 clear hK K;try simp only[Yq]
 refine wpAnyH_done (by kernel_rfl) ?_ _;clear zH;go_wp2_with fail
 go_end0
 have h9:=uq HP17;rw[uq HFZ]at h9;exact⟨rfl,h9,uq HF17⟩
end S
namespace S
def rw1 (f:Bool) (l:List (List UInt8)):List (List UInt8):= [[114,105,110,103]]++((if f then [[102,114,101,101]]else [])++lw l)
def gw (n:Nat) (F:Nat->Bool) (NW:Nat->List (List UInt8)):List (List UInt8):= [[103,114,111,117,112],[123]]++((List.range n).flatMap (λk=>rw1 (F k) (NW k))++ [[125]])
theorem zbE {α:Type} (n k:Nat) (h:k<n) (f:Nat->List α):((List.range n).drop k).flatMap f=f k++((List.range n).drop (k+1)).flatMap f:=by
 rw[List.drop_eq_getElem_cons (by simpa using h),List.flatMap_cons];simp
theorem zch {α:Type} (n k:Nat) (h:¬k<n) (f:Nat->List α):((List.range n).drop k).flatMap f= []:=by
 rw[List.drop_eq_nil_of_le (by simp;omega)];rfl
theorem zoH (st:St):pss st []=st:=rfl
def LsT (p:Nat) (w:World) (a:Option Addr) (n c:Nat) (nw:List (List UInt8)):Prop:=∀ w' s,Fb p w w'->Ps w' p s->oks s (lw nw)->s.out.length+zbs (lw nw)<=1000000000->Calls Tryz.prog 67 #[.pointer (some ⟨p,0,none⟩),.slice a n c] w' λe w''=>e= .returned (.tuple #[])/\Ps w'' p (pss s (lw nw))/\Fb p w' w''
set_option maxHeartbeats 16000000 in
theorem zdV (p:Nat) (a:Option Addr) (n cap:Nat) (F:Nat->Bool) (A:Nat->Option Addr) (N C:Nat->Nat) (NW:Nat->List (List UInt8)) (st:St) (w:World) (hn:n<=1000)
  (HC:Hid (∀ k,k<n->∃ ad,a=some ad/\ad.block<p/\w.cell? (ad.add (k * 2))=some (.bool (F k))/\w.cell? ⟨(ad.add (k * 2)).block,(ad.add (k * 2)).off+1,none⟩=some (.slice (A k) (N k) (C k))))
  (T:Hid (∀ k,k<n->LsT p w (A k) (N k) (C k) (NW k)))
  (HP:Hid (Ps w p st)) (HO:Hid (oks st (gw n F NW))) (HL:Hid (st.out.length+zbs (gw n F NW)<=1000000000)):
  Calls Tryz.prog 68 #[.pointer (some ⟨p,0,none⟩),.agg #[.slice a n cap]] w λe w'=>e= .returned (.tuple #[])/\Ps w' p (pss st (gw n F NW))/\Fb p w w':=by
 obtain⟨fin,HFin⟩:∃ fin,Hid (pss st (gw n F NW)=fin):=⟨_,rfl⟩;rw[uq HFin];obtain⟨mid,HM⟩:∃ mid,Hid ((List.range n).flatMap (λk=>rw1 (F k) (NW k))++ [[125]]=mid):=⟨_,zh rfl⟩;have HGW:Hid (gw n F NW= [[103,114,111,117,112],[123]]++mid):=zh (by rw[<- uq HM];rfl);rw[uq HGW]at HO HL HFin;have HO0:=zh ((zaA _ _ _).1 (uq HO));rw[zan]at HL;rw[<- zaF]at HFin;have HPL:=zh (Pr.lt (uq HP));clear HO HGW;have HW0:Hid (Fb p w (w.alloc (.cells #[.slice a n cap] 84))):=zh (Fb.keep ((zk w).alloc _));have HP0:=zh ((uq HP).keep ((zk w).alloc (.cells #[.slice a n cap] 84)));have HB0:=zh (heap_alloc_new w (.cells #[.slice a n cap] 84));go_enter Tryz.func68,Tryz.ntmps68
 go_upto_region 1 with fail
 generalize w.alloc (.cells #[.slice a n cap] 84)=w0 at HW0 HP0 HB0 |-;obtain⟨gb,HGb⟩:∃ gb,Hid (w.heap.size=gb):=⟨_,rfl⟩;rw[uq HGb]at HB0 |-;go_wp2_with fail
 (have T1:=za8 (W:=w0) [[103,114,111,117,112],[123]] rfl (uq HP0) (by simp) (uq HO0).1 (by have:=uq HL;omega);simp only[wc,List.map_cons,List.map_nil]at T1;refine T1.mono ?_;clear T1;rintro e w1 ⟨rfl,hp,hf⟩;have HP1:=zh hp;have HF1:=zh ((uq HW0).trans hf);have HB1:=zh (hf.words (uq HB0) (by decide) (by have:=uq HPL;have:=uq HGb;omega));clear hp hf)
 have cg:w1.cell? ⟨gb,0,none⟩=some (.slice a n cap):=by simp[World.cell?,uq HB1]
 go_wp2_with fail
 clear cg
 go_loopw [12] (λvi wr=>∃(k:Nat) (s:St),k<=n/\vi= .int .i64 (k:Int)/\Hid (Ps wr p s)/\Hid (oks s (((List.range n).drop k).flatMap (λk=>rw1 (F k) (NW k))++ [[125]]))/\Hid (pss s (((List.range n).drop k).flatMap (λk=>rw1 (F k) (NW k))++ [[125]])=fin)/\Hid (s.out.length+zbs (((List.range n).drop k).flatMap (λk=>rw1 (F k) (NW k))++ [[125]])<=1000000000)/\Hid (Fb p w wr)) (λvi wr=>n - (intOf vi).toNat)
 case atStart=>
  refine⟨0,_,Nat.zero_le _,rfl,HP1,zh ?_,zh ?_,zh ?_,HF1⟩
  ·rw[List.drop_zero,uq HM];exact(uq HO0).2
  ·rw[List.drop_zero,uq HM];exact uq HFin
  ·rw[List.drop_zero,uq HM];have:=za3 _ _ (uq HO0).1;have:=uq HL;omega
 case round=>
  obtain⟨k,s,hk,rfl,HPk,HOk,HEk,HLk,HFk⟩:=hrel;by_cases hlt:k<n
  ·have li:(k:Int)<(n:Int):=by omega
   obtain⟨rst,HRst⟩:∃ rst,Hid (((List.range n).drop (k+1)).flatMap (λk=>rw1 (F k) (NW k))++ [[125]]=rst):=⟨_,zh rfl⟩;have hd:((List.range n).drop k).flatMap (λk=>rw1 (F k) (NW k))++ [[125]]= [[114,105,110,103]]++((if F k then [[102,114,101,101]]else [])++(lw (NW k)++rst)):=by
    rw[zbE n k hlt,List.append_assoc,uq HRst];simp only[rw1,List.append_assoc]
   rw[hd]at HOk HEk HLk;rw[zaA,zaA,zaA]at HOk;rw[zan,zan,zan]at HLk;rw[<- zaF,<- zaF,<- zaF]at HEk;have l1:=zh (za3 _ _ (uq HOk).1);have l2:=zh (za3 _ _ (uq HOk).2.1);have l3:=zh (za3 _ _ (uq HOk).2.2.1);obtain⟨ad,ea,hadp,e0,e1⟩:=(uq HC) k hlt;subst ea;have c0:=zau (uq HFk) e0 (by rw[zag];exact hadp);have c1:=zau (uq HFk) e1 (by show(ad.add (k * 2)).block<p;rw[zag];exact hadp);have HTk:=zh ((uq T) k hlt);have HE1:=HEk;clear hd e0 e1 hadp HEk;have HPk1:=zh ((uq HPk).keep ((zk wr).alloc (.cells #[.bool (F k),.slice (A k) (N k) (C k)] 86)));have HFk1:Hid (Fb p w (wr.alloc (.cells #[.bool (F k),.slice (A k) (N k) (C k)] 86))):=zh ((uq HFk).trans (Fb.keep ((zk wr).alloc _)));have HBk:=zh (heap_alloc_new wr (.cells #[.bool (F k),.slice (A k) (N k) (C k)] 86));have HNp:Hid (wr.heap.size≠p):=zh (by have:=Pr.lt (uq HPk);omega);obtain⟨fk,HFK⟩:∃ fk,Hid (F k=fk):=⟨_,rfl⟩;obtain⟨nwk,HNW⟩:∃ nwk,Hid (NW k=nwk):=⟨_,rfl⟩;rw[uq HFK]at HOk HLk HE1 l2 l3 c0 HPk1 HFk1 HBk;rw[uq HNW]at HOk HLk HE1 l3 HTk;generalize A k=x1 at c1 HPk1 HFk1 HBk HTk;generalize N k=x2 at c1 HPk1 HFk1 HBk HTk;generalize C k=x3 at c1 HPk1 HFk1 HBk HTk
   go_upto_region 5 with fail
   generalize wr.alloc (.cells #[.bool fk,.slice x1 x2 x3] 86)=w2 at HPk1 HFk1 HBk |-;generalize wr.heap.size=qb at HBk HNp |-;clear c0 c1;go_wp2_with fail
   (have T1:=za8 (W:=w2) [[114,105,110,103]] rfl (uq HPk1) (by simp) (uq HOk).1 (by have:=uq HLk;omega);simp only[wc,List.map_cons,List.map_nil]at T1;refine T1.mono ?_;clear T1;rintro e w3 ⟨rfl,hp,hf⟩;have HP3:=zh hp;have HF3:=zh ((uq HFk1).trans hf);have HB3:=zh (hf.words (uq HBk) (by decide) (uq HNp));clear hp hf)
   have d0:w3.cell? ⟨qb,0,none⟩=some (.bool fk):=by simp[World.cell?,uq HB3]
   have d1:w3.cell? ⟨qb,1,none⟩=some (.slice x1 x2 x3):=by simp[World.cell?,uq HB3]
   cases fk with
   |true=>
    go_wp2_with fail
    (have T1:=za8 (W:=w3) [[102,114,101,101]] rfl (uq HP3) (by simp) (uq HOk).2.1 (by have:=uq HLk;have:=uq l1;simp only[if_true]at *;omega);simp only[wc,List.map_cons,List.map_nil]at T1;refine T1.mono ?_;clear T1;rintro e w4 ⟨rfl,hp,hf⟩;have HP4:=zh hp;have HF4:=zh ((uq HF3).trans hf);have HB4:=zh (hf.words (uq HB3) (by decide) (uq HNp));clear hp hf)
    clear d0 d1;have d1:w4.cell? ⟨qb,1,none⟩=some (.slice x1 x2 x3):=by simp[World.cell?,uq HB4]
    go_wp2_with fail
    (refine((uq HTk) w4 _ (uq HF4) (uq HP4) (uq HOk).2.2.1 (by have:=uq HLk;have:=uq l1;have:=uq l2;simp only[if_true]at *;omega)).mono ?_;rintro e w5 ⟨rfl,hp,hf⟩;have HP5:=zh hp;have HF5:=zh ((uq HF4).trans hf);clear hp hf);clear d1;go_wp2_with fail
    go_roundw
    case rel=>
     refine⟨k+1,_,hlt,by go_num,HP5,zh ?_,zh ?_,zh ?_,HF5⟩
     ·rw[uq HRst];exact(uq HOk).2.2.2
     ·rw[uq HRst];exact uq HE1
     ·rw[uq HRst];have:=uq HLk;have:=uq l1;have:=uq l2;have:=uq l3;simp only[if_true]at *;omega
    case measure=>simp[intOf];omega
   |false=>
    go_wp2_with fail
    (refine((uq HTk) w3 _ (uq HF3) (uq HP3) (uq HOk).2.2.1 (by have:=uq HLk;have:=uq l1;have:=uq l2;simp only[Bool.false_eq_true,if_false]at *;omega)).mono ?_;rintro e w5 ⟨rfl,hp,hf⟩;have HP5:=zh hp;have HF5:=zh ((uq HF3).trans hf);clear hp hf);clear d0 d1;go_wp2_with fail
    go_roundw
    case rel=>
     refine⟨k+1,_,hlt,by go_num,HP5,zh ?_,zh ?_,zh ?_,HF5⟩
     ·rw[uq HRst];exact(uq HOk).2.2.2
     ·rw[uq HRst];exact uq HE1
     ·rw[uq HRst];have:=uq HLk;have:=uq l1;have:=uq l2;have:=uq l3;simp only[Bool.false_eq_true,if_false,zoH]at *;omega
    case measure=>simp[intOf];omega
  ·rw[zch n k hlt,List.nil_append]at HOk HEk HLk;go_wp2_with fail
   (have T1:=za8 (W:=wr) [[125]] rfl (uq HPk) (by simp) (uq HOk) (uq HLk);simp only[wc,List.map_cons,List.map_nil]at T1;refine T1.mono ?_;clear T1;rintro e w2 ⟨rfl,hp,hf⟩;have HP2:=zh hp;have HF2:=zh ((uq HFk).trans hf);clear hp hf)
   go_wp2_with fail
   go_end0
   have h9:=uq HP2;rw[uq HEk]at h9;exact⟨rfl,h9,uq HF2⟩
end S
end Go.Proofs.YthceiikgecoimaaGreatDoor
