/- The document's reader: names with commas between. -/
import Derived.Test.YtfepanidippjlaaGreatDoorQHead
import Derived.Test.YtfepanidippjlaaGreatDoorQChg
import Derived.Lib.Builder
import Derived.Lib.AppendStr
namespace Go.Proofs.YtfepanidippjlaaGreatDoor
open Go.RowKit
attribute [local go_sem ↓] Go.wp_at_zero Go.wp_at_succ
set_option linter.unusedVariables false
set_option linter.unusedSimpArgs false
set_option maxRecDepth 10000
namespace Q
theorem zms:(Tryz.prog.info? 9).map (fun i=>(i.zero,i.size,i.bytes))=some (some (.string ⟨#[]⟩),1,16):=by kernel_rfl
theorem new_cells (w:World) (vs:List Value) (t:TypeId):∀ j u,vs[j]? =some u→(w.alloc (.cells vs.toArray t)).cell? ((⟨w.heap.size,0,none⟩:Addr).add j)=some u:=by
 intro j u hu
 rw[zbo,Nat.zero_add];exact(bxs_new w vs t j u hu).1
theorem zjc {w w1:World} {b e:Nat} (k:Fr (fun i=>i=b) w w1) (s:List UInt8):RO (fun i=>i=b) w e 1 (w1.alloc (.cells #[.string (sv s)] e)) [[dS s]] (.slice (some ⟨w1.heap.size,0,none⟩) 1 1):=by
 refine⟨k.trans (.keep ((Keep.refl w1).alloc _)),?_⟩;simp only[Rd];refine⟨[.string (sv s)],World.ownsRow_lit w1 #[.string (sv s)] 1 (Nat.zero_le _) (by unfold maxLen;omega) rfl,fun g hg=>?_,?_⟩
 ·simp only[Value.ownBlock,Option.some.injEq]at hg;have:=k.size;omega
 ·simp only[Rdss];exact⟨[.string (sv s)],[],rfl,rfl,zb4 s (zaM _ _),rfl⟩
theorem zdx {most:Nat} {L:List (List D)} {u t:Tok} {r:List Tok} {Z:Rs} {s:List UInt8} (h:u.s= [44]) (hZ:Z=if L.length=most∧t.k=1∧¬t.s∈words then .error (4,t.p)else .ok ([],t :: r)) (hg:Got Z (bnd Z zax) [dS s]):nmA most L (.ok (u :: t :: r))=nmA most (L++ [[dS s]]) (zap (bnd Z zax)):=by
 rw[zl5 h];by_cases hn:t.k=1∧¬t.s∈words
 ·rw[if_pos hn];by_cases hl:L.length=most
  ·rw[if_pos hl];rw[if_pos ⟨hl,hn⟩]at hZ;subst hZ
   rfl
  ·rw[if_neg hl];rw[if_neg (fun x=>hl x.1)]at hZ;subst hZ;have e1:bnd (.ok ([],t :: r)) zax= .ok ([dS t.s],r):=by show(if t.k=1∧¬t.s∈words then _ else _)=_;rw[if_pos hn];rfl
   rw[e1]at hg ⊢;obtain⟨c0,r0,h0,h1⟩:=hg _ _ rfl;simp only[Except.ok.injEq,Prod.mk.injEq]at h0;obtain⟨rfl,_⟩:=h0;rw[List.nil_append]at h1;rw[h1]
   rfl
 ·rw[if_neg hn];rw[if_neg (fun x=>hn x.2)]at hZ;subst hZ;have e1:bnd (.ok ([],t :: r)) zax= .error (50,t.p):=by show(if t.k=1∧¬t.s∈words then _ else _)=_;rw[if_neg hn];rfl
  rw[e1]
  rfl
theorem zdy {most n:Nat} {L:List (List D)} {t:Tok} {r:List Tok} {Z:Rs} {s:List UInt8} (hN:L.length=n) (hZ:Z=if L.length=most∧t.k=1∧¬t.s∈words then .error (4,t.p)else .ok ([],t :: r)) (hg:Got Z (bnd Z zax) [dS s]) (h1:n≤most+1) (h2:n≤most):n+1≤most+1∧∀ r',zap (bnd Z zax)= .ok r'→n+1≤most:=by
 refine⟨by omega,fun r' e=>?_⟩;by_cases hl:L.length=most
 ·exfalso;by_cases hn:t.k=1∧¬t.s∈words
  ·rw[if_pos ⟨hl,hn⟩]at hZ;subst hZ;cases e
  ·rw[if_neg (fun x=>hn x.2)]at hZ;subst hZ;have e1:bnd (.ok ([],t :: r)) zax= .error (50,t.p):=by show(if t.k=1∧¬t.s∈words then _ else _)=_;rw[if_neg hn];rfl
   rw[e1]at e;cases e
 ·omega
theorem zdz {most:Nat} {L:List (List D)} {u t:Tok} {r:List Tok} {Z:Rs} {w:World} {b:Nat} (hZ:Z=if L.length=most∧t.k=1∧¬t.s∈words then .error (4,t.p)else .ok ([],t :: r)) (h:Sr w b (zap (bnd Z zax))):rem w b<(u :: t :: r).length:=by
 cases hx:bnd Z zax with
 |error x=>rw[hx]at h;rw[zhm (x:=x) h];simp
 |ok q=>
  obtain⟨c,r'⟩:=q;rw[hx]at h;rw[zdO (r:=r') h];split at hZ
  ·subst hZ;cases hx
  ·subst hZ;have:=zbS [] (t :: r) _ _ hx;simp at this ⊢;omega
def nmX (most:Nat):Rs→Except Er (List (List D)×List Tok)
 | .error x=> .error x
 | .ok (_,r)=>nm most [] r
set_option maxHeartbeats 8000000 in
theorem zcv {w:World} {b:Nat} {X:Rs} (most:Nat) (hm:most≠0) (hmm:most≤1000) (h:Sr w b (zap X)):
  Calls Tryz.prog 99 #[.pointer (some ⟨b,0,none⟩),.int .i64 (most:Int)] w fun r w'=>∃ a n cap L,r= .returned (.slice a n cap)∧Did (sq [zat 9 most,zau [59]]) [.row 9 1 L] b X w w'∧Rd w' (.row 9 1 L) (fun i=>w.heap.size≤i) (.slice a n cap):=by
 obtain⟨i0,hi,hz0,hz1,hz2⟩:=zaN zms;have HI0:=hide hi;have HZ0:=hide hz0;have HZ1:=hide hz1;have HZ2:=hide hz2;have HB:=hide h.bl;have HS0:=hide h;have HM:=hide hm;have HMM:=hide hmm;obtain⟨tgt,HT⟩:∃ tgt:Except Er (List (List D)×List Tok),Hid (tgt=nmX most X):=⟨_,rfl⟩;clear hi hz0 hz1 hz2 h hm hmm;go_enter Tryz.func99,Tryz.ntmps99;go_wp2_with fail
 (refine(zaz (X:=X) (uq HS0)).mono ?_;rintro e w1 ⟨s1,rfl,hd⟩;have HD:=hide hd;clear hd);go_wp2_with fail
 go_loopw [5] (fun u5 wr=>∃(a:Option Addr) (cap:Nat) (L:List (List D)) (Y:Except Er (List Tok)),u5= .slice a L.length cap∧Hid (RO (fun i=>i=b) w 9 1 wr L (.slice a L.length cap))∧Hid (Sr wr b Y)∧Hid (nmA most L Y=tgt)∧Hid (L.length≤most+1∧∀ r,Y= .ok r→L.length≤most)) (fun u5 wr=>rem wr b)
 case atStart=>
  refine⟨_,_,[[dS s1]],zap (bnd X zax),rfl,hide (zjc (uq HD).1 s1),hide ((uq HD).2.1.keep ((Keep.refl w1).alloc _)),hide ?_,hide ⟨by simp,fun r _=>by have:=uq HM;simp;omega⟩⟩;rw[uq HT];rcases X with x|⟨c,r⟩
  ·rfl
  ·obtain⟨ad,cap,p,t,r',e,h1⟩:=Sr.alive (r:=r) (uq HS0);subst e;exact(zhe (uq HM) (uq HD).2.2).symm
 case round=>
  obtain⟨a,cap,L,Y,rfl,HR,HS,HE,HL⟩:=hrel;obtain⟨n,HN⟩:∃ n,Hid (L.length=n):=⟨_,rfl⟩;rw[uq HN]at HR HL ⊢;go_wp2_with fail
  (refine(zdl (Y:=Y) [44] rfl (uq HS)).mono ?_;rintro e w2 ⟨rfl,rfl⟩);generalize hq:isq [44] Y=bq;cases bq with
  |false=>
   have hY:nmA most L Y=rwF L Y:=zow (uq HS).ne (fun t r e=>by subst e;simpa [isq]using hq);have HNB:=hide (zhf (e:=9) (most:=most) (X:=X) (Y':=Y) (L:=L) (fun c r e=>by have:=uq HT;rw[e]at this;simp only[nmX]at this;rw[← this,← uq HE,hY]) (fun x e=>by
    have:=uq HT;rw[e]at this;simp only[nmX]at this;have h2:=uq HE;rw[hY,this]at h2;cases Y with
    |error y=>simp only[rwF,Except.error.injEq]at h2;rw[h2]
    |ok r=>cases h2))
   clear hY hq;go_wp2_with fail
   (refine(zaH (X:=bnd X (zat 9 most)) [59] rfl (by rw[(uq HNB).1];exact uq HS)).mono ?_;rintro e w3 ⟨rfl,hd⟩;have HD3:=hide hd;clear hd);go_wp2_with fail
   go_ret;have hr:=(uq HR).move (uq HD3).1 (fun i x=>⟨x,x▸uq HB⟩);refine⟨a,n,cap,L,rfl,?_,hr.row⟩;have e:bnd X (sq [zat 9 most,zau [59]])=bnd (bnd X (zat 9 most)) (zau [59]):=by rw[zak,zak,zaI]
   unfold Did
   rw[e];exact⟨hr.fr,(uq HD3).2.1,by have:=(uq HNB).2.trans (uq HD3).2.2;simpa using this⟩
  |true=>
   obtain⟨u,t,r,HY,HU,HK⟩:∃ u t r,Hid (Y= .ok (u :: t :: r))∧Hid (u.s= [44])∧Hid (u.k≠0):=by
    cases Y with
    |error x=>cases hq
    |ok r0=>
     obtain⟨ad,c,p,u,r',e,h1⟩:=(uq HS).alive;subst e;have he:u.s= [44]:=by simpa [isq]using hq
     have hk:=((h1.wq.2 u List.mem_cons_self).word (s:= [44]) rfl he).1;obtain⟨h2,h3⟩:=h1.wq.cons (.inl hk);obtain⟨t,r,rfl⟩:=h2.ne;exact⟨u,t,r,rfl,he,hk⟩
   clear hq;go_wp2_with fail
   (refine(zbU (Y:=Y) (uq HS)).mono ?_;rintro e w2 ⟨t8,rfl,_,hf,hs,_⟩;have HR2:=hide ((uq HR).move hf (fun i x=>⟨x,x▸uq HB⟩));have HS2:=hide hs;clear hf hs);have HS3:Hid (Sr w2 b (.ok (t :: r))):=hide (by
    have:=uq HS2;rw[uq HY]at this;rwa[show zer (.ok (u :: t :: r))= .ok (t :: r) by show(if u.k=0 then _ else _)=_;rw[if_neg (uq HK)]]at this)
   have hl3:=uq HS3;obtain⟨ad,c,p,t',r',e3,h3⟩:=hl3.alive;injection e3 with e3 e3'
   subst e3 e3';obtain⟨t0,t1,t2,t3⟩:=h3.tok;have c0:=h3.c0;simp only[List.length_cons]at c0;obtain⟨Z,hZ⟩:∃ Z:Rs,Z=if L.length=most∧t.k=1∧¬t.s∈words then .error (4,t.p)else .ok ([],t :: r):=⟨_,rfl⟩
   have HZ:=hide hZ;rw[uq HN]at hZ;clear t2 t3 h3 hl3;by_cases hfull:n=most
   ·have f1:((n:Int)==(most:Int))=true:=by simp[hfull]
    by_cases hk1:t.k=1
    ·have f2:(t.k==1)=true:=by simp[hk1]
     by_cases hw:t.s∈words
     ·have HZQ:Hid (Z= .ok ([],t :: r)):=hide (by rw[hZ,if_neg (fun x=>x.2.2 hw)]);have HT2:=hide (zdu (sv t.s) w2);rw[show decide ((sv t.s).toList∈words)=true by rw[show(sv t.s).toList=t.s from ByteArray.toList_mk _];simpa using hw]at HT2;clear hZ hw hk1 hfull;generalize sv t.s=S at t1 HT2;generalize t.k=kk at t0 f2;go_wp2_with fail
      (refine(uq HT2).mono ?_;rintro e w3 ⟨rfl,hk⟩;have HR3:=hide ((uq HR2).keep hk);have HS4:Hid (Sr w3 b (zap Z)):=hide (by rw[uq HZQ];exact(uq HS3).keep hk);clear hk);go_wp2_with fail
      (refine(zaz (X:=Z) (uq HS4)).mono ?_;rintro e w5 ⟨s5,rfl,hd⟩;have HR5:=hide ((uq HR3).move hd.1 (fun i x=>⟨x,x▸uq HB⟩));have HS5:=hide hd.2.1;have HG5:=hide hd.2.2;clear hd);obtain⟨xs,hown,hlt⟩:=(uq HR5).shape;rw[uq HN]at hown;have HOWN:=hide hown;have HLT:=hide hlt;clear hown hlt;have hn9:n≤1001:=by have:=(uq HL).1;have:=uq HMM;omega
      have HN9:=hide hn9;clear hn9;go_wp2_with (at_builtin;refine wpList_append_own_at _ rfl _ _ 50 rfl 0 9 i0 _ 1 16 Tryz.underlying50 (uq HI0) (uq HZ0) (uq HZ1) (uq HZ2) rfl (by decide) _ _ xs rfl ((uq HOWN).alloc _) ⟨w5.heap.size,0,none⟩ 1 1 [.string (sv s5)] rfl rfl (new_cells w5 [.string (sv s5)] 9) (by simp[Value.oneCell']) (by have:=uq HN9;unfold maxLen;omega) (by have:=uq HN9;omega) (Nat.zero_le _) ?_;intro v' w8 hown' hgrow hnil hat;obtain⟨g',cp',rfl⟩:=zay hown';have HOWN':=hide hown';have HGR:=hide hgrow;have HAT:=hide hat;clear hown' hgrow hnil hat)
      go_roundw
      case rel=>
       have ha:=(uq HR5).app ((Keep.refl w5).alloc _) (fun i x=>x▸uq HB) (fun g hg=>((uq HLT) g hg).2) (uq HR5).fr.size (zb4 s5 (zaM _ _)) rfl (by rw[uq HN];exact uq HOWN) (by rw[uq HN];exact uq HOWN') (uq HGR) (uq HAT);have hl:(L++ [[dS s5]]).length=n+1:=by rw[List.length_append,uq HN];rfl
       refine⟨_,cp',L++ [[dS s5]],zap (bnd Z zax),by rw[hl],hide (by rw[hl];exact ha.1),hide ((uq HS5).far (fun i hi=>ha.2 i (by have:=uq HB;omega))),hide ?_,hide ?_⟩
       ·rw[← zdx (uq HU) (uq HZ) (uq HG5),← uq HY];exact uq HE
       ·rw[hl];exact zdy (uq HN) (uq HZ) (uq HG5) (uq HL).1 ((uq HL).2 _ (uq HY))
      case measure=>
       have ha:=(uq HR5).app ((Keep.refl w5).alloc _) (fun i x=>x▸uq HB) (fun g hg=>((uq HLT) g hg).2) (uq HR5).fr.size (zb4 s5 (zaM _ _)) rfl (by rw[uq HN];exact uq HOWN) (by rw[uq HN];exact uq HOWN') (uq HGR) (uq HAT);have hs8:=(uq HS5).far (fun i hi=>ha.2 i (by have:=uq HB;omega));have hwr:=uq HS;rw[uq HY]at hwr;rw[zdO hwr];exact zdz (uq HZ) hs8
     ·have HZQ:Hid (Z= .error (4,t.p)):=hide (by rw[hZ,if_pos ⟨hfull,hk1,hw⟩]);have HT2:=hide (zdu (sv t.s) w2);rw[show decide ((sv t.s).toList∈words)=false by rw[show(sv t.s).toList=t.s from ByteArray.toList_mk _];simpa using hw]at HT2;clear hZ hw hk1 hfull;generalize sv t.s=S at t1 HT2;generalize t.k=kk at t0 f2;go_wp2_with fail
      (refine(uq HT2).mono ?_;rintro e w3 ⟨rfl,hk⟩;have HR3:=hide ((uq HR2).keep hk);have HS4:=hide ((uq HS3).keep hk);clear hk);go_wp2_with fail
      (refine(zcG (Y:= .ok (t :: r)) 4 (by decide) (uq HS4)).mono ?_;rintro e w4 ⟨rfl,hf,hs⟩;have HR4:=hide ((uq HR3).move hf (fun i x=>⟨x,x▸uq HB⟩));have HS6:Hid (Sr w4 b (zap Z)):=hide (by rw[uq HZQ];exact hs);clear hf hs);go_wp2_with fail
      (refine(zaz (X:=Z) (uq HS6)).mono ?_;rintro e w5 ⟨s5,rfl,hd⟩;have HR5:=hide ((uq HR4).move hd.1 (fun i x=>⟨x,x▸uq HB⟩));have HS5:=hide hd.2.1;have HG5:=hide hd.2.2;clear hd);obtain⟨xs,hown,hlt⟩:=(uq HR5).shape;rw[uq HN]at hown;have HOWN:=hide hown;have HLT:=hide hlt;clear hown hlt;have hn9:n≤1001:=by have:=(uq HL).1;have:=uq HMM;omega
      have HN9:=hide hn9;clear hn9;go_wp2_with (at_builtin;refine wpList_append_own_at _ rfl _ _ 50 rfl 0 9 i0 _ 1 16 Tryz.underlying50 (uq HI0) (uq HZ0) (uq HZ1) (uq HZ2) rfl (by decide) _ _ xs rfl ((uq HOWN).alloc _) ⟨w5.heap.size,0,none⟩ 1 1 [.string (sv s5)] rfl rfl (new_cells w5 [.string (sv s5)] 9) (by simp[Value.oneCell']) (by have:=uq HN9;unfold maxLen;omega) (by have:=uq HN9;omega) (Nat.zero_le _) ?_;intro v' w8 hown' hgrow hnil hat;obtain⟨g',cp',rfl⟩:=zay hown';have HOWN':=hide hown';have HGR:=hide hgrow;have HAT:=hide hat;clear hown' hgrow hnil hat)
      go_roundw
      case rel=>
       have ha:=(uq HR5).app ((Keep.refl w5).alloc _) (fun i x=>x▸uq HB) (fun g hg=>((uq HLT) g hg).2) (uq HR5).fr.size (zb4 s5 (zaM _ _)) rfl (by rw[uq HN];exact uq HOWN) (by rw[uq HN];exact uq HOWN') (uq HGR) (uq HAT);have hl:(L++ [[dS s5]]).length=n+1:=by rw[List.length_append,uq HN];rfl
       refine⟨_,cp',L++ [[dS s5]],zap (bnd Z zax),by rw[hl],hide (by rw[hl];exact ha.1),hide ((uq HS5).far (fun i hi=>ha.2 i (by have:=uq HB;omega))),hide ?_,hide ?_⟩
       ·rw[← zdx (uq HU) (uq HZ) (uq HG5),← uq HY];exact uq HE
       ·rw[hl];exact zdy (uq HN) (uq HZ) (uq HG5) (uq HL).1 ((uq HL).2 _ (uq HY))
      case measure=>
       have ha:=(uq HR5).app ((Keep.refl w5).alloc _) (fun i x=>x▸uq HB) (fun g hg=>((uq HLT) g hg).2) (uq HR5).fr.size (zb4 s5 (zaM _ _)) rfl (by rw[uq HN];exact uq HOWN) (by rw[uq HN];exact uq HOWN') (uq HGR) (uq HAT);have hs8:=(uq HS5).far (fun i hi=>ha.2 i (by have:=uq HB;omega));have hwr:=uq HS;rw[uq HY]at hwr;rw[zdO hwr];exact zdz (uq HZ) hs8
    ·have f2:(t.k==1)=false:=by simpa using hk1
     have HZQ:Hid (Z= .ok ([],t :: r)):=hide (by rw[hZ,if_neg (fun x=>hk1 x.2.1)]);have HS4:Hid (Sr w2 b (zap Z)):=hide (by rw[uq HZQ];exact uq HS3);clear hZ hk1 hfull;generalize t.k=kk at t0 f2;go_wp2_with fail
     (refine(zaz (X:=Z) (uq HS4)).mono ?_;rintro e w5 ⟨s5,rfl,hd⟩;have HR5:=hide ((uq HR2).move hd.1 (fun i x=>⟨x,x▸uq HB⟩));have HS5:=hide hd.2.1;have HG5:=hide hd.2.2;clear hd);obtain⟨xs,hown,hlt⟩:=(uq HR5).shape;rw[uq HN]at hown;have HOWN:=hide hown;have HLT:=hide hlt;clear hown hlt;have hn9:n≤1001:=by have:=(uq HL).1;have:=uq HMM;omega
     have HN9:=hide hn9;clear hn9;go_wp2_with (at_builtin;refine wpList_append_own_at _ rfl _ _ 50 rfl 0 9 i0 _ 1 16 Tryz.underlying50 (uq HI0) (uq HZ0) (uq HZ1) (uq HZ2) rfl (by decide) _ _ xs rfl ((uq HOWN).alloc _) ⟨w5.heap.size,0,none⟩ 1 1 [.string (sv s5)] rfl rfl (new_cells w5 [.string (sv s5)] 9) (by simp[Value.oneCell']) (by have:=uq HN9;unfold maxLen;omega) (by have:=uq HN9;omega) (Nat.zero_le _) ?_;intro v' w8 hown' hgrow hnil hat;obtain⟨g',cp',rfl⟩:=zay hown';have HOWN':=hide hown';have HGR:=hide hgrow;have HAT:=hide hat;clear hown' hgrow hnil hat)
     go_roundw
     case rel=>
      have ha:=(uq HR5).app ((Keep.refl w5).alloc _) (fun i x=>x▸uq HB) (fun g hg=>((uq HLT) g hg).2) (uq HR5).fr.size (zb4 s5 (zaM _ _)) rfl (by rw[uq HN];exact uq HOWN) (by rw[uq HN];exact uq HOWN') (uq HGR) (uq HAT);have hl:(L++ [[dS s5]]).length=n+1:=by rw[List.length_append,uq HN];rfl
      refine⟨_,cp',L++ [[dS s5]],zap (bnd Z zax),by rw[hl],hide (by rw[hl];exact ha.1),hide ((uq HS5).far (fun i hi=>ha.2 i (by have:=uq HB;omega))),hide ?_,hide ?_⟩
      ·rw[← zdx (uq HU) (uq HZ) (uq HG5),← uq HY];exact uq HE
      ·rw[hl];exact zdy (uq HN) (uq HZ) (uq HG5) (uq HL).1 ((uq HL).2 _ (uq HY))
     case measure=>
      have ha:=(uq HR5).app ((Keep.refl w5).alloc _) (fun i x=>x▸uq HB) (fun g hg=>((uq HLT) g hg).2) (uq HR5).fr.size (zb4 s5 (zaM _ _)) rfl (by rw[uq HN];exact uq HOWN) (by rw[uq HN];exact uq HOWN') (uq HGR) (uq HAT);have hs8:=(uq HS5).far (fun i hi=>ha.2 i (by have:=uq HB;omega));have hwr:=uq HS;rw[uq HY]at hwr;rw[zdO hwr];exact zdz (uq HZ) hs8
   ·have f1:((n:Int)==(most:Int))=false:=by simpa using(show ¬(n:Int)=(most:Int) by omega)
    have HZQ:Hid (Z= .ok ([],t :: r)):=hide (by rw[hZ,if_neg (fun x=>hfull x.1)]);have HS4:Hid (Sr w2 b (zap Z)):=hide (by rw[uq HZQ];exact uq HS3);clear hZ hfull;go_wp2_with fail
    (refine(zaz (X:=Z) (uq HS4)).mono ?_;rintro e w5 ⟨s5,rfl,hd⟩;have HR5:=hide ((uq HR2).move hd.1 (fun i x=>⟨x,x▸uq HB⟩));have HS5:=hide hd.2.1;have HG5:=hide hd.2.2;clear hd);obtain⟨xs,hown,hlt⟩:=(uq HR5).shape;rw[uq HN]at hown;have HOWN:=hide hown;have HLT:=hide hlt;clear hown hlt;have hn9:n≤1001:=by have:=(uq HL).1;have:=uq HMM;omega
    have HN9:=hide hn9;clear hn9;go_wp2_with (at_builtin;refine wpList_append_own_at _ rfl _ _ 50 rfl 0 9 i0 _ 1 16 Tryz.underlying50 (uq HI0) (uq HZ0) (uq HZ1) (uq HZ2) rfl (by decide) _ _ xs rfl ((uq HOWN).alloc _) ⟨w5.heap.size,0,none⟩ 1 1 [.string (sv s5)] rfl rfl (new_cells w5 [.string (sv s5)] 9) (by simp[Value.oneCell']) (by have:=uq HN9;unfold maxLen;omega) (by have:=uq HN9;omega) (Nat.zero_le _) ?_;intro v' w8 hown' hgrow hnil hat;obtain⟨g',cp',rfl⟩:=zay hown';have HOWN':=hide hown';have HGR:=hide hgrow;have HAT:=hide hat;clear hown' hgrow hnil hat)
    go_roundw
    case rel=>
     have ha:=(uq HR5).app ((Keep.refl w5).alloc _) (fun i x=>x▸uq HB) (fun g hg=>((uq HLT) g hg).2) (uq HR5).fr.size (zb4 s5 (zaM _ _)) rfl (by rw[uq HN];exact uq HOWN) (by rw[uq HN];exact uq HOWN') (uq HGR) (uq HAT);have hl:(L++ [[dS s5]]).length=n+1:=by rw[List.length_append,uq HN];rfl
     refine⟨_,cp',L++ [[dS s5]],zap (bnd Z zax),by rw[hl],hide (by rw[hl];exact ha.1),hide ((uq HS5).far (fun i hi=>ha.2 i (by have:=uq HB;omega))),hide ?_,hide ?_⟩
     ·rw[← zdx (uq HU) (uq HZ) (uq HG5),← uq HY];exact uq HE
     ·rw[hl];exact zdy (uq HN) (uq HZ) (uq HG5) (uq HL).1 ((uq HL).2 _ (uq HY))
    case measure=>
     have ha:=(uq HR5).app ((Keep.refl w5).alloc _) (fun i x=>x▸uq HB) (fun g hg=>((uq HLT) g hg).2) (uq HR5).fr.size (zb4 s5 (zaM _ _)) rfl (by rw[uq HN];exact uq HOWN) (by rw[uq HN];exact uq HOWN') (uq HGR) (uq HAT);have hs8:=(uq HS5).far (fun i hi=>ha.2 i (by have:=uq HB;omega));have hwr:=uq HS;rw[uq HY]at hwr;rw[zdO hwr];exact zdz (uq HZ) hs8
end Q
namespace S
def TB:TypeId:=5
def TP:TypeId:=55
def Bt (w:World) (i:Nat):Prop:=∃ cur fz,w.heap[i]? =some (.cells cur TB fz)
structure Fb (p:Nat) (w w':World):Prop where
 os:w'.os=w.os
 tape:w'.tape=w.tape
 output:w'.output=w.output
 size:w.heap.size≤w'.heap.size
 block:∀ i,i<w.heap.size→i≠p→(i<p∨¬Bt w i)→w'.heap[i]? =w.heap[i]?
theorem Fb.refl (p:Nat) (w:World):Fb p w w:=⟨rfl,rfl,rfl,Nat.le_refl _,fun _ _ _ _=>rfl⟩
theorem Fb.trans {p:Nat} {a b c:World} (h:Fb p a b) (k:Fb p b c):Fb p a c:=
 ⟨k.os.trans h.os,k.tape.trans h.tape,k.output.trans h.output,Nat.le_trans h.size k.size,fun i hi hp hb=>by
  have e:=h.block i hi hp hb;exact(k.block i (Nat.lt_of_lt_of_le hi h.size) hp (hb.imp id (fun hb ⟨cur,fz,hc⟩=>hb ⟨cur,fz,e▸hc⟩))).trans e⟩
theorem Fb.keep {p:Nat} {a b:World} (k:Keep a b):Fb p a b:=⟨k.os,k.tape,k.output,k.size,fun i hi _ _=>k.block i hi⟩
theorem Fb.set (w:World) (p j:Nat) (v:Value):Fb p w (w.setCell ⟨p,j,none⟩ v):=⟨rfl,rfl,rfl,by simp[World.setCell],fun i hi hp _=>Below.heap_setCell _ _ _ _ hp⟩
theorem Fb.grown {p:Nat} {w w':World} {v:Value} {n:Nat} {xs:List Value} (h:w.ownsRow (p+1) TB 1 v n xs) (g:w.grownBy w' v.ownBlock):Fb p w w':=
 ⟨g.os,g.tape,g.output,g.size,fun i hi _ hb=>g.block i hi (fun e=>by
  rcases h.2 with ⟨rfl,_⟩|⟨gg,cap,cur,rfl,hge,hg,_⟩
  ·simp[Value.ownBlock]at e
  ·simp only[Value.ownBlock,Option.some.injEq]at e;subst e;rcases hb with hb|hb
   ·omega
   ·exact hb ⟨cur,_,hg⟩)⟩
def Pr (w:World) (p:Nat) (out:List UInt8) (op:Int) (la:ByteArray):Prop:=∃ q v,(q= .pointer none∨q= .pointer (some ⟨p,0,none⟩))∧w.heap[p]? =some (.cells #[q,v,.int .i64 op,.string la] TP (0,0))∧w.ownsRow (p+1) TB 1 v out.length (bc out)
theorem zeP {w:World} {p base:Nat} {arr:Array Value} {v:Value} {n:Nat} {xs:List Value} (hp:w.heap[p]? =some (.cells arr TP (0,0))) (h:w.ownsRow base TB 1 v n xs):v.ownBlock≠some p:=by
 intro e
 rcases h.2 with ⟨rfl,_⟩|⟨g,cap,cur,rfl,_,hg,_⟩
 ·simp[Value.ownBlock]at e
 ·simp only[Value.ownBlock,Option.some.injEq]at e;subst e;rw[hp]at hg;injection hg with hg
  injection hg with _ hg _
  exact absurd hg (by decide)
theorem Pr.keep {w w':World} {p:Nat} {out:List UInt8} {op:Int} {la:ByteArray} (h:Pr w p out op la) (k:Keep w w'):Pr w' p out op la:=by
 obtain⟨q,v,h1,h2,h3⟩:=h;exact⟨q,v,h1,by rw[k.block p (Array.getElem?_eq_some_iff.1 h2).1];exact h2,zds h3 k⟩
theorem zoB:(Tryz.prog.info? 5).map (fun i=>(i.zero,i.size,i.bytes))=some (some (.int .u8 0),1,1):=by kernel_rfl
theorem zkb:(Tryz.prog.info? 53).map (·.size)=some 2:=by kernel_rfl
theorem zqG:liesAt Tryz.prog Tryz.prog.depth TP (4 / Tryz.prog.cellsOf TP) 0 53 1=true:=by kernel_rfl
set_option maxHeartbeats 2000000 in
theorem zgg (p:Nat) (w:World) (h0:w.cell? ⟨p,0,none⟩=some (.pointer (some ⟨p,0,none⟩))):Calls Tryz.prog 114 #[.pointer (some ⟨p,0,none⟩)] w fun e w'=>e= .returned (.tuple #[])∧w'=w:=by
 obtain⟨j,hj,_⟩:=Option.map_eq_some_iff.1 zkb;have hq:=Lib.run_neq_ptr_same (P:=Tryz.prog) w ⟨p,0,none⟩ Tryz.underlying51 hj;go_enter Tryz.func114,Tryz.ntmps114;go_wp2_with fail
 go_end0
 exact⟨rfl,rfl⟩
set_option maxHeartbeats 2000000 in
theorem zfg (p:Nat) (w:World) (h0:w.cell? ⟨p,0,none⟩=some (.pointer none)) (hsh:w.shape? p=some (TP,4)) (hfz:w.frozen? ⟨p,0,none⟩=false):Calls Tryz.prog 114 #[.pointer (some ⟨p,0,none⟩)] w fun e w'=>e= .returned (.tuple #[])∧w'=w.setCell ⟨p,0,none⟩ (.pointer (some ⟨p,0,none⟩)):=by
 obtain⟨j,hj,hjs⟩:=Option.map_eq_some_iff.1 zkb;have r1:=Lib.run_to_unsafe (P:=Tryz.prog) w ⟨p,0,none⟩ Tryz.underlying51 Tryz.underlying136 hj (by rw[hjs];decide) hsh (Nat.zero_lt_succ 3);have r2:=Lib.run_from_unsafe (P:=Tryz.prog) w ⟨p,0,none⟩ Tryz.underlying136 Tryz.underlying51 hj hsh zqG;go_enter Tryz.func114,Tryz.ntmps114;go_wp2_with fail
 rw[run_callFunc_extern Tryz.func148 (by kernel_rfl) (by kernel_rfl) (by kernel_rfl) (e:=Extern.AbiNoEscape.same) (by kernel_rfl)];rw[Lib.run_noEscape];simp only[Result.andThen];rw[Oper.upon_value];go_wp2_with fail
 go_end0
 exact⟨rfl,rfl⟩
theorem zhA {w:World} {p:Nat} {a b c d:Value} {t:TypeId} {fr:Nat×Nat} (h:w.heap[p]? =some (.cells #[a,b,c,d] t fr)) (u:Value):(w.setCell ⟨p,0,none⟩ u).heap[p]? =some (.cells #[u,b,c,d] t fr):=by simp[World.setCell,Array.getElem?_modify,h]
theorem zeQ {w:World} {p:Nat} {a b c d:Value} {t:TypeId} {fr:Nat×Nat} (h:w.heap[p]? =some (.cells #[a,b,c,d] t fr)) (u:Value):(w.setCell ⟨p,1,none⟩ u).heap[p]? =some (.cells #[a,u,c,d] t fr):=by simp[World.setCell,Array.getElem?_modify,h]
theorem zhB {w:World} {p:Nat} {a b c d:Value} {t:TypeId} {fr:Nat×Nat} (h:w.heap[p]? =some (.cells #[a,b,c,d] t fr)) (u:Value):(w.setCell ⟨p,2,none⟩ u).heap[p]? =some (.cells #[a,b,u,d] t fr):=by simp[World.setCell,Array.getElem?_modify,h]
theorem zeR {w:World} {p:Nat} {a b c d:Value} {t:TypeId} {fr:Nat×Nat} (h:w.heap[p]? =some (.cells #[a,b,c,d] t fr)) (u:Value):(w.setCell ⟨p,3,none⟩ u).heap[p]? =some (.cells #[a,b,c,u] t fr):=by simp[World.setCell,Array.getElem?_modify,h]
theorem zdg {w:World} {p j base:Nat} {v u:Value} {n:Nat} {xs:List Value} (h:w.ownsRow base TB 1 v n xs) (hn:v.ownBlock≠some p):(w.setCell ⟨p,j,none⟩ u).ownsRow base TB 1 v n xs:=zj8 h (fun g hg=>Below.heap_setCell _ _ _ _ (fun e=>hn (by have e2:g=p:=e;rw[hg,e2])))
def Us (w:World) (p:Nat) (out:List UInt8) (op:Int) (la:ByteArray):Prop:=∃ v,w.heap[p]? =some (.cells #[.pointer (some ⟨p,0,none⟩),v,.int .i64 op,.string la] TP (0,0))∧w.ownsRow (p+1) TB 1 v out.length (bc out)
theorem zeS {w:World} {p:Nat} {out:List UInt8} {op:Int} {la:ByteArray} (h:Pr w p out op la):Calls Tryz.prog 114 #[.pointer (some ⟨p,0,none⟩)] w fun e w'=>e= .returned (.tuple #[])∧Us w' p out op la∧Fb p w w':=by
 obtain⟨q,v,h1,h2,h3⟩:=h;rcases h1 with rfl|rfl
 ·refine(zfg p w (by simp[World.cell?,h2]) (by simp[World.shape?,h2]) (by simp[World.frozen?,h2])).mono ?_;rintro e w' ⟨rfl,rfl⟩;exact⟨rfl,⟨v,zhA h2 _,zdg h3 (zeP h2 h3)⟩,Fb.set _ _ _ _⟩
 ·refine(zgg p w (by simp[World.cell?,h2])).mono ?_;rintro e w' ⟨rfl,rfl⟩;exact⟨rfl,⟨v,h2,h3⟩,Fb.refl _ _⟩
theorem zoC (s:ByteArray):Lib.strCells s=bc s.data.toList:=rfl
theorem zfS {w:World} {base:Nat} {v:Value} {n:Nat} {xs:List Value} (h:w.ownsRow base TB 1 v n xs):∃ a c,v= .slice a n c:=by
 rcases h.2 with ⟨rfl,rfl⟩|⟨g,cap,cur,rfl,_⟩
 ·exact⟨_,_,rfl⟩
 ·exact⟨_,_,rfl⟩
set_option maxHeartbeats 4000000 in
theorem zby {w:World} {p:Nat} {out:List UInt8} {op:Int} {la:ByteArray} (s:ByteArray) (hl:out.length+s.size≤100000000000) (h:Pr w p out op la):Calls Tryz.prog 78 #[.pointer (some ⟨p,0,none⟩),.string s] w fun e w'=>e= .returned (.tuple #[.int .i64 s.size,.nilIface])∧Pr w' p (out++s.data.toList) op la∧Fb p w w':=by
 obtain⟨i0,hi,hz0,hz1,hz2⟩:=zaN zoB;have HI0:=hide hi;have HZ0:=hide hz0;have HZ1:=hide hz1;have HZ2:=hide hz2;have HP:=hide h;clear hi hz0 hz1 hz2 h;go_enter Tryz.func78,Tryz.ntmps78;go_wp2_with fail
 (refine(zeS (uq HP)).mono ?_;rintro e w1 ⟨rfl,⟨v,hb,ho⟩,hf⟩;have HF:=hide hf;have HBk:=hide hb;have HO:=hide ho;clear hf hb ho);obtain⟨va,vc,rfl⟩:=zfS (uq HO);have c1:w1.cell? ⟨p,1,none⟩=some (.slice va out.length vc):=by simp[World.cell?,uq HBk]
 obtain⟨n,HN⟩:∃ n,Hid (out.length=n):=⟨_,rfl⟩;rw[uq HN]at HO c1 hl HBk;go_wp2_with (at_builtin;refine Lib.wpList_append_own_string _ rfl _ _ 29 9 rfl (p+1) 5 i0 Tryz.underlying29 Tryz.underlying9 (uq HI0) (uq HZ0) (uq HZ1) (uq HZ2) _ _ _ rfl (uq HO) s rfl (by unfold maxLen;omega) (by omega) (by have:=(Array.getElem?_eq_some_iff.1 (uq HBk)).1;omega) ?_;intro v' w2 hown' hgrow _;have HOW:=hide hown';have HGR:=hide hgrow;obtain⟨a',c',rfl⟩:=zfS hown';have hb2:w2.heap[p]? =some (.cells #[.pointer (some ⟨p,0,none⟩),.slice va n vc,.int .i64 op,.string la] TP (0,0)):=(by rw[hgrow.block p (Array.getElem?_eq_some_iff.1 (uq HBk)).1 (fun e=>zeP (uq HBk) (uq HO) e.symm)];exact uq HBk);have HB2:=hide hb2;have d1:w2.cell? ⟨p,1,none⟩=some (.slice va n vc):=(by simp[World.cell?,hb2]);have f1:w2.frozen? ⟨p,1,none⟩=false:=(by simp[World.frozen?,hb2]);clear hown' hgrow hb2)
 go_ret2;refine⟨rfl,⟨_,_,.inr rfl,zeQ (uq HB2) _,?_⟩,((uq HF).trans (Fb.grown (uq HO) (uq HGR))).trans (Fb.set _ _ _ _)⟩;have ho:=zdg (p:=p) (j:=1) (u:= .slice a' (n+s.size) c') (uq HOW) (zeP (uq HB2) (uq HOW));rw[zoC,← zeM]at ho;rw[List.length_append,uq HN,Array.length_toList];exact ho
set_option maxHeartbeats 4000000 in
theorem zjd {w:World} {p:Nat} {out:List UInt8} {op:Int} {la:ByteArray} (c:UInt8) (hl:out.length+1≤100000000000) (h:Pr w p out op la):Calls Tryz.prog 116 #[.pointer (some ⟨p,0,none⟩),.int .u8 (c.toNat:Int)] w fun e w'=>e= .returned .nilIface∧Pr w' p (out++ [c]) op la∧Fb p w w':=by
 obtain⟨i0,hi,hz0,hz1,hz2⟩:=zaN zoB;have HI0:=hide hi;have HZ0:=hide hz0;have HZ1:=hide hz1;have HZ2:=hide hz2;have HP:=hide h;clear hi hz0 hz1 hz2 h;obtain⟨x,HX⟩:∃ x:Int,Hid ((c.toNat:Int)=x):=⟨_,rfl⟩;rw[uq HX];go_enter Tryz.func116,Tryz.ntmps116;go_wp2_with fail
 (refine(zeS (uq HP)).mono ?_;rintro e w1 ⟨rfl,⟨v,hb,ho⟩,hf⟩;have HF:=hide hf;have HBk:=hide hb;have HO:=hide ho;clear hf hb ho);obtain⟨va,vc,rfl⟩:=zfS (uq HO);have c1:w1.cell? ⟨p,1,none⟩=some (.slice va out.length vc):=by simp[World.cell?,uq HBk]
 obtain⟨n,HN⟩:∃ n,Hid (out.length=n):=⟨_,rfl⟩;rw[uq HN]at HO c1 hl HBk;go_wp2_with (at_builtin;refine wpList_append_own _ rfl _ _ 29 rfl (p+1) 5 i0 (.int .u8 0) 1 1 Tryz.underlying29 (uq HI0) (uq HZ0) (uq HZ1) (uq HZ2) rfl (by decide) _ _ _ rfl ((uq HO).alloc _) ⟨w1.heap.size,0,none⟩ 1 1 [.int .u8 x] rfl rfl (Q.new_cells w1 [.int .u8 x] 5) (by simp[Value.oneCell']) (by unfold maxLen;omega) (by omega) (by have:=(Array.getElem?_eq_some_iff.1 (uq HBk)).1;rw[World.size_alloc];omega) ?_;intro v' w2 hown' hgrow _;have HOW:=hide hown';have HGR:=hide hgrow;obtain⟨a',c',rfl⟩:=zfS hown';have hb2:w2.heap[p]? =some (.cells #[.pointer (some ⟨p,0,none⟩),.slice va n vc,.int .i64 op,.string la] TP (0,0)):=(by have hlt:=(Array.getElem?_eq_some_iff.1 (uq HBk)).1;rw[hgrow.block p (by rw[World.size_alloc];omega) (fun e=>zeP (uq HBk) (uq HO) e.symm),heap_alloc_old _ _ hlt];exact uq HBk);have HB2:=hide hb2;have d1:w2.cell? ⟨p,1,none⟩=some (.slice va n vc):=(by simp[World.cell?,hb2]);have f1:w2.frozen? ⟨p,1,none⟩=false:=(by simp[World.frozen?,hb2]);clear hown' hgrow hb2)
 go_ret;refine⟨rfl,⟨_,_,.inr rfl,zeQ (uq HB2) _,?_⟩,(((uq HF).trans (Fb.keep ((Keep.refl w1).alloc _))).trans (Fb.grown ((uq HO).alloc _) (uq HGR))).trans (Fb.set _ _ _ _)⟩;have ho:=zdg (p:=p) (j:=1) (u:= .slice a' (n+1) c') (uq HOW) (zeP (uq HB2) (uq HOW));rw[← uq HX,show bc out++ [Value.int .u8 (c.toNat:Int)]=bc (out++ [c])from(zeM out [c]).symm]at ho;rw[List.length_append,uq HN];exact ho
set_option maxHeartbeats 2000000 in
theorem zeu {w:World} {p:Nat} {out:List UInt8} {op:Int} {la:ByteArray} (hl:out.length+1≤100000000000) (h:Pr w p out op la):Calls Tryz.prog 80 #[.pointer (some ⟨p,0,none⟩)] w fun e w'=>e= .returned (.tuple #[])∧Pr w' p (out++ [10]) op ⟨#[]⟩∧Fb p w w':=by
 have HP:=hide h;clear h;go_enter Tryz.func80,Tryz.ntmps80;go_wp2_with fail
 (refine(zjd 10 hl (uq HP)).mono ?_;rintro e w1 ⟨rfl,⟨q,v,hq,hb,ho⟩,hf⟩;have HF:=hide hf;have HBk:=hide hb;have HO:=hide ho;have HQ:=hide hq;clear hf hb ho hq);have c3:w1.cell? ⟨p,3,none⟩=some (.string la):=by simp[World.cell?,uq HBk]
 have f3:w1.frozen? ⟨p,3,none⟩=false:=by simp[World.frozen?,uq HBk]
 go_wp2_with fail
 go_end0
 exact⟨rfl,⟨q,v,uq HQ,zeR (uq HBk) _,zdg (uq HO) (zeP (uq HBk) (uq HO))⟩,(uq HF).trans (Fb.set _ _ _ _)⟩
end S
end Go.Proofs.YtfepanidippjlaaGreatDoor
