/- The document's reader: names with commas between. -/
import Derived.Test.YtpmaonkelkmhbaaGreatQHead
namespace Go.Proofs.YtpmaonkelkmhbaaGreat
open Go.RowKit
attribute [local go_sem ↓] Go.wp_at_zero Go.wp_at_succ
set_option linter.unusedVariables false
set_option linter.unusedSimpArgs false
set_option maxRecDepth 10000
namespace Q
theorem zgr:(Tryz.prog.info? 9).map (fun i=>(i.zero,i.size,i.bytes))=some (some (.string ⟨#[]⟩),1,16):=by kernel_rfl
theorem zai (w:World) (vs:List Value) (t:TypeId):∀ j u,vs[j]? =some u→(w.alloc (.cells vs.toArray t)).cell? ((⟨w.heap.size,0,none⟩:Addr).add j)=some u:=by
 intro j u hu
 rw[zaP,Nat.zero_add];exact(bxs_new w vs t j u hu).1
theorem zir {w w1:World} {b e:Nat} (k:Fr (fun i=>i=b) w w1) (s:List UInt8):RO (fun i=>i=b) w e 1 (w1.alloc (.cells #[.string (sv s)] e)) [[dS s]] (.slice (some ⟨w1.heap.size,0,none⟩) 1 1):=by
 refine⟨k.trans (.keep ((Keep.refl w1).alloc _)),?_⟩;simp only[Rd];refine⟨[.string (sv s)],World.ownsRow_lit w1 #[.string (sv s)] 1 (Nat.zero_le _) (by unfold maxLen;omega) rfl,fun g hg=>?_,?_⟩
 ·simp only[Value.ownBlock,Option.some.injEq]at hg;have:=k.size;omega
 ·simp only[Rdss];exact⟨[.string (sv s)],[],rfl,rfl,zbj s (zat _ _),rfl⟩
theorem zcz {most:Nat} {L:List (List D)} {u t:Tok} {r:List Tok} {Z:Rs} {s:List UInt8} (h:u.s= [44]) (hZ:Z=if L.length=most∧t.k=1∧¬t.s∈words then .error (4,t.p)else .ok ([],t :: r)) (hg:Got Z (bnd Z zam) [dS s]):nmA most L (.ok (u :: t :: r))=nmA most (L++ [[dS s]]) (zad (bnd Z zam)):=by
 rw[zkM h];by_cases hn:t.k=1∧¬t.s∈words
 ·rw[if_pos hn];by_cases hl:L.length=most
  ·rw[if_pos hl];rw[if_pos ⟨hl,hn⟩]at hZ;subst hZ
   rfl
  ·rw[if_neg hl];rw[if_neg (fun x=>hl x.1)]at hZ;subst hZ;have e1:bnd (.ok ([],t :: r)) zam= .ok ([dS t.s],r):=by show(if t.k=1∧¬t.s∈words then _ else _)=_;rw[if_pos hn];rfl
   rw[e1]at hg ⊢;obtain⟨c0,r0,h0,h1⟩:=hg _ _ rfl;simp only[Except.ok.injEq,Prod.mk.injEq]at h0;obtain⟨rfl,_⟩:=h0;rw[List.nil_append]at h1;rw[h1]
   rfl
 ·rw[if_neg hn];rw[if_neg (fun x=>hn x.2)]at hZ;subst hZ;have e1:bnd (.ok ([],t :: r)) zam= .error (50,t.p):=by show(if t.k=1∧¬t.s∈words then _ else _)=_;rw[if_neg hn];rfl
  rw[e1]
  rfl
theorem zcA {most n:Nat} {L:List (List D)} {t:Tok} {r:List Tok} {Z:Rs} {s:List UInt8} (hN:L.length=n) (hZ:Z=if L.length=most∧t.k=1∧¬t.s∈words then .error (4,t.p)else .ok ([],t :: r)) (hg:Got Z (bnd Z zam) [dS s]) (h1:n≤most+1) (h2:n≤most):n+1≤most+1∧∀ r',zad (bnd Z zam)= .ok r'→n+1≤most:=by
 refine⟨by omega,fun r' e=>?_⟩;by_cases hl:L.length=most
 ·exfalso;by_cases hn:t.k=1∧¬t.s∈words
  ·rw[if_pos ⟨hl,hn⟩]at hZ;subst hZ;cases e
  ·rw[if_neg (fun x=>hn x.2)]at hZ;subst hZ;have e1:bnd (.ok ([],t :: r)) zam= .error (50,t.p):=by show(if t.k=1∧¬t.s∈words then _ else _)=_;rw[if_neg hn];rfl
   rw[e1]at e;cases e
 ·omega
theorem zcB {most:Nat} {L:List (List D)} {u t:Tok} {r:List Tok} {Z:Rs} {w:World} {b:Nat} (hZ:Z=if L.length=most∧t.k=1∧¬t.s∈words then .error (4,t.p)else .ok ([],t :: r)) (h:Sr w b (zad (bnd Z zam))):rem w b<(u :: t :: r).length:=by
 cases hx:bnd Z zam with
 |error x=>rw[hx]at h;rw[zgj (x:=x) h];simp
 |ok q=>
  obtain⟨c,r'⟩:=q;rw[hx]at h;rw[zcL (r:=r') h];split at hZ
  ·subst hZ;cases hx
  ·subst hZ;have:=za6 [] (t :: r) _ _ hx;simp at this ⊢;omega
def nmX (most:Nat):Rs→Except Er (List (List D)×List Tok)
 | .error x=> .error x
 | .ok (_,r)=>nm most [] r
set_option maxHeartbeats 8000000 in
theorem zby {w:World} {b:Nat} {X:Rs} (most:Nat) (hm:most≠0) (hmm:most≤1000) (h:Sr w b (zad X)):
  Calls Tryz.prog 49 #[.pointer (some ⟨b,0,none⟩),.int .i64 (most:Int)] w fun r w'=>∃ a n cap L,r= .returned (.slice a n cap)∧Did (sq [zaj 9 most,zah [59]]) [.row 9 1 L] b X w w'∧Rd w' (.row 9 1 L) (fun i=>w.heap.size≤i) (.slice a n cap):=by
 obtain⟨i0,hi,hz0,hz1,hz2⟩:=zay zgr;have HI0:=hide hi;have HZ0:=hide hz0;have HZ1:=hide hz1;have HZ2:=hide hz2;have HB:=hide h.bl;have HS0:=hide h;have HM:=hide hm;have HMM:=hide hmm;obtain⟨tgt,HT⟩:∃ tgt:Except Er (List (List D)×List Tok),Hid (tgt=nmX most X):=⟨_,rfl⟩;clear hi hz0 hz1 hz2 h hm hmm;go_enter Tryz.func49,Tryz.ntmps49;go_wp2_with fail
 (refine(zaE (X:=X) (uq HS0)).mono ?_;rintro e w1 ⟨s1,rfl,hd⟩;have HD:=hide hd;clear hd);go_wp2_with fail
 go_loopw [5] (fun u5 wr=>∃(a:Option Addr) (cap:Nat) (L:List (List D)) (Y:Except Er (List Tok)),u5= .slice a L.length cap∧Hid (RO (fun i=>i=b) w 9 1 wr L (.slice a L.length cap))∧Hid (Sr wr b Y)∧Hid (nmA most L Y=tgt)∧Hid (L.length≤most+1∧∀ r,Y= .ok r→L.length≤most)) (fun u5 wr=>rem wr b)
 case atStart=>
  refine⟨_,_,[[dS s1]],zad (bnd X zam),rfl,hide (zir (uq HD).1 s1),hide ((uq HD).2.1.keep ((Keep.refl w1).alloc _)),hide ?_,hide ⟨by simp,fun r _=>by have:=uq HM;simp;omega⟩⟩;rw[uq HT];rcases X with x|⟨c,r⟩
  ·rfl
  ·obtain⟨ad,cap,p,t,r',e,h1⟩:=Sr.alive (r:=r) (uq HS0);subst e;exact(zgd (uq HM) (uq HD).2.2).symm
 case round=>
  obtain⟨a,cap,L,Y,rfl,HR,HS,HE,HL⟩:=hrel;obtain⟨n,HN⟩:∃ n,Hid (L.length=n):=⟨_,rfl⟩;rw[uq HN]at HR HL ⊢;go_wp2_with fail
  (refine(zco (Y:=Y) [44] rfl (uq HS)).mono ?_;rintro e w2 ⟨rfl,rfl⟩);generalize hq:isq [44] Y=bq;cases bq with
  |false=>
   have hY:nmA most L Y=rwF L Y:=zm0 (uq HS).ne (fun t r e=>by subst e;simpa [isq]using hq);have HNB:=hide (zge (e:=9) (most:=most) (X:=X) (Y':=Y) (L:=L) (fun c r e=>by have:=uq HT;rw[e]at this;simp only[nmX]at this;rw[← this,← uq HE,hY]) (fun x e=>by
    have:=uq HT;rw[e]at this;simp only[nmX]at this;have h2:=uq HE;rw[hY,this]at h2;cases Y with
    |error y=>simp only[rwF,Except.error.injEq]at h2;rw[h2]
    |ok r=>cases h2))
   clear hY hq;go_wp2_with fail
   (refine(zag (X:=bnd X (zaj 9 most)) [59] rfl (by rw[(uq HNB).1];exact uq HS)).mono ?_;rintro e w3 ⟨rfl,hd⟩;have HD3:=hide hd;clear hd);go_wp2_with fail
   go_ret;have hr:=(uq HR).move (uq HD3).1 (fun i x=>⟨x,x▸uq HB⟩);refine⟨a,n,cap,L,rfl,?_,hr.row⟩;have e:bnd X (sq [zaj 9 most,zah [59]])=bnd (bnd X (zaj 9 most)) (zah [59]):=by rw[zac,zac,zar]
   unfold Did
   rw[e];exact⟨hr.fr,(uq HD3).2.1,by have:=(uq HNB).2.trans (uq HD3).2.2;simpa using this⟩
  |true=>
   obtain⟨u,t,r,HY,HU,HK⟩:∃ u t r,Hid (Y= .ok (u :: t :: r))∧Hid (u.s= [44])∧Hid (u.k≠0):=by
    cases Y with
    |error x=>cases hq
    |ok r0=>
     obtain⟨ad,c,p,u,r',e,h1⟩:=(uq HS).alive;subst e;have he:u.s= [44]:=by simpa [isq]using hq
     have hk:=((h1.wq.2 u List.mem_cons_self).word (s:= [44]) rfl he).1;obtain⟨h2,h3⟩:=h1.wq.cons (.inl hk);obtain⟨t,r,rfl⟩:=h2.ne;exact⟨u,t,r,rfl,he,hk⟩
   clear hq;go_wp2_with fail
   (refine(zbc (Y:=Y) (uq HS)).mono ?_;rintro e w2 ⟨t8,rfl,_,hf,hs,_⟩;have HR2:=hide ((uq HR).move hf (fun i x=>⟨x,x▸uq HB⟩));have HS2:=hide hs;clear hf hs);have HS3:Hid (Sr w2 b (.ok (t :: r))):=hide (by
    have:=uq HS2;rw[uq HY]at this;rwa[show zdA (.ok (u :: t :: r))= .ok (t :: r) by show(if u.k=0 then _ else _)=_;rw[if_neg (uq HK)]]at this)
   have hl3:=uq HS3;obtain⟨ad,c,p,t',r',e3,h3⟩:=hl3.alive;injection e3 with e3 e3'
   subst e3 e3';obtain⟨t0,t1,t2,t3⟩:=h3.tok;have c0:=h3.c0;simp only[List.length_cons]at c0;obtain⟨Z,hZ⟩:∃ Z:Rs,Z=if L.length=most∧t.k=1∧¬t.s∈words then .error (4,t.p)else .ok ([],t :: r):=⟨_,rfl⟩
   have HZ:=hide hZ;rw[uq HN]at hZ;clear t2 t3 h3 hl3;by_cases hfull:n=most
   ·have f1:((n:Int)==(most:Int))=true:=by simp[hfull]
    by_cases hk1:t.k=1
    ·have f2:(t.k==1)=true:=by simp[hk1]
     by_cases hw:t.s∈words
     ·have HZQ:Hid (Z= .ok ([],t :: r)):=hide (by rw[hZ,if_neg (fun x=>x.2.2 hw)]);have HT2:=hide (zds (sv t.s) w2);rw[show decide ((sv t.s).toList∈words)=true by rw[show(sv t.s).toList=t.s from ByteArray.toList_mk _];simpa using hw]at HT2;clear hZ hw hk1 hfull;generalize sv t.s=S at t1 HT2;generalize t.k=kk at t0 f2;go_wp2_with fail
      (refine(uq HT2).mono ?_;rintro e w3 ⟨rfl,hk⟩;have HR3:=hide ((uq HR2).keep hk);have HS4:Hid (Sr w3 b (zad Z)):=hide (by rw[uq HZQ];exact(uq HS3).keep hk);clear hk);go_wp2_with fail
      (refine(zaE (X:=Z) (uq HS4)).mono ?_;rintro e w5 ⟨s5,rfl,hd⟩;have HR5:=hide ((uq HR3).move hd.1 (fun i x=>⟨x,x▸uq HB⟩));have HS5:=hide hd.2.1;have HG5:=hide hd.2.2;clear hd);obtain⟨xs,hown,hlt⟩:=(uq HR5).shape;rw[uq HN]at hown;have HOWN:=hide hown;have HLT:=hide hlt;clear hown hlt;have hn9:n≤1001:=by have:=(uq HL).1;have:=uq HMM;omega
      have HN9:=hide hn9;clear hn9;go_wp2_with (at_builtin;refine wpList_append_own_at _ rfl _ _ 43 rfl 0 9 i0 _ 1 16 Tryz.underlying43 (uq HI0) (uq HZ0) (uq HZ1) (uq HZ2) rfl (by decide) _ _ xs rfl ((uq HOWN).alloc _) ⟨w5.heap.size,0,none⟩ 1 1 [.string (sv s5)] rfl rfl (zai w5 [.string (sv s5)] 9) (by simp[Value.oneCell']) (by have:=uq HN9;unfold maxLen;omega) (by have:=uq HN9;omega) (Nat.zero_le _) ?_;intro v' w8 hown' hgrow hnil hat;obtain⟨g',cp',rfl⟩:=zak hown';have HOWN':=hide hown';have HGR:=hide hgrow;have HAT:=hide hat;clear hown' hgrow hnil hat)
      go_roundw
      case rel=>
       have ha:=(uq HR5).app ((Keep.refl w5).alloc _) (fun i x=>x▸uq HB) (fun g hg=>((uq HLT) g hg).2) (uq HR5).fr.size (zbj s5 (zat _ _)) rfl (by rw[uq HN];exact uq HOWN) (by rw[uq HN];exact uq HOWN') (uq HGR) (uq HAT);have hl:(L++ [[dS s5]]).length=n+1:=by rw[List.length_append,uq HN];rfl
       refine⟨_,cp',L++ [[dS s5]],zad (bnd Z zam),by rw[hl],hide (by rw[hl];exact ha.1),hide ((uq HS5).far (fun i hi=>ha.2 i (by have:=uq HB;omega))),hide ?_,hide ?_⟩
       ·rw[← zcz (uq HU) (uq HZ) (uq HG5),← uq HY];exact uq HE
       ·rw[hl];exact zcA (uq HN) (uq HZ) (uq HG5) (uq HL).1 ((uq HL).2 _ (uq HY))
      case measure=>
       have ha:=(uq HR5).app ((Keep.refl w5).alloc _) (fun i x=>x▸uq HB) (fun g hg=>((uq HLT) g hg).2) (uq HR5).fr.size (zbj s5 (zat _ _)) rfl (by rw[uq HN];exact uq HOWN) (by rw[uq HN];exact uq HOWN') (uq HGR) (uq HAT);have hs8:=(uq HS5).far (fun i hi=>ha.2 i (by have:=uq HB;omega));have hwr:=uq HS;rw[uq HY]at hwr;rw[zcL hwr];exact zcB (uq HZ) hs8
     ·have HZQ:Hid (Z= .error (4,t.p)):=hide (by rw[hZ,if_pos ⟨hfull,hk1,hw⟩]);have HT2:=hide (zds (sv t.s) w2);rw[show decide ((sv t.s).toList∈words)=false by rw[show(sv t.s).toList=t.s from ByteArray.toList_mk _];simpa using hw]at HT2;clear hZ hw hk1 hfull;generalize sv t.s=S at t1 HT2;generalize t.k=kk at t0 f2;go_wp2_with fail
      (refine(uq HT2).mono ?_;rintro e w3 ⟨rfl,hk⟩;have HR3:=hide ((uq HR2).keep hk);have HS4:=hide ((uq HS3).keep hk);clear hk);go_wp2_with fail
      (refine(zbE (Y:= .ok (t :: r)) 4 (by decide) (uq HS4)).mono ?_;rintro e w4 ⟨rfl,hf,hs⟩;have HR4:=hide ((uq HR3).move hf (fun i x=>⟨x,x▸uq HB⟩));have HS6:Hid (Sr w4 b (zad Z)):=hide (by rw[uq HZQ];exact hs);clear hf hs);go_wp2_with fail
      (refine(zaE (X:=Z) (uq HS6)).mono ?_;rintro e w5 ⟨s5,rfl,hd⟩;have HR5:=hide ((uq HR4).move hd.1 (fun i x=>⟨x,x▸uq HB⟩));have HS5:=hide hd.2.1;have HG5:=hide hd.2.2;clear hd);obtain⟨xs,hown,hlt⟩:=(uq HR5).shape;rw[uq HN]at hown;have HOWN:=hide hown;have HLT:=hide hlt;clear hown hlt;have hn9:n≤1001:=by have:=(uq HL).1;have:=uq HMM;omega
      have HN9:=hide hn9;clear hn9;go_wp2_with (at_builtin;refine wpList_append_own_at _ rfl _ _ 43 rfl 0 9 i0 _ 1 16 Tryz.underlying43 (uq HI0) (uq HZ0) (uq HZ1) (uq HZ2) rfl (by decide) _ _ xs rfl ((uq HOWN).alloc _) ⟨w5.heap.size,0,none⟩ 1 1 [.string (sv s5)] rfl rfl (zai w5 [.string (sv s5)] 9) (by simp[Value.oneCell']) (by have:=uq HN9;unfold maxLen;omega) (by have:=uq HN9;omega) (Nat.zero_le _) ?_;intro v' w8 hown' hgrow hnil hat;obtain⟨g',cp',rfl⟩:=zak hown';have HOWN':=hide hown';have HGR:=hide hgrow;have HAT:=hide hat;clear hown' hgrow hnil hat)
      go_roundw
      case rel=>
       have ha:=(uq HR5).app ((Keep.refl w5).alloc _) (fun i x=>x▸uq HB) (fun g hg=>((uq HLT) g hg).2) (uq HR5).fr.size (zbj s5 (zat _ _)) rfl (by rw[uq HN];exact uq HOWN) (by rw[uq HN];exact uq HOWN') (uq HGR) (uq HAT);have hl:(L++ [[dS s5]]).length=n+1:=by rw[List.length_append,uq HN];rfl
       refine⟨_,cp',L++ [[dS s5]],zad (bnd Z zam),by rw[hl],hide (by rw[hl];exact ha.1),hide ((uq HS5).far (fun i hi=>ha.2 i (by have:=uq HB;omega))),hide ?_,hide ?_⟩
       ·rw[← zcz (uq HU) (uq HZ) (uq HG5),← uq HY];exact uq HE
       ·rw[hl];exact zcA (uq HN) (uq HZ) (uq HG5) (uq HL).1 ((uq HL).2 _ (uq HY))
      case measure=>
       have ha:=(uq HR5).app ((Keep.refl w5).alloc _) (fun i x=>x▸uq HB) (fun g hg=>((uq HLT) g hg).2) (uq HR5).fr.size (zbj s5 (zat _ _)) rfl (by rw[uq HN];exact uq HOWN) (by rw[uq HN];exact uq HOWN') (uq HGR) (uq HAT);have hs8:=(uq HS5).far (fun i hi=>ha.2 i (by have:=uq HB;omega));have hwr:=uq HS;rw[uq HY]at hwr;rw[zcL hwr];exact zcB (uq HZ) hs8
    ·have f2:(t.k==1)=false:=by simpa using hk1
     have HZQ:Hid (Z= .ok ([],t :: r)):=hide (by rw[hZ,if_neg (fun x=>hk1 x.2.1)]);have HS4:Hid (Sr w2 b (zad Z)):=hide (by rw[uq HZQ];exact uq HS3);clear hZ hk1 hfull;generalize t.k=kk at t0 f2;go_wp2_with fail
     (refine(zaE (X:=Z) (uq HS4)).mono ?_;rintro e w5 ⟨s5,rfl,hd⟩;have HR5:=hide ((uq HR2).move hd.1 (fun i x=>⟨x,x▸uq HB⟩));have HS5:=hide hd.2.1;have HG5:=hide hd.2.2;clear hd);obtain⟨xs,hown,hlt⟩:=(uq HR5).shape;rw[uq HN]at hown;have HOWN:=hide hown;have HLT:=hide hlt;clear hown hlt;have hn9:n≤1001:=by have:=(uq HL).1;have:=uq HMM;omega
     have HN9:=hide hn9;clear hn9;go_wp2_with (at_builtin;refine wpList_append_own_at _ rfl _ _ 43 rfl 0 9 i0 _ 1 16 Tryz.underlying43 (uq HI0) (uq HZ0) (uq HZ1) (uq HZ2) rfl (by decide) _ _ xs rfl ((uq HOWN).alloc _) ⟨w5.heap.size,0,none⟩ 1 1 [.string (sv s5)] rfl rfl (zai w5 [.string (sv s5)] 9) (by simp[Value.oneCell']) (by have:=uq HN9;unfold maxLen;omega) (by have:=uq HN9;omega) (Nat.zero_le _) ?_;intro v' w8 hown' hgrow hnil hat;obtain⟨g',cp',rfl⟩:=zak hown';have HOWN':=hide hown';have HGR:=hide hgrow;have HAT:=hide hat;clear hown' hgrow hnil hat)
     go_roundw
     case rel=>
      have ha:=(uq HR5).app ((Keep.refl w5).alloc _) (fun i x=>x▸uq HB) (fun g hg=>((uq HLT) g hg).2) (uq HR5).fr.size (zbj s5 (zat _ _)) rfl (by rw[uq HN];exact uq HOWN) (by rw[uq HN];exact uq HOWN') (uq HGR) (uq HAT);have hl:(L++ [[dS s5]]).length=n+1:=by rw[List.length_append,uq HN];rfl
      refine⟨_,cp',L++ [[dS s5]],zad (bnd Z zam),by rw[hl],hide (by rw[hl];exact ha.1),hide ((uq HS5).far (fun i hi=>ha.2 i (by have:=uq HB;omega))),hide ?_,hide ?_⟩
      ·rw[← zcz (uq HU) (uq HZ) (uq HG5),← uq HY];exact uq HE
      ·rw[hl];exact zcA (uq HN) (uq HZ) (uq HG5) (uq HL).1 ((uq HL).2 _ (uq HY))
     case measure=>
      have ha:=(uq HR5).app ((Keep.refl w5).alloc _) (fun i x=>x▸uq HB) (fun g hg=>((uq HLT) g hg).2) (uq HR5).fr.size (zbj s5 (zat _ _)) rfl (by rw[uq HN];exact uq HOWN) (by rw[uq HN];exact uq HOWN') (uq HGR) (uq HAT);have hs8:=(uq HS5).far (fun i hi=>ha.2 i (by have:=uq HB;omega));have hwr:=uq HS;rw[uq HY]at hwr;rw[zcL hwr];exact zcB (uq HZ) hs8
   ·have f1:((n:Int)==(most:Int))=false:=by simpa using(show ¬(n:Int)=(most:Int) by omega)
    have HZQ:Hid (Z= .ok ([],t :: r)):=hide (by rw[hZ,if_neg (fun x=>hfull x.1)]);have HS4:Hid (Sr w2 b (zad Z)):=hide (by rw[uq HZQ];exact uq HS3);clear hZ hfull;go_wp2_with fail
    (refine(zaE (X:=Z) (uq HS4)).mono ?_;rintro e w5 ⟨s5,rfl,hd⟩;have HR5:=hide ((uq HR2).move hd.1 (fun i x=>⟨x,x▸uq HB⟩));have HS5:=hide hd.2.1;have HG5:=hide hd.2.2;clear hd);obtain⟨xs,hown,hlt⟩:=(uq HR5).shape;rw[uq HN]at hown;have HOWN:=hide hown;have HLT:=hide hlt;clear hown hlt;have hn9:n≤1001:=by have:=(uq HL).1;have:=uq HMM;omega
    have HN9:=hide hn9;clear hn9;go_wp2_with (at_builtin;refine wpList_append_own_at _ rfl _ _ 43 rfl 0 9 i0 _ 1 16 Tryz.underlying43 (uq HI0) (uq HZ0) (uq HZ1) (uq HZ2) rfl (by decide) _ _ xs rfl ((uq HOWN).alloc _) ⟨w5.heap.size,0,none⟩ 1 1 [.string (sv s5)] rfl rfl (zai w5 [.string (sv s5)] 9) (by simp[Value.oneCell']) (by have:=uq HN9;unfold maxLen;omega) (by have:=uq HN9;omega) (Nat.zero_le _) ?_;intro v' w8 hown' hgrow hnil hat;obtain⟨g',cp',rfl⟩:=zak hown';have HOWN':=hide hown';have HGR:=hide hgrow;have HAT:=hide hat;clear hown' hgrow hnil hat)
    go_roundw
    case rel=>
     have ha:=(uq HR5).app ((Keep.refl w5).alloc _) (fun i x=>x▸uq HB) (fun g hg=>((uq HLT) g hg).2) (uq HR5).fr.size (zbj s5 (zat _ _)) rfl (by rw[uq HN];exact uq HOWN) (by rw[uq HN];exact uq HOWN') (uq HGR) (uq HAT);have hl:(L++ [[dS s5]]).length=n+1:=by rw[List.length_append,uq HN];rfl
     refine⟨_,cp',L++ [[dS s5]],zad (bnd Z zam),by rw[hl],hide (by rw[hl];exact ha.1),hide ((uq HS5).far (fun i hi=>ha.2 i (by have:=uq HB;omega))),hide ?_,hide ?_⟩
     ·rw[← zcz (uq HU) (uq HZ) (uq HG5),← uq HY];exact uq HE
     ·rw[hl];exact zcA (uq HN) (uq HZ) (uq HG5) (uq HL).1 ((uq HL).2 _ (uq HY))
    case measure=>
     have ha:=(uq HR5).app ((Keep.refl w5).alloc _) (fun i x=>x▸uq HB) (fun g hg=>((uq HLT) g hg).2) (uq HR5).fr.size (zbj s5 (zat _ _)) rfl (by rw[uq HN];exact uq HOWN) (by rw[uq HN];exact uq HOWN') (uq HGR) (uq HAT);have hs8:=(uq HS5).far (fun i hi=>ha.2 i (by have:=uq HB;omega));have hwr:=uq HS;rw[uq HY]at hwr;rw[zcL hwr];exact zcB (uq HZ) hs8
end Q
end Go.Proofs.YtpmaonkelkmhbaaGreat
namespace Go.Proofs.YtpmaonkelkmhbaaGreat
open Go.RowKit
set_option linter.unusedVariables false
set_option linter.unusedSimpArgs false
set_option maxRecDepth 10000
namespace Q
structure LS (b gb j:Nat) (w2:World) (e z:Nat) (us:List Value) (wr:World) (L:List (List D)) (a:Option Addr) (n cap:Nat) (Y:Except Er (List Tok)):Prop where
 ro:RO (fun i=>i=b∨i=gb) w2 e z wr L (.slice a n cap)
 bx:Bxs wr gb (us.set j (.slice a n cap))
 sr:Sr wr b Y
 hn:L.length=n
 hb:b<gb
 hg:gb<w2.heap.size
 hj:j<us.length
theorem LS.start {b gb j:Nat} {w2:World} {e z:Nat} {us:List Value} {Y:Except Er (List Tok)} (hs:Sr w2 b Y) (hx:Bxs w2 gb us) (hj:us[j]? =some (.slice none 0 0)) (hb:b<gb) (hg:gb<w2.heap.size):LS b gb j w2 e z us w2 [] none 0 0 Y:=by
 have hl:j<us.length:=by
  rcases Nat.lt_or_ge j us.length with h|h
  ·exact h
  ·rw[List.getElem?_eq_none h]at hj;cases hj
 refine⟨RO.start _ _ _ _,?_,hs,rfl,hb,hg,hl⟩;have:us.set j (.slice none 0 0)=us:=by
  apply List.ext_getElem?;intro i
  by_cases e:j=i
  ·subst e;rw[List.getElem?_set_self hl,hj]
  ·rw[List.getElem?_set_ne e]
 rw[this];exact hx
theorem LS.gw {b gb j:Nat} {w2:World} {e z:Nat} {us:List Value} {wr:World} {L:List (List D)} {a:Option Addr} {n cap:Nat} {Y:Except Er (List Tok)} (h:LS b gb j w2 e z us wr L a n cap Y):gb<wr.heap.size:=Nat.lt_of_lt_of_le h.hg h.ro.fr.size
theorem LS.move {b gb j:Nat} {w2:World} {e z:Nat} {us:List Value} {wr w3:World} {L:List (List D)} {a:Option Addr} {n cap:Nat} {Y Y':Except Er (List Tok)} (h:LS b gb j w2 e z us wr L a n cap Y) (k:Fr (fun i=>i=b) wr w3) (hs:Sr w3 b Y'):LS b gb j w2 e z us w3 L a n cap Y':=
 ⟨h.ro.move k (fun i x=>⟨.inl x,by have:=h.hb;have:=h.hg;omega⟩),h.bx.move (k.block gb h.gw (fun x=>by have:=h.hb;omega)),hs,h.hn,h.hb,h.hg,h.hj⟩
theorem LS.cell {b gb j:Nat} {w2:World} {e z:Nat} {us:List Value} {wr:World} {L:List (List D)} {a:Option Addr} {n cap:Nat} {Y:Except Er (List Tok)} (h:LS b gb j w2 e z us wr L a n cap Y):wr.cell? ⟨gb,j,none⟩=some (.slice a n cap)∧wr.frozen? ⟨gb,j,none⟩=false:=
 h.bx j _ (by rw[List.getElem?_set_self h.hj])
theorem LS.own {b gb j:Nat} {w2:World} {e z:Nat} {us:List Value} {wr W6:World} {L:List (List D)} {a:Option Addr} {n cap:Nat} {Y:Except Er (List Tok)} (h:LS b gb j w2 e z us wr L a n cap Y) (k:Fr (fun i=>i=b) wr W6):∃ xs,W6.ownsRow 0 e z (.slice a n cap) n xs:=by
 obtain⟨xs,h1,_⟩:=(h.ro.move k (fun i x=>⟨.inl x,by have:=h.hb;have:=h.hg;omega⟩)).shape;rw[h.hn]at h1;exact⟨xs,h1⟩
theorem LS.app {b gb j:Nat} {w2:World} {e z:Nat} {us:List Value} {wr W6 wa w8:World} {L:List (List D)} {a a':Option Addr} {n cap cap':Nat} {Y Y6:Except Er (List Tok)} {ds:List D} {xs vs:List Value} (h:LS b gb j w2 e z us wr L a n cap Y) (k:Fr (fun i=>i=b) wr W6) (hs:Sr W6 b Y6) (hd:Rds W6 ds (fun i=>wr.heap.size≤i) vs) (hz:ds.length=z) (hka:Keep W6 wa) (hxs:W6.ownsRow 0 e z (.slice a n cap) n xs) (hown:w8.ownsRow 0 e z (.slice a' (n+1) cap') (n+1) (xs++vs)) (hg:wa.grownBy w8 (Value.slice a n cap).ownBlock) (hat:(Value.slice a' (n+1) cap').ownBlock=(Value.slice a n cap).ownBlock∨(Value.slice a' (n+1) cap').ownBlock=some wa.heap.size):
  LS b gb j w2 e z us (w8.setCell ⟨gb,j,none⟩ (.slice a' (n+1) cap')) (L++ [ds]) a' (n+1) cap' Y6∧w8.cell? ⟨gb,j,none⟩=some (.slice a n cap)∧w8.frozen? ⟨gb,j,none⟩=false:=by
 have hro:=h.ro.move k (fun i x=>⟨.inl x,by have:=h.hb;have:=h.hg;omega⟩);obtain⟨_,_,hlt⟩:=h.ro.shape;have A:=hro.app hka (fun i x=>by rcases x with x|x<;>(have:=h.hb;have:=h.hg;omega)) (B:=wr.heap.size) (fun g hg'=>(hlt g hg').2) h.ro.fr.size hd hz (by rw[h.hn];exact hxs) (by rw[h.hn];exact hown) hg hat;have hb6:W6.heap[gb]? =wr.heap[gb]? :=k.block gb h.gw (fun x=>by have:=h.hb;omega);have hb8:w8.heap[gb]? =wr.heap[gb]? :=(A.2 gb h.hg).trans hb6;have hbx8:Bxs w8 gb (us.set j (.slice a n cap)):=h.bx.move hb8;have hc8:=hbx8 j _ (by rw[List.getElem?_set_self h.hj]);refine⟨⟨A.1.set _ _ rfl (.inr rfl) h.hg,?_,?_,by rw[List.length_append,h.hn];rfl,h.hb,h.hg,h.hj⟩,hc8⟩
 ·have:=hbx8.set j (.slice a' (n+1) cap');rwa[List.set_set]at this
 ·refine(hs.far (fun i hi=>A.2 i (by have:=h.hb;have:=h.hg;omega))).set _ _ ?_;exact h.hb
theorem LS.fin {b gb j:Nat} {w2:World} {e z:Nat} {us:List Value} {wr:World} {L:List (List D)} {a:Option Addr} {n cap:Nat} {Y:Except Er (List Tok)} (h:LS b gb j w2 e z us wr L a n cap Y):Rd wr (.row e z L) (fun i=>w2.heap.size≤i) (.slice a n cap)∧Fr (fun i=>i=b∨i=gb) w2 wr:=⟨h.ro.row,h.ro.fr⟩
theorem zau {word:List UInt8} {n most:Nat} {body:List Tok→Rs} (hm:Mon body) {Y:Except Er (List Tok)} {t:Tok} {r:List Tok} {w w':World} {b:Nat} (hY:Y= .ok (t :: r)) (hs:Sr w b Y) (hs':Sr w' b (zad (body r))):rem w' b<rem w b:=by
 subst hY;rw[zcL hs];cases hx:body r with
 |error x=>rw[hx]at hs';rw[zgj (x:=x) hs'];simp
 |ok q=>
  obtain⟨c,r'⟩:=q;rw[hx]at hs';rw[zcL (r:=r') hs'];have:=hm _ _ _ hx;simp;omega
end Q
end Go.Proofs.YtpmaonkelkmhbaaGreat
