/- What may be wrong with a text that has tokens: another token was wanted, or there are too many. -/
import Derived.Test.YthceiikgecoimaaGreatDoorNCut
import Derived.Test.YthceiikgecoimaaGreatDoorNThe
import Derived.Test.YthceiikgecoimaaGreatDoorLVal
import Derived.Deep.DrawnRows
import Derived.Deep.RegionHeld3
namespace Go.Proofs.YthceiikgecoimaaGreatDoor
set_option linter.unusedVariables false
set_option linter.unusedSimpArgs false
def ErS (p:Sp):Prop:=∀ c r x,p c r= .error x->x.1=50\/x.1=4
def Er1 (p:List Tok->Rs):Prop:=∀ r x,p r= .error x->x.1=50\/x.1=4
theorem zc6 {e:Int} {r:List Tok} {x:Er} (h:bad e r= .error x):x.1=e:=by cases r<;>(simp[bad]at h;rw[<- h])
theorem zc7 (s:List UInt8):ErS (zad s):=by
 intro c r x h
 cases r with
 |nil=>exact .inl (zc6 (show bad 50 []= .error x from h))
 |cons t r=>simp only[zad]at h;split at h;cases h;exact .inl (zc6 h)
theorem zdv:ErS zai:=by
 intro c r x h
 cases r with
 |nil=>exact .inl (zc6 (show bad 50 []= .error x from h))
 |cons t r=>simp only[zai]at h;split at h;cases h;exact .inl (zc6 h)
theorem zc8:ErS zao:=by
 intro c r x h
 cases r with
 |nil=>exact .inl (zc6 (show bad 50 []= .error x from h))
 |cons t r=>simp only[zao]at h;split at h;cases h;exact .inl (zc6 h)
theorem zeT:ErS zaN:=by
 intro c r x h
 cases r with
 |nil=>exact .inl (zc6 (show bad 50 []= .error x from h))
 |cons t r=>simp[zaN]at h
theorem zrG:ErS zcQ:=by
 intro c r x h
 cases r with
 |nil=>exact .inl (zc6 (show bad 50 []= .error x from h))
 |cons t r=>simp only[zcQ]at h;split at h;cases h;exact .inl (zc6 h)
theorem zel (s:List UInt8):ErS (zaQ s):=by
 intro c r x h
 cases r with
 |nil=>exact .inl (zc6 (show bad 50 []= .error x from h))
 |cons t r=>simp only[zaQ]at h;split at h<;>cases h
theorem zpj:ErS zbS:=by
 intro c r x h
 simp only[zbS]at h;split at h
 ·exact .inl (zc6 h)
 ·cases h
theorem zip:∀(ps:List Sp),(∀ p∈ps,ErS p)->ErS (sq ps)
 | [],_,c,r,x,h=>by simp[sq]at h
 |p :: ps,hp,c,r,x,h=>by
  simp only[sq]at h;cases hq:p c r with
  |error y=>rw[hq]at h;injection h with h;subst h;exact hp p List.mem_cons_self _ _ _ hq
  |ok q=>obtain⟨c1,r1⟩:=q;rw[hq]at h;exact zip ps (λq hq=>hp q (List.mem_cons_of_mem _ hq)) _ _ _ h
theorem zdw:ErS za8:=zip _ (all_cons zc8 (all_cons (zc7 _) (all_cons zc8 zbf)))
theorem zdh:ErS zaF:=by
 intro c r x h
 have h0:=zip [zaQ [45],zao] (all_cons (zel _) (all_cons zc8 zbf));cases r with
 |nil=>simp[zaF,sq,zaQ,bad]at h;rw[<- h];exact .inl rfl
 |cons t r=>
  by_cases h1:t.s= [45]
  ·cases r with
   |nil=>simp[zaF,sq,zaQ,bad,h1,zao]at h;rw[<- h];exact .inl rfl
   |cons u r=>
    by_cases h2:u.k=2
    ·simp[zaF,sq,zaQ,bad,h1,zao,h2,dB,dI]at h
    ·simp[zaF,sq,zaQ,bad,h1,zao,h2]at h;rw[<- h];exact .inl rfl
  ·by_cases h2:t.k=2
   ·simp[zaF,sq,zaQ,bad,h1,zao,h2,dB,dI]at h
   ·simp[zaF,sq,zaQ,bad,h1,zao,h2]at h;rw[<- h];exact .inl rfl
theorem zrH (most:Nat):∀(n:Nat) (L:List (List D)) (r:List Tok) (x:Er),r.length<=n->nm most L r= .error x->x.1=50\/x.1=4
 |n,L,[],x,_,h=>by simp[nm,nmz,zai,bad]at h;rw[<- h];exact .inl rfl
 |n,L,t :: r,x,hn,h=>by
  rw[zcV]at h;split at h
  ·split at h
   ·injection h with h;rw[<- h];exact .inr rfl
   ·cases r with
    |nil=>simp at h;rw[<- h];exact .inl rfl
    |cons u r2=>
     simp only at h;split at h
     ·cases n with
      |zero=>simp at hn
      |succ n=>exact zrH most n _ r2 x (by simp at hn;omega) h
     ·cases h
  ·injection h with h;rw[<- h];exact .inl rfl
theorem zdi (e most:Nat):ErS (zar e most):=by
 intro c r x h
 simp only[zar]at h;cases hq:nmz most (r.length+1) [] r with
 |error y=>rw[hq]at h;injection h with h;subst h;exact zrH most _ [] r _ (Nat.le_refl _) hq
 |ok q=>obtain⟨L,r1⟩:=q;rw[hq]at h;cases h
theorem zrI (word:List UInt8) (most:Nat) (body:List Tok->Rs) (hm:Mon body) (he:Er1 body):∀(n:Nat) (L:List (List D)) (r:List Tok) (x:Er),r.length<=n->rw_ word most body L r= .error x->x.1=50\/x.1=4
 |n,L,[],x,_,h=>by simp[rw_,rwz]at h;rw[<- h];exact .inl rfl
 |n,L,t :: r,x,hn,h=>by
  rw[zcn _ _ _ hm]at h;split at h
  ·split at h
   ·injection h with h;rw[<- h];exact .inr rfl
   ·cases hb:body r with
    |error y=>rw[hb]at h;injection h with h;subst h;exact he _ _ hb
    |ok q=>
     obtain⟨d,r'⟩:=q;rw[hb]at h;have:=hm _ _ _ hb;cases n with
     |zero=>simp at hn
     |succ n=>exact zrI word most body hm he n _ r' x (by simp at hn;omega) h
  ·cases h
theorem zem (word:List UInt8) (most e z:Nat) (body:List Tok->Rs) (hm:Mon body) (he:Er1 body):ErS (zaL word most e z body):=by
 intro c r x h
 simp only[zaL]at h;cases hq:rwz word most body (r.length+1) [] r with
 |error y=>rw[hq]at h;injection h with h;subst h;exact zrI word most body hm he _ [] r _ (Nat.le_refl _) hq
 |ok q=>obtain⟨L,r1⟩:=q;rw[hq]at h;cases h
theorem zd6 {p:List Tok->Rs} (h:Er1 p):Er1 (zcc p):=by
 intro r x e
 simp only[zcc]at e;cases hq:p r with
 |error y=>rw[hq]at e;injection e with e;subst e;exact h _ _ hq
 |ok q=>obtain⟨c,r1⟩:=q;rw[hq]at e;cases e
theorem zgp {ps:List Sp} (h:∀ p∈ps,ErS p):Er1 (sq ps []):=λr x e=>zip ps h _ _ _ e
theorem zrJ:Er1 zeX:=zd6 (zgp (by repeat(first|exact zbf|(refine all_cons ?_ ?_;first|exact zeT|exact zdv|exact zc8|exact zc7 _|exact zdw|exact zdh|exact zel _|exact zdi _ _))))
theorem zpk:Er1 zb0:=zd6 (zgp (by repeat(first|exact zbf|(refine all_cons ?_ ?_;first|exact zeT|exact zdv|exact zc8|exact zc7 _|exact zdw|exact zdh|exact zel _|exact zdi _ _))))
theorem zpl:Er1 zbC:=zd6 (zgp (by repeat(first|exact zbf|(refine all_cons ?_ ?_;first|exact zeT|exact zdv|exact zc8|exact zc7 _|exact zdw|exact zdh|exact zel _|exact zdi _ _))))
theorem zpm:Er1 zbT:=zd6 (zgp (by repeat(first|exact zbf|(refine all_cons ?_ ?_;first|exact zeT|exact zdv|exact zc8|exact zc7 _|exact zdw|exact zdh|exact zel _|exact zdi _ _))))
theorem zlQ:Er1 zbn:=zd6 (zgp (by repeat(first|exact zbf|(refine all_cons ?_ ?_;first|exact zeT|exact zdv|exact zc8|exact zc7 _|exact zdw|exact zdh|exact zel _|exact zdi _ _))))
theorem zpn:Er1 zaU:=zgp (by repeat(first|exact zbf|(refine all_cons ?_ ?_;first|exact zeT|exact zdv|exact zc8|exact zc7 _|exact zdw|exact zdh|exact zel _|exact zdi _ _)))
theorem zlR:Er1 zbk:=zgp (by repeat(first|exact zbf|(refine all_cons ?_ ?_;first|exact zc7 _|exact zem _ _ _ _ _ zbb zpn|exact zpj)))
theorem zpo:Er1 zb4:=zd6 (zgp (by repeat(first|exact zbf|(refine all_cons ?_ ?_;first|exact zeT|exact zdv|exact zc7 _|exact zem _ _ _ _ _ zbQ zpm|exact zem _ _ _ _ _ zbP zpk|exact zem _ _ _ _ _ zbU zlQ|exact zem _ _ _ _ _ zbu zlR|exact zem _ _ _ _ _ zcW zrJ))))
theorem zrK:ErS zcN:=by
 intro c r x h
 simp only[zcN]at h;split at h
 ·rename_i y h1;injection h with h;subst h;exact zel _ _ _ _ h1
 ·exact zip _ (by repeat(first|exact zbf|(refine all_cons ?_ ?_;first|exact zc8|exact zc7 _|exact zem _ _ _ _ _ zcI zpl))) _ _ _ h
 ·cases h
theorem zpp {L:List Tok} {x:Er} (h:zd8 L= .error x):x.1=50\/x.1=4:=
 zip _ (by repeat(first|exact zbf|(refine all_cons ?_ ?_;first|exact zc8|exact zc7 _|exact zdw|exact zem _ _ _ _ _ zbR zpo|exact zrK|exact zrG))) _ _ _ h
end Go.Proofs.YthceiikgecoimaaGreatDoor
namespace Go.Proofs.YthceiikgecoimaaGreatDoor
open Go.RowKit
attribute [local go_sem ↓] Go.wp_at_zero Go.wp_at_succ
set_option linter.unusedVariables false
set_option linter.unusedSimpArgs false
set_option maxRecDepth 10000
def Bxs (w:World) (p:Nat) (xs:Array Value) (t:TypeId):Prop:=w.heap[p]? =some (.cells xs t (0,0))
theorem zcb (w:World) (o:Obj) {xs:Array Value} {t:TypeId} (o2:Obj) (h:o= .cells xs t (0,0):=by rfl):Bxs ((w.alloc o).alloc o2).drew w.heap.size xs t:=by
 subst h;show((w.heap.push (.cells xs t (0,0))).push o2)[w.heap.size]? =some (.cells xs t (0,0));rw[Array.getElem?_push,if_neg (by simp),Array.getElem?_push,if_pos rfl]
theorem bxs_new (w:World) (o:Obj) {xs:Array Value} {t:TypeId} (o2:Obj) (h:o2= .cells xs t (0,0):=by rfl):Bxs ((w.alloc o).alloc o2).drew (w.heap.size+1) xs t:=by
 subst h;show((w.heap.push o).push (.cells xs t (0,0)))[w.heap.size+1]? =some (.cells xs t (0,0));rw[Array.getElem?_push,if_pos (by simp)]
set_option maxHeartbeats 8000000 in
theorem ziq (a b:Option Addr) (n m ca cb:Nat) (X0 Y0:Nat->ByteArray) (X1 Y1:Nat->ByteArray) (X2 Y2:Nat->Int) (E:Nat->Bool) (r:Bool) (w:World) (hn:n<=100000) (hm:m<=100000)
  (HA:Hid (∀ k,k<n->∃ ad,a=some ad/\w.cell? (ad.add (k * 3))=some (.string (X0 k))/\w.cell? ⟨(ad.add (k * 3)).block,(ad.add (k * 3)).off+1,none⟩=some (.string (X1 k))/\w.cell? ⟨(ad.add (k * 3)).block,(ad.add (k * 3)).off+2,none⟩=some (.int .i64 (X2 k))))
  (HB:Hid (∀ k,k<m->∃ ad,b=some ad/\w.cell? (ad.add (k * 3))=some (.string (Y0 k))/\w.cell? ⟨(ad.add (k * 3)).block,(ad.add (k * 3)).off+1,none⟩=some (.string (Y1 k))/\w.cell? ⟨(ad.add (k * 3)).block,(ad.add (k * 3)).off+2,none⟩=some (.int .i64 (Y2 k))))
  (HE:Hid (∀ k,(((X0 k).toList==(Y0 k).toList)&&(((X1 k).toList==(Y1 k).toList)&&true))=E k))
  (H0:Hid (n≠m->r=false)) (H1:Hid (n=m->∀ k,k<n->E k=false->r=false)) (H2:Hid (n=m->(∀ k,k<n->E k=true)->r=true)):
  Calls Tryz.prog 29 #[.slice a n ca,.slice b m cb,.bool false] w λe w'=>e= .returned (.bool r)/\Keep w w':=by
 by_cases hnm:n=m
 ·subst hnm;replace H1:=zh ((uq H1) rfl);replace H2:=zh ((uq H2) rfl);go_enter Tryz.func29,Tryz.ntmps29;go_wp2_with fail
  go_loopw [7] (λv7 wr=>∃ k:Nat,k<=n/\v7= .int .i64 (k:Int)/\Hid (Keep w wr)/\Hid (∀ j,j<k->E j=true)) (λv7 _=>n - (intOf v7).toNat)
  case atStart=>exact⟨0,Nat.zero_le _,rfl,zh (zk _),zh λj hj=>by omega⟩
  case round=>
   obtain⟨k,hk,rfl,HK,HI⟩:=hrel;by_cases hlt:k<n
   ·have li:(k:Int)<(n:Int):=by omega
    have lz:(0:Int)<=(k:Int):=by omega
    obtain⟨ad,rfl,p0,p1,p2⟩:=(uq HA) k hlt;obtain⟨bd,rfl,q0,q1,q2⟩:=(uq HB) k hlt;have he:=(uq HE) k;have HF:=zh ((uq H1) k hlt);generalize hE:E k=ek at he HF;have HEK:=zh hE;clear hE;generalize X0 k=x0 at p0 he;generalize Y0 k=y0 at q0 he;generalize X1 k=x1 at p1 he;generalize Y1 k=y1 at q1 he;generalize X2 k=x2 at p2;generalize Y2 k=y2 at q2;have HC:Hid (∀ w',Keep w w'->w'.cell? (ad.add (k * 3))=some (.string (x0))/\w'.cell? ⟨(ad.add (k * 3)).block,(ad.add (k * 3)).off+1,none⟩=some (.string (x1))/\w'.cell? ⟨(ad.add (k * 3)).block,(ad.add (k * 3)).off+2,none⟩=some (.int .i64 (x2))/\w'.cell? (bd.add (k * 3))=some (.string (y0))/\w'.cell? ⟨(bd.add (k * 3)).block,(bd.add (k * 3)).off+1,none⟩=some (.string (y1))/\w'.cell? ⟨(bd.add (k * 3)).block,(bd.add (k * 3)).off+2,none⟩=some (.int .i64 (y2))):=λw' hk=>⟨Keep.cell' hk p0,Keep.cell' hk p1,Keep.cell' hk p2,Keep.cell' hk q0,Keep.cell' hk q1,Keep.cell' hk q2⟩
    clear p0 q0 p1 q1 p2 q2;have HEQ:=zh he;clear he
    go_upto_region 6 with fail
    go_cut [8,9] (λs8 s9 wc=>∃ p q,s8= .pointer (some ⟨p,0,none⟩)/\s9= .pointer (some ⟨q,0,none⟩)/\p≠q/\w.heap.size<=p/\Bxs wc p #[.string x0,.string x1,.int .i64 x2] 88/\Bxs wc q #[.string y0,.string y1,.int .i64 y2] 88/\Keep w wc)
    case first=>
     refine wp_region_held_drew (S:=(λw'=>w'.cell? (ad.add (k * 3))=some (.string (x0))/\w'.cell? ⟨(ad.add (k * 3)).block,(ad.add (k * 3)).off+1,none⟩=some (.string (x1))/\w'.cell? ⟨(ad.add (k * 3)).block,(ad.add (k * 3)).off+2,none⟩=some (.int .i64 (x2))/\w'.cell? (bd.add (k * 3))=some (.string (y0))/\w'.cell? ⟨(bd.add (k * 3)).block,(bd.add (k * 3)).off+1,none⟩=some (.string (y1))/\w'.cell? ⟨(bd.add (k * 3)).block,(bd.add (k * 3)).off+2,none⟩=some (.int .i64 (y2)))) (by kernel_rfl) (by exact uq HC _ ((uq HK).trans ((zk _).drew))) (λzH=>?_);refine tk6 0 21 1 22 2 23 3 24 4 25 5 26 zH ?_;try simp only[Yq]
     refine tk2 6 27 7 28 zH ?_;try simp only[Yq]
     refine wpAnyH_ready (rs:= [8,9]) (by kernel_rfl) (by simp) ?_;refine AllReadyH.cons rfl (λK hK=>?_) (AllReadyH.cons rfl (λK hK=>?_) AllReadyH.nil)
     ·skip
      go_simp;clear zH;refine hK.out _ _ ?_ (λzH=>?_)
      ·exact uq HC _ ((uq HK).trans (by repeat(first|(refine Below.setCell ?_ (by simp) _)|apply zaa|apply Keep.alloc|apply Keep.drew|exact zk _)))
      clear hK K;try simp only[Yq]
      refine zaq 9 (λK hK=>?_);go_simp;clear zH;refine hK.out _ _ ?_ (λzH=>?_)
      ·exact uq HC _ ((uq HK).trans (by repeat(first|(refine Below.setCell ?_ (by simp) _)|apply zaa|apply Keep.alloc|apply Keep.drew|exact zk _)))
      clear hK K;try simp only[Yq]
      refine zaq 10 (λK hK=>?_);go_simp;clear zH;refine hK.out _ _ ?_ (λzH=>?_)
      ·exact uq HC _ ((uq HK).trans (by repeat(first|(refine Below.setCell ?_ (by simp) _)|apply zaa|apply Keep.alloc|apply Keep.drew|exact zk _)))
      clear hK K;try simp only[Yq]
      refine zaq 11 (λK hK=>?_);go_simp;clear zH;refine hK.out _ _ ?_ (λzH=>?_)
      ·exact uq HC _ ((uq HK).trans (by repeat(first|(refine Below.setCell ?_ (by simp) _)|apply zaa|apply Keep.alloc|apply Keep.drew|exact zk _)))
      clear hK K;try simp only[Yq]
      refine wpAnyH_done (by kernel_rfl) ?_ _;clear zH;go_wp2_with fail
      go_meet;exact⟨_,_,rfl,rfl,by omega,(uq HK).size,zcb _ _ _,bxs_new _ _ _,(uq HK).trans (by repeat(first|apply Keep.drew|apply Keep.alloc|exact zk _))⟩
     ·skip
      go_simp;clear zH;refine hK.out _ _ ?_ (λzH=>?_)
      ·exact uq HC _ ((uq HK).trans (by repeat(first|(refine Below.setCell ?_ (by simp) _)|apply zaa|apply Keep.alloc|apply Keep.drew|exact zk _)))
      clear hK K;try simp only[Yq]
      refine zaq 8 (λK hK=>?_);go_simp;clear zH;refine hK.out _ _ ?_ (λzH=>?_)
      ·exact uq HC _ ((uq HK).trans (by repeat(first|(refine Below.setCell ?_ (by simp) _)|apply zaa|apply Keep.alloc|apply Keep.drew|exact zk _)))
      clear hK K;try simp only[Yq]
      refine zaq 10 (λK hK=>?_);go_simp;clear zH;refine hK.out _ _ ?_ (λzH=>?_)
      ·exact uq HC _ ((uq HK).trans (by repeat(first|(refine Below.setCell ?_ (by simp) _)|apply zaa|apply Keep.alloc|apply Keep.drew|exact zk _)))
      clear hK K;try simp only[Yq]
      refine zaq 11 (λK hK=>?_);go_simp;clear zH;refine hK.out _ _ ?_ (λzH=>?_)
      ·exact uq HC _ ((uq HK).trans (by repeat(first|(refine Below.setCell ?_ (by simp) _)|apply zaa|apply Keep.alloc|apply Keep.drew|exact zk _)))
      clear hK K;try simp only[Yq]
      refine wpAnyH_done (by kernel_rfl) ?_ _;clear zH;go_wp2_with fail
      go_meet;exact⟨_,_,rfl,rfl,by omega,Nat.le_succ_of_le (uq HK).size,bxs_new _ _ _,zcb _ _ _,(uq HK).trans (by repeat(first|apply Keep.drew|apply Keep.alloc|exact zk _))⟩
    case rest=>
     obtain⟨p,q,rfl,rfl,hpq,hp,bp,bq,hkc⟩:=hcut;have HKC:=zh hkc;have hpq2:¬q=p:=λe=>hpq e.symm
     have cx0:wc.cell? ⟨p,0,none⟩=some (.string x0):=by unfold Bxs at bp;simp[World.cell?,bp]
     have cy0:wc.cell? ⟨q,0,none⟩=some (.string y0):=by unfold Bxs at bq;simp[World.cell?,bq]
     have cx1:wc.cell? ⟨p,1,none⟩=some (.string x1):=by unfold Bxs at bp;simp[World.cell?,bp]
     have cy1:wc.cell? ⟨q,1,none⟩=some (.string y1):=by unfold Bxs at bq;simp[World.cell?,bq]
     have cx2:wc.cell? ⟨p,2,none⟩=some (.int .i64 x2):=by unfold Bxs at bp;simp[World.cell?,bp]
     have cy2:wc.cell? ⟨q,2,none⟩=some (.int .i64 y2):=by unfold Bxs at bq;simp[World.cell?,bq]
     have fz:wc.frozen? ⟨p,2,none⟩=false:=by unfold Bxs at bp;simp[World.frozen?,bp]
     replace HKC:Hid (Keep w (wc.setCell ⟨p,2,none⟩ (.int .i64 y2))):=zh (Below.setCell (uq HKC) (by exact hp) _);clear bp bq hkc;cases ek with
     |false=>
      have hr:=(uq HF) rfl;subst hr;go_wp2_with fail
      all_goals first
       |(go_ret;exact⟨rfl,uq HKC⟩)
       |(exfalso;have he:=uq HEQ;simp[*]at he)
     |true=>
      have he:=uq HEQ;simp only[Bool.and_eq_true,beq_iff_eq,and_true]at he;obtain⟨e0,e1⟩:=he;go_wp2_with fail
      go_roundw
      case rel=>exact⟨k+1,hlt,by go_num,HKC,zh λj hj=>(Nat.lt_succ_iff_lt_or_eq.1 hj).elim ((uq HI) j) (λe=>e▸uq HEK)⟩
      case measure=>simp[intOf];omega
   ·have:k=n:=by omega
    subst this;have hr:=(uq H2) (uq HI);subst hr;go_wp2_with fail
    go_ret;exact⟨rfl,uq HK⟩
 ·have hr:=(uq H0) hnm;subst hr;have hne:((n:Int) !=(m:Int))=true:=by simp;omega
  have hne2:((n:Int)==(m:Int))=false:=by simp;omega
  have hne3:¬(n:Int)=(m:Int):=by omega
  have hne4:¬n=m:=hnm;go_enter Tryz.func29,Tryz.ntmps29;go_wp2_with fail
  go_ret;exact⟨rfl,zk _⟩
set_option maxHeartbeats 8000000 in
theorem zir (a b:Option Addr) (n m ca cb:Nat) (X0 Y0:Nat->ByteArray) (X1 Y1:Nat->ByteArray) (X2 Y2:Nat->Int) (X3 Y3:Nat->Int) (X4 Y4:Nat->Int) (X5 Y5:Nat->Int) (E:Nat->Bool) (r:Bool) (w:World) (hn:n<=100000) (hm:m<=100000)
  (HA:Hid (∀ k,k<n->∃ ad,a=some ad/\w.cell? (ad.add (k * 6))=some (.string (X0 k))/\w.cell? ⟨(ad.add (k * 6)).block,(ad.add (k * 6)).off+1,none⟩=some (.string (X1 k))/\w.cell? ⟨(ad.add (k * 6)).block,(ad.add (k * 6)).off+2,none⟩=some (.int .i64 (X2 k))/\w.cell? ⟨(ad.add (k * 6)).block,(ad.add (k * 6)).off+3,none⟩=some (.int .i64 (X3 k))/\w.cell? ⟨(ad.add (k * 6)).block,(ad.add (k * 6)).off+4,none⟩=some (.int .i64 (X4 k))/\w.cell? ⟨(ad.add (k * 6)).block,(ad.add (k * 6)).off+5,none⟩=some (.int .i64 (X5 k))))
  (HB:Hid (∀ k,k<m->∃ ad,b=some ad/\w.cell? (ad.add (k * 6))=some (.string (Y0 k))/\w.cell? ⟨(ad.add (k * 6)).block,(ad.add (k * 6)).off+1,none⟩=some (.string (Y1 k))/\w.cell? ⟨(ad.add (k * 6)).block,(ad.add (k * 6)).off+2,none⟩=some (.int .i64 (Y2 k))/\w.cell? ⟨(ad.add (k * 6)).block,(ad.add (k * 6)).off+3,none⟩=some (.int .i64 (Y3 k))/\w.cell? ⟨(ad.add (k * 6)).block,(ad.add (k * 6)).off+4,none⟩=some (.int .i64 (Y4 k))/\w.cell? ⟨(ad.add (k * 6)).block,(ad.add (k * 6)).off+5,none⟩=some (.int .i64 (Y5 k))))
  (HE:Hid (∀ k,(((X0 k).toList==(Y0 k).toList)&&(((X1 k).toList==(Y1 k).toList)&&((X2 k==Y2 k)&&((X3 k==Y3 k)&&((X4 k==Y4 k)&&true)))))=E k))
  (H0:Hid (n≠m->r=false)) (H1:Hid (n=m->∀ k,k<n->E k=false->r=false)) (H2:Hid (n=m->(∀ k,k<n->E k=true)->r=true)):
  Calls Tryz.prog 26 #[.slice a n ca,.slice b m cb,.bool false] w λe w'=>e= .returned (.bool r)/\Keep w w':=by
 by_cases hnm:n=m
 ·subst hnm;replace H1:=zh ((uq H1) rfl);replace H2:=zh ((uq H2) rfl);go_enter Tryz.func26,Tryz.ntmps26;go_wp2_with fail
  go_loopw [7] (λv7 wr=>∃ k:Nat,k<=n/\v7= .int .i64 (k:Int)/\Hid (Keep w wr)/\Hid (∀ j,j<k->E j=true)) (λv7 _=>n - (intOf v7).toNat)
  case atStart=>exact⟨0,Nat.zero_le _,rfl,zh (zk _),zh λj hj=>by omega⟩
  case round=>
   obtain⟨k,hk,rfl,HK,HI⟩:=hrel;by_cases hlt:k<n
   ·have li:(k:Int)<(n:Int):=by omega
    have lz:(0:Int)<=(k:Int):=by omega
    obtain⟨ad,rfl,p0,p1,p2,p3,p4,p5⟩:=(uq HA) k hlt;obtain⟨bd,rfl,q0,q1,q2,q3,q4,q5⟩:=(uq HB) k hlt;have he:=(uq HE) k;have HF:=zh ((uq H1) k hlt);generalize hE:E k=ek at he HF;have HEK:=zh hE;clear hE;generalize X0 k=x0 at p0 he;generalize Y0 k=y0 at q0 he;generalize X1 k=x1 at p1 he;generalize Y1 k=y1 at q1 he;generalize X2 k=x2 at p2 he;generalize Y2 k=y2 at q2 he;generalize X3 k=x3 at p3 he;generalize Y3 k=y3 at q3 he;generalize X4 k=x4 at p4 he;generalize Y4 k=y4 at q4 he;generalize X5 k=x5 at p5;generalize Y5 k=y5 at q5;have HC:Hid (∀ w',Keep w w'->w'.cell? (ad.add (k * 6))=some (.string (x0))/\w'.cell? ⟨(ad.add (k * 6)).block,(ad.add (k * 6)).off+1,none⟩=some (.string (x1))/\w'.cell? ⟨(ad.add (k * 6)).block,(ad.add (k * 6)).off+2,none⟩=some (.int .i64 (x2))/\w'.cell? ⟨(ad.add (k * 6)).block,(ad.add (k * 6)).off+3,none⟩=some (.int .i64 (x3))/\w'.cell? ⟨(ad.add (k * 6)).block,(ad.add (k * 6)).off+4,none⟩=some (.int .i64 (x4))/\w'.cell? ⟨(ad.add (k * 6)).block,(ad.add (k * 6)).off+5,none⟩=some (.int .i64 (x5))/\w'.cell? (bd.add (k * 6))=some (.string (y0))/\w'.cell? ⟨(bd.add (k * 6)).block,(bd.add (k * 6)).off+1,none⟩=some (.string (y1))/\w'.cell? ⟨(bd.add (k * 6)).block,(bd.add (k * 6)).off+2,none⟩=some (.int .i64 (y2))/\w'.cell? ⟨(bd.add (k * 6)).block,(bd.add (k * 6)).off+3,none⟩=some (.int .i64 (y3))/\w'.cell? ⟨(bd.add (k * 6)).block,(bd.add (k * 6)).off+4,none⟩=some (.int .i64 (y4))/\w'.cell? ⟨(bd.add (k * 6)).block,(bd.add (k * 6)).off+5,none⟩=some (.int .i64 (y5))):=λw' hk=>⟨Keep.cell' hk p0,Keep.cell' hk p1,Keep.cell' hk p2,Keep.cell' hk p3,Keep.cell' hk p4,Keep.cell' hk p5,Keep.cell' hk q0,Keep.cell' hk q1,Keep.cell' hk q2,Keep.cell' hk q3,Keep.cell' hk q4,Keep.cell' hk q5⟩
    clear p0 q0 p1 q1 p2 q2 p3 q3 p4 q4 p5 q5;have HEQ:=zh he;clear he
    go_upto_region 6 with fail
    go_cut [8,9] (λs8 s9 wc=>∃ p q,s8= .pointer (some ⟨p,0,none⟩)/\s9= .pointer (some ⟨q,0,none⟩)/\p≠q/\w.heap.size<=p/\Bxs wc p #[.string x0,.string x1,.int .i64 x2,.int .i64 x3,.int .i64 x4,.int .i64 x5] 79/\Bxs wc q #[.string y0,.string y1,.int .i64 y2,.int .i64 y3,.int .i64 y4,.int .i64 y5] 79/\Keep w wc)
    case first=>
     refine wp_region_held_drew (S:=(λw'=>w'.cell? (ad.add (k * 6))=some (.string (x0))/\w'.cell? ⟨(ad.add (k * 6)).block,(ad.add (k * 6)).off+1,none⟩=some (.string (x1))/\w'.cell? ⟨(ad.add (k * 6)).block,(ad.add (k * 6)).off+2,none⟩=some (.int .i64 (x2))/\w'.cell? ⟨(ad.add (k * 6)).block,(ad.add (k * 6)).off+3,none⟩=some (.int .i64 (x3))/\w'.cell? ⟨(ad.add (k * 6)).block,(ad.add (k * 6)).off+4,none⟩=some (.int .i64 (x4))/\w'.cell? ⟨(ad.add (k * 6)).block,(ad.add (k * 6)).off+5,none⟩=some (.int .i64 (x5))/\w'.cell? (bd.add (k * 6))=some (.string (y0))/\w'.cell? ⟨(bd.add (k * 6)).block,(bd.add (k * 6)).off+1,none⟩=some (.string (y1))/\w'.cell? ⟨(bd.add (k * 6)).block,(bd.add (k * 6)).off+2,none⟩=some (.int .i64 (y2))/\w'.cell? ⟨(bd.add (k * 6)).block,(bd.add (k * 6)).off+3,none⟩=some (.int .i64 (y3))/\w'.cell? ⟨(bd.add (k * 6)).block,(bd.add (k * 6)).off+4,none⟩=some (.int .i64 (y4))/\w'.cell? ⟨(bd.add (k * 6)).block,(bd.add (k * 6)).off+5,none⟩=some (.int .i64 (y5)))) (by kernel_rfl) (by exact uq HC _ ((uq HK).trans ((zk _).drew))) (λzH=>?_);refine tk6 0 21 1 22 2 23 3 24 4 25 5 26 zH ?_;try simp only[Yq]
     refine tk2 6 27 7 28 zH ?_;try simp only[Yq]
     refine wpAnyH_ready (rs:= [8,9]) (by kernel_rfl) (by simp) ?_;refine AllReadyH.cons rfl (λK hK=>?_) (AllReadyH.cons rfl (λK hK=>?_) AllReadyH.nil)
     ·skip
      go_simp;clear zH;refine hK.out _ _ ?_ (λzH=>?_)
      ·exact uq HC _ ((uq HK).trans (by repeat(first|(refine Below.setCell ?_ (by simp) _)|apply zaa|apply Keep.alloc|apply Keep.drew|exact zk _)))
      clear hK K;try simp only[Yq]
      refine zaq 9 (λK hK=>?_);go_simp;clear zH;refine hK.out _ _ ?_ (λzH=>?_)
      ·exact uq HC _ ((uq HK).trans (by repeat(first|(refine Below.setCell ?_ (by simp) _)|apply zaa|apply Keep.alloc|apply Keep.drew|exact zk _)))
      clear hK K;try simp only[Yq]
      refine zaq 10 (λK hK=>?_);go_simp;clear zH;refine hK.out _ _ ?_ (λzH=>?_)
      ·exact uq HC _ ((uq HK).trans (by repeat(first|(refine Below.setCell ?_ (by simp) _)|apply zaa|apply Keep.alloc|apply Keep.drew|exact zk _)))
      clear hK K;try simp only[Yq]
      refine zaq 11 (λK hK=>?_);go_simp;clear zH;refine hK.out _ _ ?_ (λzH=>?_)
      ·exact uq HC _ ((uq HK).trans (by repeat(first|(refine Below.setCell ?_ (by simp) _)|apply zaa|apply Keep.alloc|apply Keep.drew|exact zk _)))
      clear hK K;try simp only[Yq]
      refine wpAnyH_done (by kernel_rfl) ?_ _;clear zH;go_wp2_with fail
      go_meet;exact⟨_,_,rfl,rfl,by omega,(uq HK).size,zcb _ _ _,bxs_new _ _ _,(uq HK).trans (by repeat(first|apply Keep.drew|apply Keep.alloc|exact zk _))⟩
     ·skip
      go_simp;clear zH;refine hK.out _ _ ?_ (λzH=>?_)
      ·exact uq HC _ ((uq HK).trans (by repeat(first|(refine Below.setCell ?_ (by simp) _)|apply zaa|apply Keep.alloc|apply Keep.drew|exact zk _)))
      clear hK K;try simp only[Yq]
      refine zaq 8 (λK hK=>?_);go_simp;clear zH;refine hK.out _ _ ?_ (λzH=>?_)
      ·exact uq HC _ ((uq HK).trans (by repeat(first|(refine Below.setCell ?_ (by simp) _)|apply zaa|apply Keep.alloc|apply Keep.drew|exact zk _)))
      clear hK K;try simp only[Yq]
      refine zaq 10 (λK hK=>?_);go_simp;clear zH;refine hK.out _ _ ?_ (λzH=>?_)
      ·exact uq HC _ ((uq HK).trans (by repeat(first|(refine Below.setCell ?_ (by simp) _)|apply zaa|apply Keep.alloc|apply Keep.drew|exact zk _)))
      clear hK K;try simp only[Yq]
      refine zaq 11 (λK hK=>?_);go_simp;clear zH;refine hK.out _ _ ?_ (λzH=>?_)
      ·exact uq HC _ ((uq HK).trans (by repeat(first|(refine Below.setCell ?_ (by simp) _)|apply zaa|apply Keep.alloc|apply Keep.drew|exact zk _)))
      clear hK K;try simp only[Yq]
      refine wpAnyH_done (by kernel_rfl) ?_ _;clear zH;go_wp2_with fail
      go_meet;exact⟨_,_,rfl,rfl,by omega,Nat.le_succ_of_le (uq HK).size,bxs_new _ _ _,zcb _ _ _,(uq HK).trans (by repeat(first|apply Keep.drew|apply Keep.alloc|exact zk _))⟩
    case rest=>
     obtain⟨p,q,rfl,rfl,hpq,hp,bp,bq,hkc⟩:=hcut;have HKC:=zh hkc;have hpq2:¬q=p:=λe=>hpq e.symm
     have cx0:wc.cell? ⟨p,0,none⟩=some (.string x0):=by unfold Bxs at bp;simp[World.cell?,bp]
     have cy0:wc.cell? ⟨q,0,none⟩=some (.string y0):=by unfold Bxs at bq;simp[World.cell?,bq]
     have cx1:wc.cell? ⟨p,1,none⟩=some (.string x1):=by unfold Bxs at bp;simp[World.cell?,bp]
     have cy1:wc.cell? ⟨q,1,none⟩=some (.string y1):=by unfold Bxs at bq;simp[World.cell?,bq]
     have cx2:wc.cell? ⟨p,2,none⟩=some (.int .i64 x2):=by unfold Bxs at bp;simp[World.cell?,bp]
     have cy2:wc.cell? ⟨q,2,none⟩=some (.int .i64 y2):=by unfold Bxs at bq;simp[World.cell?,bq]
     have cx3:wc.cell? ⟨p,3,none⟩=some (.int .i64 x3):=by unfold Bxs at bp;simp[World.cell?,bp]
     have cy3:wc.cell? ⟨q,3,none⟩=some (.int .i64 y3):=by unfold Bxs at bq;simp[World.cell?,bq]
     have cx4:wc.cell? ⟨p,4,none⟩=some (.int .i64 x4):=by unfold Bxs at bp;simp[World.cell?,bp]
     have cy4:wc.cell? ⟨q,4,none⟩=some (.int .i64 y4):=by unfold Bxs at bq;simp[World.cell?,bq]
     have cx5:wc.cell? ⟨p,5,none⟩=some (.int .i64 x5):=by unfold Bxs at bp;simp[World.cell?,bp]
     have cy5:wc.cell? ⟨q,5,none⟩=some (.int .i64 y5):=by unfold Bxs at bq;simp[World.cell?,bq]
     have fz:wc.frozen? ⟨p,5,none⟩=false:=by unfold Bxs at bp;simp[World.frozen?,bp]
     replace HKC:Hid (Keep w (wc.setCell ⟨p,5,none⟩ (.int .i64 y5))):=zh (Below.setCell (uq HKC) (by exact hp) _);clear bp bq hkc;cases ek with
     |false=>
      have hr:=(uq HF) rfl;subst hr;go_wp2_with fail
      all_goals first
       |(go_ret;exact⟨rfl,uq HKC⟩)
       |(exfalso;have he:=uq HEQ;simp[*]at he)
     |true=>
      have he:=uq HEQ;simp only[Bool.and_eq_true,beq_iff_eq,and_true]at he;obtain⟨e0,e1,e2,e3,e4⟩:=he;go_wp2_with fail
      go_roundw
      case rel=>exact⟨k+1,hlt,by go_num,HKC,zh λj hj=>(Nat.lt_succ_iff_lt_or_eq.1 hj).elim ((uq HI) j) (λe=>e▸uq HEK)⟩
      case measure=>simp[intOf];omega
   ·have:k=n:=by omega
    subst this;have hr:=(uq H2) (uq HI);subst hr;go_wp2_with fail
    go_ret;exact⟨rfl,uq HK⟩
 ·have hr:=(uq H0) hnm;subst hr;have hne:((n:Int) !=(m:Int))=true:=by simp;omega
  have hne2:((n:Int)==(m:Int))=false:=by simp;omega
  have hne3:¬(n:Int)=(m:Int):=by omega
  have hne4:¬n=m:=hnm;go_enter Tryz.func26,Tryz.ntmps26;go_wp2_with fail
  go_ret;exact⟨rfl,zk _⟩
set_option maxHeartbeats 8000000 in
theorem zg0 (a b:Option Addr) (n m ca cb:Nat) (X0 Y0:Nat->ByteArray) (X1 Y1:Nat->ByteArray) (X2 Y2:Nat->ByteArray) (X3 Y3:Nat->Int) (X4 Y4:Nat->Int) (X5 Y5:Nat->Int) (E:Nat->Bool) (r:Bool) (w:World) (hn:n<=100000) (hm:m<=100000)
  (HA:Hid (∀ k,k<n->∃ ad,a=some ad/\w.cell? (ad.add (k * 6))=some (.string (X0 k))/\w.cell? ⟨(ad.add (k * 6)).block,(ad.add (k * 6)).off+1,none⟩=some (.string (X1 k))/\w.cell? ⟨(ad.add (k * 6)).block,(ad.add (k * 6)).off+2,none⟩=some (.string (X2 k))/\w.cell? ⟨(ad.add (k * 6)).block,(ad.add (k * 6)).off+3,none⟩=some (.int .i64 (X3 k))/\w.cell? ⟨(ad.add (k * 6)).block,(ad.add (k * 6)).off+4,none⟩=some (.int .i64 (X4 k))/\w.cell? ⟨(ad.add (k * 6)).block,(ad.add (k * 6)).off+5,none⟩=some (.int .i64 (X5 k))))
  (HB:Hid (∀ k,k<m->∃ ad,b=some ad/\w.cell? (ad.add (k * 6))=some (.string (Y0 k))/\w.cell? ⟨(ad.add (k * 6)).block,(ad.add (k * 6)).off+1,none⟩=some (.string (Y1 k))/\w.cell? ⟨(ad.add (k * 6)).block,(ad.add (k * 6)).off+2,none⟩=some (.string (Y2 k))/\w.cell? ⟨(ad.add (k * 6)).block,(ad.add (k * 6)).off+3,none⟩=some (.int .i64 (Y3 k))/\w.cell? ⟨(ad.add (k * 6)).block,(ad.add (k * 6)).off+4,none⟩=some (.int .i64 (Y4 k))/\w.cell? ⟨(ad.add (k * 6)).block,(ad.add (k * 6)).off+5,none⟩=some (.int .i64 (Y5 k))))
  (HE:Hid (∀ k,(((X0 k).toList==(Y0 k).toList)&&(((X1 k).toList==(Y1 k).toList)&&(((X2 k).toList==(Y2 k).toList)&&((X3 k==Y3 k)&&((X4 k==Y4 k)&&true)))))=E k))
  (H0:Hid (n≠m->r=false)) (H1:Hid (n=m->∀ k,k<n->E k=false->r=false)) (H2:Hid (n=m->(∀ k,k<n->E k=true)->r=true)):
  Calls Tryz.prog 24 #[.slice a n ca,.slice b m cb,.bool false] w λe w'=>e= .returned (.bool r)/\Keep w w':=by
 by_cases hnm:n=m
 ·subst hnm;replace H1:=zh ((uq H1) rfl);replace H2:=zh ((uq H2) rfl);go_enter Tryz.func24,Tryz.ntmps24;go_wp2_with fail
  go_loopw [7] (λv7 wr=>∃ k:Nat,k<=n/\v7= .int .i64 (k:Int)/\Hid (Keep w wr)/\Hid (∀ j,j<k->E j=true)) (λv7 _=>n - (intOf v7).toNat)
  case atStart=>exact⟨0,Nat.zero_le _,rfl,zh (zk _),zh λj hj=>by omega⟩
  case round=>
   obtain⟨k,hk,rfl,HK,HI⟩:=hrel;by_cases hlt:k<n
   ·have li:(k:Int)<(n:Int):=by omega
    have lz:(0:Int)<=(k:Int):=by omega
    obtain⟨ad,rfl,p0,p1,p2,p3,p4,p5⟩:=(uq HA) k hlt;obtain⟨bd,rfl,q0,q1,q2,q3,q4,q5⟩:=(uq HB) k hlt;have he:=(uq HE) k;have HF:=zh ((uq H1) k hlt);generalize hE:E k=ek at he HF;have HEK:=zh hE;clear hE;generalize X0 k=x0 at p0 he;generalize Y0 k=y0 at q0 he;generalize X1 k=x1 at p1 he;generalize Y1 k=y1 at q1 he;generalize X2 k=x2 at p2 he;generalize Y2 k=y2 at q2 he;generalize X3 k=x3 at p3 he;generalize Y3 k=y3 at q3 he;generalize X4 k=x4 at p4 he;generalize Y4 k=y4 at q4 he;generalize X5 k=x5 at p5;generalize Y5 k=y5 at q5;have HC:Hid (∀ w',Keep w w'->w'.cell? (ad.add (k * 6))=some (.string (x0))/\w'.cell? ⟨(ad.add (k * 6)).block,(ad.add (k * 6)).off+1,none⟩=some (.string (x1))/\w'.cell? ⟨(ad.add (k * 6)).block,(ad.add (k * 6)).off+2,none⟩=some (.string (x2))/\w'.cell? ⟨(ad.add (k * 6)).block,(ad.add (k * 6)).off+3,none⟩=some (.int .i64 (x3))/\w'.cell? ⟨(ad.add (k * 6)).block,(ad.add (k * 6)).off+4,none⟩=some (.int .i64 (x4))/\w'.cell? ⟨(ad.add (k * 6)).block,(ad.add (k * 6)).off+5,none⟩=some (.int .i64 (x5))/\w'.cell? (bd.add (k * 6))=some (.string (y0))/\w'.cell? ⟨(bd.add (k * 6)).block,(bd.add (k * 6)).off+1,none⟩=some (.string (y1))/\w'.cell? ⟨(bd.add (k * 6)).block,(bd.add (k * 6)).off+2,none⟩=some (.string (y2))/\w'.cell? ⟨(bd.add (k * 6)).block,(bd.add (k * 6)).off+3,none⟩=some (.int .i64 (y3))/\w'.cell? ⟨(bd.add (k * 6)).block,(bd.add (k * 6)).off+4,none⟩=some (.int .i64 (y4))/\w'.cell? ⟨(bd.add (k * 6)).block,(bd.add (k * 6)).off+5,none⟩=some (.int .i64 (y5))):=λw' hk=>⟨Keep.cell' hk p0,Keep.cell' hk p1,Keep.cell' hk p2,Keep.cell' hk p3,Keep.cell' hk p4,Keep.cell' hk p5,Keep.cell' hk q0,Keep.cell' hk q1,Keep.cell' hk q2,Keep.cell' hk q3,Keep.cell' hk q4,Keep.cell' hk q5⟩
    clear p0 q0 p1 q1 p2 q2 p3 q3 p4 q4 p5 q5;have HEQ:=zh he;clear he
    go_upto_region 6 with fail
    go_cut [8,9] (λs8 s9 wc=>∃ p q,s8= .pointer (some ⟨p,0,none⟩)/\s9= .pointer (some ⟨q,0,none⟩)/\p≠q/\w.heap.size<=p/\Bxs wc p #[.string x0,.string x1,.string x2,.int .i64 x3,.int .i64 x4,.int .i64 x5] 48/\Bxs wc q #[.string y0,.string y1,.string y2,.int .i64 y3,.int .i64 y4,.int .i64 y5] 48/\Keep w wc)
    case first=>
     refine wp_region_held_drew (S:=(λw'=>w'.cell? (ad.add (k * 6))=some (.string (x0))/\w'.cell? ⟨(ad.add (k * 6)).block,(ad.add (k * 6)).off+1,none⟩=some (.string (x1))/\w'.cell? ⟨(ad.add (k * 6)).block,(ad.add (k * 6)).off+2,none⟩=some (.string (x2))/\w'.cell? ⟨(ad.add (k * 6)).block,(ad.add (k * 6)).off+3,none⟩=some (.int .i64 (x3))/\w'.cell? ⟨(ad.add (k * 6)).block,(ad.add (k * 6)).off+4,none⟩=some (.int .i64 (x4))/\w'.cell? ⟨(ad.add (k * 6)).block,(ad.add (k * 6)).off+5,none⟩=some (.int .i64 (x5))/\w'.cell? (bd.add (k * 6))=some (.string (y0))/\w'.cell? ⟨(bd.add (k * 6)).block,(bd.add (k * 6)).off+1,none⟩=some (.string (y1))/\w'.cell? ⟨(bd.add (k * 6)).block,(bd.add (k * 6)).off+2,none⟩=some (.string (y2))/\w'.cell? ⟨(bd.add (k * 6)).block,(bd.add (k * 6)).off+3,none⟩=some (.int .i64 (y3))/\w'.cell? ⟨(bd.add (k * 6)).block,(bd.add (k * 6)).off+4,none⟩=some (.int .i64 (y4))/\w'.cell? ⟨(bd.add (k * 6)).block,(bd.add (k * 6)).off+5,none⟩=some (.int .i64 (y5)))) (by kernel_rfl) (by exact uq HC _ ((uq HK).trans ((zk _).drew))) (λzH=>?_);refine tk6 0 21 1 22 2 23 3 24 4 25 5 26 zH ?_;try simp only[Yq]
     refine tk2 6 27 7 28 zH ?_;try simp only[Yq]
     refine wpAnyH_ready (rs:= [8,9]) (by kernel_rfl) (by simp) ?_;refine AllReadyH.cons rfl (λK hK=>?_) (AllReadyH.cons rfl (λK hK=>?_) AllReadyH.nil)
     ·skip
      go_simp;clear zH;refine hK.out _ _ ?_ (λzH=>?_)
      ·exact uq HC _ ((uq HK).trans (by repeat(first|(refine Below.setCell ?_ (by simp) _)|apply zaa|apply Keep.alloc|apply Keep.drew|exact zk _)))
      clear hK K;try simp only[Yq]
      refine zaq 9 (λK hK=>?_);go_simp;clear zH;refine hK.out _ _ ?_ (λzH=>?_)
      ·exact uq HC _ ((uq HK).trans (by repeat(first|(refine Below.setCell ?_ (by simp) _)|apply zaa|apply Keep.alloc|apply Keep.drew|exact zk _)))
      clear hK K;try simp only[Yq]
      refine zaq 10 (λK hK=>?_);go_simp;clear zH;refine hK.out _ _ ?_ (λzH=>?_)
      ·exact uq HC _ ((uq HK).trans (by repeat(first|(refine Below.setCell ?_ (by simp) _)|apply zaa|apply Keep.alloc|apply Keep.drew|exact zk _)))
      clear hK K;try simp only[Yq]
      refine zaq 11 (λK hK=>?_);go_simp;clear zH;refine hK.out _ _ ?_ (λzH=>?_)
      ·exact uq HC _ ((uq HK).trans (by repeat(first|(refine Below.setCell ?_ (by simp) _)|apply zaa|apply Keep.alloc|apply Keep.drew|exact zk _)))
      clear hK K;try simp only[Yq]
      refine wpAnyH_done (by kernel_rfl) ?_ _;clear zH;go_wp2_with fail
      go_meet;exact⟨_,_,rfl,rfl,by omega,(uq HK).size,zcb _ _ _,bxs_new _ _ _,(uq HK).trans (by repeat(first|apply Keep.drew|apply Keep.alloc|exact zk _))⟩
     ·skip
      go_simp;clear zH;refine hK.out _ _ ?_ (λzH=>?_)
      ·exact uq HC _ ((uq HK).trans (by repeat(first|(refine Below.setCell ?_ (by simp) _)|apply zaa|apply Keep.alloc|apply Keep.drew|exact zk _)))
      clear hK K;try simp only[Yq]
      refine zaq 8 (λK hK=>?_);go_simp;clear zH;refine hK.out _ _ ?_ (λzH=>?_)
      ·exact uq HC _ ((uq HK).trans (by repeat(first|(refine Below.setCell ?_ (by simp) _)|apply zaa|apply Keep.alloc|apply Keep.drew|exact zk _)))
      clear hK K;try simp only[Yq]
      refine zaq 10 (λK hK=>?_);go_simp;clear zH;refine hK.out _ _ ?_ (λzH=>?_)
      ·exact uq HC _ ((uq HK).trans (by repeat(first|(refine Below.setCell ?_ (by simp) _)|apply zaa|apply Keep.alloc|apply Keep.drew|exact zk _)))
      clear hK K;try simp only[Yq]
      refine zaq 11 (λK hK=>?_);go_simp;clear zH;refine hK.out _ _ ?_ (λzH=>?_)
      ·exact uq HC _ ((uq HK).trans (by repeat(first|(refine Below.setCell ?_ (by simp) _)|apply zaa|apply Keep.alloc|apply Keep.drew|exact zk _)))
      clear hK K;try simp only[Yq]
      refine wpAnyH_done (by kernel_rfl) ?_ _;clear zH;go_wp2_with fail
      go_meet;exact⟨_,_,rfl,rfl,by omega,Nat.le_succ_of_le (uq HK).size,bxs_new _ _ _,zcb _ _ _,(uq HK).trans (by repeat(first|apply Keep.drew|apply Keep.alloc|exact zk _))⟩
    case rest=>
     obtain⟨p,q,rfl,rfl,hpq,hp,bp,bq,hkc⟩:=hcut;have HKC:=zh hkc;have hpq2:¬q=p:=λe=>hpq e.symm
     have cx0:wc.cell? ⟨p,0,none⟩=some (.string x0):=by unfold Bxs at bp;simp[World.cell?,bp]
     have cy0:wc.cell? ⟨q,0,none⟩=some (.string y0):=by unfold Bxs at bq;simp[World.cell?,bq]
     have cx1:wc.cell? ⟨p,1,none⟩=some (.string x1):=by unfold Bxs at bp;simp[World.cell?,bp]
     have cy1:wc.cell? ⟨q,1,none⟩=some (.string y1):=by unfold Bxs at bq;simp[World.cell?,bq]
     have cx2:wc.cell? ⟨p,2,none⟩=some (.string x2):=by unfold Bxs at bp;simp[World.cell?,bp]
     have cy2:wc.cell? ⟨q,2,none⟩=some (.string y2):=by unfold Bxs at bq;simp[World.cell?,bq]
     have cx3:wc.cell? ⟨p,3,none⟩=some (.int .i64 x3):=by unfold Bxs at bp;simp[World.cell?,bp]
     have cy3:wc.cell? ⟨q,3,none⟩=some (.int .i64 y3):=by unfold Bxs at bq;simp[World.cell?,bq]
     have cx4:wc.cell? ⟨p,4,none⟩=some (.int .i64 x4):=by unfold Bxs at bp;simp[World.cell?,bp]
     have cy4:wc.cell? ⟨q,4,none⟩=some (.int .i64 y4):=by unfold Bxs at bq;simp[World.cell?,bq]
     have cx5:wc.cell? ⟨p,5,none⟩=some (.int .i64 x5):=by unfold Bxs at bp;simp[World.cell?,bp]
     have cy5:wc.cell? ⟨q,5,none⟩=some (.int .i64 y5):=by unfold Bxs at bq;simp[World.cell?,bq]
     have fz:wc.frozen? ⟨p,5,none⟩=false:=by unfold Bxs at bp;simp[World.frozen?,bp]
     replace HKC:Hid (Keep w (wc.setCell ⟨p,5,none⟩ (.int .i64 y5))):=zh (Below.setCell (uq HKC) (by exact hp) _);clear bp bq hkc;cases ek with
     |false=>
      have hr:=(uq HF) rfl;subst hr;go_wp2_with fail
      all_goals first
       |(go_ret;exact⟨rfl,uq HKC⟩)
       |(exfalso;have he:=uq HEQ;simp[*]at he)
     |true=>
      have he:=uq HEQ;simp only[Bool.and_eq_true,beq_iff_eq,and_true]at he;obtain⟨e0,e1,e2,e3,e4⟩:=he;go_wp2_with fail
      go_roundw
      case rel=>exact⟨k+1,hlt,by go_num,HKC,zh λj hj=>(Nat.lt_succ_iff_lt_or_eq.1 hj).elim ((uq HI) j) (λe=>e▸uq HEK)⟩
      case measure=>simp[intOf];omega
   ·have:k=n:=by omega
    subst this;have hr:=(uq H2) (uq HI);subst hr;go_wp2_with fail
    go_ret;exact⟨rfl,uq HK⟩
 ·have hr:=(uq H0) hnm;subst hr;have hne:((n:Int) !=(m:Int))=true:=by simp;omega
  have hne2:((n:Int)==(m:Int))=false:=by simp;omega
  have hne3:¬(n:Int)=(m:Int):=by omega
  have hne4:¬n=m:=hnm;go_enter Tryz.func24,Tryz.ntmps24;go_wp2_with fail
  go_ret;exact⟨rfl,zk _⟩
end Go.Proofs.YthceiikgecoimaaGreatDoor
