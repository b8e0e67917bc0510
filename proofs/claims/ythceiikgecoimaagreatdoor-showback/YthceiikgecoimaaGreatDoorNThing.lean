/- Package net: stop. -/
import Derived.Test.YthceiikgecoimaaGreatDoorNFrac
import Derived.Test.YthceiikgecoimaaGreatDoorLVal
import Derived.Maps.AppendAt
import Derived.Test.YthceiikgecoimaaGreatDoorNCut
namespace Go.Proofs.YthceiikgecoimaaGreatDoor
open Go.RowKit
attribute [local go_sem ↓] Go.wp_at_zero Go.wp_at_succ
set_option linter.unusedVariables false
set_option linter.unusedSimpArgs false
set_option maxRecDepth 10000
set_option maxHeartbeats 4000000 in
theorem zkt (E:Env) (tb:Nat) (w:World) (r:List Tok) (A0:Hid (E.A 0=(tb,5))) (A1:Hid (E.A 1=(tb,0))) (A2:Hid (E.A 2=(tb,1))) (A3:Hid (E.A 3=(tb,2))) (A4:Hid (E.A 4=(tb,3))) (A5:Hid (E.A 5=(tb,4)))
  (HS:Hid (∀ b,E.S b->b<w.heap.size)) (HLo:Hid (E.lo<=w.heap.size)) (HR:Hid (Rdr E w r)) (HL:Hid (Cel E w [dI 0,dS [],dS [],dS [],dI 0,dI 0])):
  Calls Tryz.prog 129 #[.pointer (some ⟨E.rb,0,none⟩),.pointer (some ⟨tb,0,none⟩)] w (zcu E w [] 6 (sq [zaO,zai,zad [111,117,116],zai,zad [105,110],zai,zad [97,104,101,97,100],zar,zad [98,97,99,107],zar,zad [59]] [] r)):=by
 have HK0:=zh (zk w).drew;have HS0:Hid (∀ b,E.S b->b<w.drew.heap.size):=HS;have HLo0:Hid (E.lo<=w.drew.heap.size):=HLo;go_enter Tryz.func129,Tryz.ntmps129;go_wp2_with fail
 refine wp_region_held_drew (S:=λ_=>True) (by kernel_rfl) (by trivial) (λzH=>?_);refine tk6 0 5 1 6 2 7 3 8 5 10 6 11 zH ?_;try simp only[Yq]
 refine tk6 7 12 8 13 10 15 12 17 13 18 14 19 zH ?_;try simp only[Yq]
 refine tk6 15 20 17 22 19 24 20 25 21 26 22 27 zH ?_;try simp only[Yq]
 refine tk6 24 29 26 31 27 32 28 33 29 34 31 36 zH ?_;try simp only[Yq]
 refine tk4 33 38 34 39 35 40 36 41 zH ?_;try simp only[Yq]
 refine tkk 38 43 zH ?_;try simp only[Yq]
 refine zap 4 (λK hK=>?_);go_simp;clear zH;(refine(zc2 (E:=E) (dI 0) (0) _ _ (uq A0) _ (uq HS0)).mono ?_;rintro e w1 ⟨f1,x1,y1,rfl,hk,hd⟩;have HS1:=zh (zae (uq HS0) hk);have HLo1:=zh (zah (uq HLo0) hk);have HK1:=zh ((uq HK0).trans hk);have HC1:Hid (zaw E w1 (0) [(.func (.func f1) x1 y1,[dI 0],zaO)]):=zh ⟨hd,trivial⟩;clear hk hd);try go_wp2_with fail
 refine hK.out _ _ ?_ (λzH=>?_)
 ·trivial
 clear hK K;try simp only[Yq]
 refine zap 9 (λK hK=>?_);go_simp;clear zH;(refine(zax (E:=E) (dS []) (1) _ _ (uq A1) _ (uq HS1)).mono ?_;rintro e w2 ⟨f2,x2,y2,rfl,hk,hd⟩;have HS2:=zh (zae (uq HS1) hk);have HLo2:=zh (zah (uq HLo1) hk);have HK2:=zh ((uq HK1).trans hk);have HC2:Hid (zaw E w2 (0) [(.func (.func f1) x1 y1,[dI 0],zaO),(.func (.func f2) x2 y2,[dS []],zai)]):=zh (zab (uq HC1) hk hd);clear hk hd);try go_wp2_with fail
 refine hK.out _ _ ?_ (λzH=>?_)
 ·trivial
 clear hK K;try simp only[Yq]
 refine zap 11 (λK hK=>?_);go_simp;clear zH;(refine(zaG (E:=E) [111,117,116] (by decide) (2) _ (uq HS2)).mono ?_;rintro e w3 ⟨f3,x3,y3,rfl,hk,hd⟩;have HS3:=zh (zae (uq HS2) hk);have HLo3:=zh (zah (uq HLo2) hk);have HK3:=zh ((uq HK2).trans hk);have HC3:Hid (zaw E w3 (0) [(.func (.func f1) x1 y1,[dI 0],zaO),(.func (.func f2) x2 y2,[dS []],zai),(.func (.func f3) x3 y3,[],zad [111,117,116])]):=zh (zab (uq HC2) hk hd);clear hk hd);try go_wp2_with fail
 refine hK.out _ _ ?_ (λzH=>?_)
 ·trivial
 clear hK K;try simp only[Yq]
 refine zap 16 (λK hK=>?_);go_simp;clear zH;(refine(zax (E:=E) (dS []) (2) _ _ (uq A2) _ (uq HS3)).mono ?_;rintro e w4 ⟨f4,x4,y4,rfl,hk,hd⟩;have HS4:=zh (zae (uq HS3) hk);have HLo4:=zh (zah (uq HLo3) hk);have HK4:=zh ((uq HK3).trans hk);have HC4:Hid (zaw E w4 (0) [(.func (.func f1) x1 y1,[dI 0],zaO),(.func (.func f2) x2 y2,[dS []],zai),(.func (.func f3) x3 y3,[],zad [111,117,116]),(.func (.func f4) x4 y4,[dS []],zai)]):=zh (zab (uq HC3) hk hd);clear hk hd);try go_wp2_with fail
 refine hK.out _ _ ?_ (λzH=>?_)
 ·trivial
 clear hK K;try simp only[Yq]
 refine zap 18 (λK hK=>?_);go_simp;clear zH;(refine(zaG (E:=E) [105,110] (by decide) (3) _ (uq HS4)).mono ?_;rintro e w5 ⟨f5,x5,y5,rfl,hk,hd⟩;have HS5:=zh (zae (uq HS4) hk);have HLo5:=zh (zah (uq HLo4) hk);have HK5:=zh ((uq HK4).trans hk);have HC5:Hid (zaw E w5 (0) [(.func (.func f1) x1 y1,[dI 0],zaO),(.func (.func f2) x2 y2,[dS []],zai),(.func (.func f3) x3 y3,[],zad [111,117,116]),(.func (.func f4) x4 y4,[dS []],zai),(.func (.func f5) x5 y5,[],zad [105,110])]):=zh (zab (uq HC4) hk hd);clear hk hd);try go_wp2_with fail
 refine hK.out _ _ ?_ (λzH=>?_)
 ·trivial
 clear hK K;try simp only[Yq]
 refine zap 23 (λK hK=>?_);go_simp;clear zH;(refine(zax (E:=E) (dS []) (3) _ _ (uq A3) _ (uq HS5)).mono ?_;rintro e w6 ⟨f6,x6,y6,rfl,hk,hd⟩;have HS6:=zh (zae (uq HS5) hk);have HLo6:=zh (zah (uq HLo5) hk);have HK6:=zh ((uq HK5).trans hk);have HC6:Hid (zaw E w6 (0) [(.func (.func f1) x1 y1,[dI 0],zaO),(.func (.func f2) x2 y2,[dS []],zai),(.func (.func f3) x3 y3,[],zad [111,117,116]),(.func (.func f4) x4 y4,[dS []],zai),(.func (.func f5) x5 y5,[],zad [105,110]),(.func (.func f6) x6 y6,[dS []],zai)]):=zh (zab (uq HC5) hk hd);clear hk hd);try go_wp2_with fail
 refine hK.out _ _ ?_ (λzH=>?_)
 ·trivial
 clear hK K;try simp only[Yq]
 refine zap 25 (λK hK=>?_);go_simp;clear zH;(refine(zaG (E:=E) [97,104,101,97,100] (by decide) (4) _ (uq HS6)).mono ?_;rintro e w7 ⟨f7,x7,y7,rfl,hk,hd⟩;have HS7:=zh (zae (uq HS6) hk);have HLo7:=zh (zah (uq HLo6) hk);have HK7:=zh ((uq HK6).trans hk);have HC7:Hid (zaw E w7 (0) [(.func (.func f1) x1 y1,[dI 0],zaO),(.func (.func f2) x2 y2,[dS []],zai),(.func (.func f3) x3 y3,[],zad [111,117,116]),(.func (.func f4) x4 y4,[dS []],zai),(.func (.func f5) x5 y5,[],zad [105,110]),(.func (.func f6) x6 y6,[dS []],zai),(.func (.func f7) x7 y7,[],zad [97,104,101,97,100])]):=zh (zab (uq HC6) hk hd);clear hk hd);try go_wp2_with fail
 refine hK.out _ _ ?_ (λzH=>?_)
 ·trivial
 clear hK K;try simp only[Yq]
 refine zap 30 (λK hK=>?_);go_simp;clear zH;(refine(zaB (E:=E) (dI 0) (4) _ _ (uq A4) _ (uq HS7)).mono ?_;rintro e w8 ⟨f8,x8,y8,rfl,hk,hd⟩;have HS8:=zh (zae (uq HS7) hk);have HLo8:=zh (zah (uq HLo7) hk);have HK8:=zh ((uq HK7).trans hk);have HC8:Hid (zaw E w8 (0) [(.func (.func f1) x1 y1,[dI 0],zaO),(.func (.func f2) x2 y2,[dS []],zai),(.func (.func f3) x3 y3,[],zad [111,117,116]),(.func (.func f4) x4 y4,[dS []],zai),(.func (.func f5) x5 y5,[],zad [105,110]),(.func (.func f6) x6 y6,[dS []],zai),(.func (.func f7) x7 y7,[],zad [97,104,101,97,100]),(.func (.func f8) x8 y8,[dI 0],zar)]):=zh (zab (uq HC7) hk hd);clear hk hd);try go_wp2_with fail
 refine hK.out _ _ ?_ (λzH=>?_)
 ·trivial
 clear hK K;try simp only[Yq]
 refine zap 32 (λK hK=>?_);go_simp;clear zH;(refine(zaG (E:=E) [98,97,99,107] (by decide) (5) _ (uq HS8)).mono ?_;rintro e w9 ⟨f9,x9,y9,rfl,hk,hd⟩;have HS9:=zh (zae (uq HS8) hk);have HLo9:=zh (zah (uq HLo8) hk);have HK9:=zh ((uq HK8).trans hk);have HC9:Hid (zaw E w9 (0) [(.func (.func f1) x1 y1,[dI 0],zaO),(.func (.func f2) x2 y2,[dS []],zai),(.func (.func f3) x3 y3,[],zad [111,117,116]),(.func (.func f4) x4 y4,[dS []],zai),(.func (.func f5) x5 y5,[],zad [105,110]),(.func (.func f6) x6 y6,[dS []],zai),(.func (.func f7) x7 y7,[],zad [97,104,101,97,100]),(.func (.func f8) x8 y8,[dI 0],zar),(.func (.func f9) x9 y9,[],zad [98,97,99,107])]):=zh (zab (uq HC8) hk hd);clear hk hd);try go_wp2_with fail
 refine hK.out _ _ ?_ (λzH=>?_)
 ·trivial
 clear hK K;try simp only[Yq]
 refine zap 37 (λK hK=>?_);go_simp;clear zH;(refine(zaB (E:=E) (dI 0) (5) _ _ (uq A5) _ (uq HS9)).mono ?_;rintro e w10 ⟨f10,x10,y10,rfl,hk,hd⟩;have HS10:=zh (zae (uq HS9) hk);have HLo10:=zh (zah (uq HLo9) hk);have HK10:=zh ((uq HK9).trans hk);have HC10:Hid (zaw E w10 (0) [(.func (.func f1) x1 y1,[dI 0],zaO),(.func (.func f2) x2 y2,[dS []],zai),(.func (.func f3) x3 y3,[],zad [111,117,116]),(.func (.func f4) x4 y4,[dS []],zai),(.func (.func f5) x5 y5,[],zad [105,110]),(.func (.func f6) x6 y6,[dS []],zai),(.func (.func f7) x7 y7,[],zad [97,104,101,97,100]),(.func (.func f8) x8 y8,[dI 0],zar),(.func (.func f9) x9 y9,[],zad [98,97,99,107]),(.func (.func f10) x10 y10,[dI 0],zar)]):=zh (zab (uq HC9) hk hd);clear hk hd);try go_wp2_with fail
 refine hK.out _ _ ?_ (λzH=>?_)
 ·trivial
 clear hK K;try simp only[Yq]
 refine zap 39 (λK hK=>?_);go_simp;clear zH;(refine(zaG (E:=E) [59] (by decide) (6) _ (uq HS10)).mono ?_;rintro e w11 ⟨f11,x11,y11,rfl,hk,hd⟩;have HS11:=zh (zae (uq HS10) hk);have HLo11:=zh (zah (uq HLo10) hk);have HK11:=zh ((uq HK10).trans hk);have HC11:Hid (zaw E w11 (0) [(.func (.func f1) x1 y1,[dI 0],zaO),(.func (.func f2) x2 y2,[dS []],zai),(.func (.func f3) x3 y3,[],zad [111,117,116]),(.func (.func f4) x4 y4,[dS []],zai),(.func (.func f5) x5 y5,[],zad [105,110]),(.func (.func f6) x6 y6,[dS []],zai),(.func (.func f7) x7 y7,[],zad [97,104,101,97,100]),(.func (.func f8) x8 y8,[dI 0],zar),(.func (.func f9) x9 y9,[],zad [98,97,99,107]),(.func (.func f10) x10 y10,[dI 0],zar),(.func (.func f11) x11 y11,[],zad [59])]):=zh (zab (uq HC10) hk hd);clear hk hd);try go_wp2_with fail
 refine hK.out _ _ ?_ (λzH=>?_)
 ·trivial
 clear hK K;try simp only[Yq]
 refine zap 40 (λK hK=>?_);go_simp;clear zH;refine hK.out _ _ ?_ (λzH=>?_)
 ·trivial
 clear hK K;try simp only[Yq]
 refine zap 41 (λK hK=>?_);go_simp;clear zH;(refine(za5 (E:=E) (m:=0) (ss:= [(.func (.func f1) x1 y1,[dI 0],zaO),(.func (.func f2) x2 y2,[dS []],zai),(.func (.func f3) x3 y3,[],zad [111,117,116]),(.func (.func f4) x4 y4,[dS []],zai),(.func (.func f5) x5 y5,[],zad [105,110]),(.func (.func f6) x6 y6,[dS []],zai),(.func (.func f7) x7 y7,[],zad [97,104,101,97,100]),(.func (.func f8) x8 y8,[dI 0],zar),(.func (.func f9) x9 y9,[],zad [98,97,99,107]),(.func (.func f10) x10 y10,[dI 0],zar),(.func (.func f11) x11 y11,[],zad [59])]) (c:= []) (rest:= []) (r:=r) (by simp) (zaR ((zk _).alloc _) (uq HC11)) (za1 _ _ _) (λh=>Nat.lt_irrefl _ ((uq HS11) _ h)) rfl ((uq HR).keep ((uq HK11).alloc _)) ((uq HL).keep ((uq HK11).alloc _))).mono ?_;rintro e wz hp;obtain⟨vz,rfl⟩:=zbz hp;have HP:=zh hp;have HKz:=zh ((uq HK11).alloc (.cells #[.func (.func f1) x1 y1,.func (.func f2) x2 y2,.func (.func f3) x3 y3,.func (.func f4) x4 y4,.func (.func f5) x5 y5,.func (.func f6) x6 y6,.func (.func f7) x7 y7,.func (.func f8) x8 y8,.func (.func f9) x9 y9,.func (.func f10) x10 y10,.func (.func f11) x11 y11] 162));clear hp);try go_wp2_with fail
 refine hK.out _ _ ?_ (λzH=>?_)
 ·trivial
 clear hK K;try simp only[Yq]
 refine tkk 42 4 zH ?_;try simp only[Yq]
 refine wpAnyH_done (by kernel_rfl) ?_ _;clear zH;go_wp2_with fail
 go_ret;exact zbM (.keep (uq HKz)) (uq HP)
set_option maxHeartbeats 2000000 in
theorem zpj (rb n most:Nat) (kk nn pp:Int) (S X:ByteArray) (w:World) (hne:(S.toList==X.toList)=false)
  (T1:Hid (zhw rb kk nn pp S w))
  (T2:Hid (∀ w' a b,Keep w w'->w'.cell? ⟨a,0,none⟩=some (.pointer (some ⟨rb,0,none⟩))->w'.cell? ⟨b,0,none⟩=some (.string X)->Calls Tryz.prog 106 #[.pointer (some ⟨a,0,none⟩),.pointer (some ⟨b,0,none⟩)] w' λe w''=>e= .returned (flt (50,pp))/\Keep w' w'')):
  Calls Tryz.prog 112 #[.pointer (some ⟨rb,0,none⟩),.string X,.int .i64 (n:Int),.int .i64 (most:Int)] w λe w'=>e= .returned (flt (50,pp))/\Keep w w':=by
 have HK:=zh (zk w);have M:=zh zdK;have fs:=zdp;go_enter Tryz.func112,Tryz.ntmps112;go_wp2_with fail
 (refine((uq T1) _ (uq HK)).mono ?_;rintro e w2 ⟨rfl,hk⟩;have HK2:=zh hk;clear hk);go_wp2_with fail
 (refine((uq M) _ _ _).mono ?_;rintro e w1 ⟨rfl,rfl⟩);go_wp2_with fail
 (refine((uq T2) _ _ _ ((uq HK2).trans (zaM _ _ _)) (by simp[go_sem]) (by simp[go_sem])).mono ?_;rintro e w3 ⟨rfl,hk⟩;have HK3:=zh (((uq HK2).trans (zaM _ _ _)).trans hk);clear hk);go_wp2_with fail
 go_ret;exact⟨rfl,uq HK3⟩
set_option maxHeartbeats 2000000 in
theorem zku (rb n most:Nat) (kk nn pp:Int) (S X:ByteArray) (w:World) (hne:(S.toList==X.toList)=true) (hn:n=most)
  (T1:Hid (zhw rb kk nn pp S w)) (T2:Hid (zed rb pp w)):
  Calls Tryz.prog 112 #[.pointer (some ⟨rb,0,none⟩),.string X,.int .i64 (n:Int),.int .i64 (most:Int)] w λe w'=>e= .returned (flt (4,pp))/\Keep w w':=by
 have HK:=zh (zk w);have fs:=zdp;subst hn;go_enter Tryz.func112,Tryz.ntmps112;go_wp2_with fail
 (refine((uq T1) _ (uq HK)).mono ?_;rintro e w2 ⟨rfl,hk⟩;have HK2:=zh hk;clear hk);go_wp2_with fail
 (refine((uq T2) _ _ (uq HK2)).mono ?_;rintro e w3 ⟨rfl,hk⟩;have HK3:=zh ((uq HK2).trans hk);clear hk);go_wp2_with fail
 go_ret;exact⟨rfl,uq HK3⟩
set_option maxHeartbeats 2000000 in
theorem zck (rb n most k:Nat) (kk nn pp:Int) (S X:ByteArray) (w:World) (hne:(S.toList==X.toList)=true) (hn:((n:Int)==(most:Int))=false)
  (T1:Hid (zhw rb kk nn pp S w))
  (T2:Hid (∀ w' a b,Keep w w'->w'.cell? ⟨a,0,none⟩=some (.pointer (some ⟨rb,0,none⟩))->w'.cell? ⟨b,0,none⟩=some (.string X)->Calls Tryz.prog 106 #[.pointer (some ⟨a,0,none⟩),.pointer (some ⟨b,0,none⟩)] w' λe w''=>e= .returned .nilIface/\∃ w2,Keep w' w2/\w''=w2.setCell ⟨rb,1,none⟩ (.int .i64 ((k+1:Nat):Int)))):
  Calls Tryz.prog 112 #[.pointer (some ⟨rb,0,none⟩),.string X,.int .i64 (n:Int),.int .i64 (most:Int)] w λe w'=>e= .returned .nilIface/\∃ w2,Keep w w2/\w'=w2.setCell ⟨rb,1,none⟩ (.int .i64 ((k+1:Nat):Int)):=by
 have HK:=zh (zk w);have M:=zh zdK;have fs:=zdp;go_enter Tryz.func112,Tryz.ntmps112;go_wp2_with fail
 (refine((uq T1) _ (uq HK)).mono ?_;rintro e w2 ⟨rfl,hk⟩;have HK2:=zh hk;clear hk);go_wp2_with fail
 (refine((uq M) _ _ _).mono ?_;rintro e w1 ⟨rfl,rfl⟩);go_wp2_with fail
 (refine((uq T2) _ _ _ ((uq HK2).trans (zaM _ _ _)) (by simp[go_sem]) (by simp[go_sem])).mono ?_;rintro e w3 ⟨rfl,hw⟩;have HW:=zh hw;clear hw);go_wp2_with fail
 go_ret;obtain⟨w4,h1,h2⟩:=uq HW;exact⟨rfl,w4,((uq HK2).trans (zaM _ _ _)).trans h1,h2⟩
section
variable {P : Program} {w : World}
theorem zaC {o:Oper} {a:Act} {K:Act->World->Prop} {Q:Exit->Act->World->Prop} (s x:Operand) (t:TypeId)
  (ho:o.op= .call { callee:= .builtin .append,args:=#[s,x],argTypes:=#[t,t] })
  (base:Nat) (e:TypeId) (i:TypeInfo) (z:Value) (size bytes:Nat) (ht:P.underlying t=some (.slice e)) (hi:P.info? e=some i) (hz:i.zero=some z)
  (hsize:i.size=size) (hby:i.bytes=bytes) (hzs:z.cells.size=size) (hsz:0<size)
  (v:Value) (n:Nat) (xs:List Value) (hs:a.eval s=v) (hown:w.ownsRow base e size v n xs)
  (ad:Addr) (m c:Nat) (news:List Value) (hx:a.eval x= .slice (some ad) m c) (hl:news.length=m * size) (hnews:∀ j u,news[j]? =some u->w.cell? (ad.add j)=some u) (h1:∀ u∈news,u.oneCell'=true)
  (h63:n+m<=maxLen) (hbytes:(n+m) * bytes<=140737488355328) (hbase:base<=w.heap.size)
  (h:∀ v' w',w'.ownsRow base e size v' (n+m) (xs++news)->w.grownBy w' v.ownBlock->(v'.ownBlock=v.ownBlock\/v'.ownBlock=some w.heap.size)->K (a.put o.dst v') w'):o.wp P a w K Q:=by
 obtain⟨v',w',hr,h2,h3,h4,h5⟩:=run_append_own_at (P:=P) w base t o.type e i z size bytes ht hi hz hsize hby hzs hsz v n xs hown ad m c news hl hnews h1 h63 hbytes hbase;unfold Oper.wp execOp
 simp only[ho,resolve,invoke,builtin,Sem.run_bind,Sem.run_pure,Result.andThen_ok,List.map_toArray,List.map_cons,List.map_nil,hs,hx,hr];exact h v' w' h2 h3 h5
end
structure RowI (E:Env) (w:World) (m:Nat) (cs:List D) (e z:Nat) (wr:World) (L:List (List D)) (r:List Tok) (v:Value):Prop where
 fr:Fr E.S w wr
 rd:Rdr E wr r
 ta:E.ta.block<w.heap.size
 cl:Cel E w cs
 lt:m<cs.length
 oth:∀ i,i<cs.length->i≠m->wr.cell? ⟨(E.A i).1,(E.A i).2,none⟩=w.cell? ⟨(E.A i).1,(E.A i).2,none⟩
 frz:∀ i,i<cs.length->wr.frozen? ⟨(E.A i).1,(E.A i).2,none⟩=false
 cel:wr.cell? ⟨(E.A m).1,(E.A m).2,none⟩=some v
 row:Rd wr (.row e z L) (λb=>¬E.S b/\w.heap.size<=b) v
theorem RowI.part {E:Env} {w:World} {m:Nat} {cs:List D} {e z:Nat} {wr:World} {L:List (List D)} {r:List Tok} {v:Value} (h:RowI E w m cs e z wr L r v) {i:Nat} (hi:i<cs.length):(∃ u,w.cell? ⟨(E.A i).1,(E.A i).2,none⟩=some u)/\E.S (E.A i).1/\(E.A i).1≠E.rb/\(E.A i).1<w.heap.size:=by
 obtain⟨u,h1,h2,h3,h4,h5⟩:=h.cl.2 i cs[i] (by simp[hi]);exact⟨⟨u,h1⟩,h4,h5,zat h1⟩
def dN:D:= .val (.slice none 0 0)
theorem RowI.start {E:Env} {w:World} {c rest:List D} {e z:Nat} {r:List Tok} (hr:Rdr E w r) (hl:Cel E w (c++ [dN]++rest)):RowI E w c.length (c++ [dN]++rest) e z w [] r (.slice none 0 0):=by
 obtain⟨k,_,_,_,_,_,h7,_⟩:=hr.1;obtain⟨u,h1,h2,h3,h4,h5⟩:=hl.2 c.length dN (by simp);obtain rfl:u= .slice none 0 0:=h2.1;refine⟨.refl _ _,hr,h7,hl,by simp,λ_ _ _=>rfl,λi hi=>?_,h1,zhd _ _ _ _⟩;obtain⟨u,_,_,k3,_⟩:=hl.2 i _ (List.getElem?_eq_getElem hi);exact k3
theorem zam {w w':World} {a:Addr} (h:w'.heap[a.block]? =w.heap[a.block]?):w'.cell? a=w.cell? a:=World.cell?_of_block h
theorem R0.blk {rb:Nat} {l:List Tok} {ta:Addr} {cap:Nat} {w w':World} {r:List Tok} (h:R0 rb l ta cap w r) (hs:w.heap.size<=w'.heap.size) (h1:w'.heap[rb]? =w.heap[rb]?) (h2:w'.heap[ta.block]? =w.heap[ta.block]?):R0 rb l ta cap w' r:=by
 obtain⟨k,a1,a2,a3,a4,a5,a7,a8,a9⟩:=h;refine⟨k,a1,a2,by rw[zam (a:=⟨rb,0,none⟩) h1];exact a3,by rw[zam (a:=⟨rb,1,none⟩) h1];exact a4,by rw[World.frozen?_of_block (a:=⟨rb,1,none⟩) h1];exact a5,Nat.lt_of_lt_of_le a7 hs,λj hj=>?_,a9⟩;obtain⟨c0,c1,c2,c3⟩:=a8 j hj;have hb:∀ o,w'.cell? ⟨(ta.add (j * 4)).block,o,none⟩=w.cell? ⟨(ta.add (j * 4)).block,o,none⟩:=λo=>zam (a:=⟨(ta.add (j * 4)).block,o,none⟩) (by show w'.heap[(ta.add (j * 4)).block]? =w.heap[(ta.add (j * 4)).block]?;rw[zag];exact h2)
 refine⟨(zam (w:=w) (w':=w') (a:=ta.add (j * 4)) (by rw[zag];exact h2)).trans c0,by rw[hb];exact c1,by rw[hb];exact c2,by rw[hb];exact c3⟩
theorem RowI.move {E:Env} {w:World} {m:Nat} {cs:List D} {e z:Nat} {wr w':World} {L:List (List D)} {r r':List Tok} {v:Value} (h:RowI E w m cs e z wr L r v) (k:Fr (λb=>b=E.rb) wr w') (hr:R0 E.rb E.l E.ta E.cap w' r'):RowI E w m cs e z w' L r' v:=by
 have lt:∀ i,i<cs.length->(E.A i).1<wr.heap.size:=λi hi=>Nat.lt_of_lt_of_le (h.part hi).2.2.2 h.fr.size
 have same:∀ i,i<cs.length->w'.heap[(E.A i).1]? =wr.heap[(E.A i).1]? :=λi hi=>k.block _ (lt i hi) (h.part hi).2.2.1
 refine⟨h.fr.inner k (λi _ e=>e▸h.rd.2.2),⟨hr,h.rd.2⟩,h.ta,h.cl,h.lt,λi hi hm=>?_,λi hi=>?_,?_,?_⟩
 ·rw[zam (same i hi)];exact h.oth i hi hm
 ·rw[World.frozen?_of_block (same i hi)];exact h.frz i hi
 ·rw[zam (same m h.lt)];exact h.cel
 ·exact Rd.move _ _ _ v h.row (λb hb hl=>⟨k.block b hl (λe=>hb.1 (e▸h.rd.2.2)),hb⟩)
theorem RowI.keep {E:Env} {w:World} {m:Nat} {cs:List D} {e z:Nat} {wr w':World} {L:List (List D)} {r:List Tok} {v:Value} (h:RowI E w m cs e z wr L r v) (k:Keep wr w'):RowI E w m cs e z w' L r v:=h.move (.keep k) (h.rd.1.keep k)
theorem ziY {w:World} {base e z n:Nat} {v:Value} {xs:List Value} (h:w.ownsRow base e z v n xs):v.oneCell'=true:=by
 rcases h.2 with ⟨rfl,_⟩|⟨g,cap,cur,rfl,_⟩<;>rfl
theorem RowI.app {E:Env} {w:World} {m:Nat} {cs:List D} {e z:Nat} {wr w3:World} {o:Obj} {L:List (List D)} {ds:List D} {r:List Tok} {v v':Value} {B:Nat} {xs vs:List Value} (h:RowI E w m cs e z wr L r v) (hS:∀ b,E.S b->b<w.heap.size)
  (hv:∀ g,v.ownBlock=some g->g<B) (hB:w.heap.size<=B) (hd:Rds wr ds (λb=>B<=b) vs) (hz:ds.length=z)
  (hxs:wr.ownsRow 0 e z v L.length xs) (hown:w3.ownsRow 0 e z v' (L.length+1) (xs++vs)) (hg:(wr.alloc o).grownBy w3 v.ownBlock) (hat:v'.ownBlock=v.ownBlock\/v'.ownBlock=some (wr.alloc o).heap.size):
  RowI E w m cs e z (w3.setCell ⟨(E.A m).1,(E.A m).2,none⟩ v') (L++ [ds]) r v':=by
 have P0:∀ g,v.ownBlock=some g->¬E.S g/\w.heap.size<=g:=by
  have:=h.row;simp only[Rd]at this;obtain⟨_,_,k,_⟩:=this;exact k
 have R1:Rdss wr L (λb=>(¬E.S b/\w.heap.size<=b)/\v.ownBlock≠some b) z xs:=by
  have:=h.row;simp only[Rd]at this;obtain⟨ys,k1,_,k3⟩:=this;have:ys=xs:=by
   rcases k1.2 with ⟨rfl,h0⟩|⟨g,cap,cur,rfl,_,hg1,_,_,_,h5⟩
   ·have a:=k1.1;have b:=hxs.1;rw[h0]at a b;simp at a b;rw[a,b]
   ·rcases hxs.2 with ⟨h1,_⟩|⟨g',cap',cur',h1,_,hg2,_,_,_,h6⟩
    ·cases h1
    ·injection h1 with h1 _ _
     injection h1 with h1
     injection h1 with h1
     subst h1;rw[hg1]at hg2;injection hg2 with hg2
     injection hg2 with hg2
     subst hg2;rw[<- h5,<- h6]
  subst this;exact k3
 have hsz:=h.fr.size;have gsz:=hg.size;rw[World.size_alloc]at gsz;have same:∀ b,b<wr.heap.size->v.ownBlock≠some b->w3.heap[b]? =wr.heap[b]? :=λb hb hne=>by
  rw[hg.block b (by rw[World.size_alloc];omega) (λe=>hne e.symm)];exact heap_alloc_old wr o hb
 have sameS:∀ b,E.S b->w3.heap[b]? =wr.heap[b]? :=λb hb=>same b (Nat.lt_of_lt_of_le (hS b hb) hsz) (λe=>(P0 b e).1 hb)
 have far:∀ b,b≠(E.A m).1->(w3.setCell ⟨(E.A m).1,(E.A m).2,none⟩ v').heap[b]? =w3.heap[b]? :=λb hb=>Below.heap_setCell _ _ _ _ hb
 have hm:=h.part h.lt;have pv:∀ g,v'.ownBlock=some g->¬E.S g/\w.heap.size<=g:=λg hg'=>by
  rcases hat with e1|e1
  ·exact P0 g (e1▸hg')
  ·rw[e1,World.size_alloc]at hg';injection hg' with hg'
   exact⟨λx=>by have:=hS g x;omega,by omega⟩
 have nv:∀ b,b<wr.heap.size->v.ownBlock≠some b->v'.ownBlock≠some b:=λb hb hne e1=>by
  rcases hat with e2|e2
  ·exact hne (e2▸e1)
  ·rw[e2,World.size_alloc]at e1;injection e1 with e1
   omega
 refine⟨?_,⟨?_,h.rd.2⟩,h.ta,h.cl,h.lt,λi hi hne=>?_,λi hi=>?_,?_,?_⟩
 ·refine⟨hg.os.trans h.fr.os,hg.tape.trans h.fr.tape,hg.output.trans h.fr.output,by simp[World.setCell];omega,λb hb hn=>?_,λb hb=>?_,λb hb h1=>?_⟩
  ·rw[far b (λe=>hn (e▸hm.2.1)),same b (by omega) (λe=>by have:=(P0 b e).2;omega)];exact h.fr.block b hb hn
  ·exact((ziX _ _ _ _).trans (zhe (same b (by omega) (λe=>by have:=(P0 b e).2;omega)))).trans (h.fr.shape b hb)
  ·exact zhf (ziY hown) (zfn (same b (by omega) (λe=>by have:=(P0 b e).2;omega)) (h.fr.ones b hb h1))
 ·refine R0.far (h.rd.1.blk (by omega) (sameS _ h.rd.2.2) (same _ (by have:=h.ta;omega) (λe=>by have:=(P0 _ e).2;have:=h.ta;omega))) _ _ hm.2.2.1 (λe=>h.rd.2.1 (e▸hm.2.1))
 ·rw[zb8 _ _ _ _ (λe2=>hne ?_),zam (sameS _ (h.part hi).2.1)]
  ·exact h.oth i hi hne
  ·have e3:=congrArg Addr.block e2;have e4:=congrArg Addr.off e2;exact(h.cl.1 m i h.lt hi (Prod.ext e3 e4)).symm
 ·rw[World.frozen?_setCell,World.frozen?_of_block (sameS _ (h.part hi).2.1)];exact h.frz i hi
 ·exact zdh _ ((zam (sameS _ hm.2.1)).trans h.cel)
 ·simp only[Rd];have own4:(w3.setCell ⟨(E.A m).1,(E.A m).2,none⟩ v').ownsRow 0 e z v' (L++ [ds]).length (xs++vs):=by
   rw[List.length_append];exact zhc hown (λg hg'=>far g (λe=>(pv g hg').1 (e▸hm.2.1)))
  refine⟨xs++vs,own4,pv,zey L ds _ z xs vs (Rdss.move L _ _ z xs R1 (λb hb hl=>⟨?_,hb.1,nv b hl hb.2⟩)) (Rds.move ds _ _ vs hd (λb hb hl=>?_)) ((za9 _ _ _ hd).trans hz)⟩
  ·rw[far b (λe=>hb.1.1 (e▸hm.2.1))];exact same b hl hb.2
  ·have q1:v.ownBlock≠some b:=λe=>by have:=hv b e;omega
   have q2:¬E.S b:=λx=>by have:=hS b x;omega
   exact⟨by rw[far b (λe=>q2 (e▸hm.2.1))];exact same b hl q1,⟨q2,by omega⟩,nv b hl q1⟩
theorem RowI.fin {E:Env} {w:World} {c rest:List D} {d0:D} {e z:Nat} {wr:World} {L:List (List D)} {r:List Tok} {v:Value} (h:RowI E w c.length (c++ [d0]++rest) e z wr L r v) (hlo:E.lo<=w.heap.size):Cel E wr (c++ [D.row e z L]++rest):=by
 have hlen:(c++ [D.row e z L]++rest).length=(c++ [d0]++rest).length:=by simp
 refine⟨by rw[hlen];exact h.cl.1,λj d hd=>?_⟩;have hj:j<(c++ [d0]++rest).length:=by
  rw[<- hlen];rcases Nat.lt_or_ge j (c++ [D.row e z L]++rest).length with h|h
  ·exact h
  ·rw[List.getElem?_eq_none h]at hd;cases hd
 have hp:=h.part hj;by_cases he:j=c.length
 ·subst he;rw[show(c++ [D.row e z L]++rest)[c.length]? =some (.row e z L) by simp]at hd;injection hd with hd
  subst hd;exact⟨v,h.cel,Rd.move _ _ _ v h.row (λb hb _=>⟨rfl,hb.1,by have:=hb.2;omega⟩),h.frz _ hj,hp.2.1,hp.2.2.1⟩
 ·rw[zkf (d:=d0) he]at hd;obtain⟨u,h1,h2,h3,h4,h5⟩:=h.cl.2 j d hd;exact⟨u,by rw[h.oth j hj he];exact h1,h2.fr h.fr (λi hi=>hi.1),h.frz j hj,h4,h5⟩
end Go.Proofs.YthceiikgecoimaaGreatDoor
namespace Go.Proofs.YthceiikgecoimaaGreatDoor
open Go.RowKit
set_option linter.unusedVariables false
set_option linter.unusedSimpArgs false
set_option maxRecDepth 10000
def zeK (rb:Nat) (l:List Tok) (ta:Addr) (cap:Nat) (fn:FuncId) (t:TypeId) (zs:List Value) (body:List Tok->Rs):Prop:=
 ∀ w xb r,R0 rb l ta cap w r->rb<w.heap.size->w.heap[xb]? =some (.cells zs.toArray t (0,0))->xb≠rb->xb≠ta.block->Calls Tryz.prog fn #[.pointer (some ⟨rb,0,none⟩),.pointer (some ⟨xb,0,none⟩)] w λe w'=>Fr (λb=>b=rb\/b=xb) w w'/\
  match body r with
  | .error x=>e= .returned (flt x)
  | .ok (ds,r')=>e= .returned .nilIface/\R0 rb l ta cap w' r'/\ds.length=zs.length/\∃ vs,(∀ i v,vs[i]? =some v->w'.cell? ⟨xb,i,none⟩=some v)/\Rds w' ds (λb=>w.heap.size<=b) vs
def zbg (rb:Nat) (l:List Tok) (ta:Addr) (cap:Nat) (fn:FuncId) (t:TypeId) (zs:List Value) (body:List Tok->Rs):Prop:=Ent fn/\Mon body/\zeK rb l ta cap fn t zs body
theorem zbG (E:Env) (w:World) (u v x y z:Value) (s t q r p:TypeId) (hS:∀ b,E.S b->b<w.heap.size):Bx E (((((w.alloc (.cells #[u] s)).alloc (.cells #[v] t)).alloc (.cells #[x] q)).alloc (.cells #[y] r)).alloc (.cells #[z] p)) w.heap.size u/\Bx E (((((w.alloc (.cells #[u] s)).alloc (.cells #[v] t)).alloc (.cells #[x] q)).alloc (.cells #[y] r)).alloc (.cells #[z] p)) (w.heap.size+1) v/\Bx E (((((w.alloc (.cells #[u] s)).alloc (.cells #[v] t)).alloc (.cells #[x] q)).alloc (.cells #[y] r)).alloc (.cells #[z] p)) (w.heap.size+1+1) x/\Bx E (((((w.alloc (.cells #[u] s)).alloc (.cells #[v] t)).alloc (.cells #[x] q)).alloc (.cells #[y] r)).alloc (.cells #[z] p)) (w.heap.size+1+1+1) y/\Bx E (((((w.alloc (.cells #[u] s)).alloc (.cells #[v] t)).alloc (.cells #[x] q)).alloc (.cells #[y] r)).alloc (.cells #[z] p)) (w.heap.size+1+1+1+1) z:=by
 refine⟨⟨by simp[go_sem],λh=>?_⟩,⟨by simp[go_sem],λh=>?_⟩,⟨by simp[go_sem],λh=>?_⟩,⟨by simp[go_sem],λh=>?_⟩,⟨by simp[go_sem],λh=>?_⟩⟩<;>(have:=hS _ h;omega)
theorem zbS (w:World) (a b c d e:Obj):Keep w (((((w.alloc a).alloc b).alloc c).alloc d).alloc e):=(((((zk w).alloc a).alloc b).alloc c).alloc d).alloc e
theorem Bx.hs {E:Env} {w0 w:World} (hS:∀ b,E.S b->b<w0.heap.size) (hf:Fr E.S w0 w):∀ b,E.S b->b<w.heap.size:=λb hb=>Nat.lt_of_lt_of_le (hS b hb) hf.size
theorem zhx {w:World} {xb:Nat} {P:Nat->Prop} :∀(cs:List D) (o:Nat),(∀ j d,cs[j]? =some d->∃ v,w.cell? ⟨xb,o+j,none⟩=some v/\Rd w d P v)->∃ vs,(∀ i v,vs[i]? =some v->w.cell? ⟨xb,o+i,none⟩=some v)/\Rds w cs P vs
 | [],o,_=>⟨[],λi v h=>by simp at h,rfl⟩
 |d :: cs,o,h=>by
  obtain⟨v,h1,h2⟩:=h 0 d (by simp);obtain⟨vs,h3,h4⟩:=zhx cs (o+1) (λj d hd=>by
   obtain⟨v,k1,k2⟩:=h (j+1) d (by simpa using hd);exact⟨v,by rw[show o+1+j=o+(j+1) by omega];exact k1,k2⟩)
  refine⟨v :: vs,λi u hu=>?_,?_⟩
  ·cases i with
   |zero=>simp at hu;subst hu;exact h1
   |succ i=>have:=h3 i u (by simpa using hu);rw[show o+1+i=o+(i+1) by omega]at this;exact this
  ·simp only[Rds];exact⟨v,vs,rfl,h2,h4⟩
def Env.one (rb:Nat) (l:List Tok) (ta:Addr) (cap:Nat) (xb:Nat) (A:Nat->Nat) (lo:Nat):Env:= { S:=λb=>b=rb\/b=xb,rb:=rb,l:=l,ta:=ta,cap:=cap,A:=λj=>(xb,A j),lo:=lo }
theorem zeL {rb:Nat} {l:List Tok} {ta:Addr} {cap:Nat} {xb:Nat} {A:Nat->Nat} {lo:Nat} {w:World} {r:List Tok} (h:R0 rb l ta cap w r) (h1:xb≠ta.block) (h2:rb≠ta.block):Rdr (Env.one rb l ta cap xb A lo) w r:=⟨h,λx=>by rcases x with x|x;exact h2 x.symm;exact h1 x.symm,.inl rfl⟩
theorem zfM {rb:Nat} {l:List Tok} {ta:Addr} {cap:Nat} {xb:Nat} {A:Nat->Nat} {lo:Nat} {w:World} {t:TypeId} {zs:List Value} {cs:List D} (h:w.heap[xb]? =some (.cells zs.toArray t (0,0))) (hx:xb≠rb) (hlen:cs.length=zs.length) (hinj:∀ i j,i<cs.length->j<cs.length->A i=A j->i=j)
  (hz:∀ j d,cs[j]? =some d->∃ v,zs[A j]? =some v/\∀ w P,Rd w d P v):Cel (Env.one rb l ta cap xb A lo) w cs:=by
 refine⟨λi j hi hj e=>hinj i j hi hj (by have:=congrArg Prod.snd e;exact this),λj d hd=>?_⟩;obtain⟨v,h1,h2⟩:=hz j d hd;refine⟨v,?_,h2 _ _,?_,.inr rfl,hx⟩
 ·show w.cell? ⟨xb,A j,none⟩=some v;simp only[World.cell?,h];simpa using h1
 ·show w.frozen? ⟨xb,A j,none⟩=false;simp[World.frozen?,h]
theorem zpk {c:List D} {n:Nat} (hn:c.length=n+1) {j:Nat} {d:D} (h:(rot c)[j]? =some d):c[if j=n then 0 else j+1]? =some d/\j<n+1:=by
 cases c with
 |nil=>simp at hn
 |cons a c=>
  simp only[List.length_cons,Nat.add_right_cancel_iff]at hn;simp only[rot]at h;rcases Nat.lt_trichotomy j n with hj|hj|hj
  ·rw[if_neg (by omega)];rw[List.getElem?_append_left (by omega)]at h;exact⟨by simpa using h,by omega⟩
  ·subst hj;rw[if_pos rfl];rw[List.getElem?_append_right (by omega),hn,Nat.sub_self]at h;exact⟨by simpa using h,by omega⟩
  ·rw[List.getElem?_eq_none (by simp;omega)]at h;cases h
theorem zpl (c:List D):(rot c).length=c.length:=by cases c<;>simp[rot]
theorem zcC {rb:Nat} {l:List Tok} {ta:Addr} {cap:Nat} {fn:FuncId} {t:TypeId} {zs:List Value} {cs:List D} {n:Nat} {p:List Tok->Rs} (hta:ta.block≠rb) (hzs:zs.length=n+1) (hcs:cs.length=n+1)
  (hz:∀ j d,cs[j]? =some d->∃ v,zs[if j=0 then n else j - 1]? =some v/\∀ w P,Rd w d P v)
  (h:∀ E w xb r,E=Env.one rb l ta cap xb (λj=>if j=0 then n else j - 1) w.heap.size->(∀ b,E.S b->b<w.heap.size)->Rdr E w r->Cel E w cs->Calls Tryz.prog fn #[.pointer (some ⟨rb,0,none⟩),.pointer (some ⟨xb,0,none⟩)] w (zcu E w [] (n+1) (p r))):
  zeK rb l ta cap fn t zs (zct p):=by
 intro w xb r hr hrb hx h1 h2
 have hxl:xb<w.heap.size:=(Array.getElem?_eq_some_iff.1 hx).1;refine(h _ w xb r rfl (λb hb=>by rcases hb with rfl|rfl<;>assumption) (zeL hr h2 (λe=>hta e.symm)) (zfM hx h1 (by omega) (λi j hi hj e=>by
  by_cases hi0:i=0
  ·by_cases hj0:j=0
   ·omega
   ·rw[if_pos hi0,if_neg hj0]at e;omega
  ·by_cases hj0:j=0
   ·rw[if_neg hi0,if_pos hj0]at e;omega
   ·rw[if_neg hi0,if_neg hj0]at e;omega) hz)).mono ?_
 rintro e w' ⟨hf,hp⟩;refine⟨hf,?_⟩;simp only[zct];cases hb:p r with
 |error x=>rw[hb]at hp;exact hp
 |ok q=>
  obtain⟨c,r'⟩:=q;rw[hb]at hp;obtain⟨p1,p2,p3,p4⟩:=hp;simp only;refine⟨p1,p3.1,by rw[zpl];omega,?_⟩;obtain⟨vs,k1,k2⟩:=zhx (w:=w') (xb:=xb) (P:=λb=>w.heap.size<=b) (rot c) 0 (λj d hd=>by
   obtain⟨g1,g2⟩:=zpk p2 hd;obtain⟨v,q1,q2,_⟩:=p4.2 (if j=n then 0 else j+1) d (by simpa using g1);refine⟨v,?_,Rd.move d _ _ v q2 (λb hb _=>⟨rfl,hb.2⟩)⟩;have ea:(λj=>if j=0 then n else j - 1) (if j=n then 0 else j+1)=0+j:=by
    by_cases hj:j=n
    ·simp[hj]
    ·simp[hj]
   rw[<- ea];exact q1)
  exact⟨vs,λi v hv=>by have:=k1 i v hv;rwa[Nat.zero_add]at this,k2⟩
theorem zeM {rb:Nat} {l:List Tok} {ta:Addr} {cap:Nat} {fn:FuncId} {t:TypeId} {zs:List Value} {cs:List D} {p:List Tok->Rs} (hta:ta.block≠rb) (hcs:cs.length=zs.length)
  (hz:∀(j:Nat) d,cs[j]? =some d->∃ v,zs[j]? =some v/\∀ w P,Rd w d P v)
  (h:∀ E w xb r,E=Env.one rb l ta cap xb (λj=>j) w.heap.size->(∀ b,E.S b->b<w.heap.size)->Rdr E w r->Cel E w cs->Calls Tryz.prog fn #[.pointer (some ⟨rb,0,none⟩),.pointer (some ⟨xb,0,none⟩)] w (zcu E w [] zs.length (p r))):
  zeK rb l ta cap fn t zs p:=by
 intro w xb r hr hrb hx h1 h2
 have hxl:xb<w.heap.size:=(Array.getElem?_eq_some_iff.1 hx).1;refine(h _ w xb r rfl (λb hb=>by rcases hb with rfl|rfl<;>assumption) (zeL hr h2 (λe=>hta e.symm)) (zfM hx h1 (by omega) (λi j hi hj e=>e) hz)).mono ?_;rintro e w' ⟨hf,hp⟩;refine⟨hf,?_⟩;cases hb:p r with
 |error x=>rw[hb]at hp;exact hp
 |ok q=>
  obtain⟨c,r'⟩:=q;rw[hb]at hp;obtain⟨p1,p2,p3,p4⟩:=hp;simp only;refine⟨p1,p3.1,by omega,?_⟩;obtain⟨vs,k1,k2⟩:=zhx (w:=w') (xb:=xb) (P:=λb=>w.heap.size<=b) c 0 (λj d hd=>by
   obtain⟨v,q1,q2,_⟩:=p4.2 j d (by simpa using hd);exact⟨v,by rw[Nat.zero_add];exact q1,Rd.move d _ _ v q2 (λb hb _=>⟨rfl,hb.2⟩)⟩)
  exact⟨vs,λi v hv=>by have:=k1 i v hv;rwa[Nat.zero_add]at this,k2⟩
def rk (rb:Nat) (w:World):Nat:=match w.cell? ⟨rb,1,none⟩with
 |some (.int _ k)=>k.toNat
 | _=>0
theorem zlR {rb:Nat} {l:List Tok} {ta:Addr} {cap:Nat} {w:World} {r:List Tok} (h:R0 rb l ta cap w r):rk rb w+r.length=l.length/\rk rb w<l.length/\l.length<=70000:=by
 obtain⟨k,a1,a2,a3,a4,a5,a7,a8,a9⟩:=h;have:rk rb w=k:=by simp[rk,a4]
 rw[this,a2,List.length_drop];exact⟨by omega,a1,a9.1⟩
theorem zc4 {w:World} {e z:Nat} {L:List (List D)} {P:Nat->Prop} {v:Value} (h:Rd w (.row e z L) P v):∃ av cap xs,v= .slice av L.length cap/\w.ownsRow 0 e z v L.length xs:=by
 simp only[Rd]at h;obtain⟨xs,h1,_⟩:=h;rcases h1.2 with ⟨rfl,h0⟩|⟨g,cap,cur,rfl,_⟩
 ·exact⟨none,0,xs,by rw[h0],h1⟩
 ·exact⟨_,cap,xs,rfl,h1⟩
theorem new_cells (w:World) (vs:List Value) (t:TypeId):∀ j u,vs[j]? =some u->(w.alloc (.cells vs.toArray t)).cell? ((⟨w.heap.size,0,none⟩:Addr).add j)=some u:=by
 intro j u h
 rw[zbt,Nat.zero_add,World.cell?_alloc_mark];simp[h]
end Go.Proofs.YthceiikgecoimaaGreatDoor
