/- Package net: net. -/
import Derived.Test.YthceiikgecoimaaGreatDoorNArt
import Derived.Test.YthceiikgecoimaaGreatDoorLVal
import Derived.Test.YthceiikgecoimaaGreatDoorNRAll
import Derived.Test.YthceiikgecoimaaGreatDoorNFrac
import Derived.Test.YthceiikgecoimaaGreatDoorNSfoe
import Derived.Test.YthceiikgecoimaaGreatDoorNThing
import Derived.Test.YthceiikgecoimaaGreatDoorNSring
namespace Go.Proofs.YthceiikgecoimaaGreatDoor
open Go.RowKit
attribute [local go_sem ↓] Go.wp_at_zero Go.wp_at_succ
set_option linter.unusedVariables false
set_option linter.unusedSimpArgs false
set_option maxRecDepth 10000
set_option maxHeartbeats 4000000 in
theorem zfK (E:Env) (tb:Nat) (w:World) (r:List Tok) (A0:Hid (E.A 0=(tb,0))) (A1:Hid (E.A 1=(tb,1))) (A2:Hid (E.A 2=(tb,2))) (A3:Hid (E.A 3=(tb,3))) (A4:Hid (E.A 4=(tb,4))) (A5:Hid (E.A 5=(tb,5))) (A6:Hid (E.A 6=(tb,6))) (A7:Hid (E.A 7=(tb,7))) (A8:Hid (E.A 8=(tb,8)))
  (HS:Hid (∀ b,E.S b->b<w.heap.size)) (HLo:Hid (E.lo<=w.heap.size)) (HR:Hid (Rdr E w r)) (HL:Hid (Cel E w [dI 0,dI 0,dI 0,dI 0,dI 0,dN,dN,dI 0,dI 0])) (THNode:Hid (zbh E.rb E.l E.ta E.cap 89 45 [.string ⟨#[]⟩,.slice none 0 0,.slice none 0 0,.slice none 0 0,.slice none 0 0,.slice none 0 0,.int .i64 0] zb4)) (THStop:Hid (zbh E.rb E.l E.ta E.cap 129 48 [.string ⟨#[]⟩,.string ⟨#[]⟩,.string ⟨#[]⟩,.int .i64 0,.int .i64 0,.int .i64 0] zbC)):
  Calls Tryz.prog 56 #[.pointer (some ⟨E.rb,0,none⟩),.pointer (some ⟨tb,0,none⟩)] w (zcv E w [] 9 (sq [zad [99,121,99,108,101],zao,zad [116,111],zao,zad [98,121],zao,zad [59],zad [112,101,97,107],za8,zad [59],zaL [110,111,100,101] 12 45 7 zb4,zcN,zcQ] [] r)):=by
 have HK0:=zh (zk w).drew;have HS0:Hid (∀ b,E.S b->b<w.drew.heap.size):=HS;have HLo0:Hid (E.lo<=w.drew.heap.size):=HLo;go_enter Tryz.func56,Tryz.ntmps56;go_wp2_with fail
 refine wp_region_held_drew (S:=λ_=>True) (by kernel_rfl) (by trivial) (λzH=>?_);refine tk6 0 5 2 7 3 8 4 9 5 10 7 12 zH ?_;try simp only[Yq]
 refine tk6 9 14 10 15 11 16 12 17 14 19 16 21 zH ?_;try simp only[Yq]
 refine tk6 17 22 18 23 19 24 21 26 23 28 25 30 zH ?_;try simp only[Yq]
 refine tk6 26 31 27 32 28 33 30 35 32 37 33 38 zH ?_;try simp only[Yq]
 refine tk6 34 39 35 40 36 41 37 42 39 44 40 45 zH ?_;try simp only[Yq]
 refine tk2 42 47 43 48 zH ?_;try simp only[Yq]
 refine zaq 1 (λK hK=>?_);go_simp;clear zH;(refine(zaH (E:=E) [99,121,99,108,101] (by decide) (0) _ (uq HS0)).mono ?_;rintro e w1 ⟨f1,x1,y1,rfl,hk,hd⟩;have HS1:=zh (zae (uq HS0) hk);have HLo1:=zh (zah (uq HLo0) hk);have HK1:=zh ((uq HK0).trans hk);have HC1:Hid (zaw E w1 (0) [(.func (.func f1) x1 y1,[],zad [99,121,99,108,101])]):=zh ⟨hd,trivial⟩;clear hk hd);try go_wp2_with fail
 refine hK.out _ _ ?_ (λzH=>?_)
 ·trivial
 clear hK K;try simp only[Yq]
 refine zaq 6 (λK hK=>?_);go_simp;clear zH;(refine(zaB (E:=E) (dI 0) (0) _ _ (uq A0) _ (uq HS1)).mono ?_;rintro e w2 ⟨f2,x2,y2,rfl,hk,hd⟩;have HS2:=zh (zae (uq HS1) hk);have HLo2:=zh (zah (uq HLo1) hk);have HK2:=zh ((uq HK1).trans hk);have HC2:Hid (zaw E w2 (0) [(.func (.func f1) x1 y1,[],zad [99,121,99,108,101]),(.func (.func f2) x2 y2,[dI 0],zao)]):=zh (zab (uq HC1) hk hd);clear hk hd);try go_wp2_with fail
 refine hK.out _ _ ?_ (λzH=>?_)
 ·trivial
 clear hK K;try simp only[Yq]
 refine zaq 8 (λK hK=>?_);go_simp;clear zH;(refine(zaH (E:=E) [116,111] (by decide) (1) _ (uq HS2)).mono ?_;rintro e w3 ⟨f3,x3,y3,rfl,hk,hd⟩;have HS3:=zh (zae (uq HS2) hk);have HLo3:=zh (zah (uq HLo2) hk);have HK3:=zh ((uq HK2).trans hk);have HC3:Hid (zaw E w3 (0) [(.func (.func f1) x1 y1,[],zad [99,121,99,108,101]),(.func (.func f2) x2 y2,[dI 0],zao),(.func (.func f3) x3 y3,[],zad [116,111])]):=zh (zab (uq HC2) hk hd);clear hk hd);try go_wp2_with fail
 refine hK.out _ _ ?_ (λzH=>?_)
 ·trivial
 clear hK K;try simp only[Yq]
 refine zaq 13 (λK hK=>?_);go_simp;clear zH;(refine(zaB (E:=E) (dI 0) (1) _ _ (uq A1) _ (uq HS3)).mono ?_;rintro e w4 ⟨f4,x4,y4,rfl,hk,hd⟩;have HS4:=zh (zae (uq HS3) hk);have HLo4:=zh (zah (uq HLo3) hk);have HK4:=zh ((uq HK3).trans hk);have HC4:Hid (zaw E w4 (0) [(.func (.func f1) x1 y1,[],zad [99,121,99,108,101]),(.func (.func f2) x2 y2,[dI 0],zao),(.func (.func f3) x3 y3,[],zad [116,111]),(.func (.func f4) x4 y4,[dI 0],zao)]):=zh (zab (uq HC3) hk hd);clear hk hd);try go_wp2_with fail
 refine hK.out _ _ ?_ (λzH=>?_)
 ·trivial
 clear hK K;try simp only[Yq]
 refine zaq 15 (λK hK=>?_);go_simp;clear zH;(refine(zaH (E:=E) [98,121] (by decide) (2) _ (uq HS4)).mono ?_;rintro e w5 ⟨f5,x5,y5,rfl,hk,hd⟩;have HS5:=zh (zae (uq HS4) hk);have HLo5:=zh (zah (uq HLo4) hk);have HK5:=zh ((uq HK4).trans hk);have HC5:Hid (zaw E w5 (0) [(.func (.func f1) x1 y1,[],zad [99,121,99,108,101]),(.func (.func f2) x2 y2,[dI 0],zao),(.func (.func f3) x3 y3,[],zad [116,111]),(.func (.func f4) x4 y4,[dI 0],zao),(.func (.func f5) x5 y5,[],zad [98,121])]):=zh (zab (uq HC4) hk hd);clear hk hd);try go_wp2_with fail
 refine hK.out _ _ ?_ (λzH=>?_)
 ·trivial
 clear hK K;try simp only[Yq]
 refine zaq 20 (λK hK=>?_);go_simp;clear zH;(refine(zaB (E:=E) (dI 0) (2) _ _ (uq A2) _ (uq HS5)).mono ?_;rintro e w6 ⟨f6,x6,y6,rfl,hk,hd⟩;have HS6:=zh (zae (uq HS5) hk);have HLo6:=zh (zah (uq HLo5) hk);have HK6:=zh ((uq HK5).trans hk);have HC6:Hid (zaw E w6 (0) [(.func (.func f1) x1 y1,[],zad [99,121,99,108,101]),(.func (.func f2) x2 y2,[dI 0],zao),(.func (.func f3) x3 y3,[],zad [116,111]),(.func (.func f4) x4 y4,[dI 0],zao),(.func (.func f5) x5 y5,[],zad [98,121]),(.func (.func f6) x6 y6,[dI 0],zao)]):=zh (zab (uq HC5) hk hd);clear hk hd);try go_wp2_with fail
 refine hK.out _ _ ?_ (λzH=>?_)
 ·trivial
 clear hK K;try simp only[Yq]
 refine zaq 22 (λK hK=>?_);go_simp;clear zH;(refine(zaH (E:=E) [59] (by decide) (3) _ (uq HS6)).mono ?_;rintro e w7 ⟨f7,x7,y7,rfl,hk,hd⟩;have HS7:=zh (zae (uq HS6) hk);have HLo7:=zh (zah (uq HLo6) hk);have HK7:=zh ((uq HK6).trans hk);have HC7:Hid (zaw E w7 (0) [(.func (.func f1) x1 y1,[],zad [99,121,99,108,101]),(.func (.func f2) x2 y2,[dI 0],zao),(.func (.func f3) x3 y3,[],zad [116,111]),(.func (.func f4) x4 y4,[dI 0],zao),(.func (.func f5) x5 y5,[],zad [98,121]),(.func (.func f6) x6 y6,[dI 0],zao),(.func (.func f7) x7 y7,[],zad [59])]):=zh (zab (uq HC6) hk hd);clear hk hd);try go_wp2_with fail
 refine hK.out _ _ ?_ (λzH=>?_)
 ·trivial
 clear hK K;try simp only[Yq]
 refine zaq 24 (λK hK=>?_);go_simp;clear zH;(refine(zaH (E:=E) [112,101,97,107] (by decide) (3) _ (uq HS7)).mono ?_;rintro e w8 ⟨f8,x8,y8,rfl,hk,hd⟩;have HS8:=zh (zae (uq HS7) hk);have HLo8:=zh (zah (uq HLo7) hk);have HK8:=zh ((uq HK7).trans hk);have HC8:Hid (zaw E w8 (0) [(.func (.func f1) x1 y1,[],zad [99,121,99,108,101]),(.func (.func f2) x2 y2,[dI 0],zao),(.func (.func f3) x3 y3,[],zad [116,111]),(.func (.func f4) x4 y4,[dI 0],zao),(.func (.func f5) x5 y5,[],zad [98,121]),(.func (.func f6) x6 y6,[dI 0],zao),(.func (.func f7) x7 y7,[],zad [59]),(.func (.func f8) x8 y8,[],zad [112,101,97,107])]):=zh (zab (uq HC7) hk hd);clear hk hd);try go_wp2_with fail
 refine hK.out _ _ ?_ (λzH=>?_)
 ·trivial
 clear hK K;try simp only[Yq]
 refine zaq 29 (λK hK=>?_);go_simp;clear zH;(refine(zdF (E:=E) (3) _ _ (uq A3) (uq A4) _ (uq HS8)).mono ?_;rintro e w9 ⟨f9,x9,y9,rfl,hk,hd⟩;have HS9:=zh (zae (uq HS8) hk);have HLo9:=zh (zah (uq HLo8) hk);have HK9:=zh ((uq HK8).trans hk);have HC9:Hid (zaw E w9 (0) [(.func (.func f1) x1 y1,[],zad [99,121,99,108,101]),(.func (.func f2) x2 y2,[dI 0],zao),(.func (.func f3) x3 y3,[],zad [116,111]),(.func (.func f4) x4 y4,[dI 0],zao),(.func (.func f5) x5 y5,[],zad [98,121]),(.func (.func f6) x6 y6,[dI 0],zao),(.func (.func f7) x7 y7,[],zad [59]),(.func (.func f8) x8 y8,[],zad [112,101,97,107]),(.func (.func f9) x9 y9,[dI 0,dI 0],za8)]):=zh (zab (uq HC8) hk hd);clear hk hd);try go_wp2_with fail
 refine hK.out _ _ ?_ (λzH=>?_)
 ·trivial
 clear hK K;try simp only[Yq]
 refine zaq 31 (λK hK=>?_);go_simp;clear zH;(refine(zaH (E:=E) [59] (by decide) (5) _ (uq HS9)).mono ?_;rintro e w10 ⟨f10,x10,y10,rfl,hk,hd⟩;have HS10:=zh (zae (uq HS9) hk);have HLo10:=zh (zah (uq HLo9) hk);have HK10:=zh ((uq HK9).trans hk);have HC10:Hid (zaw E w10 (0) [(.func (.func f1) x1 y1,[],zad [99,121,99,108,101]),(.func (.func f2) x2 y2,[dI 0],zao),(.func (.func f3) x3 y3,[],zad [116,111]),(.func (.func f4) x4 y4,[dI 0],zao),(.func (.func f5) x5 y5,[],zad [98,121]),(.func (.func f6) x6 y6,[dI 0],zao),(.func (.func f7) x7 y7,[],zad [59]),(.func (.func f8) x8 y8,[],zad [112,101,97,107]),(.func (.func f9) x9 y9,[dI 0,dI 0],za8),(.func (.func f10) x10 y10,[],zad [59])]):=zh (zab (uq HC9) hk hd);clear hk hd);try go_wp2_with fail
 refine hK.out _ _ ?_ (λzH=>?_)
 ·trivial
 clear hK K;try simp only[Yq]
 refine zaq 38 (λK hK=>?_);go_simp;clear zH;(refine(zgX (E:=E) [110,111,100,101] (by decide) 12 (by decide) zb4 (uq THNode) (5) _ _ (uq A5) _ (uq HS10) (uq HLo10)).mono ?_;rintro e w11 ⟨f11,x11,y11,rfl,hk,hd⟩;have HS11:=zh (zae (uq HS10) hk);have HLo11:=zh (zah (uq HLo10) hk);have HK11:=zh ((uq HK10).trans hk);have HC11:Hid (zaw E w11 (0) [(.func (.func f1) x1 y1,[],zad [99,121,99,108,101]),(.func (.func f2) x2 y2,[dI 0],zao),(.func (.func f3) x3 y3,[],zad [116,111]),(.func (.func f4) x4 y4,[dI 0],zao),(.func (.func f5) x5 y5,[],zad [98,121]),(.func (.func f6) x6 y6,[dI 0],zao),(.func (.func f7) x7 y7,[],zad [59]),(.func (.func f8) x8 y8,[],zad [112,101,97,107]),(.func (.func f9) x9 y9,[dI 0,dI 0],za8),(.func (.func f10) x10 y10,[],zad [59]),(.func (.func f11) x11 y11,[dN],zaL [110,111,100,101] 12 45 7 zb4)]):=zh (zab (uq HC10) hk hd);clear hk hd);try go_wp2_with fail
 refine hK.out _ _ ?_ (λzH=>?_)
 ·trivial
 clear hK K;try simp only[Yq]
 refine zaq 41 (λK hK=>?_);go_simp;clear zH;(refine(zpf (E:=E) (6) _ (uq A6) (uq A7) (uq A8) (uq THStop) _ (uq HS11) (uq HLo11)).mono ?_;rintro e w12 ⟨f12,x12,y12,rfl,hk,hd⟩;have HS12:=zh (zae (uq HS11) hk);have HLo12:=zh (zah (uq HLo11) hk);have HK12:=zh ((uq HK11).trans hk);have HC12:Hid (zaw E w12 (0) [(.func (.func f1) x1 y1,[],zad [99,121,99,108,101]),(.func (.func f2) x2 y2,[dI 0],zao),(.func (.func f3) x3 y3,[],zad [116,111]),(.func (.func f4) x4 y4,[dI 0],zao),(.func (.func f5) x5 y5,[],zad [98,121]),(.func (.func f6) x6 y6,[dI 0],zao),(.func (.func f7) x7 y7,[],zad [59]),(.func (.func f8) x8 y8,[],zad [112,101,97,107]),(.func (.func f9) x9 y9,[dI 0,dI 0],za8),(.func (.func f10) x10 y10,[],zad [59]),(.func (.func f11) x11 y11,[dN],zaL [110,111,100,101] 12 45 7 zb4),(.func (.func f12) x12 y12,[dN,dI 0,dI 0],zcN)]):=zh (zab (uq HC11) hk hd);clear hk hd);try go_wp2_with fail
 refine hK.out _ _ ?_ (λzH=>?_)
 ·trivial
 clear hK K;try simp only[Yq]
 have HC12_12:Hid (zaw E w12 (0) [(.func (.func f1) x1 y1,[],zad [99,121,99,108,101]),(.func (.func f2) x2 y2,[dI 0],zao),(.func (.func f3) x3 y3,[],zad [116,111]),(.func (.func f4) x4 y4,[dI 0],zao),(.func (.func f5) x5 y5,[],zad [98,121]),(.func (.func f6) x6 y6,[dI 0],zao),(.func (.func f7) x7 y7,[],zad [59]),(.func (.func f8) x8 y8,[],zad [112,101,97,107]),(.func (.func f9) x9 y9,[dI 0,dI 0],za8),(.func (.func f10) x10 y10,[],zad [59]),(.func (.func f11) x11 y11,[dN],zaL [110,111,100,101] 12 45 7 zb4),(.func (.func f12) x12 y12,[dN,dI 0,dI 0],zcN),(.func (.func 91) #[.pointer (some ⟨E.rb,0,none⟩)] #[],[],zcQ)]):=zh (zab (uq HC12) (zk _) zlC);refine zaq 44 (λK hK=>?_);go_simp;clear zH;refine hK.out _ _ ?_ (λzH=>?_)
 ·trivial
 clear hK K;try simp only[Yq]
 refine zaq 45 (λK hK=>?_);go_simp;clear zH;(refine(za5 (E:=E) (m:=0) (ss:= [(.func (.func f1) x1 y1,[],zad [99,121,99,108,101]),(.func (.func f2) x2 y2,[dI 0],zao),(.func (.func f3) x3 y3,[],zad [116,111]),(.func (.func f4) x4 y4,[dI 0],zao),(.func (.func f5) x5 y5,[],zad [98,121]),(.func (.func f6) x6 y6,[dI 0],zao),(.func (.func f7) x7 y7,[],zad [59]),(.func (.func f8) x8 y8,[],zad [112,101,97,107]),(.func (.func f9) x9 y9,[dI 0,dI 0],za8),(.func (.func f10) x10 y10,[],zad [59]),(.func (.func f11) x11 y11,[dN],zaL [110,111,100,101] 12 45 7 zb4),(.func (.func f12) x12 y12,[dN,dI 0,dI 0],zcN),(.func (.func 91) #[.pointer (some ⟨E.rb,0,none⟩)] #[],[],zcQ)]) (c:= []) (rest:= []) (r:=r) (by simp) (zaS ((zk _).alloc _) (uq HC12_12)) (za1 _ _ _) (λh=>Nat.lt_irrefl _ ((uq HS12) _ h)) rfl ((uq HR).keep ((uq HK12).alloc _)) ((uq HL).keep ((uq HK12).alloc _))).mono ?_;rintro e wz hp;obtain⟨vz,rfl⟩:=zbA hp;have HP:=zh hp;have HKz:=zh ((uq HK12).alloc (.cells #[.func (.func f1) x1 y1,.func (.func f2) x2 y2,.func (.func f3) x3 y3,.func (.func f4) x4 y4,.func (.func f5) x5 y5,.func (.func f6) x6 y6,.func (.func f7) x7 y7,.func (.func f8) x8 y8,.func (.func f9) x9 y9,.func (.func f10) x10 y10,.func (.func f11) x11 y11,.func (.func f12) x12 y12,.func (.func 91) #[.pointer (some ⟨E.rb,0,none⟩)] #[]] 162));clear hp);try go_wp2_with fail
 refine hK.out _ _ ?_ (λzH=>?_)
 ·trivial
 clear hK K;try simp only[Yq]
 refine tkk 46 4 zH ?_;try simp only[Yq]
 refine wpAnyH_done (by kernel_rfl) ?_ _;clear zH;go_wp2_with fail
 go_ret;exact zbN (.keep (uq HKz)) (uq HP)
end Go.Proofs.YthceiikgecoimaaGreatDoor
namespace Go.Proofs.YthceiikgecoimaaGreatDoor
open Go.RowKit
set_option linter.unusedVariables false
set_option linter.unusedSimpArgs false
set_option maxRecDepth 10000
theorem ze4:∀ w P,Rd w dN P (.slice none 0 0):=λw P=>⟨rfl,rfl⟩
theorem zij {rb:Nat} {l:List Tok} {ta:Addr} {cap:Nat} (hta:ta.block≠rb):zbh rb l ta cap 117 77 [.string ⟨#[]⟩,.int .i64 0,.int .i64 0,.int .i64 0,.int .i64 0,.int .i64 0,.int .i64 0,.int .i64 0,.int .i64 0,.int .i64 0,.int .i64 0] zbT:=by
 refine⟨λxs w=>by kernel_rfl,zbQ,zcD (n:=10) (cs:= [dI 0,dS [],dI 0,dI 0,dI 0,dI 0,dI 0,dI 0,dI 0,dI 0,dI 0]) hta rfl rfl (λj d hd=>?_) (λE w xb r hE hS hr hl=>?_)⟩
 ·match j,hd with
  |0,hd=>simp at hd;subst hd;exact⟨.int .i64 0,rfl,zbE 0⟩
  |1,hd=>simp at hd;subst hd;exact⟨.string ⟨#[]⟩,rfl,zd4 []⟩
  |2,hd=>simp at hd;subst hd;exact⟨.int .i64 0,rfl,zbE 0⟩
  |3,hd=>simp at hd;subst hd;exact⟨.int .i64 0,rfl,zbE 0⟩
  |4,hd=>simp at hd;subst hd;exact⟨.int .i64 0,rfl,zbE 0⟩
  |5,hd=>simp at hd;subst hd;exact⟨.int .i64 0,rfl,zbE 0⟩
  |6,hd=>simp at hd;subst hd;exact⟨.int .i64 0,rfl,zbE 0⟩
  |7,hd=>simp at hd;subst hd;exact⟨.int .i64 0,rfl,zbE 0⟩
  |8,hd=>simp at hd;subst hd;exact⟨.int .i64 0,rfl,zbE 0⟩
  |9,hd=>simp at hd;subst hd;exact⟨.int .i64 0,rfl,zbE 0⟩
  |10,hd=>simp at hd;subst hd;exact⟨.int .i64 0,rfl,zbE 0⟩
  |j+11,hd=>simp at hd
 ·subst hE;exact zeJ _ xb w r (zh rfl) (zh rfl) (zh rfl) (zh rfl) (zh rfl) (zh rfl) (zh rfl) (zh rfl) (zh rfl) (zh rfl) (zh rfl) (zh hS) (zh (Nat.le_refl _)) (zh hr) (zh hl)
theorem zkq {rb:Nat} {l:List Tok} {ta:Addr} {cap:Nat} (hta:ta.block≠rb):zbh rb l ta cap 119 79 [.string ⟨#[]⟩,.string ⟨#[]⟩,.int .i64 0,.int .i64 0,.int .i64 0,.int .i64 0] zb0:=by
 refine⟨λxs w=>by kernel_rfl,zbP,zcD (n:=5) (cs:= [dI 0,dS [],dS [],dI 0,dI 0,dI 0]) hta rfl rfl (λj d hd=>?_) (λE w xb r hE hS hr hl=>?_)⟩
 ·match j,hd with
  |0,hd=>simp at hd;subst hd;exact⟨.int .i64 0,rfl,zbE 0⟩
  |1,hd=>simp at hd;subst hd;exact⟨.string ⟨#[]⟩,rfl,zd4 []⟩
  |2,hd=>simp at hd;subst hd;exact⟨.string ⟨#[]⟩,rfl,zd4 []⟩
  |3,hd=>simp at hd;subst hd;exact⟨.int .i64 0,rfl,zbE 0⟩
  |4,hd=>simp at hd;subst hd;exact⟨.int .i64 0,rfl,zbE 0⟩
  |5,hd=>simp at hd;subst hd;exact⟨.int .i64 0,rfl,zbE 0⟩
  |j+6,hd=>simp at hd
 ·subst hE;exact zki _ xb w r (zh rfl) (zh rfl) (zh rfl) (zh rfl) (zh rfl) (zh rfl) (zh hS) (zh (Nat.le_refl _)) (zh hr) (zh hl)
theorem zkr {rb:Nat} {l:List Tok} {ta:Addr} {cap:Nat} (hta:ta.block≠rb):zbh rb l ta cap 125 88 [.string ⟨#[]⟩,.string ⟨#[]⟩,.int .i64 0] zeX:=by
 refine⟨λxs w=>by kernel_rfl,zcW,zcD (n:=2) (cs:= [dI 0,dS [],dS []]) hta rfl rfl (λj d hd=>?_) (λE w xb r hE hS hr hl=>?_)⟩
 ·match j,hd with
  |0,hd=>simp at hd;subst hd;exact⟨.int .i64 0,rfl,zbE 0⟩
  |1,hd=>simp at hd;subst hd;exact⟨.string ⟨#[]⟩,rfl,zd4 []⟩
  |2,hd=>simp at hd;subst hd;exact⟨.string ⟨#[]⟩,rfl,zd4 []⟩
  |j+3,hd=>simp at hd
 ·subst hE;exact zlI _ xb w r (zh rfl) (zh rfl) (zh rfl) (zh hS) (zh (Nat.le_refl _)) (zh hr) (zh hl)
theorem zik {rb:Nat} {l:List Tok} {ta:Addr} {cap:Nat} (hta:ta.block≠rb):zbh rb l ta cap 129 48 [.string ⟨#[]⟩,.string ⟨#[]⟩,.string ⟨#[]⟩,.int .i64 0,.int .i64 0,.int .i64 0] zbC:=by
 refine⟨λxs w=>by kernel_rfl,zcI,zcD (n:=5) (cs:= [dI 0,dS [],dS [],dS [],dI 0,dI 0]) hta rfl rfl (λj d hd=>?_) (λE w xb r hE hS hr hl=>?_)⟩
 ·match j,hd with
  |0,hd=>simp at hd;subst hd;exact⟨.int .i64 0,rfl,zbE 0⟩
  |1,hd=>simp at hd;subst hd;exact⟨.string ⟨#[]⟩,rfl,zd4 []⟩
  |2,hd=>simp at hd;subst hd;exact⟨.string ⟨#[]⟩,rfl,zd4 []⟩
  |3,hd=>simp at hd;subst hd;exact⟨.string ⟨#[]⟩,rfl,zd4 []⟩
  |4,hd=>simp at hd;subst hd;exact⟨.int .i64 0,rfl,zbE 0⟩
  |5,hd=>simp at hd;subst hd;exact⟨.int .i64 0,rfl,zbE 0⟩
  |j+6,hd=>simp at hd
 ·subst hE;exact zkj _ xb w r (zh rfl) (zh rfl) (zh rfl) (zh rfl) (zh rfl) (zh rfl) (zh hS) (zh (Nat.le_refl _)) (zh hr) (zh hl)
theorem zgY {rb:Nat} {l:List Tok} {ta:Addr} {cap:Nat} (hta:ta.block≠rb):zbh rb l ta cap 121 81 [.string ⟨#[]⟩,.slice none 0 0,.int .i64 0] zbn:=by
 refine⟨λxs w=>by kernel_rfl,zbU,zcD (n:=2) (cs:= [dI 0,dS [],dN]) hta rfl rfl (λj d hd=>?_) (λE w xb r hE hS hr hl=>?_)⟩
 ·match j,hd with
  |0,hd=>simp at hd;subst hd;exact⟨.int .i64 0,rfl,zbE 0⟩
  |1,hd=>simp at hd;subst hd;exact⟨.string ⟨#[]⟩,rfl,zd4 []⟩
  |2,hd=>simp at hd;subst hd;exact⟨.slice none 0 0,rfl,ze4⟩
  |j+3,hd=>simp at hd
 ·subst hE;exact zif _ xb w r (zh rfl) (zh rfl) (zh rfl) (zh hS) (zh (Nat.le_refl _)) (zh hr) (zh hl)
theorem zks {rb:Nat} {l:List Tok} {ta:Addr} {cap:Nat} (hta:ta.block≠rb):zbh rb l ta cap 152 86 [.bool false,.slice none 0 0] zaU:=by
 refine⟨λxs w=>by kernel_rfl,zbb,zeS (cs:= [dB false,dN]) hta rfl (λj d hd=>?_) (λE w xb r hE hS hr hl=>?_)⟩
 ·match j,hd with
  |0,hd=>simp at hd;subst hd;exact⟨.bool false,rfl,zgi false⟩
  |1,hd=>simp at hd;subst hd;exact⟨.slice none 0 0,rfl,ze4⟩
  |j+2,hd=>simp at hd
 ·subst hE;exact zkl _ xb w r (zh rfl) (zh rfl) (zh hS) (zh (Nat.le_refl _)) (zh hr) (zh hl)
theorem zgZ {rb:Nat} {l:List Tok} {ta:Addr} {cap:Nat} (hta:ta.block≠rb):zbh rb l ta cap 123 84 [.slice none 0 0] zbk:=by
 refine⟨λxs w=>by kernel_rfl,zbu,zeS (cs:= [dN]) hta rfl (λj d hd=>?_) (λE w xb r hE hS hr hl=>?_)⟩
 ·match j,hd with
  |0,hd=>simp at hd;subst hd;exact⟨.slice none 0 0,rfl,ze4⟩
  |j+1,hd=>simp at hd
 ·subst hE;exact zd0 _ xb w r (zh rfl) (zh hS) (zh (Nat.le_refl _)) (zh hr) (zh hl) (zh (zks hta))
theorem zil {rb:Nat} {l:List Tok} {ta:Addr} {cap:Nat} (hta:ta.block≠rb):zbh rb l ta cap 89 45 [.string ⟨#[]⟩,.slice none 0 0,.slice none 0 0,.slice none 0 0,.slice none 0 0,.slice none 0 0,.int .i64 0] zb4:=by
 refine⟨λxs w=>by kernel_rfl,zbR,zcD (n:=6) (cs:= [dI 0,dS [],dN,dN,dN,dN,dN]) hta rfl rfl (λj d hd=>?_) (λE w xb r hE hS hr hl=>?_)⟩
 ·match j,hd with
  |0,hd=>simp at hd;subst hd;exact⟨.int .i64 0,rfl,zbE 0⟩
  |1,hd=>simp at hd;subst hd;exact⟨.string ⟨#[]⟩,rfl,zd4 []⟩
  |2,hd=>simp at hd;subst hd;exact⟨.slice none 0 0,rfl,ze4⟩
  |3,hd=>simp at hd;subst hd;exact⟨.slice none 0 0,rfl,ze4⟩
  |4,hd=>simp at hd;subst hd;exact⟨.slice none 0 0,rfl,ze4⟩
  |5,hd=>simp at hd;subst hd;exact⟨.slice none 0 0,rfl,ze4⟩
  |6,hd=>simp at hd;subst hd;exact⟨.slice none 0 0,rfl,ze4⟩
  |j+7,hd=>simp at hd
 ·subst hE;exact zeK _ xb w r (zh rfl) (zh rfl) (zh rfl) (zh rfl) (zh rfl) (zh rfl) (zh rfl) (zh hS) (zh (Nat.le_refl _)) (zh hr) (zh hl) (zh (zij hta)) (zh (zkq hta)) (zh (zgY hta)) (zh (zgZ hta)) (zh (zkr hta))
end Go.Proofs.YthceiikgecoimaaGreatDoor
namespace Go.Proofs.YthceiikgecoimaaGreatDoor
open Go.RowKit
attribute [local go_sem ↓] Go.wp_at_zero Go.wp_at_succ
set_option linter.unusedVariables false
set_option linter.unusedSimpArgs false
set_option maxRecDepth 10000
def nine (us:List Value):Prop:=us.length=9
theorem zim {us:List Value} (h:us.length=9):∃ a b c d e f g i j,us= [a,b,c,d,e,f,g,i,j]:=by
 match us,h with
 | [a,b,c,d,e,f,g,i,j],_=>exact⟨a,b,c,d,e,f,g,i,j,rfl⟩
def zN:List Value:= [.int .i64 0,.int .i64 0,.int .i64 0,.int .i64 0,.int .i64 0,.slice none 0 0,.slice none 0 0,.int .i64 0,.int .i64 0]
def cN:List D:= [dI 0,dI 0,dI 0,dI 0,dI 0,dN,dN,dI 0,dI 0]
def zin (X:Except Er (List D)) (w:World) (e:Ending) (w':World):Prop:=Keep w w'/\∃ a b c d f g h i j,(∀ u∈ [a,b,c,d,f,g,h,i,j],u.oneCell'=true)/\
 match X with
 | .error x=>e= .returned (.tuple #[.agg #[a,b,c,d,f,g,h,i,j],flt x])
 | .ok cs=>e= .returned (.tuple #[.agg #[a,b,c,d,f,g,h,i,j],.nilIface])/\Rds w' cs (λq=>w.heap.size<=q) [a,b,c,d,f,g,h,i,j]
set_option maxHeartbeats 4000000 in
theorem zhC (v0:Value) (x:Int×Nat) (w:World) (hx:x.1≠0) (T1:Hid (∀ w',Keep w w'->Calls Tryz.prog 55 #[v0] w' (Tp (.error x) w'))):
  Calls Tryz.prog 22 #[v0] w (zin (.error (x.1,(x.2:Int))) w):=by
 have hb:(x.1 !=0)=true:=by simp[hx]
 have hb2:(x.1==0)=false:=by simp[hx]
 have HK:=zh ((zk w).alloc (.cells zN.toArray 27));clear hx;unfold zN at HK
 go_enter Tryz.func22,Tryz.ntmps22;go_wp2_with fail
 (refine((uq T1) _ (uq HK)).mono ?_;rintro e w2 ⟨v,rfl,hts,_,hk⟩;obtain⟨a0,c0,rfl⟩:=hts.shape;clear hts;obtain⟨o1,k1,rfl⟩:=hk.ext;clear hk);simp only[te,tn];go_wp2_with fail
 exact bodyPost_ret (v:= .tuple #[.agg #[.int .i64 0,.int .i64 0,.int .i64 0,.int .i64 0,.int .i64 0,.slice none 0 0,.slice none 0 0,.int .i64 0,.int .i64 0],flt (x.1,(x.2:Int))]) (by simp[results,Tryz.results22,go_sem,flt]) rfl ⟨by repeat(first|apply zaa|apply Keep.alloc|apply Keep.drew|exact zk _),_,_,_,_,_,_,_,_,_,by simp[Value.oneCell'],rfl⟩
theorem Keep.set {a b:World} (h:Keep a b) (ad:Addr) (v:Value) (hb:a.heap.size<=ad.block):Keep a (b.setCell ad v):=⟨h.os,h.tape,h.output,by have:=h.size;simpa [World.setCell]using this,λi hi=>by rw[Below.heap_setCell _ _ _ _ (by omega)];exact h.block i hi⟩
theorem zpg {w:World} {b:Nat} {t:TypeId} (h:shp w b=some (9,t,(0,0))) (h1:zl3 w b):∃ u0 u1 u2 u3 u4 u5 u6 u7 u8,w.heap[b]? =some (.cells #[u0,u1,u2,u3,u4,u5,u6,u7,u8] t (0,0))/\∀ u∈ [u0,u1,u2,u3,u4,u5,u6,u7,u8],u.oneCell'=true:=by
 unfold shp at h
 split at h
 ·rename_i arr t' f' hb
  injection h with h
  injection h with ha hb2
  injection hb2 with hb2 hb3
  subst hb2 hb3;obtain⟨l⟩:=arr;simp at ha;obtain⟨u0,u1,u2,u3,u4,u5,u6,u7,u8,rfl⟩:=zim ha;refine⟨u0,u1,u2,u3,u4,u5,u6,u7,u8,hb,λu hu=>?_⟩;obtain⟨i,hi⟩:=List.mem_iff_getElem?.1 hu;refine h1 i u ?_;simp only[World.cell?,hb];simpa using hi
 ·cases h
theorem zsE:∀(j:Nat) d,cN[j]? =some d->∃ v,zN[j]? =some v/\∀ w P,Rd w d P v:=by
 intro j d hd
 match j,hd with
 |0,hd=>simp[cN]at hd;subst hd;exact⟨_,rfl,zbE 0⟩
 |1,hd=>simp[cN]at hd;subst hd;exact⟨_,rfl,zbE 0⟩
 |2,hd=>simp[cN]at hd;subst hd;exact⟨_,rfl,zbE 0⟩
 |3,hd=>simp[cN]at hd;subst hd;exact⟨_,rfl,zbE 0⟩
 |4,hd=>simp[cN]at hd;subst hd;exact⟨_,rfl,zbE 0⟩
 |5,hd=>simp[cN]at hd;subst hd;exact⟨_,rfl,ze4⟩
 |6,hd=>simp[cN]at hd;subst hd;exact⟨_,rfl,ze4⟩
 |7,hd=>simp[cN]at hd;subst hd;exact⟨_,rfl,zbE 0⟩
 |8,hd=>simp[cN]at hd;subst hd;exact⟨_,rfl,zbE 0⟩
 |j+9,hd=>simp[cN]at hd
theorem zgI (rb nb lo:Nat) (l:List Tok) (ta:Addr) (cap:Nat) (w:World) (hr:R0 rb l ta cap w l) (hnb:w.heap[nb]? =some (.cells zN.toArray 27 (0,0))) (hrb:rb<w.heap.size) (h1:nb≠rb) (h2:nb≠ta.block) (h3:ta.block≠rb) (hlo:lo<=w.heap.size):
  Calls Tryz.prog 56 #[.pointer (some ⟨rb,0,none⟩),.pointer (some ⟨nb,0,none⟩)] w λe w'=>∃ v u0 u1 u2 u3 u4 u5 u6 u7 u8,e= .returned v/\Fr (λb=>b=rb\/b=nb) w w'/\w'.heap[nb]? =some (.cells #[u0,u1,u2,u3,u4,u5,u6,u7,u8] 27 (0,0))/\(∀ u∈ [u0,u1,u2,u3,u4,u5,u6,u7,u8],u.oneCell'=true)/\
   match zd8 l with
   | .error x=>v=flt x
   | .ok (c,_)=>v= .nilIface/\Rds w' c (λb=>lo<=b/\b≠rb/\b≠nb) [u0,u1,u2,u3,u4,u5,u6,u7,u8]:=by
 have hnl:nb<w.heap.size:=(Array.getElem?_eq_some_iff.1 hnb).1;have hS:∀ b,(Env.one rb l ta cap nb (λj=>j) lo).S b->b<w.heap.size:=λb hb=>by rcases hb with rfl|rfl<;>assumption
 have hR:Rdr (Env.one rb l ta cap nb (λj=>j) lo) w l:=zeR hr h2 (λe=>h3 e.symm);have hL:Cel (Env.one rb l ta cap nb (λj=>j) lo) w cN:=zfT hnb h1 rfl (λi j hi hj e=>e) zsE;refine(zfK (Env.one rb l ta cap nb (λj=>j) lo) nb w l (zh rfl) (zh rfl) (zh rfl) (zh rfl) (zh rfl) (zh rfl) (zh rfl) (zh rfl) (zh rfl) (zh hS) (zh hlo) (zh hR) (zh hL) (zh (zil h3)) (zh (zik h3))).mono ?_;rintro e w' hp;obtain⟨v,rfl⟩:=zbA hp;have hf:Fr (λb=>b=rb\/b=nb) w w':=hp.1;have hsh:shp w' nb=some (9,27,(0,0)):=by rw[hf.shape nb hnl];unfold shp;rw[hnb];rfl
 have hon:zl3 w' nb:=hf.ones nb hnl (λi v hv=>by
  have:zN[i]? =some v:=by
   have h9:=hv;simp only[World.cell?,hnb]at h9;simpa using h9
  have hm:v∈zN:=List.mem_iff_getElem?.2 ⟨i,this⟩;simp only[zN,List.mem_cons,List.not_mem_nil,or_false]at hm;rcases hm with rfl|rfl|rfl|rfl|rfl|rfl|rfl|rfl|rfl<;>rfl)
 obtain⟨u0,u1,u2,u3,u4,u5,u6,u7,u8,hb,h1c⟩:=zpg hsh hon;refine⟨v,u0,u1,u2,u3,u4,u5,u6,u7,u8,rfl,hf,hb,h1c,?_⟩;obtain⟨_,hp⟩:=hp;cases hx:zd8 l with
 |error x=>
  have hx':sq _ [] l= .error x:=hx;rw[hx']at hp;injection hp
 |ok q=>
  obtain⟨c,r'⟩:=q;have hx':sq _ [] l= .ok (c,r'):=hx;rw[hx']at hp;obtain⟨p1,p2,p3,p4⟩:=hp;injection p1 with p1
  refine⟨p1,?_⟩;obtain⟨vs,k1,k2⟩:=zhz (w:=w') (xb:=nb) (P:=λb=>lo<=b/\b≠rb/\b≠nb) c 0 (λj d hd=>by
   obtain⟨v,q1,q2,_⟩:=p4.2 j d (by simpa using hd);exact⟨v,by rw[Nat.zero_add];exact q1,Rd.move d _ _ v q2 (λb hb _=>⟨rfl,hb.2,λe=>hb.1 (.inl e),λe=>hb.1 (.inr e)⟩)⟩)
  have hlen:vs.length=9:=(zba _ _ _ k2).trans p2;have:vs= [u0,u1,u2,u3,u4,u5,u6,u7,u8]:=by
   apply List.ext_getElem?;intro i
   cases hv:vs[i]? with
   |none=>rw[List.getElem?_eq_none_iff]at hv;rw[eq_comm,List.getElem?_eq_none_iff];simp;omega
   |some v=>
    have h9:=k1 i v hv;rw[Nat.zero_add]at h9;simp only[World.cell?,hb]at h9;simpa using h9.symm
  rw[<- this];exact k2
theorem zfP (W:World) (b i:Nat) (u old:Value) (ho:u.oneCell'=true) (hc:W.cell? ⟨b,i,none⟩=some old) (hf:W.frozen? ⟨b,i,none⟩=false):(store ⟨b,i,none⟩ u).run Tryz.prog W= .ok () (W.setCell ⟨b,i,none⟩ u):=by
 rw[run_store Tryz.prog W ⟨b,i,none⟩ u _ ho];simp[hc,hf]
theorem zeO {W:World} {b i:Nat} {arr:Array Value} {t:TypeId} {fr:Nat×Nat} (h:W.heap[b]? =some (.cells arr t fr)) (v:Value):(W.setCell ⟨b,i,none⟩ v).heap[b]? =some (.cells (arr.setIfInBounds i v) t fr):=by
 simp[World.setCell,Array.getElem?_modify,h]
theorem zbg {W:World} {b:Nat} {t:TypeId} {arr:Array Value} (h:W.heap[b]? =some (.cells arr t (0,0))) (i:Nat) {z u:Value} (hi:arr[i]? =some z) (ho:u.oneCell'=true):
  ∃ W',(store ⟨b,i,none⟩ u).run Tryz.prog W= .ok () W'/\W'.heap[b]? =some (.cells (arr.setIfInBounds i u) t (0,0))/\(∀ q,q≠b->W'.heap[q]? =W.heap[q]?)/\W'.heap.size=W.heap.size/\W'.os=W.os/\W'.tape=W.tape/\W'.output=W.output:=
 ⟨_,zfP W b i u z ho (by simp[World.cell?,h,hi]) (by simp[World.frozen?,h]),zeO h u,λq hq=>Below.heap_setCell _ _ _ _ hq,by simp[World.setCell],rfl,rfl,rfl⟩
set_option maxHeartbeats 2000000 in
theorem zdL {W:World} {b:Nat} {t:TypeId} {z0 z1 z2 z3 z4 z5 z6 z7 z8:Value} (h:W.heap[b]? =some (.cells #[z0,z1,z2,z3,z4,z5,z6,z7,z8] t (0,0))) {u0 u1 u2 u3 u4 u5 u6 u7 u8:Value} (ho:∀ u∈ [u0,u1,u2,u3,u4,u5,u6,u7,u8],u.oneCell'=true):
  ∃ W1 W2 W3 W4 W5 W6 W7 W8 W9,(store ⟨b,0,none⟩ u0).run Tryz.prog W= .ok () W1/\(store ⟨b,1,none⟩ u1).run Tryz.prog W1= .ok () W2/\(store ⟨b,2,none⟩ u2).run Tryz.prog W2= .ok () W3/\(store ⟨b,3,none⟩ u3).run Tryz.prog W3= .ok () W4/\(store ⟨b,4,none⟩ u4).run Tryz.prog W4= .ok () W5/\(store ⟨b,5,none⟩ u5).run Tryz.prog W5= .ok () W6/\(store ⟨b,6,none⟩ u6).run Tryz.prog W6= .ok () W7/\(store ⟨b,7,none⟩ u7).run Tryz.prog W7= .ok () W8/\(store ⟨b,8,none⟩ u8).run Tryz.prog W8= .ok () W9/\W9.heap[b]? =some (.cells #[u0,u1,u2,u3,u4,u5,u6,u7,u8] t (0,0))/\(∀ q,q≠b->W9.heap[q]? =W.heap[q]?)/\W9.heap.size=W.heap.size/\W9.os=W.os/\W9.tape=W.tape/\W9.output=W.output:=by
 obtain⟨W1,s0,g0,q0,z0',a0,b0,c0⟩:=zbg h 0 (z:=z0) (u:=u0) rfl (ho _ (by simp));have h0:W1.heap[b]? =some (.cells #[u0,z1,z2,z3,z4,z5,z6,z7,z8] t (0,0)):=g0;obtain⟨W2,s1,g1,q1,z1',a1,b1,c1⟩:=zbg h0 1 (z:=z1) (u:=u1) rfl (ho _ (by simp));have h1:W2.heap[b]? =some (.cells #[u0,u1,z2,z3,z4,z5,z6,z7,z8] t (0,0)):=g1;obtain⟨W3,s2,g2,q2,z2',a2,b2,c2⟩:=zbg h1 2 (z:=z2) (u:=u2) rfl (ho _ (by simp));have h2:W3.heap[b]? =some (.cells #[u0,u1,u2,z3,z4,z5,z6,z7,z8] t (0,0)):=g2;obtain⟨W4,s3,g3,q3,z3',a3,b3,c3⟩:=zbg h2 3 (z:=z3) (u:=u3) rfl (ho _ (by simp));have h3:W4.heap[b]? =some (.cells #[u0,u1,u2,u3,z4,z5,z6,z7,z8] t (0,0)):=g3;obtain⟨W5,s4,g4,q4,z4',a4,b4,c4⟩:=zbg h3 4 (z:=z4) (u:=u4) rfl (ho _ (by simp));have h4:W5.heap[b]? =some (.cells #[u0,u1,u2,u3,u4,z5,z6,z7,z8] t (0,0)):=g4;obtain⟨W6,s5,g5,q5,z5',a5,b5,c5⟩:=zbg h4 5 (z:=z5) (u:=u5) rfl (ho _ (by simp));have h5:W6.heap[b]? =some (.cells #[u0,u1,u2,u3,u4,u5,z6,z7,z8] t (0,0)):=g5;obtain⟨W7,s6,g6,q6,z6',a6,b6,c6⟩:=zbg h5 6 (z:=z6) (u:=u6) rfl (ho _ (by simp));have h6:W7.heap[b]? =some (.cells #[u0,u1,u2,u3,u4,u5,u6,z7,z8] t (0,0)):=g6;obtain⟨W8,s7,g7,q7,z7',a7,b7,c7⟩:=zbg h6 7 (z:=z7) (u:=u7) rfl (ho _ (by simp));have h7:W8.heap[b]? =some (.cells #[u0,u1,u2,u3,u4,u5,u6,u7,z8] t (0,0)):=g7;obtain⟨W9,s8,g8,q8,z8',a8,b8,c8⟩:=zbg h7 8 (z:=z8) (u:=u8) rfl (ho _ (by simp));have h8:W9.heap[b]? =some (.cells #[u0,u1,u2,u3,u4,u5,u6,u7,u8] t (0,0)):=g8;refine⟨W1,W2,W3,W4,W5,W6,W7,W8,W9,s0,s1,s2,s3,s4,s5,s6,s7,s8,h8,λq hq=>?_,?_,?_,?_,?_⟩
 ·rw[q8 q hq,q7 q hq,q6 q hq,q5 q hq,q4 q hq,q3 q hq,q2 q hq,q1 q hq,q0 q hq]
 ·rw[z8',z7',z6',z5',z4',z3',z2',z1',z0']
 ·rw[a8,a7,a6,a5,a4,a3,a2,a1,a0]
 ·rw[b8,b7,b6,b5,b4,b3,b2,b1,b0]
 ·rw[c8,c7,c6,c5,c4,c3,c2,c1,c0]
def XN (l:List Tok):Except Er (List D):=match zd8 l with
 | .error x=> .error x
 | .ok (c,_)=> .ok c
set_option maxHeartbeats 8000000 in
theorem zph (v0:Value) (L:List Tok) (w:World) (hwf:Hid (Wf L)) (T1:Hid (∀ w',Keep w w'->Calls Tryz.prog 55 #[v0] w' (Tp (.ok L) w'))):
  Calls Tryz.prog 22 #[v0] w (zin (XN L) w):=by
 have HK:=zh ((zk w).alloc (.cells #[.int .i64 0,.int .i64 0,.int .i64 0,.int .i64 0,.int .i64 0,.slice none 0 0,.slice none 0 0,.int .i64 0,.int .i64 0] 27));have htb0:=zh (heap_alloc_new w (.cells #[.int .i64 0,.int .i64 0,.int .i64 0,.int .i64 0,.int .i64 0,.slice none 0 0,.slice none 0 0,.int .i64 0,.int .i64 0] 27));have hsz0:=zh (World.size_alloc w (.cells #[.int .i64 0,.int .i64 0,.int .i64 0,.int .i64 0,.int .i64 0,.slice none 0 0,.slice none 0 0,.int .i64 0,.int .i64 0] 27));go_enter Tryz.func22,Tryz.ntmps22;go_wp2_with fail
 generalize w.alloc (.cells #[.int .i64 0,.int .i64 0,.int .i64 0,.int .i64 0,.int .i64 0,.slice none 0 0,.slice none 0 0,.int .i64 0,.int .i64 0] 27)=w1 at HK htb0 hsz0 |-;(refine((uq T1) _ (uq HK)).mono ?_;rintro e w2 ⟨v,rfl,hts,hlo,hk⟩);simp only[te,tn,tl]at hts |-;obtain⟨a0,c0,rfl,hcap,hts⟩:=hts;have hpos:0<L.length:=by obtain⟨_,⟨m,t,hm,_⟩,_⟩:=uq hwf;rw[hm];simp
 obtain⟨ta,rfl,hta,_⟩:=hts 0 hpos;have htc:∀ k,k<L.length->Tc w2 (ta.add (k * 4)) (L.getD k t0):=λk hk=>by
  obtain⟨ad,e,_,h⟩:=hts k hk;injection e with e
  subst e;exact h
 have hlo':w1.heap.size<=ta.block:=hlo ta _ _ rfl;have HTC:=zh htc;have HTA:=zh hta;have HLO:=zh hlo';have HK2:=zh hk;have HPOS:=zh hpos;clear hts hcap htc hta hlo hlo' hk hpos;obtain⟨n,HN⟩:∃ n,Hid (L.length=n):=⟨_,rfl⟩;rw[uq HN];obtain⟨tb,HTB⟩:∃ tb,Hid (w.heap.size=tb):=⟨_,rfl⟩;rw[uq HTB]at htb0 hsz0 |-;go_wp2_with fail
 have HKa:=zh (zaM w2 (.cells #[.int .i64 0,.int .i64 0,.int .i64 0,.int .i64 0,.int .i64 0,.slice none 0 0,.slice none 0 0,.int .i64 0,.int .i64 0] 27) (.cells #[.slice (some ta) n c0,.int .i64 0] 125));have hnb:Hid (((w2.alloc (.cells #[.int .i64 0,.int .i64 0,.int .i64 0,.int .i64 0,.int .i64 0,.slice none 0 0,.slice none 0 0,.int .i64 0,.int .i64 0] 27)).alloc (.cells #[.slice (some ta) n c0,.int .i64 0] 125)).heap[w2.heap.size]? =some (.cells #[.int .i64 0,.int .i64 0,.int .i64 0,.int .i64 0,.int .i64 0,.slice none 0 0,.slice none 0 0,.int .i64 0,.int .i64 0] 27 (0,0))):=zh (by rw[heap_alloc_old _ _ (by rw[World.size_alloc];omega)];exact heap_alloc_new w2 _);have hrb:Hid (((w2.alloc (.cells #[.int .i64 0,.int .i64 0,.int .i64 0,.int .i64 0,.int .i64 0,.slice none 0 0,.slice none 0 0,.int .i64 0,.int .i64 0] 27)).alloc (.cells #[.slice (some ta) n c0,.int .i64 0] 125)).heap[w2.heap.size+1]? =some (.cells #[.slice (some ta) n c0,.int .i64 0] 125 (0,0))):=zh (by have:=heap_alloc_new (w2.alloc (.cells #[.int .i64 0,.int .i64 0,.int .i64 0,.int .i64 0,.int .i64 0,.slice none 0 0,.slice none 0 0,.int .i64 0,.int .i64 0] 27)) (.cells #[.slice (some ta) n c0,.int .i64 0] 125);rw[World.size_alloc]at this;exact this);have hsz:Hid (((w2.alloc (.cells #[.int .i64 0,.int .i64 0,.int .i64 0,.int .i64 0,.int .i64 0,.slice none 0 0,.slice none 0 0,.int .i64 0,.int .i64 0] 27)).alloc (.cells #[.slice (some ta) n c0,.int .i64 0] 125)).heap.size=w2.heap.size+2):=zh (by rw[World.size_alloc,World.size_alloc]);generalize (w2.alloc (.cells #[.int .i64 0,.int .i64 0,.int .i64 0,.int .i64 0,.int .i64 0,.slice none 0 0,.slice none 0 0,.int .i64 0,.int .i64 0] 27)).alloc (.cells #[.slice (some ta) n c0,.int .i64 0] 125)=wb at HKa hnb hrb hsz |-;obtain⟨nb,HNB⟩:∃ nb,Hid (w2.heap.size=nb):=⟨_,rfl⟩;rw[uq HNB]at hnb hrb hsz |-;have hr:R0 (nb+1) L ta c0 wb L:=by
  refine⟨0,uq HPOS,rfl,by simp[World.cell?,uq hrb,uq HN],by simp[World.cell?,uq hrb],by simp[World.frozen?,uq hrb],Nat.lt_of_lt_of_le (uq HTA) (uq HKa).size,λk hk=>((uq HTC) k hk).keep (by rw[zag];exact uq HTA) (uq HKa),uq hwf⟩
 have hx1:=uq HTA;have hx2:=uq HNB;have hx3:=(uq HK2).size;have hx4:=uq hsz0;refine(zgI (nb+1) nb (tb+1) L ta c0 wb hr (uq hnb) (by rw[uq hsz];omega) (by omega) (by omega) (by omega) (by rw[uq hsz];omega)).mono ?_;rintro e w3 ⟨vz,u0,u1,u2,u3,u4,u5,u6,u7,u8,rfl,hf,hnb3,hon,hres⟩;have htb3:w3.heap[tb]? =some (.cells #[.int .i64 0,.int .i64 0,.int .i64 0,.int .i64 0,.int .i64 0,.slice none 0 0,.slice none 0 0,.int .i64 0,.int .i64 0] 27 (0,0)):=by
  rw[hf.block tb (by rw[uq hsz];omega) (λe=>by rcases e with e|e<;>omega),(uq HKa).block tb (by omega),(uq HK2).block tb (by omega)];exact uq htb0
 have n0:w3.cell? ⟨nb,0,none⟩=some u0:=by simp[World.cell?,hnb3]
 have n1:w3.cell? ⟨nb,1,none⟩=some u1:=by simp[World.cell?,hnb3]
 have n2:w3.cell? ⟨nb,2,none⟩=some u2:=by simp[World.cell?,hnb3]
 have n3:w3.cell? ⟨nb,3,none⟩=some u3:=by simp[World.cell?,hnb3]
 have n4:w3.cell? ⟨nb,4,none⟩=some u4:=by simp[World.cell?,hnb3]
 have n5:w3.cell? ⟨nb,5,none⟩=some u5:=by simp[World.cell?,hnb3]
 have n6:w3.cell? ⟨nb,6,none⟩=some u6:=by simp[World.cell?,hnb3]
 have n7:w3.cell? ⟨nb,7,none⟩=some u7:=by simp[World.cell?,hnb3]
 have n8:w3.cell? ⟨nb,8,none⟩=some u8:=by simp[World.cell?,hnb3]
 have r0:w3.cell? ⟨tb,0,none⟩=some (.int .i64 0):=by simp[World.cell?,htb3]
 have r1:w3.cell? ⟨tb,1,none⟩=some (.int .i64 0):=by simp[World.cell?,htb3]
 have r2:w3.cell? ⟨tb,2,none⟩=some (.int .i64 0):=by simp[World.cell?,htb3]
 have r3:w3.cell? ⟨tb,3,none⟩=some (.int .i64 0):=by simp[World.cell?,htb3]
 have r4:w3.cell? ⟨tb,4,none⟩=some (.int .i64 0):=by simp[World.cell?,htb3]
 have r5:w3.cell? ⟨tb,5,none⟩=some (.slice none 0 0):=by simp[World.cell?,htb3]
 have r6:w3.cell? ⟨tb,6,none⟩=some (.slice none 0 0):=by simp[World.cell?,htb3]
 have r7:w3.cell? ⟨tb,7,none⟩=some (.int .i64 0):=by simp[World.cell?,htb3]
 have r8:w3.cell? ⟨tb,8,none⟩=some (.int .i64 0):=by simp[World.cell?,htb3]
 have f0:w3.frozen? ⟨tb,0,none⟩=false:=by simp[World.frozen?,htb3]
 have f1:w3.frozen? ⟨tb,1,none⟩=false:=by simp[World.frozen?,htb3]
 have f2:w3.frozen? ⟨tb,2,none⟩=false:=by simp[World.frozen?,htb3]
 have f3:w3.frozen? ⟨tb,3,none⟩=false:=by simp[World.frozen?,htb3]
 have f4:w3.frozen? ⟨tb,4,none⟩=false:=by simp[World.frozen?,htb3]
 have f5:w3.frozen? ⟨tb,5,none⟩=false:=by simp[World.frozen?,htb3]
 have f6:w3.frozen? ⟨tb,6,none⟩=false:=by simp[World.frozen?,htb3]
 have f7:w3.frozen? ⟨tb,7,none⟩=false:=by simp[World.frozen?,htb3]
 have f8:w3.frozen? ⟨tb,8,none⟩=false:=by simp[World.frozen?,htb3]
 have o0:u0.oneCell'=true:=hon u0 (by simp);have o1:u1.oneCell'=true:=hon u1 (by simp);have o2:u2.oneCell'=true:=hon u2 (by simp);have o3:u3.oneCell'=true:=hon u3 (by simp);have o4:u4.oneCell'=true:=hon u4 (by simp);have o5:u5.oneCell'=true:=hon u5 (by simp);have o6:u6.oneCell'=true:=hon u6 (by simp);have o7:u7.oneCell'=true:=hon u7 (by simp);have o8:u8.oneCell'=true:=hon u8 (by simp);have HRES:=zh hres;have HON:=zh hon;have HT3:=zh htb3;have HKw:Hid (Keep w w3):=zh ⟨hf.os.trans (((uq HKa).os.trans (uq HK2).os).trans (uq HK).os),hf.tape.trans (((uq HKa).tape.trans (uq HK2).tape).trans (uq HK).tape),hf.output.trans (((uq HKa).output.trans (uq HK2).output).trans (uq HK).output),by have:=hf.size;have:=(uq HKa).size;have:=(uq HK).size;omega,λi hi=>by
  have:=(uq HTB);rw[hf.block i (by rw[uq hsz];omega) (λe=>by rcases e with e|e<;>omega),(uq HKa).block i (by omega),(uq HK2).block i (by omega)];exact(uq HK).block i hi⟩
 clear hres hon hf hnb3 htb3 hr hx1 hx2 hx3 hx4;obtain⟨W1,W2,W3,W4,W5,W6,W7,W8,W9,s0,s1,s2,s3,s4,s5,s6,s7,s8,hb9,hq9,hz9,ho9,ht9,hp9⟩:=zdL (uq HT3) (uq HON);have HB9:=zh hb9;have HQ9:=zh hq9;have HK9:Hid (Keep w W9):=zh ⟨ho9.trans (uq HKw).os,ht9.trans (uq HKw).tape,hp9.trans (uq HKw).output,by have:=(uq HKw).size;omega,λi hi=>by rw[hq9 i (by have:=uq HTB;omega)];exact(uq HKw).block i hi⟩;have t0:W9.cell? ⟨tb,0,none⟩=some u0:=by simp[World.cell?,hb9]
 have t1:W9.cell? ⟨tb,1,none⟩=some u1:=by simp[World.cell?,hb9]
 have t2:W9.cell? ⟨tb,2,none⟩=some u2:=by simp[World.cell?,hb9]
 have t3:W9.cell? ⟨tb,3,none⟩=some u3:=by simp[World.cell?,hb9]
 have t4:W9.cell? ⟨tb,4,none⟩=some u4:=by simp[World.cell?,hb9]
 have t5:W9.cell? ⟨tb,5,none⟩=some u5:=by simp[World.cell?,hb9]
 have t6:W9.cell? ⟨tb,6,none⟩=some u6:=by simp[World.cell?,hb9]
 have t7:W9.cell? ⟨tb,7,none⟩=some u7:=by simp[World.cell?,hb9]
 have t8:W9.cell? ⟨tb,8,none⟩=some u8:=by simp[World.cell?,hb9]
 clear hb9 hq9 hz9 ho9 ht9 hp9;clear r0 r1 r2 r3 r4 r5 r6 r7 r8 f0 f1 f2 f3 f4 f5 f6 f7 f8;go_wp2_with fail
 refine bodyPost_ret (v:= .tuple #[.agg #[u0,u1,u2,u3,u4,u5,u6,u7,u8],vz]) ?_ rfl ?_
 ·simp[results,Tryz.results22,go_sem,t0,t1,t2,t3,t4,t5,t6,t7,t8]
 ·refine⟨?_,u0,u1,u2,u3,u4,u5,u6,u7,u8,uq HON,?_⟩
  ·exact uq HK9
  ·have hr:=uq HRES;unfold XN
   cases hx:zd8 L with
   |error x=>rw[hx]at hr;simp only at hr |-;rw[hr]
   |ok q=>
    obtain⟨c,r'⟩:=q;rw[hx]at hr;simp only at hr |-;refine⟨by rw[hr.1],Rds.move c _ _ _ hr.2 (λb hb _=>⟨?_,?_⟩)⟩
    ·exact(uq HQ9) b (by have:=hb.1;omega)
    ·have:=hb.1;have:=uq HTB;omega
end Go.Proofs.YthceiikgecoimaaGreatDoor
