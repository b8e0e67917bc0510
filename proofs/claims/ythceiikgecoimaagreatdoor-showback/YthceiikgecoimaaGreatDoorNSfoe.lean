/- Package net: head. -/
import Derived.Test.YthceiikgecoimaaGreatDoorNGrade
import Derived.Test.YthceiikgecoimaaGreatDoorLVal
import Derived.Test.YthceiikgecoimaaGreatDoorNFrac
namespace Go.Proofs.YthceiikgecoimaaGreatDoor
open Go.RowKit
attribute [local go_sem ↓] Go.wp_at_zero Go.wp_at_succ
set_option linter.unusedVariables false
set_option linter.unusedSimpArgs false
set_option maxRecDepth 10000
set_option maxHeartbeats 4000000 in
theorem zeD (E:Env) (tb:Nat) (w:World) (r:List Tok) (A0:Hid (E.A 0=(tb,10))) (A1:Hid (E.A 1=(tb,0))) (A2:Hid (E.A 2=(tb,1))) (A3:Hid (E.A 3=(tb,2))) (A4:Hid (E.A 4=(tb,3))) (A5:Hid (E.A 5=(tb,4))) (A6:Hid (E.A 6=(tb,5))) (A7:Hid (E.A 7=(tb,6))) (A8:Hid (E.A 8=(tb,7))) (A9:Hid (E.A 9=(tb,8))) (A10:Hid (E.A 10=(tb,9)))
  (HS:Hid (∀ b,E.S b->b<w.heap.size)) (HLo:Hid (E.lo<=w.heap.size)) (HR:Hid (Rdr E w r)) (HL:Hid (Cel E w [dI 0,dS [],dI 0,dI 0,dI 0,dI 0,dI 0,dI 0,dI 0,dI 0,dI 0])):
  Calls Tryz.prog 117 #[.pointer (some ⟨E.rb,0,none⟩),.pointer (some ⟨tb,0,none⟩)] w (zcu E w [] 11 (sq [zaO,zai,zad [118,111,108,117,109,101],zar,zad [102,108,111,119],zar,zad [117,115,101],zba,zad [115,112,101,101,100],zar,zad [103,114,97,100,101],zaI,zad [119,105,100,116,104],zar,zad [108,101,110,103,116,104],zar,zad [103,114,101,101,110],zar,zad [59]] [] r)):=by
 have HK0:=zh (zk w).drew;have HS0:Hid (∀ b,E.S b->b<w.drew.heap.size):=HS;have HLo0:Hid (E.lo<=w.drew.heap.size):=HLo;go_enter Tryz.func117,Tryz.ntmps117;go_wp2_with fail
 refine wp_region_held_drew (S:=λ_=>True) (by kernel_rfl) (by trivial) (λzH=>?_);refine tk6 0 5 1 6 2 7 3 8 5 10 6 11 zH ?_;try simp only[Yq]
 refine tk6 7 12 8 13 10 15 12 17 13 18 14 19 zH ?_;try simp only[Yq]
 refine tk6 15 20 17 22 19 24 20 25 21 26 22 27 zH ?_;try simp only[Yq]
 refine tk6 24 29 26 31 27 32 28 33 29 34 31 36 zH ?_;try simp only[Yq]
 refine tk6 33 38 34 39 35 40 36 41 38 43 40 45 zH ?_;try simp only[Yq]
 refine tk6 41 46 42 47 43 48 45 50 47 52 48 53 zH ?_;try simp only[Yq]
 refine tk6 49 54 50 55 52 57 54 59 55 60 56 61 zH ?_;try simp only[Yq]
 refine tk6 57 62 59 64 61 66 62 67 63 68 64 69 zH ?_;try simp only[Yq]
 refine tkk 66 71 zH ?_;try simp only[Yq]
 refine zap 4 (λK hK=>?_);go_simp;clear zH;(refine(zc2 (E:=E) (dI 0) (0) _ _ (uq A0) _ (uq HS0)).mono ?_;rintro e w1 ⟨f1,x1,y1,rfl,hk,hd⟩;have HS1:=zh (zae (uq HS0) hk);have HLo1:=zh (zah (uq HLo0) hk);have HK1:=zh ((uq HK0).trans hk);have HC1:Hid (zaw E w1 (0) [(.func (.func f1) x1 y1,[dI 0],zaO)]):=zh ⟨hd,trivial⟩;clear hk hd);try go_wp2_with fail
 refine hK.out _ _ ?_ (λzH=>?_)
 ·trivial
 clear hK K;try simp only[Yq]
 refine zap 9 (λK hK=>?_);go_simp;clear zH;(refine(zax (E:=E) (dS []) (1) _ _ (uq A1) _ (uq HS1)).mono ?_;rintro e w2 ⟨f2,x2,y2,rfl,hk,hd⟩;have HS2:=zh (zae (uq HS1) hk);have HLo2:=zh (zah (uq HLo1) hk);have HK2:=zh ((uq HK1).trans hk);have HC2:Hid (zaw E w2 (0) [(.func (.func f1) x1 y1,[dI 0],zaO),(.func (.func f2) x2 y2,[dS []],zai)]):=zh (zab (uq HC1) hk hd);clear hk hd);try go_wp2_with fail
 refine hK.out _ _ ?_ (λzH=>?_)
 ·trivial
 clear hK K;try simp only[Yq]
 refine zap 11 (λK hK=>?_);go_simp;clear zH;(refine(zaG (E:=E) [118,111,108,117,109,101] (by decide) (2) _ (uq HS2)).mono ?_;rintro e w3 ⟨f3,x3,y3,rfl,hk,hd⟩;have HS3:=zh (zae (uq HS2) hk);have HLo3:=zh (zah (uq HLo2) hk);have HK3:=zh ((uq HK2).trans hk);have HC3:Hid (zaw E w3 (0) [(.func (.func f1) x1 y1,[dI 0],zaO),(.func (.func f2) x2 y2,[dS []],zai),(.func (.func f3) x3 y3,[],zad [118,111,108,117,109,101])]):=zh (zab (uq HC2) hk hd);clear hk hd);try go_wp2_with fail
 refine hK.out _ _ ?_ (λzH=>?_)
 ·trivial
 clear hK K;try simp only[Yq]
 refine zap 16 (λK hK=>?_);go_simp;clear zH;(refine(zaB (E:=E) (dI 0) (2) _ _ (uq A2) _ (uq HS3)).mono ?_;rintro e w4 ⟨f4,x4,y4,rfl,hk,hd⟩;have HS4:=zh (zae (uq HS3) hk);have HLo4:=zh (zah (uq HLo3) hk);have HK4:=zh ((uq HK3).trans hk);have HC4:Hid (zaw E w4 (0) [(.func (.func f1) x1 y1,[dI 0],zaO),(.func (.func f2) x2 y2,[dS []],zai),(.func (.func f3) x3 y3,[],zad [118,111,108,117,109,101]),(.func (.func f4) x4 y4,[dI 0],zar)]):=zh (zab (uq HC3) hk hd);clear hk hd);try go_wp2_with fail
 refine hK.out _ _ ?_ (λzH=>?_)
 ·trivial
 clear hK K;try simp only[Yq]
 refine zap 18 (λK hK=>?_);go_simp;clear zH;(refine(zaG (E:=E) [102,108,111,119] (by decide) (3) _ (uq HS4)).mono ?_;rintro e w5 ⟨f5,x5,y5,rfl,hk,hd⟩;have HS5:=zh (zae (uq HS4) hk);have HLo5:=zh (zah (uq HLo4) hk);have HK5:=zh ((uq HK4).trans hk);have HC5:Hid (zaw E w5 (0) [(.func (.func f1) x1 y1,[dI 0],zaO),(.func (.func f2) x2 y2,[dS []],zai),(.func (.func f3) x3 y3,[],zad [118,111,108,117,109,101]),(.func (.func f4) x4 y4,[dI 0],zar),(.func (.func f5) x5 y5,[],zad [102,108,111,119])]):=zh (zab (uq HC4) hk hd);clear hk hd);try go_wp2_with fail
 refine hK.out _ _ ?_ (λzH=>?_)
 ·trivial
 clear hK K;try simp only[Yq]
 refine zap 23 (λK hK=>?_);go_simp;clear zH;(refine(zaB (E:=E) (dI 0) (3) _ _ (uq A3) _ (uq HS5)).mono ?_;rintro e w6 ⟨f6,x6,y6,rfl,hk,hd⟩;have HS6:=zh (zae (uq HS5) hk);have HLo6:=zh (zah (uq HLo5) hk);have HK6:=zh ((uq HK5).trans hk);have HC6:Hid (zaw E w6 (0) [(.func (.func f1) x1 y1,[dI 0],zaO),(.func (.func f2) x2 y2,[dS []],zai),(.func (.func f3) x3 y3,[],zad [118,111,108,117,109,101]),(.func (.func f4) x4 y4,[dI 0],zar),(.func (.func f5) x5 y5,[],zad [102,108,111,119]),(.func (.func f6) x6 y6,[dI 0],zar)]):=zh (zab (uq HC5) hk hd);clear hk hd);try go_wp2_with fail
 refine hK.out _ _ ?_ (λzH=>?_)
 ·trivial
 clear hK K;try simp only[Yq]
 refine zap 25 (λK hK=>?_);go_simp;clear zH;(refine(zaG (E:=E) [117,115,101] (by decide) (4) _ (uq HS6)).mono ?_;rintro e w7 ⟨f7,x7,y7,rfl,hk,hd⟩;have HS7:=zh (zae (uq HS6) hk);have HLo7:=zh (zah (uq HLo6) hk);have HK7:=zh ((uq HK6).trans hk);have HC7:Hid (zaw E w7 (0) [(.func (.func f1) x1 y1,[dI 0],zaO),(.func (.func f2) x2 y2,[dS []],zai),(.func (.func f3) x3 y3,[],zad [118,111,108,117,109,101]),(.func (.func f4) x4 y4,[dI 0],zar),(.func (.func f5) x5 y5,[],zad [102,108,111,119]),(.func (.func f6) x6 y6,[dI 0],zar),(.func (.func f7) x7 y7,[],zad [117,115,101])]):=zh (zab (uq HC6) hk hd);clear hk hd);try go_wp2_with fail
 refine hK.out _ _ ?_ (λzH=>?_)
 ·trivial
 clear hK K;try simp only[Yq]
 refine zap 30 (λK hK=>?_);go_simp;clear zH;(refine(zdB (E:=E) (4) _ _ (uq A4) (uq A5) _ (uq HS7)).mono ?_;rintro e w8 ⟨f8,x8,y8,rfl,hk,hd⟩;have HS8:=zh (zae (uq HS7) hk);have HLo8:=zh (zah (uq HLo7) hk);have HK8:=zh ((uq HK7).trans hk);have HC8:Hid (zaw E w8 (0) [(.func (.func f1) x1 y1,[dI 0],zaO),(.func (.func f2) x2 y2,[dS []],zai),(.func (.func f3) x3 y3,[],zad [118,111,108,117,109,101]),(.func (.func f4) x4 y4,[dI 0],zar),(.func (.func f5) x5 y5,[],zad [102,108,111,119]),(.func (.func f6) x6 y6,[dI 0],zar),(.func (.func f7) x7 y7,[],zad [117,115,101]),(.func (.func f8) x8 y8,[dI 0,dI 0],zba)]):=zh (zab (uq HC7) hk hd);clear hk hd);try go_wp2_with fail
 refine hK.out _ _ ?_ (λzH=>?_)
 ·trivial
 clear hK K;try simp only[Yq]
 refine zap 32 (λK hK=>?_);go_simp;clear zH;(refine(zaG (E:=E) [115,112,101,101,100] (by decide) (6) _ (uq HS8)).mono ?_;rintro e w9 ⟨f9,x9,y9,rfl,hk,hd⟩;have HS9:=zh (zae (uq HS8) hk);have HLo9:=zh (zah (uq HLo8) hk);have HK9:=zh ((uq HK8).trans hk);have HC9:Hid (zaw E w9 (0) [(.func (.func f1) x1 y1,[dI 0],zaO),(.func (.func f2) x2 y2,[dS []],zai),(.func (.func f3) x3 y3,[],zad [118,111,108,117,109,101]),(.func (.func f4) x4 y4,[dI 0],zar),(.func (.func f5) x5 y5,[],zad [102,108,111,119]),(.func (.func f6) x6 y6,[dI 0],zar),(.func (.func f7) x7 y7,[],zad [117,115,101]),(.func (.func f8) x8 y8,[dI 0,dI 0],zba),(.func (.func f9) x9 y9,[],zad [115,112,101,101,100])]):=zh (zab (uq HC8) hk hd);clear hk hd);try go_wp2_with fail
 refine hK.out _ _ ?_ (λzH=>?_)
 ·trivial
 clear hK K;try simp only[Yq]
 refine zap 37 (λK hK=>?_);go_simp;clear zH;(refine(zaB (E:=E) (dI 0) (6) _ _ (uq A6) _ (uq HS9)).mono ?_;rintro e w10 ⟨f10,x10,y10,rfl,hk,hd⟩;have HS10:=zh (zae (uq HS9) hk);have HLo10:=zh (zah (uq HLo9) hk);have HK10:=zh ((uq HK9).trans hk);have HC10:Hid (zaw E w10 (0) [(.func (.func f1) x1 y1,[dI 0],zaO),(.func (.func f2) x2 y2,[dS []],zai),(.func (.func f3) x3 y3,[],zad [118,111,108,117,109,101]),(.func (.func f4) x4 y4,[dI 0],zar),(.func (.func f5) x5 y5,[],zad [102,108,111,119]),(.func (.func f6) x6 y6,[dI 0],zar),(.func (.func f7) x7 y7,[],zad [117,115,101]),(.func (.func f8) x8 y8,[dI 0,dI 0],zba),(.func (.func f9) x9 y9,[],zad [115,112,101,101,100]),(.func (.func f10) x10 y10,[dI 0],zar)]):=zh (zab (uq HC9) hk hd);clear hk hd);try go_wp2_with fail
 refine hK.out _ _ ?_ (λzH=>?_)
 ·trivial
 clear hK K;try simp only[Yq]
 refine zap 39 (λK hK=>?_);go_simp;clear zH;(refine(zaG (E:=E) [103,114,97,100,101] (by decide) (7) _ (uq HS10)).mono ?_;rintro e w11 ⟨f11,x11,y11,rfl,hk,hd⟩;have HS11:=zh (zae (uq HS10) hk);have HLo11:=zh (zah (uq HLo10) hk);have HK11:=zh ((uq HK10).trans hk);have HC11:Hid (zaw E w11 (0) [(.func (.func f1) x1 y1,[dI 0],zaO),(.func (.func f2) x2 y2,[dS []],zai),(.func (.func f3) x3 y3,[],zad [118,111,108,117,109,101]),(.func (.func f4) x4 y4,[dI 0],zar),(.func (.func f5) x5 y5,[],zad [102,108,111,119]),(.func (.func f6) x6 y6,[dI 0],zar),(.func (.func f7) x7 y7,[],zad [117,115,101]),(.func (.func f8) x8 y8,[dI 0,dI 0],zba),(.func (.func f9) x9 y9,[],zad [115,112,101,101,100]),(.func (.func f10) x10 y10,[dI 0],zar),(.func (.func f11) x11 y11,[],zad [103,114,97,100,101])]):=zh (zab (uq HC10) hk hd);clear hk hd);try go_wp2_with fail
 refine hK.out _ _ ?_ (λzH=>?_)
 ·trivial
 clear hK K;try simp only[Yq]
 refine zap 44 (λK hK=>?_);go_simp;clear zH;(refine(zeG (E:=E) (7) _ _ (uq A7) _ (uq HS11)).mono ?_;rintro e w12 ⟨f12,x12,y12,rfl,hk,hd⟩;have HS12:=zh (zae (uq HS11) hk);have HLo12:=zh (zah (uq HLo11) hk);have HK12:=zh ((uq HK11).trans hk);have HC12:Hid (zaw E w12 (0) [(.func (.func f1) x1 y1,[dI 0],zaO),(.func (.func f2) x2 y2,[dS []],zai),(.func (.func f3) x3 y3,[],zad [118,111,108,117,109,101]),(.func (.func f4) x4 y4,[dI 0],zar),(.func (.func f5) x5 y5,[],zad [102,108,111,119]),(.func (.func f6) x6 y6,[dI 0],zar),(.func (.func f7) x7 y7,[],zad [117,115,101]),(.func (.func f8) x8 y8,[dI 0,dI 0],zba),(.func (.func f9) x9 y9,[],zad [115,112,101,101,100]),(.func (.func f10) x10 y10,[dI 0],zar),(.func (.func f11) x11 y11,[],zad [103,114,97,100,101]),(.func (.func f12) x12 y12,[dI 0],zaI)]):=zh (zab (uq HC11) hk hd);clear hk hd);try go_wp2_with fail
 refine hK.out _ _ ?_ (λzH=>?_)
 ·trivial
 clear hK K;try simp only[Yq]
 refine zap 46 (λK hK=>?_);go_simp;clear zH;(refine(zaG (E:=E) [119,105,100,116,104] (by decide) (8) _ (uq HS12)).mono ?_;rintro e w13 ⟨f13,x13,y13,rfl,hk,hd⟩;have HS13:=zh (zae (uq HS12) hk);have HLo13:=zh (zah (uq HLo12) hk);have HK13:=zh ((uq HK12).trans hk);have HC13:Hid (zaw E w13 (0) [(.func (.func f1) x1 y1,[dI 0],zaO),(.func (.func f2) x2 y2,[dS []],zai),(.func (.func f3) x3 y3,[],zad [118,111,108,117,109,101]),(.func (.func f4) x4 y4,[dI 0],zar),(.func (.func f5) x5 y5,[],zad [102,108,111,119]),(.func (.func f6) x6 y6,[dI 0],zar),(.func (.func f7) x7 y7,[],zad [117,115,101]),(.func (.func f8) x8 y8,[dI 0,dI 0],zba),(.func (.func f9) x9 y9,[],zad [115,112,101,101,100]),(.func (.func f10) x10 y10,[dI 0],zar),(.func (.func f11) x11 y11,[],zad [103,114,97,100,101]),(.func (.func f12) x12 y12,[dI 0],zaI),(.func (.func f13) x13 y13,[],zad [119,105,100,116,104])]):=zh (zab (uq HC12) hk hd);clear hk hd);try go_wp2_with fail
 refine hK.out _ _ ?_ (λzH=>?_)
 ·trivial
 clear hK K;try simp only[Yq]
 refine zap 51 (λK hK=>?_);go_simp;clear zH;(refine(zaB (E:=E) (dI 0) (8) _ _ (uq A8) _ (uq HS13)).mono ?_;rintro e w14 ⟨f14,x14,y14,rfl,hk,hd⟩;have HS14:=zh (zae (uq HS13) hk);have HLo14:=zh (zah (uq HLo13) hk);have HK14:=zh ((uq HK13).trans hk);have HC14:Hid (zaw E w14 (0) [(.func (.func f1) x1 y1,[dI 0],zaO),(.func (.func f2) x2 y2,[dS []],zai),(.func (.func f3) x3 y3,[],zad [118,111,108,117,109,101]),(.func (.func f4) x4 y4,[dI 0],zar),(.func (.func f5) x5 y5,[],zad [102,108,111,119]),(.func (.func f6) x6 y6,[dI 0],zar),(.func (.func f7) x7 y7,[],zad [117,115,101]),(.func (.func f8) x8 y8,[dI 0,dI 0],zba),(.func (.func f9) x9 y9,[],zad [115,112,101,101,100]),(.func (.func f10) x10 y10,[dI 0],zar),(.func (.func f11) x11 y11,[],zad [103,114,97,100,101]),(.func (.func f12) x12 y12,[dI 0],zaI),(.func (.func f13) x13 y13,[],zad [119,105,100,116,104]),(.func (.func f14) x14 y14,[dI 0],zar)]):=zh (zab (uq HC13) hk hd);clear hk hd);try go_wp2_with fail
 refine hK.out _ _ ?_ (λzH=>?_)
 ·trivial
 clear hK K;try simp only[Yq]
 refine zap 53 (λK hK=>?_);go_simp;clear zH;(refine(zaG (E:=E) [108,101,110,103,116,104] (by decide) (9) _ (uq HS14)).mono ?_;rintro e w15 ⟨f15,x15,y15,rfl,hk,hd⟩;have HS15:=zh (zae (uq HS14) hk);have HLo15:=zh (zah (uq HLo14) hk);have HK15:=zh ((uq HK14).trans hk);have HC15:Hid (zaw E w15 (0) [(.func (.func f1) x1 y1,[dI 0],zaO),(.func (.func f2) x2 y2,[dS []],zai),(.func (.func f3) x3 y3,[],zad [118,111,108,117,109,101]),(.func (.func f4) x4 y4,[dI 0],zar),(.func (.func f5) x5 y5,[],zad [102,108,111,119]),(.func (.func f6) x6 y6,[dI 0],zar),(.func (.func f7) x7 y7,[],zad [117,115,101]),(.func (.func f8) x8 y8,[dI 0,dI 0],zba),(.func (.func f9) x9 y9,[],zad [115,112,101,101,100]),(.func (.func f10) x10 y10,[dI 0],zar),(.func (.func f11) x11 y11,[],zad [103,114,97,100,101]),(.func (.func f12) x12 y12,[dI 0],zaI),(.func (.func f13) x13 y13,[],zad [119,105,100,116,104]),(.func (.func f14) x14 y14,[dI 0],zar),(.func (.func f15) x15 y15,[],zad [108,101,110,103,116,104])]):=zh (zab (uq HC14) hk hd);clear hk hd);try go_wp2_with fail
 refine hK.out _ _ ?_ (λzH=>?_)
 ·trivial
 clear hK K;try simp only[Yq]
 refine zap 58 (λK hK=>?_);go_simp;clear zH;(refine(zaB (E:=E) (dI 0) (9) _ _ (uq A9) _ (uq HS15)).mono ?_;rintro e w16 ⟨f16,x16,y16,rfl,hk,hd⟩;have HS16:=zh (zae (uq HS15) hk);have HLo16:=zh (zah (uq HLo15) hk);have HK16:=zh ((uq HK15).trans hk);have HC16:Hid (zaw E w16 (0) [(.func (.func f1) x1 y1,[dI 0],zaO),(.func (.func f2) x2 y2,[dS []],zai),(.func (.func f3) x3 y3,[],zad [118,111,108,117,109,101]),(.func (.func f4) x4 y4,[dI 0],zar),(.func (.func f5) x5 y5,[],zad [102,108,111,119]),(.func (.func f6) x6 y6,[dI 0],zar),(.func (.func f7) x7 y7,[],zad [117,115,101]),(.func (.func f8) x8 y8,[dI 0,dI 0],zba),(.func (.func f9) x9 y9,[],zad [115,112,101,101,100]),(.func (.func f10) x10 y10,[dI 0],zar),(.func (.func f11) x11 y11,[],zad [103,114,97,100,101]),(.func (.func f12) x12 y12,[dI 0],zaI),(.func (.func f13) x13 y13,[],zad [119,105,100,116,104]),(.func (.func f14) x14 y14,[dI 0],zar),(.func (.func f15) x15 y15,[],zad [108,101,110,103,116,104]),(.func (.func f16) x16 y16,[dI 0],zar)]):=zh (zab (uq HC15) hk hd);clear hk hd);try go_wp2_with fail
 refine hK.out _ _ ?_ (λzH=>?_)
 ·trivial
 clear hK K;try simp only[Yq]
 refine zap 60 (λK hK=>?_);go_simp;clear zH;(refine(zaG (E:=E) [103,114,101,101,110] (by decide) (10) _ (uq HS16)).mono ?_;rintro e w17 ⟨f17,x17,y17,rfl,hk,hd⟩;have HS17:=zh (zae (uq HS16) hk);have HLo17:=zh (zah (uq HLo16) hk);have HK17:=zh ((uq HK16).trans hk);have HC17:Hid (zaw E w17 (0) [(.func (.func f1) x1 y1,[dI 0],zaO),(.func (.func f2) x2 y2,[dS []],zai),(.func (.func f3) x3 y3,[],zad [118,111,108,117,109,101]),(.func (.func f4) x4 y4,[dI 0],zar),(.func (.func f5) x5 y5,[],zad [102,108,111,119]),(.func (.func f6) x6 y6,[dI 0],zar),(.func (.func f7) x7 y7,[],zad [117,115,101]),(.func (.func f8) x8 y8,[dI 0,dI 0],zba),(.func (.func f9) x9 y9,[],zad [115,112,101,101,100]),(.func (.func f10) x10 y10,[dI 0],zar),(.func (.func f11) x11 y11,[],zad [103,114,97,100,101]),(.func (.func f12) x12 y12,[dI 0],zaI),(.func (.func f13) x13 y13,[],zad [119,105,100,116,104]),(.func (.func f14) x14 y14,[dI 0],zar),(.func (.func f15) x15 y15,[],zad [108,101,110,103,116,104]),(.func (.func f16) x16 y16,[dI 0],zar),(.func (.func f17) x17 y17,[],zad [103,114,101,101,110])]):=zh (zab (uq HC16) hk hd);clear hk hd);try go_wp2_with fail
 refine hK.out _ _ ?_ (λzH=>?_)
 ·trivial
 clear hK K;try simp only[Yq]
 refine zap 65 (λK hK=>?_);go_simp;clear zH;(refine(zaB (E:=E) (dI 0) (10) _ _ (uq A10) _ (uq HS17)).mono ?_;rintro e w18 ⟨f18,x18,y18,rfl,hk,hd⟩;have HS18:=zh (zae (uq HS17) hk);have HLo18:=zh (zah (uq HLo17) hk);have HK18:=zh ((uq HK17).trans hk);have HC18:Hid (zaw E w18 (0) [(.func (.func f1) x1 y1,[dI 0],zaO),(.func (.func f2) x2 y2,[dS []],zai),(.func (.func f3) x3 y3,[],zad [118,111,108,117,109,101]),(.func (.func f4) x4 y4,[dI 0],zar),(.func (.func f5) x5 y5,[],zad [102,108,111,119]),(.func (.func f6) x6 y6,[dI 0],zar),(.func (.func f7) x7 y7,[],zad [117,115,101]),(.func (.func f8) x8 y8,[dI 0,dI 0],zba),(.func (.func f9) x9 y9,[],zad [115,112,101,101,100]),(.func (.func f10) x10 y10,[dI 0],zar),(.func (.func f11) x11 y11,[],zad [103,114,97,100,101]),(.func (.func f12) x12 y12,[dI 0],zaI),(.func (.func f13) x13 y13,[],zad [119,105,100,116,104]),(.func (.func f14) x14 y14,[dI 0],zar),(.func (.func f15) x15 y15,[],zad [108,101,110,103,116,104]),(.func (.func f16) x16 y16,[dI 0],zar),(.func (.func f17) x17 y17,[],zad [103,114,101,101,110]),(.func (.func f18) x18 y18,[dI 0],zar)]):=zh (zab (uq HC17) hk hd);clear hk hd);try go_wp2_with fail
 refine hK.out _ _ ?_ (λzH=>?_)
 ·trivial
 clear hK K;try simp only[Yq]
 refine zap 67 (λK hK=>?_);go_simp;clear zH;(refine(zaG (E:=E) [59] (by decide) (11) _ (uq HS18)).mono ?_;rintro e w19 ⟨f19,x19,y19,rfl,hk,hd⟩;have HS19:=zh (zae (uq HS18) hk);have HLo19:=zh (zah (uq HLo18) hk);have HK19:=zh ((uq HK18).trans hk);have HC19:Hid (zaw E w19 (0) [(.func (.func f1) x1 y1,[dI 0],zaO),(.func (.func f2) x2 y2,[dS []],zai),(.func (.func f3) x3 y3,[],zad [118,111,108,117,109,101]),(.func (.func f4) x4 y4,[dI 0],zar),(.func (.func f5) x5 y5,[],zad [102,108,111,119]),(.func (.func f6) x6 y6,[dI 0],zar),(.func (.func f7) x7 y7,[],zad [117,115,101]),(.func (.func f8) x8 y8,[dI 0,dI 0],zba),(.func (.func f9) x9 y9,[],zad [115,112,101,101,100]),(.func (.func f10) x10 y10,[dI 0],zar),(.func (.func f11) x11 y11,[],zad [103,114,97,100,101]),(.func (.func f12) x12 y12,[dI 0],zaI),(.func (.func f13) x13 y13,[],zad [119,105,100,116,104]),(.func (.func f14) x14 y14,[dI 0],zar),(.func (.func f15) x15 y15,[],zad [108,101,110,103,116,104]),(.func (.func f16) x16 y16,[dI 0],zar),(.func (.func f17) x17 y17,[],zad [103,114,101,101,110]),(.func (.func f18) x18 y18,[dI 0],zar),(.func (.func f19) x19 y19,[],zad [59])]):=zh (zab (uq HC18) hk hd);clear hk hd);try go_wp2_with fail
 refine hK.out _ _ ?_ (λzH=>?_)
 ·trivial
 clear hK K;try simp only[Yq]
 refine zap 68 (λK hK=>?_);go_simp;clear zH;refine hK.out _ _ ?_ (λzH=>?_)
 ·trivial
 clear hK K;try simp only[Yq]
 refine zap 69 (λK hK=>?_);go_simp;clear zH;(refine(za5 (E:=E) (m:=0) (ss:= [(.func (.func f1) x1 y1,[dI 0],zaO),(.func (.func f2) x2 y2,[dS []],zai),(.func (.func f3) x3 y3,[],zad [118,111,108,117,109,101]),(.func (.func f4) x4 y4,[dI 0],zar),(.func (.func f5) x5 y5,[],zad [102,108,111,119]),(.func (.func f6) x6 y6,[dI 0],zar),(.func (.func f7) x7 y7,[],zad [117,115,101]),(.func (.func f8) x8 y8,[dI 0,dI 0],zba),(.func (.func f9) x9 y9,[],zad [115,112,101,101,100]),(.func (.func f10) x10 y10,[dI 0],zar),(.func (.func f11) x11 y11,[],zad [103,114,97,100,101]),(.func (.func f12) x12 y12,[dI 0],zaI),(.func (.func f13) x13 y13,[],zad [119,105,100,116,104]),(.func (.func f14) x14 y14,[dI 0],zar),(.func (.func f15) x15 y15,[],zad [108,101,110,103,116,104]),(.func (.func f16) x16 y16,[dI 0],zar),(.func (.func f17) x17 y17,[],zad [103,114,101,101,110]),(.func (.func f18) x18 y18,[dI 0],zar),(.func (.func f19) x19 y19,[],zad [59])]) (c:= []) (rest:= []) (r:=r) (by simp) (zaR ((zk _).alloc _) (uq HC19)) (za1 _ _ _) (λh=>Nat.lt_irrefl _ ((uq HS19) _ h)) rfl ((uq HR).keep ((uq HK19).alloc _)) ((uq HL).keep ((uq HK19).alloc _))).mono ?_;rintro e wz hp;obtain⟨vz,rfl⟩:=zbz hp;have HP:=zh hp;have HKz:=zh ((uq HK19).alloc (.cells #[.func (.func f1) x1 y1,.func (.func f2) x2 y2,.func (.func f3) x3 y3,.func (.func f4) x4 y4,.func (.func f5) x5 y5,.func (.func f6) x6 y6,.func (.func f7) x7 y7,.func (.func f8) x8 y8,.func (.func f9) x9 y9,.func (.func f10) x10 y10,.func (.func f11) x11 y11,.func (.func f12) x12 y12,.func (.func f13) x13 y13,.func (.func f14) x14 y14,.func (.func f15) x15 y15,.func (.func f16) x16 y16,.func (.func f17) x17 y17,.func (.func f18) x18 y18,.func (.func f19) x19 y19] 162));clear hp);try go_wp2_with fail
 refine hK.out _ _ ?_ (λzH=>?_)
 ·trivial
 clear hK K;try simp only[Yq]
 refine tkk 70 4 zH ?_;try simp only[Yq]
 refine wpAnyH_done (by kernel_rfl) ?_ _;clear zH;go_wp2_with fail
 go_ret;exact zbM (.keep (uq HKz)) (uq HP)
set_option maxHeartbeats 4000000 in
theorem zks (E:Env) (tb:Nat) (w:World) (r:List Tok) (A0:Hid (E.A 0=(tb,5))) (A1:Hid (E.A 1=(tb,0))) (A2:Hid (E.A 2=(tb,1))) (A3:Hid (E.A 3=(tb,2))) (A4:Hid (E.A 4=(tb,3))) (A5:Hid (E.A 5=(tb,4)))
  (HS:Hid (∀ b,E.S b->b<w.heap.size)) (HLo:Hid (E.lo<=w.heap.size)) (HR:Hid (Rdr E w r)) (HL:Hid (Cel E w [dI 0,dS [],dS [],dI 0,dI 0,dI 0])):
  Calls Tryz.prog 119 #[.pointer (some ⟨E.rb,0,none⟩),.pointer (some ⟨tb,0,none⟩)] w (zcu E w [] 6 (sq [zaO,zai,zad [119,105,116,104],zai,zad [108,111,110,103],zar,zad [112,97,99,101],zar,zad [108,101,97,115,116],zar,zad [59]] [] r)):=by
 have HK0:=zh (zk w).drew;have HS0:Hid (∀ b,E.S b->b<w.drew.heap.size):=HS;have HLo0:Hid (E.lo<=w.drew.heap.size):=HLo;go_enter Tryz.func119,Tryz.ntmps119;go_wp2_with fail
 refine wp_region_held_drew (S:=λ_=>True) (by kernel_rfl) (by trivial) (λzH=>?_);refine tk6 0 5 1 6 2 7 3 8 5 10 6 11 zH ?_;try simp only[Yq]
 refine tk6 7 12 8 13 10 15 12 17 13 18 14 19 zH ?_;try simp only[Yq]
 refine tk6 15 20 17 22 19 24 20 25 21 26 22 27 zH ?_;try simp only[Yq]
 refine tk6 24 29 26 31 27 32 28 33 29 34 31 36 zH ?_;try simp only[Yq]
 refine tk4 33 38 34 39 35 40 36 41 zH ?_;try simp only[Yq]
 refine tkk 38 43 zH ?_;try simp only[Yq]
 refine zap 4 (λK hK=>?_);go_simp;clear zH;(refine(zc2 (E:=E) (dI 0) (0) _ _ (uq A0) _ (uq HS0)).mono ?_;rintro e w1 ⟨f1,x1,y1,rfl,hk,hd⟩;have HS1:=zh (zae (uq HS0) hk);have HLo1:=zh (zah (uq HLo0) hk);have HK1:=zh ((uq HK0).trans hk);have HC1:Hid (zaw E w1 (0) [(.func (.func f1) x1 y1,[dI 0],zaO)]):=zh ⟨hd,trivial⟩;clear hk hd);try go_wp2_with fail
 refine hK.out _ _ ?_ (λzH=>?_)
 ·trivial
 clear hK K;try simp only[Yq]
 refine zap 9 (λK hK=>?_);go_simp;clear zH;(refine(zax (E:=E) (dS []) (1) _ _ (uq A1) _ (uq HS1)).mono ?_;rintro e w2 ⟨f2,x2,y2,rfl,hk,hd⟩;have HS2:=zh (zae (uq HS1) hk);have HLo2:=zh (zah (uq HLo1) hk);have HK2:=zh ((uq HK1).trans hk);have HC2:Hid (zaw E w2 (0) [(.func (.func f1) x1 y1,[dI 0],zaO),(.func (.func f2) x2 y2,[dS []],zai)]):=zh (zab (uq HC1) hk hd);clear hk hd);try go_wp2_with fail
 refine hK.out _ _ ?_ (λzH=>?_)
 ·trivial
 clear hK K;try simp only[Yq]
 refine zap 11 (λK hK=>?_);go_simp;clear zH;(refine(zaG (E:=E) [119,105,116,104] (by decide) (2) _ (uq HS2)).mono ?_;rintro e w3 ⟨f3,x3,y3,rfl,hk,hd⟩;have HS3:=zh (zae (uq HS2) hk);have HLo3:=zh (zah (uq HLo2) hk);have HK3:=zh ((uq HK2).trans hk);have HC3:Hid (zaw E w3 (0) [(.func (.func f1) x1 y1,[dI 0],zaO),(.func (.func f2) x2 y2,[dS []],zai),(.func (.func f3) x3 y3,[],zad [119,105,116,104])]):=zh (zab (uq HC2) hk hd);clear hk hd);try go_wp2_with fail
 refine hK.out _ _ ?_ (λzH=>?_)
 ·trivial
 clear hK K;try simp only[Yq]
 refine zap 16 (λK hK=>?_);go_simp;clear zH;(refine(zax (E:=E) (dS []) (2) _ _ (uq A2) _ (uq HS3)).mono ?_;rintro e w4 ⟨f4,x4,y4,rfl,hk,hd⟩;have HS4:=zh (zae (uq HS3) hk);have HLo4:=zh (zah (uq HLo3) hk);have HK4:=zh ((uq HK3).trans hk);have HC4:Hid (zaw E w4 (0) [(.func (.func f1) x1 y1,[dI 0],zaO),(.func (.func f2) x2 y2,[dS []],zai),(.func (.func f3) x3 y3,[],zad [119,105,116,104]),(.func (.func f4) x4 y4,[dS []],zai)]):=zh (zab (uq HC3) hk hd);clear hk hd);try go_wp2_with fail
 refine hK.out _ _ ?_ (λzH=>?_)
 ·trivial
 clear hK K;try simp only[Yq]
 refine zap 18 (λK hK=>?_);go_simp;clear zH;(refine(zaG (E:=E) [108,111,110,103] (by decide) (3) _ (uq HS4)).mono ?_;rintro e w5 ⟨f5,x5,y5,rfl,hk,hd⟩;have HS5:=zh (zae (uq HS4) hk);have HLo5:=zh (zah (uq HLo4) hk);have HK5:=zh ((uq HK4).trans hk);have HC5:Hid (zaw E w5 (0) [(.func (.func f1) x1 y1,[dI 0],zaO),(.func (.func f2) x2 y2,[dS []],zai),(.func (.func f3) x3 y3,[],zad [119,105,116,104]),(.func (.func f4) x4 y4,[dS []],zai),(.func (.func f5) x5 y5,[],zad [108,111,110,103])]):=zh (zab (uq HC4) hk hd);clear hk hd);try go_wp2_with fail
 refine hK.out _ _ ?_ (λzH=>?_)
 ·trivial
 clear hK K;try simp only[Yq]
 refine zap 23 (λK hK=>?_);go_simp;clear zH;(refine(zaB (E:=E) (dI 0) (3) _ _ (uq A3) _ (uq HS5)).mono ?_;rintro e w6 ⟨f6,x6,y6,rfl,hk,hd⟩;have HS6:=zh (zae (uq HS5) hk);have HLo6:=zh (zah (uq HLo5) hk);have HK6:=zh ((uq HK5).trans hk);have HC6:Hid (zaw E w6 (0) [(.func (.func f1) x1 y1,[dI 0],zaO),(.func (.func f2) x2 y2,[dS []],zai),(.func (.func f3) x3 y3,[],zad [119,105,116,104]),(.func (.func f4) x4 y4,[dS []],zai),(.func (.func f5) x5 y5,[],zad [108,111,110,103]),(.func (.func f6) x6 y6,[dI 0],zar)]):=zh (zab (uq HC5) hk hd);clear hk hd);try go_wp2_with fail
 refine hK.out _ _ ?_ (λzH=>?_)
 ·trivial
 clear hK K;try simp only[Yq]
 refine zap 25 (λK hK=>?_);go_simp;clear zH;(refine(zaG (E:=E) [112,97,99,101] (by decide) (4) _ (uq HS6)).mono ?_;rintro e w7 ⟨f7,x7,y7,rfl,hk,hd⟩;have HS7:=zh (zae (uq HS6) hk);have HLo7:=zh (zah (uq HLo6) hk);have HK7:=zh ((uq HK6).trans hk);have HC7:Hid (zaw E w7 (0) [(.func (.func f1) x1 y1,[dI 0],zaO),(.func (.func f2) x2 y2,[dS []],zai),(.func (.func f3) x3 y3,[],zad [119,105,116,104]),(.func (.func f4) x4 y4,[dS []],zai),(.func (.func f5) x5 y5,[],zad [108,111,110,103]),(.func (.func f6) x6 y6,[dI 0],zar),(.func (.func f7) x7 y7,[],zad [112,97,99,101])]):=zh (zab (uq HC6) hk hd);clear hk hd);try go_wp2_with fail
 refine hK.out _ _ ?_ (λzH=>?_)
 ·trivial
 clear hK K;try simp only[Yq]
 refine zap 30 (λK hK=>?_);go_simp;clear zH;(refine(zaB (E:=E) (dI 0) (4) _ _ (uq A4) _ (uq HS7)).mono ?_;rintro e w8 ⟨f8,x8,y8,rfl,hk,hd⟩;have HS8:=zh (zae (uq HS7) hk);have HLo8:=zh (zah (uq HLo7) hk);have HK8:=zh ((uq HK7).trans hk);have HC8:Hid (zaw E w8 (0) [(.func (.func f1) x1 y1,[dI 0],zaO),(.func (.func f2) x2 y2,[dS []],zai),(.func (.func f3) x3 y3,[],zad [119,105,116,104]),(.func (.func f4) x4 y4,[dS []],zai),(.func (.func f5) x5 y5,[],zad [108,111,110,103]),(.func (.func f6) x6 y6,[dI 0],zar),(.func (.func f7) x7 y7,[],zad [112,97,99,101]),(.func (.func f8) x8 y8,[dI 0],zar)]):=zh (zab (uq HC7) hk hd);clear hk hd);try go_wp2_with fail
 refine hK.out _ _ ?_ (λzH=>?_)
 ·trivial
 clear hK K;try simp only[Yq]
 refine zap 32 (λK hK=>?_);go_simp;clear zH;(refine(zaG (E:=E) [108,101,97,115,116] (by decide) (5) _ (uq HS8)).mono ?_;rintro e w9 ⟨f9,x9,y9,rfl,hk,hd⟩;have HS9:=zh (zae (uq HS8) hk);have HLo9:=zh (zah (uq HLo8) hk);have HK9:=zh ((uq HK8).trans hk);have HC9:Hid (zaw E w9 (0) [(.func (.func f1) x1 y1,[dI 0],zaO),(.func (.func f2) x2 y2,[dS []],zai),(.func (.func f3) x3 y3,[],zad [119,105,116,104]),(.func (.func f4) x4 y4,[dS []],zai),(.func (.func f5) x5 y5,[],zad [108,111,110,103]),(.func (.func f6) x6 y6,[dI 0],zar),(.func (.func f7) x7 y7,[],zad [112,97,99,101]),(.func (.func f8) x8 y8,[dI 0],zar),(.func (.func f9) x9 y9,[],zad [108,101,97,115,116])]):=zh (zab (uq HC8) hk hd);clear hk hd);try go_wp2_with fail
 refine hK.out _ _ ?_ (λzH=>?_)
 ·trivial
 clear hK K;try simp only[Yq]
 refine zap 37 (λK hK=>?_);go_simp;clear zH;(refine(zaB (E:=E) (dI 0) (5) _ _ (uq A5) _ (uq HS9)).mono ?_;rintro e w10 ⟨f10,x10,y10,rfl,hk,hd⟩;have HS10:=zh (zae (uq HS9) hk);have HLo10:=zh (zah (uq HLo9) hk);have HK10:=zh ((uq HK9).trans hk);have HC10:Hid (zaw E w10 (0) [(.func (.func f1) x1 y1,[dI 0],zaO),(.func (.func f2) x2 y2,[dS []],zai),(.func (.func f3) x3 y3,[],zad [119,105,116,104]),(.func (.func f4) x4 y4,[dS []],zai),(.func (.func f5) x5 y5,[],zad [108,111,110,103]),(.func (.func f6) x6 y6,[dI 0],zar),(.func (.func f7) x7 y7,[],zad [112,97,99,101]),(.func (.func f8) x8 y8,[dI 0],zar),(.func (.func f9) x9 y9,[],zad [108,101,97,115,116]),(.func (.func f10) x10 y10,[dI 0],zar)]):=zh (zab (uq HC9) hk hd);clear hk hd);try go_wp2_with fail
 refine hK.out _ _ ?_ (λzH=>?_)
 ·trivial
 clear hK K;try simp only[Yq]
 refine zap 39 (λK hK=>?_);go_simp;clear zH;(refine(zaG (E:=E) [59] (by decide) (6) _ (uq HS10)).mono ?_;rintro e w11 ⟨f11,x11,y11,rfl,hk,hd⟩;have HS11:=zh (zae (uq HS10) hk);have HLo11:=zh (zah (uq HLo10) hk);have HK11:=zh ((uq HK10).trans hk);have HC11:Hid (zaw E w11 (0) [(.func (.func f1) x1 y1,[dI 0],zaO),(.func (.func f2) x2 y2,[dS []],zai),(.func (.func f3) x3 y3,[],zad [119,105,116,104]),(.func (.func f4) x4 y4,[dS []],zai),(.func (.func f5) x5 y5,[],zad [108,111,110,103]),(.func (.func f6) x6 y6,[dI 0],zar),(.func (.func f7) x7 y7,[],zad [112,97,99,101]),(.func (.func f8) x8 y8,[dI 0],zar),(.func (.func f9) x9 y9,[],zad [108,101,97,115,116]),(.func (.func f10) x10 y10,[dI 0],zar),(.func (.func f11) x11 y11,[],zad [59])]):=zh (zab (uq HC10) hk hd);clear hk hd);try go_wp2_with fail
 refine hK.out _ _ ?_ (λzH=>?_)
 ·trivial
 clear hK K;try simp only[Yq]
 refine zap 40 (λK hK=>?_);go_simp;clear zH;refine hK.out _ _ ?_ (λzH=>?_)
 ·trivial
 clear hK K;try simp only[Yq]
 refine zap 41 (λK hK=>?_);go_simp;clear zH;(refine(za5 (E:=E) (m:=0) (ss:= [(.func (.func f1) x1 y1,[dI 0],zaO),(.func (.func f2) x2 y2,[dS []],zai),(.func (.func f3) x3 y3,[],zad [119,105,116,104]),(.func (.func f4) x4 y4,[dS []],zai),(.func (.func f5) x5 y5,[],zad [108,111,110,103]),(.func (.func f6) x6 y6,[dI 0],zar),(.func (.func f7) x7 y7,[],zad [112,97,99,101]),(.func (.func f8) x8 y8,[dI 0],zar),(.func (.func f9) x9 y9,[],zad [108,101,97,115,116]),(.func (.func f10) x10 y10,[dI 0],zar),(.func (.func f11) x11 y11,[],zad [59])]) (c:= []) (rest:= []) (r:=r) (by simp) (zaR ((zk _).alloc _) (uq HC11)) (za1 _ _ _) (λh=>Nat.lt_irrefl _ ((uq HS11) _ h)) rfl ((uq HR).keep ((uq HK11).alloc _)) ((uq HL).keep ((uq HK11).alloc _))).mono ?_;rintro e wz hp;obtain⟨vz,rfl⟩:=zbz hp;have HP:=zh hp;have HKz:=zh ((uq HK11).alloc (.cells #[.func (.func f1) x1 y1,.func (.func f2) x2 y2,.func (.func f3) x3 y3,.func (.func f4) x4 y4,.func (.func f5) x5 y5,.func (.func f6) x6 y6,.func (.func f7) x7 y7,.func (.func f8) x8 y8,.func (.func f9) x9 y9,.func (.func f10) x10 y10,.func (.func f11) x11 y11] 162));clear hp);try go_wp2_with fail
 refine hK.out _ _ ?_ (λzH=>?_)
 ·trivial
 clear hK K;try simp only[Yq]
 refine tkk 42 4 zH ?_;try simp only[Yq]
 refine wpAnyH_done (by kernel_rfl) ?_ _;clear zH;go_wp2_with fail
 go_ret;exact zbM (.keep (uq HKz)) (uq HP)
set_option maxHeartbeats 4000000 in
theorem zlQ (E:Env) (tb:Nat) (w:World) (r:List Tok) (A0:Hid (E.A 0=(tb,2))) (A1:Hid (E.A 1=(tb,0))) (A2:Hid (E.A 2=(tb,1)))
  (HS:Hid (∀ b,E.S b->b<w.heap.size)) (HLo:Hid (E.lo<=w.heap.size)) (HR:Hid (Rdr E w r)) (HL:Hid (Cel E w [dI 0,dS [],dS []])):
  Calls Tryz.prog 125 #[.pointer (some ⟨E.rb,0,none⟩),.pointer (some ⟨tb,0,none⟩)] w (zcu E w [] 3 (sq [zaO,zai,zai,zad [59]] [] r)):=by
 have HK0:=zh (zk w).drew;have HS0:Hid (∀ b,E.S b->b<w.drew.heap.size):=HS;have HLo0:Hid (E.lo<=w.drew.heap.size):=HLo;go_enter Tryz.func125,Tryz.ntmps125;go_wp2_with fail
 refine wp_region_held_drew (S:=λ_=>True) (by kernel_rfl) (by trivial) (λzH=>?_);refine tk6 0 5 1 6 2 7 3 8 5 10 6 11 zH ?_;try simp only[Yq]
 refine tk6 7 12 8 13 10 15 11 16 12 17 13 18 zH ?_;try simp only[Yq]
 refine tkk 15 20 zH ?_;try simp only[Yq]
 refine zap 4 (λK hK=>?_);go_simp;clear zH;(refine(zc2 (E:=E) (dI 0) (0) _ _ (uq A0) _ (uq HS0)).mono ?_;rintro e w1 ⟨f1,x1,y1,rfl,hk,hd⟩;have HS1:=zh (zae (uq HS0) hk);have HLo1:=zh (zah (uq HLo0) hk);have HK1:=zh ((uq HK0).trans hk);have HC1:Hid (zaw E w1 (0) [(.func (.func f1) x1 y1,[dI 0],zaO)]):=zh ⟨hd,trivial⟩;clear hk hd);try go_wp2_with fail
 refine hK.out _ _ ?_ (λzH=>?_)
 ·trivial
 clear hK K;try simp only[Yq]
 refine zap 9 (λK hK=>?_);go_simp;clear zH;(refine(zax (E:=E) (dS []) (1) _ _ (uq A1) _ (uq HS1)).mono ?_;rintro e w2 ⟨f2,x2,y2,rfl,hk,hd⟩;have HS2:=zh (zae (uq HS1) hk);have HLo2:=zh (zah (uq HLo1) hk);have HK2:=zh ((uq HK1).trans hk);have HC2:Hid (zaw E w2 (0) [(.func (.func f1) x1 y1,[dI 0],zaO),(.func (.func f2) x2 y2,[dS []],zai)]):=zh (zab (uq HC1) hk hd);clear hk hd);try go_wp2_with fail
 refine hK.out _ _ ?_ (λzH=>?_)
 ·trivial
 clear hK K;try simp only[Yq]
 refine zap 14 (λK hK=>?_);go_simp;clear zH;(refine(zax (E:=E) (dS []) (2) _ _ (uq A2) _ (uq HS2)).mono ?_;rintro e w3 ⟨f3,x3,y3,rfl,hk,hd⟩;have HS3:=zh (zae (uq HS2) hk);have HLo3:=zh (zah (uq HLo2) hk);have HK3:=zh ((uq HK2).trans hk);have HC3:Hid (zaw E w3 (0) [(.func (.func f1) x1 y1,[dI 0],zaO),(.func (.func f2) x2 y2,[dS []],zai),(.func (.func f3) x3 y3,[dS []],zai)]):=zh (zab (uq HC2) hk hd);clear hk hd);try go_wp2_with fail
 refine hK.out _ _ ?_ (λzH=>?_)
 ·trivial
 clear hK K;try simp only[Yq]
 refine zap 16 (λK hK=>?_);go_simp;clear zH;(refine(zaG (E:=E) [59] (by decide) (3) _ (uq HS3)).mono ?_;rintro e w4 ⟨f4,x4,y4,rfl,hk,hd⟩;have HS4:=zh (zae (uq HS3) hk);have HLo4:=zh (zah (uq HLo3) hk);have HK4:=zh ((uq HK3).trans hk);have HC4:Hid (zaw E w4 (0) [(.func (.func f1) x1 y1,[dI 0],zaO),(.func (.func f2) x2 y2,[dS []],zai),(.func (.func f3) x3 y3,[dS []],zai),(.func (.func f4) x4 y4,[],zad [59])]):=zh (zab (uq HC3) hk hd);clear hk hd);try go_wp2_with fail
 refine hK.out _ _ ?_ (λzH=>?_)
 ·trivial
 clear hK K;try simp only[Yq]
 refine zap 17 (λK hK=>?_);go_simp;clear zH;refine hK.out _ _ ?_ (λzH=>?_)
 ·trivial
 clear hK K;try simp only[Yq]
 refine zap 18 (λK hK=>?_);go_simp;clear zH;(refine(za5 (E:=E) (m:=0) (ss:= [(.func (.func f1) x1 y1,[dI 0],zaO),(.func (.func f2) x2 y2,[dS []],zai),(.func (.func f3) x3 y3,[dS []],zai),(.func (.func f4) x4 y4,[],zad [59])]) (c:= []) (rest:= []) (r:=r) (by simp) (zaR ((zk _).alloc _) (uq HC4)) (za1 _ _ _) (λh=>Nat.lt_irrefl _ ((uq HS4) _ h)) rfl ((uq HR).keep ((uq HK4).alloc _)) ((uq HL).keep ((uq HK4).alloc _))).mono ?_;rintro e wz hp;obtain⟨vz,rfl⟩:=zbz hp;have HP:=zh hp;have HKz:=zh ((uq HK4).alloc (.cells #[.func (.func f1) x1 y1,.func (.func f2) x2 y2,.func (.func f3) x3 y3,.func (.func f4) x4 y4] 162));clear hp);try go_wp2_with fail
 refine hK.out _ _ ?_ (λzH=>?_)
 ·trivial
 clear hK K;try simp only[Yq]
 refine tkk 19 4 zH ?_;try simp only[Yq]
 refine wpAnyH_done (by kernel_rfl) ?_ _;clear zH;go_wp2_with fail
 go_ret;exact zbM (.keep (uq HKz)) (uq HP)
end Go.Proofs.YthceiikgecoimaaGreatDoor
