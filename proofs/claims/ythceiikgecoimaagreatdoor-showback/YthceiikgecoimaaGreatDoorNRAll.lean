/- Package net: rows of things of one type (Row). -/
import Derived.Test.YthceiikgecoimaaGreatDoorNThing
import Derived.Test.YthceiikgecoimaaGreatDoorLVal
namespace Go.Proofs.YthceiikgecoimaaGreatDoor
open Go.RowKit
attribute [local go_sem ↓] Go.wp_at_zero Go.wp_at_succ
set_option linter.unusedVariables false
set_option linter.unusedSimpArgs false
set_option maxRecDepth 10000
inductive Gq:Nat->Prop|mk (n:Nat):Gq n
namespace RowR
theorem info0:(Tryz.prog.info? 86).map (λi=>(i.zero,i.size,i.bytes))=some (some (.agg #[.bool false,.slice none 0 0]),2,32):=by kernel_rfl
theorem parts {vs:List Value} (h:vs.length=2):∃ u0 u1,vs= [u0,u1]:=by
 match vs,h with
 | [u0,u1],_=>exact⟨u0,u1,rfl⟩
end RowR
namespace HeadR
theorem info0:(Tryz.prog.info? 77).map (λi=>(i.zero,i.size,i.bytes))=some (some (.agg #[.string ⟨#[]⟩,.int .i64 0,.int .i64 0,.int .i64 0,.int .i64 0,.int .i64 0,.int .i64 0,.int .i64 0,.int .i64 0,.int .i64 0,.int .i64 0]),11,96):=by kernel_rfl
theorem parts {vs:List Value} (h:vs.length=11):∃ u0 u1 u2 u3 u4 u5 u6 u7 u8 u9 u10,vs= [u0,u1,u2,u3,u4,u5,u6,u7,u8,u9,u10]:=by
 match vs,h with
 | [u0,u1,u2,u3,u4,u5,u6,u7,u8,u9,u10],_=>exact⟨u0,u1,u2,u3,u4,u5,u6,u7,u8,u9,u10,rfl⟩
end HeadR
namespace PedR
theorem info0:(Tryz.prog.info? 79).map (λi=>(i.zero,i.size,i.bytes))=some (some (.agg #[.string ⟨#[]⟩,.string ⟨#[]⟩,.int .i64 0,.int .i64 0,.int .i64 0,.int .i64 0]),6,64):=by kernel_rfl
theorem parts {vs:List Value} (h:vs.length=6):∃ u0 u1 u2 u3 u4 u5,vs= [u0,u1,u2,u3,u4,u5]:=by
 match vs,h with
 | [u0,u1,u2,u3,u4,u5],_=>exact⟨u0,u1,u2,u3,u4,u5,rfl⟩
end PedR
namespace PhaseR
theorem info0:(Tryz.prog.info? 81).map (λi=>(i.zero,i.size,i.bytes))=some (some (.agg #[.string ⟨#[]⟩,.slice none 0 0,.int .i64 0]),3,48):=by kernel_rfl
theorem parts {vs:List Value} (h:vs.length=3):∃ u0 u1 u2,vs= [u0,u1,u2]:=by
 match vs,h with
 | [u0,u1,u2],_=>exact⟨u0,u1,u2,rfl⟩
end PhaseR
namespace GroupR
theorem info0:(Tryz.prog.info? 84).map (λi=>(i.zero,i.size,i.bytes))=some (some (.agg #[.slice none 0 0]),1,24):=by kernel_rfl
theorem parts {vs:List Value} (h:vs.length=1):∃ u0,vs= [u0]:=by
 match vs,h with
 | [u0],_=>exact⟨u0,rfl⟩
end GroupR
namespace FoeR
theorem info0:(Tryz.prog.info? 88).map (λi=>(i.zero,i.size,i.bytes))=some (some (.agg #[.string ⟨#[]⟩,.string ⟨#[]⟩,.int .i64 0]),3,40):=by kernel_rfl
theorem parts {vs:List Value} (h:vs.length=3):∃ u0 u1 u2,vs= [u0,u1,u2]:=by
 match vs,h with
 | [u0,u1,u2],_=>exact⟨u0,u1,u2,rfl⟩
end FoeR
namespace StopR
theorem info0:(Tryz.prog.info? 48).map (λi=>(i.zero,i.size,i.bytes))=some (some (.agg #[.string ⟨#[]⟩,.string ⟨#[]⟩,.string ⟨#[]⟩,.int .i64 0,.int .i64 0,.int .i64 0]),6,72):=by kernel_rfl
theorem parts {vs:List Value} (h:vs.length=6):∃ u0 u1 u2 u3 u4 u5,vs= [u0,u1,u2,u3,u4,u5]:=by
 match vs,h with
 | [u0,u1,u2,u3,u4,u5],_=>exact⟨u0,u1,u2,u3,u4,u5,rfl⟩
end StopR
namespace NodeR
theorem info0:(Tryz.prog.info? 45).map (λi=>(i.zero,i.size,i.bytes))=some (some (.agg #[.string ⟨#[]⟩,.slice none 0 0,.slice none 0 0,.slice none 0 0,.slice none 0 0,.slice none 0 0,.int .i64 0]),7,144):=by kernel_rfl
theorem parts {vs:List Value} (h:vs.length=7):∃ u0 u1 u2 u3 u4 u5 u6,vs= [u0,u1,u2,u3,u4,u5,u6]:=by
 match vs,h with
 | [u0,u1,u2,u3,u4,u5,u6],_=>exact⟨u0,u1,u2,u3,u4,u5,u6,rfl⟩
end NodeR
def zrG:Prop:=∀(E:Env) (g0 g1 g2 g3 g4 b o m most:Nat) (fT:FuncId) (X:List UInt8) (body:List Tok->Rs) (c rest:List D) (w:World) (r0:List Tok)
  (B0:Hid (Bx E w g0 (.pointer (some ⟨E.rb,0,none⟩)))) (B1:Hid (Bx E w g1 (.string (sv X)))) (B2:Hid (Bx E w g2 (.pointer (some ⟨b,o,none⟩)))) (B3:Hid (Bx E w g3 (.int .i64 (most:Int)))) (B4:Hid (Bx E w g4 (.func (.func fT) #[.pointer (some ⟨E.rb,0,none⟩)] #[])))
  (A0:Hid (E.A m=(b,o))) (HS:Hid (∀ b,E.S b->b<w.heap.size)) (HLo:Hid (E.lo<=w.heap.size)) (hcm:Hid (c.length=m)) (HR:Hid (Rdr E w r0)) (HL:Hid (Cel E w (c++ [dN]++rest)))
  (HT:Hid (zeK E.rb E.l E.ta E.cap fT 86 [.bool false,.slice none 0 0] body)) (HM:Hid (Mon body)) (hent:Hid (Ent fT)) (hmost:most<=1000) (hX:Hid (X≠ [])),Calls Tryz.prog 169 #[.pointer (some ⟨g0,0,none⟩),.pointer (some ⟨g1,0,none⟩),.pointer (some ⟨g2,0,none⟩),.pointer (some ⟨g3,0,none⟩),.pointer (some ⟨g4,0,none⟩)] w (zcu E w rest (m+1) (zaL X most 86 2 body c r0))
def zmx:Prop:=∀(E:Env) (g0 g1 g2 g3 g4 b o m most:Nat) (fT:FuncId) (X:List UInt8) (body:List Tok->Rs) (c rest:List D) (w:World) (r0:List Tok)
  (B0:Hid (Bx E w g0 (.pointer (some ⟨E.rb,0,none⟩)))) (B1:Hid (Bx E w g1 (.string (sv X)))) (B2:Hid (Bx E w g2 (.pointer (some ⟨b,o,none⟩)))) (B3:Hid (Bx E w g3 (.int .i64 (most:Int)))) (B4:Hid (Bx E w g4 (.func (.func fT) #[.pointer (some ⟨E.rb,0,none⟩)] #[])))
  (A0:Hid (E.A m=(b,o))) (HS:Hid (∀ b,E.S b->b<w.heap.size)) (HLo:Hid (E.lo<=w.heap.size)) (hcm:Hid (c.length=m)) (HR:Hid (Rdr E w r0)) (HL:Hid (Cel E w (c++ [dN]++rest)))
  (HT:Hid (zeK E.rb E.l E.ta E.cap fT 77 [.string ⟨#[]⟩,.int .i64 0,.int .i64 0,.int .i64 0,.int .i64 0,.int .i64 0,.int .i64 0,.int .i64 0,.int .i64 0,.int .i64 0,.int .i64 0] body)) (HM:Hid (Mon body)) (hent:Hid (Ent fT)) (hmost:most<=1000) (hX:Hid (X≠ [])),Calls Tryz.prog 145 #[.pointer (some ⟨g0,0,none⟩),.pointer (some ⟨g1,0,none⟩),.pointer (some ⟨g2,0,none⟩),.pointer (some ⟨g3,0,none⟩),.pointer (some ⟨g4,0,none⟩)] w (zcu E w rest (m+1) (zaL X most 77 11 body c r0))
def zrH:Prop:=∀(E:Env) (g0 g1 g2 g3 g4 b o m most:Nat) (fT:FuncId) (X:List UInt8) (body:List Tok->Rs) (c rest:List D) (w:World) (r0:List Tok)
  (B0:Hid (Bx E w g0 (.pointer (some ⟨E.rb,0,none⟩)))) (B1:Hid (Bx E w g1 (.string (sv X)))) (B2:Hid (Bx E w g2 (.pointer (some ⟨b,o,none⟩)))) (B3:Hid (Bx E w g3 (.int .i64 (most:Int)))) (B4:Hid (Bx E w g4 (.func (.func fT) #[.pointer (some ⟨E.rb,0,none⟩)] #[])))
  (A0:Hid (E.A m=(b,o))) (HS:Hid (∀ b,E.S b->b<w.heap.size)) (HLo:Hid (E.lo<=w.heap.size)) (hcm:Hid (c.length=m)) (HR:Hid (Rdr E w r0)) (HL:Hid (Cel E w (c++ [dN]++rest)))
  (HT:Hid (zeK E.rb E.l E.ta E.cap fT 79 [.string ⟨#[]⟩,.string ⟨#[]⟩,.int .i64 0,.int .i64 0,.int .i64 0,.int .i64 0] body)) (HM:Hid (Mon body)) (hent:Hid (Ent fT)) (hmost:most<=1000) (hX:Hid (X≠ [])),Calls Tryz.prog 147 #[.pointer (some ⟨g0,0,none⟩),.pointer (some ⟨g1,0,none⟩),.pointer (some ⟨g2,0,none⟩),.pointer (some ⟨g3,0,none⟩),.pointer (some ⟨g4,0,none⟩)] w (zcu E w rest (m+1) (zaL X most 79 6 body c r0))
def zkw:Prop:=∀(E:Env) (g0 g1 g2 g3 g4 b o m most:Nat) (fT:FuncId) (X:List UInt8) (body:List Tok->Rs) (c rest:List D) (w:World) (r0:List Tok)
  (B0:Hid (Bx E w g0 (.pointer (some ⟨E.rb,0,none⟩)))) (B1:Hid (Bx E w g1 (.string (sv X)))) (B2:Hid (Bx E w g2 (.pointer (some ⟨b,o,none⟩)))) (B3:Hid (Bx E w g3 (.int .i64 (most:Int)))) (B4:Hid (Bx E w g4 (.func (.func fT) #[.pointer (some ⟨E.rb,0,none⟩)] #[])))
  (A0:Hid (E.A m=(b,o))) (HS:Hid (∀ b,E.S b->b<w.heap.size)) (HLo:Hid (E.lo<=w.heap.size)) (hcm:Hid (c.length=m)) (HR:Hid (Rdr E w r0)) (HL:Hid (Cel E w (c++ [dN]++rest)))
  (HT:Hid (zeK E.rb E.l E.ta E.cap fT 81 [.string ⟨#[]⟩,.slice none 0 0,.int .i64 0] body)) (HM:Hid (Mon body)) (hent:Hid (Ent fT)) (hmost:most<=1000) (hX:Hid (X≠ [])),Calls Tryz.prog 148 #[.pointer (some ⟨g0,0,none⟩),.pointer (some ⟨g1,0,none⟩),.pointer (some ⟨g2,0,none⟩),.pointer (some ⟨g3,0,none⟩),.pointer (some ⟨g4,0,none⟩)] w (zcu E w rest (m+1) (zaL X most 81 3 body c r0))
def zkx:Prop:=∀(E:Env) (g0 g1 g2 g3 g4 b o m most:Nat) (fT:FuncId) (X:List UInt8) (body:List Tok->Rs) (c rest:List D) (w:World) (r0:List Tok)
  (B0:Hid (Bx E w g0 (.pointer (some ⟨E.rb,0,none⟩)))) (B1:Hid (Bx E w g1 (.string (sv X)))) (B2:Hid (Bx E w g2 (.pointer (some ⟨b,o,none⟩)))) (B3:Hid (Bx E w g3 (.int .i64 (most:Int)))) (B4:Hid (Bx E w g4 (.func (.func fT) #[.pointer (some ⟨E.rb,0,none⟩)] #[])))
  (A0:Hid (E.A m=(b,o))) (HS:Hid (∀ b,E.S b->b<w.heap.size)) (HLo:Hid (E.lo<=w.heap.size)) (hcm:Hid (c.length=m)) (HR:Hid (Rdr E w r0)) (HL:Hid (Cel E w (c++ [dN]++rest)))
  (HT:Hid (zeK E.rb E.l E.ta E.cap fT 84 [.slice none 0 0] body)) (HM:Hid (Mon body)) (hent:Hid (Ent fT)) (hmost:most<=1000) (hX:Hid (X≠ [])),Calls Tryz.prog 150 #[.pointer (some ⟨g0,0,none⟩),.pointer (some ⟨g1,0,none⟩),.pointer (some ⟨g2,0,none⟩),.pointer (some ⟨g3,0,none⟩),.pointer (some ⟨g4,0,none⟩)] w (zcu E w rest (m+1) (zaL X most 84 1 body c r0))
def zrI:Prop:=∀(E:Env) (g0 g1 g2 g3 g4 b o m most:Nat) (fT:FuncId) (X:List UInt8) (body:List Tok->Rs) (c rest:List D) (w:World) (r0:List Tok)
  (B0:Hid (Bx E w g0 (.pointer (some ⟨E.rb,0,none⟩)))) (B1:Hid (Bx E w g1 (.string (sv X)))) (B2:Hid (Bx E w g2 (.pointer (some ⟨b,o,none⟩)))) (B3:Hid (Bx E w g3 (.int .i64 (most:Int)))) (B4:Hid (Bx E w g4 (.func (.func fT) #[.pointer (some ⟨E.rb,0,none⟩)] #[])))
  (A0:Hid (E.A m=(b,o))) (HS:Hid (∀ b,E.S b->b<w.heap.size)) (HLo:Hid (E.lo<=w.heap.size)) (hcm:Hid (c.length=m)) (HR:Hid (Rdr E w r0)) (HL:Hid (Cel E w (c++ [dN]++rest)))
  (HT:Hid (zeK E.rb E.l E.ta E.cap fT 88 [.string ⟨#[]⟩,.string ⟨#[]⟩,.int .i64 0] body)) (HM:Hid (Mon body)) (hent:Hid (Ent fT)) (hmost:most<=1000) (hX:Hid (X≠ [])),Calls Tryz.prog 154 #[.pointer (some ⟨g0,0,none⟩),.pointer (some ⟨g1,0,none⟩),.pointer (some ⟨g2,0,none⟩),.pointer (some ⟨g3,0,none⟩),.pointer (some ⟨g4,0,none⟩)] w (zcu E w rest (m+1) (zaL X most 88 3 body c r0))
def zmy:Prop:=∀(E:Env) (g0 g1 g2 g3 g4 b o m most:Nat) (fT:FuncId) (X:List UInt8) (body:List Tok->Rs) (c rest:List D) (w:World) (r0:List Tok)
  (B0:Hid (Bx E w g0 (.pointer (some ⟨E.rb,0,none⟩)))) (B1:Hid (Bx E w g1 (.string (sv X)))) (B2:Hid (Bx E w g2 (.pointer (some ⟨b,o,none⟩)))) (B3:Hid (Bx E w g3 (.int .i64 (most:Int)))) (B4:Hid (Bx E w g4 (.func (.func fT) #[.pointer (some ⟨E.rb,0,none⟩)] #[])))
  (A0:Hid (E.A m=(b,o))) (HS:Hid (∀ b,E.S b->b<w.heap.size)) (HLo:Hid (E.lo<=w.heap.size)) (hcm:Hid (c.length=m)) (HR:Hid (Rdr E w r0)) (HL:Hid (Cel E w (c++ [dN]++rest)))
  (HT:Hid (zeK E.rb E.l E.ta E.cap fT 48 [.string ⟨#[]⟩,.string ⟨#[]⟩,.string ⟨#[]⟩,.int .i64 0,.int .i64 0,.int .i64 0] body)) (HM:Hid (Mon body)) (hent:Hid (Ent fT)) (hmost:most<=1000) (hX:Hid (X≠ [])),Calls Tryz.prog 156 #[.pointer (some ⟨g0,0,none⟩),.pointer (some ⟨g1,0,none⟩),.pointer (some ⟨g2,0,none⟩),.pointer (some ⟨g3,0,none⟩),.pointer (some ⟨g4,0,none⟩)] w (zcu E w rest (m+1) (zaL X most 48 6 body c r0))
def zmz:Prop:=∀(E:Env) (g0 g1 g2 g3 g4 b o m most:Nat) (fT:FuncId) (X:List UInt8) (body:List Tok->Rs) (c rest:List D) (w:World) (r0:List Tok)
  (B0:Hid (Bx E w g0 (.pointer (some ⟨E.rb,0,none⟩)))) (B1:Hid (Bx E w g1 (.string (sv X)))) (B2:Hid (Bx E w g2 (.pointer (some ⟨b,o,none⟩)))) (B3:Hid (Bx E w g3 (.int .i64 (most:Int)))) (B4:Hid (Bx E w g4 (.func (.func fT) #[.pointer (some ⟨E.rb,0,none⟩)] #[])))
  (A0:Hid (E.A m=(b,o))) (HS:Hid (∀ b,E.S b->b<w.heap.size)) (HLo:Hid (E.lo<=w.heap.size)) (hcm:Hid (c.length=m)) (HR:Hid (Rdr E w r0)) (HL:Hid (Cel E w (c++ [dN]++rest)))
  (HT:Hid (zeK E.rb E.l E.ta E.cap fT 45 [.string ⟨#[]⟩,.slice none 0 0,.slice none 0 0,.slice none 0 0,.slice none 0 0,.slice none 0 0,.int .i64 0] body)) (HM:Hid (Mon body)) (hent:Hid (Ent fT)) (hmost:most<=1000) (hX:Hid (X≠ [])),Calls Tryz.prog 111 #[.pointer (some ⟨g0,0,none⟩),.pointer (some ⟨g1,0,none⟩),.pointer (some ⟨g2,0,none⟩),.pointer (some ⟨g3,0,none⟩),.pointer (some ⟨g4,0,none⟩)] w (zcu E w rest (m+1) (zaL X most 45 7 body c r0))
set_option maxHeartbeats 64000000 in
theorem zgh:zrG/\zmx/\zrH/\zkw/\zkx/\zrI/\zmy/\zmz:=by
 refine⟨?_,?_,?_,?_,?_,?_,?_,?_⟩
 focus
  intro E g0 g1 g2 g3 g4 b o m most fT X body c rest w r0 B0 B1 B2 B3 B4 A0 HS HLo hcm HR HL HT HM hent hmost hX
  have HG:=Gq.mk 0
 rotate_left
 focus
  intro E g0 g1 g2 g3 g4 b o m most fT X body c rest w r0 B0 B1 B2 B3 B4 A0 HS HLo hcm HR HL HT HM hent hmost hX
  have HG:=Gq.mk 1
 rotate_left
 focus
  intro E g0 g1 g2 g3 g4 b o m most fT X body c rest w r0 B0 B1 B2 B3 B4 A0 HS HLo hcm HR HL HT HM hent hmost hX
  have HG:=Gq.mk 2
 rotate_left
 focus
  intro E g0 g1 g2 g3 g4 b o m most fT X body c rest w r0 B0 B1 B2 B3 B4 A0 HS HLo hcm HR HL HT HM hent hmost hX
  have HG:=Gq.mk 3
 rotate_left
 focus
  intro E g0 g1 g2 g3 g4 b o m most fT X body c rest w r0 B0 B1 B2 B3 B4 A0 HS HLo hcm HR HL HT HM hent hmost hX
  have HG:=Gq.mk 4
 rotate_left
 focus
  intro E g0 g1 g2 g3 g4 b o m most fT X body c rest w r0 B0 B1 B2 B3 B4 A0 HS HLo hcm HR HL HT HM hent hmost hX
  have HG:=Gq.mk 5
 rotate_left
 focus
  intro E g0 g1 g2 g3 g4 b o m most fT X body c rest w r0 B0 B1 B2 B3 B4 A0 HS HLo hcm HR HL HT HM hent hmost hX
  have HG:=Gq.mk 6
 rotate_left
 focus
  intro E g0 g1 g2 g3 g4 b o m most fT X body c rest w r0 B0 B1 B2 B3 B4 A0 HS HLo hcm HR HL HT HM hent hmost hX
  have HG:=Gq.mk 7
 rotate_left
 all_goals
  first
  |(have hG:Gq 0:=HG;clear hG
    obtain⟨i0,hi,hz0,hz1,hz2⟩:=zaD RowR.info0)
  |(have hG:Gq 1:=HG;clear hG
    obtain⟨i0,hi,hz0,hz1,hz2⟩:=zaD HeadR.info0)
  |(have hG:Gq 2:=HG;clear hG
    obtain⟨i0,hi,hz0,hz1,hz2⟩:=zaD PedR.info0)
  |(have hG:Gq 3:=HG;clear hG
    obtain⟨i0,hi,hz0,hz1,hz2⟩:=zaD PhaseR.info0)
  |(have hG:Gq 4:=HG;clear hG
    obtain⟨i0,hi,hz0,hz1,hz2⟩:=zaD GroupR.info0)
  |(have hG:Gq 5:=HG;clear hG
    obtain⟨i0,hi,hz0,hz1,hz2⟩:=zaD FoeR.info0)
  |(have hG:Gq 6:=HG;clear hG
    obtain⟨i0,hi,hz0,hz1,hz2⟩:=zaD StopR.info0)
  |(have hG:Gq 7:=HG;clear hG
    obtain⟨i0,hi,hz0,hz1,hz2⟩:=zaD NodeR.info0)
  have HI0:=zh hi;have HZ0:=zh hz0;have HZ1:=zh hz1;have HZ2:=zh hz2;clear hi hz0 hz1 hz2;have HCM:=hcm;have Isn:=zh zmu;have Isw:=zh zkj;have Isl:=zh zpi;first
  |(have hG:Gq 0:=HG;clear hG
    go_enter Tryz.func169,Tryz.ntmps169)
  |(have hG:Gq 1:=HG;clear hG
    go_enter Tryz.func145,Tryz.ntmps145)
  |(have hG:Gq 2:=HG;clear hG
    go_enter Tryz.func147,Tryz.ntmps147)
  |(have hG:Gq 3:=HG;clear hG
    go_enter Tryz.func148,Tryz.ntmps148)
  |(have hG:Gq 4:=HG;clear hG
    go_enter Tryz.func150,Tryz.ntmps150)
  |(have hG:Gq 5:=HG;clear hG
    go_enter Tryz.func154,Tryz.ntmps154)
  |(have hG:Gq 6:=HG;clear hG
    go_enter Tryz.func156,Tryz.ntmps156)
  |(have hG:Gq 7:=HG;clear hG
    go_enter Tryz.func111,Tryz.ntmps111)
  go_wp2_with fail
  first
  |(have hG:Gq 0:=HG;clear hG
    go_loopw [5] (λu5 wr=>∃(L:List (List D)) (r:List Tok) (v:Value),Hid (RowI E w m (c++ [dN]++rest) 86 2 wr L r v)/\Hid (rw_ X most body L r=rw_ X most body [] r0)/\Hid (L.length<=most)) (λ_ wr=>70001 - rk E.rb wr))
  |(have hG:Gq 1:=HG;clear hG
    go_loopw [5] (λu5 wr=>∃(L:List (List D)) (r:List Tok) (v:Value),Hid (RowI E w m (c++ [dN]++rest) 77 11 wr L r v)/\Hid (rw_ X most body L r=rw_ X most body [] r0)/\Hid (L.length<=most)) (λ_ wr=>70001 - rk E.rb wr))
  |(have hG:Gq 2:=HG;clear hG
    go_loopw [5] (λu5 wr=>∃(L:List (List D)) (r:List Tok) (v:Value),Hid (RowI E w m (c++ [dN]++rest) 79 6 wr L r v)/\Hid (rw_ X most body L r=rw_ X most body [] r0)/\Hid (L.length<=most)) (λ_ wr=>70001 - rk E.rb wr))
  |(have hG:Gq 3:=HG;clear hG
    go_loopw [5] (λu5 wr=>∃(L:List (List D)) (r:List Tok) (v:Value),Hid (RowI E w m (c++ [dN]++rest) 81 3 wr L r v)/\Hid (rw_ X most body L r=rw_ X most body [] r0)/\Hid (L.length<=most)) (λ_ wr=>70001 - rk E.rb wr))
  |(have hG:Gq 4:=HG;clear hG
    go_loopw [5] (λu5 wr=>∃(L:List (List D)) (r:List Tok) (v:Value),Hid (RowI E w m (c++ [dN]++rest) 84 1 wr L r v)/\Hid (rw_ X most body L r=rw_ X most body [] r0)/\Hid (L.length<=most)) (λ_ wr=>70001 - rk E.rb wr))
  |(have hG:Gq 5:=HG;clear hG
    go_loopw [5] (λu5 wr=>∃(L:List (List D)) (r:List Tok) (v:Value),Hid (RowI E w m (c++ [dN]++rest) 88 3 wr L r v)/\Hid (rw_ X most body L r=rw_ X most body [] r0)/\Hid (L.length<=most)) (λ_ wr=>70001 - rk E.rb wr))
  |(have hG:Gq 6:=HG;clear hG
    go_loopw [5] (λu5 wr=>∃(L:List (List D)) (r:List Tok) (v:Value),Hid (RowI E w m (c++ [dN]++rest) 48 6 wr L r v)/\Hid (rw_ X most body L r=rw_ X most body [] r0)/\Hid (L.length<=most)) (λ_ wr=>70001 - rk E.rb wr))
  |(have hG:Gq 7:=HG;clear hG
    go_loopw [5] (λu5 wr=>∃(L:List (List D)) (r:List Tok) (v:Value),Hid (RowI E w m (c++ [dN]++rest) 45 7 wr L r v)/\Hid (rw_ X most body L r=rw_ X most body [] r0)/\Hid (L.length<=most)) (λ_ wr=>70001 - rk E.rb wr))
  case atStart=>exact⟨[],r0,.slice none 0 0,zh (by rw[<- uq hcm];exact RowI.start (uq HR) (uq HL)),zh rfl,zh (Nat.zero_le _)⟩
  case round=>
   obtain⟨L,r,v,HI,HE,HLn⟩:=hrel;obtain⟨t,r',rfl⟩:=zcp (uq HI).rd.1;obtain⟨av,cap,xs,rfl,hown⟩:=zc4 (uq HI).row;have HOWN:=zh hown;clear hown;obtain⟨n,HN⟩:∃ n,Hid (L.length=n):=⟨_,rfl⟩;have hnm:n<=most:=by have:=uq HLn;have:=uq HN;omega
   rw[uq HN]at HI HOWN;have c0:=zh ((uq B0).fr (uq HI).fr).1;have c1:=zh ((uq B1).fr (uq HI).fr).1;have c2:=zh ((uq B2).fr (uq HI).fr).1;have c3:=zh ((uq B3).fr (uq HI).fr).1;have c4:=zh ((uq B4).fr (uq HI).fr).1;have c5:Hid (wr.cell? ⟨b,o,none⟩=some (.slice av n cap)):=zh (by have:=(uq HI).cel;rw[uq A0]at this;exact this);have HR0:=zh (uq HI).rd.1;have HEq:=zh (zcH X most body (uq HM) L t r');by_cases ht:t.s=X
   ·have hne:((sv t.s).toList==(sv X).toList)=true:=by rw[svl,svl,ht];simp
    have HTS:=zh ht;clear ht;by_cases hn:n=most
    ·have HNE:=zh hn;clear hn;go_wp2_with fail
     refine wp_region_held_drew (S:=λw'=>w'.cell? ⟨g0,0,none⟩=some (.pointer (some ⟨E.rb,0,none⟩))/\w'.cell? ⟨g1,0,none⟩=some (.string (sv X))/\w'.cell? ⟨g2,0,none⟩=some (.pointer (some ⟨b,o,none⟩))/\w'.cell? ⟨g3,0,none⟩=some (.int .i64 (most:Int))/\w'.cell? ⟨b,o,none⟩=some (.slice av n cap)) (by kernel_rfl) (by exact⟨uq c0,uq c1,uq c2,uq c3,uq c5⟩) (λzH=>?_);refine tk6 0 9 1 10 2 11 3 12 4 13 5 14 zH ?_;try simp only[Yq]
     refine tkk 6 15 zH ?_;try simp only[Yq]
     refine zap 7 (λK hK=>?_);go_simp;clear zH;(refine(zku E.rb n most t.k t.n t.p (sv t.s) (sv X) _ hne (uq HNE) (zh (zdq ((uq HR0).keep (zk _).drew))) (zh (zdJ ((uq HR0).keep (zk _).drew)))).mono ?_;rintro e w2 ⟨rfl,hk⟩;have HK2:=zh (Keep.trans (zk wr).drew hk);clear hk);try go_wp2_with fail
     refine hK.out _ _ ?_ (λzH=>?_)
     ·exact⟨(uq HK2).cell' (uq c0),(uq HK2).cell' (uq c1),(uq HK2).cell' (uq c2),(uq HK2).cell' (uq c3),(uq HK2).cell' (uq c5)⟩
     clear hK K;try simp only[Yq]
     refine tkk 8 6 zH ?_;try simp only[Yq]
     refine wpAnyH_done (by kernel_rfl) ?_ _;clear zH;unfold flt
     go_wp2_with fail
     (refine((uq Isl) _ _).mono ?_;rintro e w3 ⟨rfl,hk⟩;have HK3:=zh ((uq HK2).trans hk);clear hk);go_wp2_with fail
     go_ret;first
     |(have hG:Gq 0:=HG;clear hG
       have hres:zaL X most 86 2 body c r0= .error (4,t.p):=by
        show(match rw_ X most body [] r0 with| .error x=>Except.error x| .ok (L,r')=> .ok (c++ [D.row 86 2 L],r'))=_;rw[<- uq HE,uq HEq,if_pos (uq HTS),if_pos (by rw[uq HN];exact uq HNE)])
     |(have hG:Gq 1:=HG;clear hG
       have hres:zaL X most 77 11 body c r0= .error (4,t.p):=by
        show(match rw_ X most body [] r0 with| .error x=>Except.error x| .ok (L,r')=> .ok (c++ [D.row 77 11 L],r'))=_;rw[<- uq HE,uq HEq,if_pos (uq HTS),if_pos (by rw[uq HN];exact uq HNE)])
     |(have hG:Gq 2:=HG;clear hG
       have hres:zaL X most 79 6 body c r0= .error (4,t.p):=by
        show(match rw_ X most body [] r0 with| .error x=>Except.error x| .ok (L,r')=> .ok (c++ [D.row 79 6 L],r'))=_;rw[<- uq HE,uq HEq,if_pos (uq HTS),if_pos (by rw[uq HN];exact uq HNE)])
     |(have hG:Gq 3:=HG;clear hG
       have hres:zaL X most 81 3 body c r0= .error (4,t.p):=by
        show(match rw_ X most body [] r0 with| .error x=>Except.error x| .ok (L,r')=> .ok (c++ [D.row 81 3 L],r'))=_;rw[<- uq HE,uq HEq,if_pos (uq HTS),if_pos (by rw[uq HN];exact uq HNE)])
     |(have hG:Gq 4:=HG;clear hG
       have hres:zaL X most 84 1 body c r0= .error (4,t.p):=by
        show(match rw_ X most body [] r0 with| .error x=>Except.error x| .ok (L,r')=> .ok (c++ [D.row 84 1 L],r'))=_;rw[<- uq HE,uq HEq,if_pos (uq HTS),if_pos (by rw[uq HN];exact uq HNE)])
     |(have hG:Gq 5:=HG;clear hG
       have hres:zaL X most 88 3 body c r0= .error (4,t.p):=by
        show(match rw_ X most body [] r0 with| .error x=>Except.error x| .ok (L,r')=> .ok (c++ [D.row 88 3 L],r'))=_;rw[<- uq HE,uq HEq,if_pos (uq HTS),if_pos (by rw[uq HN];exact uq HNE)])
     |(have hG:Gq 6:=HG;clear hG
       have hres:zaL X most 48 6 body c r0= .error (4,t.p):=by
        show(match rw_ X most body [] r0 with| .error x=>Except.error x| .ok (L,r')=> .ok (c++ [D.row 48 6 L],r'))=_;rw[<- uq HE,uq HEq,if_pos (uq HTS),if_pos (by rw[uq HN];exact uq HNE)])
     |(have hG:Gq 7:=HG;clear hG
       have hres:zaL X most 45 7 body c r0= .error (4,t.p):=by
        show(match rw_ X most body [] r0 with| .error x=>Except.error x| .ok (L,r')=> .ok (c++ [D.row 45 7 L],r'))=_;rw[<- uq HE,uq HEq,if_pos (uq HTS),if_pos (by rw[uq HN];exact uq HNE)])
     rw[hres];exact⟨(uq HI).fr.trans (.keep (uq HK3)),rfl⟩
    ·have hnb:((n:Int)==(most:Int))=false:=by simp;omega
     have HNN:=zh hn;clear hn;obtain⟨k,k1,k2,k3⟩:=(uq HR0).at (.inr (by rw[uq HTS];exact uq hX));have HK1:=zh k1;have HK2c:=zh k2;have HK3c:=zh k3;clear k1 k2 k3;go_wp2_with fail
     refine wp_region_held_drew (S:=λw'=>w'.cell? ⟨g0,0,none⟩=some (.pointer (some ⟨E.rb,0,none⟩))/\w'.cell? ⟨g1,0,none⟩=some (.string (sv X))/\w'.cell? ⟨g2,0,none⟩=some (.pointer (some ⟨b,o,none⟩))/\w'.cell? ⟨g3,0,none⟩=some (.int .i64 (most:Int))/\w'.cell? ⟨b,o,none⟩=some (.slice av n cap)) (by kernel_rfl) (by exact⟨uq c0,uq c1,uq c2,uq c3,uq c5⟩) (λzH=>?_);refine tk6 0 9 1 10 2 11 3 12 4 13 5 14 zH ?_;try simp only[Yq]
     refine tkk 6 15 zH ?_;try simp only[Yq]
     refine zap 7 (λK hK=>?_);go_simp;clear zH;first
     |(have hG:Gq 0:=HG;clear hG
       (refine(zck E.rb n most k t.k t.n t.p (sv t.s) (sv X) _ hne hnb (zh (zdq ((uq HR0).keep (zk _).drew))) (zh λw' a b hk x1 x2=>zcq E.rb a b k t.k t.n t.p (sv t.s) (sv X) w' hne (uq HK1) x1 x2 (Keep.cell' (Keep.trans (zk wr).drew hk) (uq HK2c)) (Keep.frozen' (Keep.trans (zk wr).drew hk) (uq HK2c) (uq HK3c)) (zh (zdq ((uq HR0).keep (Keep.trans (zk wr).drew hk)))))).mono ?_;rintro e w9 ⟨rfl,w2,hk,rfl⟩;have HK2:=zh (Keep.trans (zk wr).drew hk);clear hk;have HIr:Hid (RowI E w m (c++ [dN]++rest) 86 2 (w2.setCell ⟨E.rb,1,none⟩ (.int .i64 ((k+1:Nat):Int))) L r' (.slice av n cap)):=zh (((uq HI).keep (uq HK2)).move ((Fr.refl _ _).set _ _ rfl) (((uq HR0).keep (uq HK2)).next (.inr (by rw[uq HTS];exact uq hX)) (uq HI).rd.apart ((uq HK2).cell' (uq HK2c))));have HFr:Hid (Fr (λb=>b=E.rb) wr (w2.setCell ⟨E.rb,1,none⟩ (.int .i64 ((k+1:Nat):Int)))):=zh ((Fr.keep (uq HK2)).set _ _ rfl);generalize w2.setCell ⟨E.rb,1,none⟩ (.int .i64 ((k+1:Nat):Int))=w3 at HIr HFr |-;have d0:=zh ((uq B0).fr (uq HIr).fr).1;have d1:=zh ((uq B1).fr (uq HIr).fr).1;have d2:=zh ((uq B2).fr (uq HIr).fr).1;have d3:=zh ((uq B3).fr (uq HIr).fr).1;have d4:=zh ((uq B4).fr (uq HIr).fr).1;have d5:Hid (w3.cell? ⟨b,o,none⟩=some (.slice av n cap)):=zh (by have:=(uq HIr).cel;rw[uq A0]at this;exact this)))
     |(have hG:Gq 1:=HG;clear hG
       (refine(zck E.rb n most k t.k t.n t.p (sv t.s) (sv X) _ hne hnb (zh (zdq ((uq HR0).keep (zk _).drew))) (zh λw' a b hk x1 x2=>zcq E.rb a b k t.k t.n t.p (sv t.s) (sv X) w' hne (uq HK1) x1 x2 (Keep.cell' (Keep.trans (zk wr).drew hk) (uq HK2c)) (Keep.frozen' (Keep.trans (zk wr).drew hk) (uq HK2c) (uq HK3c)) (zh (zdq ((uq HR0).keep (Keep.trans (zk wr).drew hk)))))).mono ?_;rintro e w9 ⟨rfl,w2,hk,rfl⟩;have HK2:=zh (Keep.trans (zk wr).drew hk);clear hk;have HIr:Hid (RowI E w m (c++ [dN]++rest) 77 11 (w2.setCell ⟨E.rb,1,none⟩ (.int .i64 ((k+1:Nat):Int))) L r' (.slice av n cap)):=zh (((uq HI).keep (uq HK2)).move ((Fr.refl _ _).set _ _ rfl) (((uq HR0).keep (uq HK2)).next (.inr (by rw[uq HTS];exact uq hX)) (uq HI).rd.apart ((uq HK2).cell' (uq HK2c))));have HFr:Hid (Fr (λb=>b=E.rb) wr (w2.setCell ⟨E.rb,1,none⟩ (.int .i64 ((k+1:Nat):Int)))):=zh ((Fr.keep (uq HK2)).set _ _ rfl);generalize w2.setCell ⟨E.rb,1,none⟩ (.int .i64 ((k+1:Nat):Int))=w3 at HIr HFr |-;have d0:=zh ((uq B0).fr (uq HIr).fr).1;have d1:=zh ((uq B1).fr (uq HIr).fr).1;have d2:=zh ((uq B2).fr (uq HIr).fr).1;have d3:=zh ((uq B3).fr (uq HIr).fr).1;have d4:=zh ((uq B4).fr (uq HIr).fr).1;have d5:Hid (w3.cell? ⟨b,o,none⟩=some (.slice av n cap)):=zh (by have:=(uq HIr).cel;rw[uq A0]at this;exact this)))
     |(have hG:Gq 2:=HG;clear hG
       (refine(zck E.rb n most k t.k t.n t.p (sv t.s) (sv X) _ hne hnb (zh (zdq ((uq HR0).keep (zk _).drew))) (zh λw' a b hk x1 x2=>zcq E.rb a b k t.k t.n t.p (sv t.s) (sv X) w' hne (uq HK1) x1 x2 (Keep.cell' (Keep.trans (zk wr).drew hk) (uq HK2c)) (Keep.frozen' (Keep.trans (zk wr).drew hk) (uq HK2c) (uq HK3c)) (zh (zdq ((uq HR0).keep (Keep.trans (zk wr).drew hk)))))).mono ?_;rintro e w9 ⟨rfl,w2,hk,rfl⟩;have HK2:=zh (Keep.trans (zk wr).drew hk);clear hk;have HIr:Hid (RowI E w m (c++ [dN]++rest) 79 6 (w2.setCell ⟨E.rb,1,none⟩ (.int .i64 ((k+1:Nat):Int))) L r' (.slice av n cap)):=zh (((uq HI).keep (uq HK2)).move ((Fr.refl _ _).set _ _ rfl) (((uq HR0).keep (uq HK2)).next (.inr (by rw[uq HTS];exact uq hX)) (uq HI).rd.apart ((uq HK2).cell' (uq HK2c))));have HFr:Hid (Fr (λb=>b=E.rb) wr (w2.setCell ⟨E.rb,1,none⟩ (.int .i64 ((k+1:Nat):Int)))):=zh ((Fr.keep (uq HK2)).set _ _ rfl);generalize w2.setCell ⟨E.rb,1,none⟩ (.int .i64 ((k+1:Nat):Int))=w3 at HIr HFr |-;have d0:=zh ((uq B0).fr (uq HIr).fr).1;have d1:=zh ((uq B1).fr (uq HIr).fr).1;have d2:=zh ((uq B2).fr (uq HIr).fr).1;have d3:=zh ((uq B3).fr (uq HIr).fr).1;have d4:=zh ((uq B4).fr (uq HIr).fr).1;have d5:Hid (w3.cell? ⟨b,o,none⟩=some (.slice av n cap)):=zh (by have:=(uq HIr).cel;rw[uq A0]at this;exact this)))
     |(have hG:Gq 3:=HG;clear hG
       (refine(zck E.rb n most k t.k t.n t.p (sv t.s) (sv X) _ hne hnb (zh (zdq ((uq HR0).keep (zk _).drew))) (zh λw' a b hk x1 x2=>zcq E.rb a b k t.k t.n t.p (sv t.s) (sv X) w' hne (uq HK1) x1 x2 (Keep.cell' (Keep.trans (zk wr).drew hk) (uq HK2c)) (Keep.frozen' (Keep.trans (zk wr).drew hk) (uq HK2c) (uq HK3c)) (zh (zdq ((uq HR0).keep (Keep.trans (zk wr).drew hk)))))).mono ?_;rintro e w9 ⟨rfl,w2,hk,rfl⟩;have HK2:=zh (Keep.trans (zk wr).drew hk);clear hk;have HIr:Hid (RowI E w m (c++ [dN]++rest) 81 3 (w2.setCell ⟨E.rb,1,none⟩ (.int .i64 ((k+1:Nat):Int))) L r' (.slice av n cap)):=zh (((uq HI).keep (uq HK2)).move ((Fr.refl _ _).set _ _ rfl) (((uq HR0).keep (uq HK2)).next (.inr (by rw[uq HTS];exact uq hX)) (uq HI).rd.apart ((uq HK2).cell' (uq HK2c))));have HFr:Hid (Fr (λb=>b=E.rb) wr (w2.setCell ⟨E.rb,1,none⟩ (.int .i64 ((k+1:Nat):Int)))):=zh ((Fr.keep (uq HK2)).set _ _ rfl);generalize w2.setCell ⟨E.rb,1,none⟩ (.int .i64 ((k+1:Nat):Int))=w3 at HIr HFr |-;have d0:=zh ((uq B0).fr (uq HIr).fr).1;have d1:=zh ((uq B1).fr (uq HIr).fr).1;have d2:=zh ((uq B2).fr (uq HIr).fr).1;have d3:=zh ((uq B3).fr (uq HIr).fr).1;have d4:=zh ((uq B4).fr (uq HIr).fr).1;have d5:Hid (w3.cell? ⟨b,o,none⟩=some (.slice av n cap)):=zh (by have:=(uq HIr).cel;rw[uq A0]at this;exact this)))
     |(have hG:Gq 4:=HG;clear hG
       (refine(zck E.rb n most k t.k t.n t.p (sv t.s) (sv X) _ hne hnb (zh (zdq ((uq HR0).keep (zk _).drew))) (zh λw' a b hk x1 x2=>zcq E.rb a b k t.k t.n t.p (sv t.s) (sv X) w' hne (uq HK1) x1 x2 (Keep.cell' (Keep.trans (zk wr).drew hk) (uq HK2c)) (Keep.frozen' (Keep.trans (zk wr).drew hk) (uq HK2c) (uq HK3c)) (zh (zdq ((uq HR0).keep (Keep.trans (zk wr).drew hk)))))).mono ?_;rintro e w9 ⟨rfl,w2,hk,rfl⟩;have HK2:=zh (Keep.trans (zk wr).drew hk);clear hk;have HIr:Hid (RowI E w m (c++ [dN]++rest) 84 1 (w2.setCell ⟨E.rb,1,none⟩ (.int .i64 ((k+1:Nat):Int))) L r' (.slice av n cap)):=zh (((uq HI).keep (uq HK2)).move ((Fr.refl _ _).set _ _ rfl) (((uq HR0).keep (uq HK2)).next (.inr (by rw[uq HTS];exact uq hX)) (uq HI).rd.apart ((uq HK2).cell' (uq HK2c))));have HFr:Hid (Fr (λb=>b=E.rb) wr (w2.setCell ⟨E.rb,1,none⟩ (.int .i64 ((k+1:Nat):Int)))):=zh ((Fr.keep (uq HK2)).set _ _ rfl);generalize w2.setCell ⟨E.rb,1,none⟩ (.int .i64 ((k+1:Nat):Int))=w3 at HIr HFr |-;have d0:=zh ((uq B0).fr (uq HIr).fr).1;have d1:=zh ((uq B1).fr (uq HIr).fr).1;have d2:=zh ((uq B2).fr (uq HIr).fr).1;have d3:=zh ((uq B3).fr (uq HIr).fr).1;have d4:=zh ((uq B4).fr (uq HIr).fr).1;have d5:Hid (w3.cell? ⟨b,o,none⟩=some (.slice av n cap)):=zh (by have:=(uq HIr).cel;rw[uq A0]at this;exact this)))
     |(have hG:Gq 5:=HG;clear hG
       (refine(zck E.rb n most k t.k t.n t.p (sv t.s) (sv X) _ hne hnb (zh (zdq ((uq HR0).keep (zk _).drew))) (zh λw' a b hk x1 x2=>zcq E.rb a b k t.k t.n t.p (sv t.s) (sv X) w' hne (uq HK1) x1 x2 (Keep.cell' (Keep.trans (zk wr).drew hk) (uq HK2c)) (Keep.frozen' (Keep.trans (zk wr).drew hk) (uq HK2c) (uq HK3c)) (zh (zdq ((uq HR0).keep (Keep.trans (zk wr).drew hk)))))).mono ?_;rintro e w9 ⟨rfl,w2,hk,rfl⟩;have HK2:=zh (Keep.trans (zk wr).drew hk);clear hk;have HIr:Hid (RowI E w m (c++ [dN]++rest) 88 3 (w2.setCell ⟨E.rb,1,none⟩ (.int .i64 ((k+1:Nat):Int))) L r' (.slice av n cap)):=zh (((uq HI).keep (uq HK2)).move ((Fr.refl _ _).set _ _ rfl) (((uq HR0).keep (uq HK2)).next (.inr (by rw[uq HTS];exact uq hX)) (uq HI).rd.apart ((uq HK2).cell' (uq HK2c))));have HFr:Hid (Fr (λb=>b=E.rb) wr (w2.setCell ⟨E.rb,1,none⟩ (.int .i64 ((k+1:Nat):Int)))):=zh ((Fr.keep (uq HK2)).set _ _ rfl);generalize w2.setCell ⟨E.rb,1,none⟩ (.int .i64 ((k+1:Nat):Int))=w3 at HIr HFr |-;have d0:=zh ((uq B0).fr (uq HIr).fr).1;have d1:=zh ((uq B1).fr (uq HIr).fr).1;have d2:=zh ((uq B2).fr (uq HIr).fr).1;have d3:=zh ((uq B3).fr (uq HIr).fr).1;have d4:=zh ((uq B4).fr (uq HIr).fr).1;have d5:Hid (w3.cell? ⟨b,o,none⟩=some (.slice av n cap)):=zh (by have:=(uq HIr).cel;rw[uq A0]at this;exact this)))
     |(have hG:Gq 6:=HG;clear hG
       (refine(zck E.rb n most k t.k t.n t.p (sv t.s) (sv X) _ hne hnb (zh (zdq ((uq HR0).keep (zk _).drew))) (zh λw' a b hk x1 x2=>zcq E.rb a b k t.k t.n t.p (sv t.s) (sv X) w' hne (uq HK1) x1 x2 (Keep.cell' (Keep.trans (zk wr).drew hk) (uq HK2c)) (Keep.frozen' (Keep.trans (zk wr).drew hk) (uq HK2c) (uq HK3c)) (zh (zdq ((uq HR0).keep (Keep.trans (zk wr).drew hk)))))).mono ?_;rintro e w9 ⟨rfl,w2,hk,rfl⟩;have HK2:=zh (Keep.trans (zk wr).drew hk);clear hk;have HIr:Hid (RowI E w m (c++ [dN]++rest) 48 6 (w2.setCell ⟨E.rb,1,none⟩ (.int .i64 ((k+1:Nat):Int))) L r' (.slice av n cap)):=zh (((uq HI).keep (uq HK2)).move ((Fr.refl _ _).set _ _ rfl) (((uq HR0).keep (uq HK2)).next (.inr (by rw[uq HTS];exact uq hX)) (uq HI).rd.apart ((uq HK2).cell' (uq HK2c))));have HFr:Hid (Fr (λb=>b=E.rb) wr (w2.setCell ⟨E.rb,1,none⟩ (.int .i64 ((k+1:Nat):Int)))):=zh ((Fr.keep (uq HK2)).set _ _ rfl);generalize w2.setCell ⟨E.rb,1,none⟩ (.int .i64 ((k+1:Nat):Int))=w3 at HIr HFr |-;have d0:=zh ((uq B0).fr (uq HIr).fr).1;have d1:=zh ((uq B1).fr (uq HIr).fr).1;have d2:=zh ((uq B2).fr (uq HIr).fr).1;have d3:=zh ((uq B3).fr (uq HIr).fr).1;have d4:=zh ((uq B4).fr (uq HIr).fr).1;have d5:Hid (w3.cell? ⟨b,o,none⟩=some (.slice av n cap)):=zh (by have:=(uq HIr).cel;rw[uq A0]at this;exact this)))
     |(have hG:Gq 7:=HG;clear hG
       (refine(zck E.rb n most k t.k t.n t.p (sv t.s) (sv X) _ hne hnb (zh (zdq ((uq HR0).keep (zk _).drew))) (zh λw' a b hk x1 x2=>zcq E.rb a b k t.k t.n t.p (sv t.s) (sv X) w' hne (uq HK1) x1 x2 (Keep.cell' (Keep.trans (zk wr).drew hk) (uq HK2c)) (Keep.frozen' (Keep.trans (zk wr).drew hk) (uq HK2c) (uq HK3c)) (zh (zdq ((uq HR0).keep (Keep.trans (zk wr).drew hk)))))).mono ?_;rintro e w9 ⟨rfl,w2,hk,rfl⟩;have HK2:=zh (Keep.trans (zk wr).drew hk);clear hk;have HIr:Hid (RowI E w m (c++ [dN]++rest) 45 7 (w2.setCell ⟨E.rb,1,none⟩ (.int .i64 ((k+1:Nat):Int))) L r' (.slice av n cap)):=zh (((uq HI).keep (uq HK2)).move ((Fr.refl _ _).set _ _ rfl) (((uq HR0).keep (uq HK2)).next (.inr (by rw[uq HTS];exact uq hX)) (uq HI).rd.apart ((uq HK2).cell' (uq HK2c))));have HFr:Hid (Fr (λb=>b=E.rb) wr (w2.setCell ⟨E.rb,1,none⟩ (.int .i64 ((k+1:Nat):Int)))):=zh ((Fr.keep (uq HK2)).set _ _ rfl);generalize w2.setCell ⟨E.rb,1,none⟩ (.int .i64 ((k+1:Nat):Int))=w3 at HIr HFr |-;have d0:=zh ((uq B0).fr (uq HIr).fr).1;have d1:=zh ((uq B1).fr (uq HIr).fr).1;have d2:=zh ((uq B2).fr (uq HIr).fr).1;have d3:=zh ((uq B3).fr (uq HIr).fr).1;have d4:=zh ((uq B4).fr (uq HIr).fr).1;have d5:Hid (w3.cell? ⟨b,o,none⟩=some (.slice av n cap)):=zh (by have:=(uq HIr).cel;rw[uq A0]at this;exact this)))
     try go_wp2_with fail
     refine hK.out _ _ ?_ (λzH=>?_)
     ·exact⟨uq d0,uq d1,uq d2,uq d3,uq d5⟩
     clear hK K;try simp only[Yq]
     refine tkk 8 6 zH ?_;try simp only[Yq]
     refine wpAnyH_done (by kernel_rfl) ?_ _;clear zH;go_wp2_with fail
     (refine((uq Isn) _ _).mono ?_;rintro e w3 ⟨rfl,rfl⟩)
     go_upto_region 7 with fail
     first
     |(have hG:Gq 0:=HG;clear hG
       have HK4:=zh ((zk w3).alloc (.cells #[.bool false,.slice none 0 0] 86));have hxb:Hid ((w3.alloc (.cells #[.bool false,.slice none 0 0] 86)).heap[w3.heap.size]? =some (.cells #[.bool false,.slice none 0 0] 86 (0,0))):=zh (heap_alloc_new w3 _);have HSz:Hid ((w3.alloc (.cells #[.bool false,.slice none 0 0] 86)).heap.size=w3.heap.size+1):=zh (World.size_alloc _ _);generalize w3.alloc (.cells #[.bool false,.slice none 0 0] 86)=w4 at HK4 hxb HSz |-)
     |(have hG:Gq 1:=HG;clear hG
       have HK4:=zh ((zk w3).alloc (.cells #[.string ⟨#[]⟩,.int .i64 0,.int .i64 0,.int .i64 0,.int .i64 0,.int .i64 0,.int .i64 0,.int .i64 0,.int .i64 0,.int .i64 0,.int .i64 0] 77));have hxb:Hid ((w3.alloc (.cells #[.string ⟨#[]⟩,.int .i64 0,.int .i64 0,.int .i64 0,.int .i64 0,.int .i64 0,.int .i64 0,.int .i64 0,.int .i64 0,.int .i64 0,.int .i64 0] 77)).heap[w3.heap.size]? =some (.cells #[.string ⟨#[]⟩,.int .i64 0,.int .i64 0,.int .i64 0,.int .i64 0,.int .i64 0,.int .i64 0,.int .i64 0,.int .i64 0,.int .i64 0,.int .i64 0] 77 (0,0))):=zh (heap_alloc_new w3 _);have HSz:Hid ((w3.alloc (.cells #[.string ⟨#[]⟩,.int .i64 0,.int .i64 0,.int .i64 0,.int .i64 0,.int .i64 0,.int .i64 0,.int .i64 0,.int .i64 0,.int .i64 0,.int .i64 0] 77)).heap.size=w3.heap.size+1):=zh (World.size_alloc _ _);generalize w3.alloc (.cells #[.string ⟨#[]⟩,.int .i64 0,.int .i64 0,.int .i64 0,.int .i64 0,.int .i64 0,.int .i64 0,.int .i64 0,.int .i64 0,.int .i64 0,.int .i64 0] 77)=w4 at HK4 hxb HSz |-)
     |(have hG:Gq 2:=HG;clear hG
       have HK4:=zh ((zk w3).alloc (.cells #[.string ⟨#[]⟩,.string ⟨#[]⟩,.int .i64 0,.int .i64 0,.int .i64 0,.int .i64 0] 79));have hxb:Hid ((w3.alloc (.cells #[.string ⟨#[]⟩,.string ⟨#[]⟩,.int .i64 0,.int .i64 0,.int .i64 0,.int .i64 0] 79)).heap[w3.heap.size]? =some (.cells #[.string ⟨#[]⟩,.string ⟨#[]⟩,.int .i64 0,.int .i64 0,.int .i64 0,.int .i64 0] 79 (0,0))):=zh (heap_alloc_new w3 _);have HSz:Hid ((w3.alloc (.cells #[.string ⟨#[]⟩,.string ⟨#[]⟩,.int .i64 0,.int .i64 0,.int .i64 0,.int .i64 0] 79)).heap.size=w3.heap.size+1):=zh (World.size_alloc _ _);generalize w3.alloc (.cells #[.string ⟨#[]⟩,.string ⟨#[]⟩,.int .i64 0,.int .i64 0,.int .i64 0,.int .i64 0] 79)=w4 at HK4 hxb HSz |-)
     |(have hG:Gq 3:=HG;clear hG
       have HK4:=zh ((zk w3).alloc (.cells #[.string ⟨#[]⟩,.slice none 0 0,.int .i64 0] 81));have hxb:Hid ((w3.alloc (.cells #[.string ⟨#[]⟩,.slice none 0 0,.int .i64 0] 81)).heap[w3.heap.size]? =some (.cells #[.string ⟨#[]⟩,.slice none 0 0,.int .i64 0] 81 (0,0))):=zh (heap_alloc_new w3 _);have HSz:Hid ((w3.alloc (.cells #[.string ⟨#[]⟩,.slice none 0 0,.int .i64 0] 81)).heap.size=w3.heap.size+1):=zh (World.size_alloc _ _);generalize w3.alloc (.cells #[.string ⟨#[]⟩,.slice none 0 0,.int .i64 0] 81)=w4 at HK4 hxb HSz |-)
     |(have hG:Gq 4:=HG;clear hG
       have HK4:=zh ((zk w3).alloc (.cells #[.slice none 0 0] 84));have hxb:Hid ((w3.alloc (.cells #[.slice none 0 0] 84)).heap[w3.heap.size]? =some (.cells #[.slice none 0 0] 84 (0,0))):=zh (heap_alloc_new w3 _);have HSz:Hid ((w3.alloc (.cells #[.slice none 0 0] 84)).heap.size=w3.heap.size+1):=zh (World.size_alloc _ _);generalize w3.alloc (.cells #[.slice none 0 0] 84)=w4 at HK4 hxb HSz |-)
     |(have hG:Gq 5:=HG;clear hG
       have HK4:=zh ((zk w3).alloc (.cells #[.string ⟨#[]⟩,.string ⟨#[]⟩,.int .i64 0] 88));have hxb:Hid ((w3.alloc (.cells #[.string ⟨#[]⟩,.string ⟨#[]⟩,.int .i64 0] 88)).heap[w3.heap.size]? =some (.cells #[.string ⟨#[]⟩,.string ⟨#[]⟩,.int .i64 0] 88 (0,0))):=zh (heap_alloc_new w3 _);have HSz:Hid ((w3.alloc (.cells #[.string ⟨#[]⟩,.string ⟨#[]⟩,.int .i64 0] 88)).heap.size=w3.heap.size+1):=zh (World.size_alloc _ _);generalize w3.alloc (.cells #[.string ⟨#[]⟩,.string ⟨#[]⟩,.int .i64 0] 88)=w4 at HK4 hxb HSz |-)
     |(have hG:Gq 6:=HG;clear hG
       have HK4:=zh ((zk w3).alloc (.cells #[.string ⟨#[]⟩,.string ⟨#[]⟩,.string ⟨#[]⟩,.int .i64 0,.int .i64 0,.int .i64 0] 48));have hxb:Hid ((w3.alloc (.cells #[.string ⟨#[]⟩,.string ⟨#[]⟩,.string ⟨#[]⟩,.int .i64 0,.int .i64 0,.int .i64 0] 48)).heap[w3.heap.size]? =some (.cells #[.string ⟨#[]⟩,.string ⟨#[]⟩,.string ⟨#[]⟩,.int .i64 0,.int .i64 0,.int .i64 0] 48 (0,0))):=zh (heap_alloc_new w3 _);have HSz:Hid ((w3.alloc (.cells #[.string ⟨#[]⟩,.string ⟨#[]⟩,.string ⟨#[]⟩,.int .i64 0,.int .i64 0,.int .i64 0] 48)).heap.size=w3.heap.size+1):=zh (World.size_alloc _ _);generalize w3.alloc (.cells #[.string ⟨#[]⟩,.string ⟨#[]⟩,.string ⟨#[]⟩,.int .i64 0,.int .i64 0,.int .i64 0] 48)=w4 at HK4 hxb HSz |-)
     |(have hG:Gq 7:=HG;clear hG
       have HK4:=zh ((zk w3).alloc (.cells #[.string ⟨#[]⟩,.slice none 0 0,.slice none 0 0,.slice none 0 0,.slice none 0 0,.slice none 0 0,.int .i64 0] 45));have hxb:Hid ((w3.alloc (.cells #[.string ⟨#[]⟩,.slice none 0 0,.slice none 0 0,.slice none 0 0,.slice none 0 0,.slice none 0 0,.int .i64 0] 45)).heap[w3.heap.size]? =some (.cells #[.string ⟨#[]⟩,.slice none 0 0,.slice none 0 0,.slice none 0 0,.slice none 0 0,.slice none 0 0,.int .i64 0] 45 (0,0))):=zh (heap_alloc_new w3 _);have HSz:Hid ((w3.alloc (.cells #[.string ⟨#[]⟩,.slice none 0 0,.slice none 0 0,.slice none 0 0,.slice none 0 0,.slice none 0 0,.int .i64 0] 45)).heap.size=w3.heap.size+1):=zh (World.size_alloc _ _);generalize w3.alloc (.cells #[.string ⟨#[]⟩,.slice none 0 0,.slice none 0 0,.slice none 0 0,.slice none 0 0,.slice none 0 0,.int .i64 0] 45)=w4 at HK4 hxb HSz |-)
     obtain⟨xb,HXB⟩:∃ xb,Hid (w3.heap.size=xb):=⟨_,rfl⟩;rw[uq HXB]at hxb HSz |-;have e4:=(uq HK4).cell' (uq d4);have hent':=uq hent;unfold Ent at hent'
     go_wp2_with fail
     have hthing:=(uq HT) w4 xb r' ((uq HIr).rd.1.keep (uq HK4)) (Nat.lt_of_lt_of_le (Nat.lt_of_lt_of_le ((uq HS) _ (uq HR).2.2) (uq HIr).fr.size) (uq HK4).size) (uq hxb) (λe=>by have:=(uq HS) _ (uq HR).2.2;have:=(uq HIr).fr.size;have:=uq HXB;omega) (λe=>by have:=(uq HIr).ta;have:=(uq HIr).fr.size;have:=uq HXB;omega);refine hthing.mono ?_;clear hthing;rintro e w5 ⟨hf5,hp5⟩;have HF5:=zh hf5;have HFw:Hid (Fr (λb=>b=E.rb) w3 w5):=zh (Fr.inner (.keep (uq HK4)) hf5 (λi hi hs=>by have:=uq HXB;rcases hs with hs|hs<;>omega));clear hf5;cases hb:body r' with
     |error x=>
      rw[hb]at hp5;obtain rfl:e= .returned (flt x):=hp5;first
      |(have hG:Gq 0:=HG;clear hG
        have hres:zaL X most 86 2 body c r0= .error x:=by
         show(match rw_ X most body [] r0 with| .error x=>Except.error x| .ok (L,r')=> .ok (c++ [D.row 86 2 L],r'))=_;rw[<- uq HE,uq HEq,if_pos (uq HTS),if_neg (by rw[uq HN];exact uq HNN),hb])
      |(have hG:Gq 1:=HG;clear hG
        have hres:zaL X most 77 11 body c r0= .error x:=by
         show(match rw_ X most body [] r0 with| .error x=>Except.error x| .ok (L,r')=> .ok (c++ [D.row 77 11 L],r'))=_;rw[<- uq HE,uq HEq,if_pos (uq HTS),if_neg (by rw[uq HN];exact uq HNN),hb])
      |(have hG:Gq 2:=HG;clear hG
        have hres:zaL X most 79 6 body c r0= .error x:=by
         show(match rw_ X most body [] r0 with| .error x=>Except.error x| .ok (L,r')=> .ok (c++ [D.row 79 6 L],r'))=_;rw[<- uq HE,uq HEq,if_pos (uq HTS),if_neg (by rw[uq HN];exact uq HNN),hb])
      |(have hG:Gq 3:=HG;clear hG
        have hres:zaL X most 81 3 body c r0= .error x:=by
         show(match rw_ X most body [] r0 with| .error x=>Except.error x| .ok (L,r')=> .ok (c++ [D.row 81 3 L],r'))=_;rw[<- uq HE,uq HEq,if_pos (uq HTS),if_neg (by rw[uq HN];exact uq HNN),hb])
      |(have hG:Gq 4:=HG;clear hG
        have hres:zaL X most 84 1 body c r0= .error x:=by
         show(match rw_ X most body [] r0 with| .error x=>Except.error x| .ok (L,r')=> .ok (c++ [D.row 84 1 L],r'))=_;rw[<- uq HE,uq HEq,if_pos (uq HTS),if_neg (by rw[uq HN];exact uq HNN),hb])
      |(have hG:Gq 5:=HG;clear hG
        have hres:zaL X most 88 3 body c r0= .error x:=by
         show(match rw_ X most body [] r0 with| .error x=>Except.error x| .ok (L,r')=> .ok (c++ [D.row 88 3 L],r'))=_;rw[<- uq HE,uq HEq,if_pos (uq HTS),if_neg (by rw[uq HN];exact uq HNN),hb])
      |(have hG:Gq 6:=HG;clear hG
        have hres:zaL X most 48 6 body c r0= .error x:=by
         show(match rw_ X most body [] r0 with| .error x=>Except.error x| .ok (L,r')=> .ok (c++ [D.row 48 6 L],r'))=_;rw[<- uq HE,uq HEq,if_pos (uq HTS),if_neg (by rw[uq HN];exact uq HNN),hb])
      |(have hG:Gq 7:=HG;clear hG
        have hres:zaL X most 45 7 body c r0= .error x:=by
         show(match rw_ X most body [] r0 with| .error x=>Except.error x| .ok (L,r')=> .ok (c++ [D.row 45 7 L],r'))=_;rw[<- uq HE,uq HEq,if_pos (uq HTS),if_neg (by rw[uq HN];exact uq HNN),hb])
      have HRES:=zh hres;clear hb hres;unfold flt
      go_wp2_with fail
      go_ret;rw[uq HRES];exact⟨(uq HIr).fr.inner (uq HFw) (λi _ e=>e▸(uq HR).2.2),rfl⟩
     |ok q=>
      obtain⟨ds,r2⟩:=q;rw[hb]at hp5;obtain⟨rfl,p2,p3,vs,p4,p5⟩:=hp5;first
      |(have hG:Gq 0:=HG;clear hG
        obtain⟨u0,u1,rfl⟩:=RowR.parts ((za9 _ _ _ p5).trans p3))
      |(have hG:Gq 1:=HG;clear hG
        obtain⟨u0,u1,u2,u3,u4,u5,u6,u7,u8,u9,u10,rfl⟩:=HeadR.parts ((za9 _ _ _ p5).trans p3))
      |(have hG:Gq 2:=HG;clear hG
        obtain⟨u0,u1,u2,u3,u4,u5,rfl⟩:=PedR.parts ((za9 _ _ _ p5).trans p3))
      |(have hG:Gq 3:=HG;clear hG
        obtain⟨u0,u1,u2,rfl⟩:=PhaseR.parts ((za9 _ _ _ p5).trans p3))
      |(have hG:Gq 4:=HG;clear hG
        obtain⟨u0,rfl⟩:=GroupR.parts ((za9 _ _ _ p5).trans p3))
      |(have hG:Gq 5:=HG;clear hG
        obtain⟨u0,u1,u2,rfl⟩:=FoeR.parts ((za9 _ _ _ p5).trans p3))
      |(have hG:Gq 6:=HG;clear hG
        obtain⟨u0,u1,u2,u3,u4,u5,rfl⟩:=StopR.parts ((za9 _ _ _ p5).trans p3))
      |(have hG:Gq 7:=HG;clear hG
        obtain⟨u0,u1,u2,u3,u4,u5,u6,rfl⟩:=NodeR.parts ((za9 _ _ _ p5).trans p3))
      have HE2:Hid (rw_ X most body (L++ [ds]) r2=rw_ X most body [] r0):=zh (by rw[<- uq HE,uq HEq,if_pos (uq HTS),if_neg (by rw[uq HN];exact uq HNN),hb]);have HMo:=zh ((uq HM) _ _ _ hb);first
      |(have hG:Gq 0:=HG;clear hG
        have HI5:Hid (RowI E w m (c++ [dN]++rest) 86 2 w5.drew L r2 (.slice av n cap)):=zh (((uq HIr).move (uq HFw) p2).keep (zk _).drew);have HP5:Hid (Rds w5.drew ds (λb=>xb+1<=b) [u0,u1]):=zh (Rds.move ds _ _ _ p5 (λb hb _=>⟨rfl,by rw[uq HSz]at hb;exact hb⟩)))
      |(have hG:Gq 1:=HG;clear hG
        have HI5:Hid (RowI E w m (c++ [dN]++rest) 77 11 w5.drew L r2 (.slice av n cap)):=zh (((uq HIr).move (uq HFw) p2).keep (zk _).drew);have HP5:Hid (Rds w5.drew ds (λb=>xb+1<=b) [u0,u1,u2,u3,u4,u5,u6,u7,u8,u9,u10]):=zh (Rds.move ds _ _ _ p5 (λb hb _=>⟨rfl,by rw[uq HSz]at hb;exact hb⟩)))
      |(have hG:Gq 2:=HG;clear hG
        have HI5:Hid (RowI E w m (c++ [dN]++rest) 79 6 w5.drew L r2 (.slice av n cap)):=zh (((uq HIr).move (uq HFw) p2).keep (zk _).drew);have HP5:Hid (Rds w5.drew ds (λb=>xb+1<=b) [u0,u1,u2,u3,u4,u5]):=zh (Rds.move ds _ _ _ p5 (λb hb _=>⟨rfl,by rw[uq HSz]at hb;exact hb⟩)))
      |(have hG:Gq 3:=HG;clear hG
        have HI5:Hid (RowI E w m (c++ [dN]++rest) 81 3 w5.drew L r2 (.slice av n cap)):=zh (((uq HIr).move (uq HFw) p2).keep (zk _).drew);have HP5:Hid (Rds w5.drew ds (λb=>xb+1<=b) [u0,u1,u2]):=zh (Rds.move ds _ _ _ p5 (λb hb _=>⟨rfl,by rw[uq HSz]at hb;exact hb⟩)))
      |(have hG:Gq 4:=HG;clear hG
        have HI5:Hid (RowI E w m (c++ [dN]++rest) 84 1 w5.drew L r2 (.slice av n cap)):=zh (((uq HIr).move (uq HFw) p2).keep (zk _).drew);have HP5:Hid (Rds w5.drew ds (λb=>xb+1<=b) [u0]):=zh (Rds.move ds _ _ _ p5 (λb hb _=>⟨rfl,by rw[uq HSz]at hb;exact hb⟩)))
      |(have hG:Gq 5:=HG;clear hG
        have HI5:Hid (RowI E w m (c++ [dN]++rest) 88 3 w5.drew L r2 (.slice av n cap)):=zh (((uq HIr).move (uq HFw) p2).keep (zk _).drew);have HP5:Hid (Rds w5.drew ds (λb=>xb+1<=b) [u0,u1,u2]):=zh (Rds.move ds _ _ _ p5 (λb hb _=>⟨rfl,by rw[uq HSz]at hb;exact hb⟩)))
      |(have hG:Gq 6:=HG;clear hG
        have HI5:Hid (RowI E w m (c++ [dN]++rest) 48 6 w5.drew L r2 (.slice av n cap)):=zh (((uq HIr).move (uq HFw) p2).keep (zk _).drew);have HP5:Hid (Rds w5.drew ds (λb=>xb+1<=b) [u0,u1,u2,u3,u4,u5]):=zh (Rds.move ds _ _ _ p5 (λb hb _=>⟨rfl,by rw[uq HSz]at hb;exact hb⟩)))
      |(have hG:Gq 7:=HG;clear hG
        have HI5:Hid (RowI E w m (c++ [dN]++rest) 45 7 w5.drew L r2 (.slice av n cap)):=zh (((uq HIr).move (uq HFw) p2).keep (zk _).drew);have HP5:Hid (Rds w5.drew ds (λb=>xb+1<=b) [u0,u1,u2,u3,u4,u5,u6]):=zh (Rds.move ds _ _ _ p5 (λb hb _=>⟨rfl,by rw[uq HSz]at hb;exact hb⟩)))
      have HON:=zh (ziW _ _ _ p5);have HP3:=zh p3;have HRk:=zh (zlR (uq HI5).rd.1);have HRk0:=zh (zlR (uq HR0));first
      |(have hG:Gq 0:=HG;clear hG
        have x0:Hid (w5.drew.cell? ⟨xb,0,none⟩=some u0):=zh (p4 0 _ rfl);have x1:Hid (w5.drew.cell? ⟨xb,1,none⟩=some u1):=zh (p4 1 _ rfl))
      |(have hG:Gq 1:=HG;clear hG
        have x0:Hid (w5.drew.cell? ⟨xb,0,none⟩=some u0):=zh (p4 0 _ rfl);have x1:Hid (w5.drew.cell? ⟨xb,1,none⟩=some u1):=zh (p4 1 _ rfl);have x2:Hid (w5.drew.cell? ⟨xb,2,none⟩=some u2):=zh (p4 2 _ rfl);have x3:Hid (w5.drew.cell? ⟨xb,3,none⟩=some u3):=zh (p4 3 _ rfl);have x4:Hid (w5.drew.cell? ⟨xb,4,none⟩=some u4):=zh (p4 4 _ rfl);have x5:Hid (w5.drew.cell? ⟨xb,5,none⟩=some u5):=zh (p4 5 _ rfl);have x6:Hid (w5.drew.cell? ⟨xb,6,none⟩=some u6):=zh (p4 6 _ rfl);have x7:Hid (w5.drew.cell? ⟨xb,7,none⟩=some u7):=zh (p4 7 _ rfl);have x8:Hid (w5.drew.cell? ⟨xb,8,none⟩=some u8):=zh (p4 8 _ rfl);have x9:Hid (w5.drew.cell? ⟨xb,9,none⟩=some u9):=zh (p4 9 _ rfl);have x10:Hid (w5.drew.cell? ⟨xb,10,none⟩=some u10):=zh (p4 10 _ rfl))
      |(have hG:Gq 2:=HG;clear hG
        have x0:Hid (w5.drew.cell? ⟨xb,0,none⟩=some u0):=zh (p4 0 _ rfl);have x1:Hid (w5.drew.cell? ⟨xb,1,none⟩=some u1):=zh (p4 1 _ rfl);have x2:Hid (w5.drew.cell? ⟨xb,2,none⟩=some u2):=zh (p4 2 _ rfl);have x3:Hid (w5.drew.cell? ⟨xb,3,none⟩=some u3):=zh (p4 3 _ rfl);have x4:Hid (w5.drew.cell? ⟨xb,4,none⟩=some u4):=zh (p4 4 _ rfl);have x5:Hid (w5.drew.cell? ⟨xb,5,none⟩=some u5):=zh (p4 5 _ rfl))
      |(have hG:Gq 6:=HG;clear hG
        have x0:Hid (w5.drew.cell? ⟨xb,0,none⟩=some u0):=zh (p4 0 _ rfl);have x1:Hid (w5.drew.cell? ⟨xb,1,none⟩=some u1):=zh (p4 1 _ rfl);have x2:Hid (w5.drew.cell? ⟨xb,2,none⟩=some u2):=zh (p4 2 _ rfl);have x3:Hid (w5.drew.cell? ⟨xb,3,none⟩=some u3):=zh (p4 3 _ rfl);have x4:Hid (w5.drew.cell? ⟨xb,4,none⟩=some u4):=zh (p4 4 _ rfl);have x5:Hid (w5.drew.cell? ⟨xb,5,none⟩=some u5):=zh (p4 5 _ rfl))
      |(have hG:Gq 3:=HG;clear hG
        have x0:Hid (w5.drew.cell? ⟨xb,0,none⟩=some u0):=zh (p4 0 _ rfl);have x1:Hid (w5.drew.cell? ⟨xb,1,none⟩=some u1):=zh (p4 1 _ rfl);have x2:Hid (w5.drew.cell? ⟨xb,2,none⟩=some u2):=zh (p4 2 _ rfl))
      |(have hG:Gq 5:=HG;clear hG
        have x0:Hid (w5.drew.cell? ⟨xb,0,none⟩=some u0):=zh (p4 0 _ rfl);have x1:Hid (w5.drew.cell? ⟨xb,1,none⟩=some u1):=zh (p4 1 _ rfl);have x2:Hid (w5.drew.cell? ⟨xb,2,none⟩=some u2):=zh (p4 2 _ rfl))
      |(have hG:Gq 4:=HG;clear hG
        have x0:Hid (w5.drew.cell? ⟨xb,0,none⟩=some u0):=zh (p4 0 _ rfl))
      |(have hG:Gq 7:=HG;clear hG
        have x0:Hid (w5.drew.cell? ⟨xb,0,none⟩=some u0):=zh (p4 0 _ rfl);have x1:Hid (w5.drew.cell? ⟨xb,1,none⟩=some u1):=zh (p4 1 _ rfl);have x2:Hid (w5.drew.cell? ⟨xb,2,none⟩=some u2):=zh (p4 2 _ rfl);have x3:Hid (w5.drew.cell? ⟨xb,3,none⟩=some u3):=zh (p4 3 _ rfl);have x4:Hid (w5.drew.cell? ⟨xb,4,none⟩=some u4):=zh (p4 4 _ rfl);have x5:Hid (w5.drew.cell? ⟨xb,5,none⟩=some u5):=zh (p4 5 _ rfl);have x6:Hid (w5.drew.cell? ⟨xb,6,none⟩=some u6):=zh (p4 6 _ rfl))
      have y2:Hid (w5.drew.cell? ⟨g2,0,none⟩=some (.pointer (some ⟨b,o,none⟩))):=zh ((uq B2).fr (uq HI5).fr).1;have y5:Hid (w5.drew.cell? ⟨b,o,none⟩=some (.slice av n cap)):=zh (by have:=(uq HI5).cel;rw[uq A0]at this;exact this);have y6:Hid (w5.drew.frozen? ⟨b,o,none⟩=false):=zh (by have:=(uq HI5).frz m (uq HI5).lt;rw[uq A0]at this;exact this);obtain⟨av5,cap5,xs5,hsh5,hown5⟩:=zc4 (uq HI5).row;clear hsh5;rw[uq HN]at hown5;have HOWN5:=zh hown5;clear hown5 hb p2 p3 p4 p5 hent' e4;have hbl:E.S b:=by have:=((uq HI5).part (uq HI5).lt).2.1;rw[uq A0]at this;exact this
      have HBl:=zh hbl;have hnb2:∀ j,(Value.slice av n cap).ownBlock=some j->¬E.S j/\w.heap.size<=j/\j<xb:=λj ej=>by
       have hr:=(uq HI).row;simp only[Rd]at hr;obtain⟨_,q1,q2,_⟩:=hr;have q3:=q2 j ej;have q4:=(q1.lt j ej).2;have:=(uq HFr).size;have:=uq HXB;exact⟨q3.1,q3.2,by omega⟩
      have HNB:=zh hnb2;have hg2b:Hid (b≠g2):=zh (λe=>(uq B2).2 (e▸hbl));have hxbb:Hid (b≠xb):=zh (λe=>by have:=(uq HS) _ hbl;have:=(uq HIr).fr.size;have:=uq HXB;omega);clear hbl hnb2;go_wp2_with fail
      first
      |(have hG:Gq 0:=HG;clear hG
        refine wp_region_held_drew (S:=λw'=>w'.cell? ⟨g2,0,none⟩=some (.pointer (some ⟨b,o,none⟩))/\w'.cell? ⟨xb,0,none⟩=some u0/\w'.cell? ⟨xb,1,none⟩=some u1) (by kernel_rfl) (by exact⟨uq y2,uq x0,uq x1⟩) (λzH=>?_))
      |(have hG:Gq 1:=HG;clear hG
        refine wp_region_held_drew (S:=λw'=>w'.cell? ⟨g2,0,none⟩=some (.pointer (some ⟨b,o,none⟩))/\w'.cell? ⟨xb,0,none⟩=some u0/\w'.cell? ⟨xb,1,none⟩=some u1/\w'.cell? ⟨xb,2,none⟩=some u2/\w'.cell? ⟨xb,3,none⟩=some u3/\w'.cell? ⟨xb,4,none⟩=some u4/\w'.cell? ⟨xb,5,none⟩=some u5/\w'.cell? ⟨xb,6,none⟩=some u6/\w'.cell? ⟨xb,7,none⟩=some u7/\w'.cell? ⟨xb,8,none⟩=some u8/\w'.cell? ⟨xb,9,none⟩=some u9/\w'.cell? ⟨xb,10,none⟩=some u10) (by kernel_rfl) (by exact⟨uq y2,uq x0,uq x1,uq x2,uq x3,uq x4,uq x5,uq x6,uq x7,uq x8,uq x9,uq x10⟩) (λzH=>?_))
      |(have hG:Gq 2:=HG;clear hG
        refine wp_region_held_drew (S:=λw'=>w'.cell? ⟨g2,0,none⟩=some (.pointer (some ⟨b,o,none⟩))/\w'.cell? ⟨xb,0,none⟩=some u0/\w'.cell? ⟨xb,1,none⟩=some u1/\w'.cell? ⟨xb,2,none⟩=some u2/\w'.cell? ⟨xb,3,none⟩=some u3/\w'.cell? ⟨xb,4,none⟩=some u4/\w'.cell? ⟨xb,5,none⟩=some u5) (by kernel_rfl) (by exact⟨uq y2,uq x0,uq x1,uq x2,uq x3,uq x4,uq x5⟩) (λzH=>?_))
      |(have hG:Gq 6:=HG;clear hG
        refine wp_region_held_drew (S:=λw'=>w'.cell? ⟨g2,0,none⟩=some (.pointer (some ⟨b,o,none⟩))/\w'.cell? ⟨xb,0,none⟩=some u0/\w'.cell? ⟨xb,1,none⟩=some u1/\w'.cell? ⟨xb,2,none⟩=some u2/\w'.cell? ⟨xb,3,none⟩=some u3/\w'.cell? ⟨xb,4,none⟩=some u4/\w'.cell? ⟨xb,5,none⟩=some u5) (by kernel_rfl) (by exact⟨uq y2,uq x0,uq x1,uq x2,uq x3,uq x4,uq x5⟩) (λzH=>?_))
      |(have hG:Gq 3:=HG;clear hG
        refine wp_region_held_drew (S:=λw'=>w'.cell? ⟨g2,0,none⟩=some (.pointer (some ⟨b,o,none⟩))/\w'.cell? ⟨xb,0,none⟩=some u0/\w'.cell? ⟨xb,1,none⟩=some u1/\w'.cell? ⟨xb,2,none⟩=some u2) (by kernel_rfl) (by exact⟨uq y2,uq x0,uq x1,uq x2⟩) (λzH=>?_))
      |(have hG:Gq 5:=HG;clear hG
        refine wp_region_held_drew (S:=λw'=>w'.cell? ⟨g2,0,none⟩=some (.pointer (some ⟨b,o,none⟩))/\w'.cell? ⟨xb,0,none⟩=some u0/\w'.cell? ⟨xb,1,none⟩=some u1/\w'.cell? ⟨xb,2,none⟩=some u2) (by kernel_rfl) (by exact⟨uq y2,uq x0,uq x1,uq x2⟩) (λzH=>?_))
      |(have hG:Gq 4:=HG;clear hG
        refine wp_region_held_drew (S:=λw'=>w'.cell? ⟨g2,0,none⟩=some (.pointer (some ⟨b,o,none⟩))/\w'.cell? ⟨xb,0,none⟩=some u0) (by kernel_rfl) (by exact⟨uq y2,uq x0⟩) (λzH=>?_))
      |(have hG:Gq 7:=HG;clear hG
        refine wp_region_held_drew (S:=λw'=>w'.cell? ⟨g2,0,none⟩=some (.pointer (some ⟨b,o,none⟩))/\w'.cell? ⟨xb,0,none⟩=some u0/\w'.cell? ⟨xb,1,none⟩=some u1/\w'.cell? ⟨xb,2,none⟩=some u2/\w'.cell? ⟨xb,3,none⟩=some u3/\w'.cell? ⟨xb,4,none⟩=some u4/\w'.cell? ⟨xb,5,none⟩=some u5/\w'.cell? ⟨xb,6,none⟩=some u6) (by kernel_rfl) (by exact⟨uq y2,uq x0,uq x1,uq x2,uq x3,uq x4,uq x5,uq x6⟩) (λzH=>?_))
      refine tk4 0 28 1 29 2 30 4 32 zH ?_;try simp only[Yq]
      first
      |(have hG:Gq 0:=HG;clear hG
        generalize w5.drew=w6 at HI5 HP5 HRk x0 x1 y2 y5 y6 HOWN5 |-;have hold:∀ w',Keep w6 w'->w'.cell? ⟨g2,0,none⟩=some (.pointer (some ⟨b,o,none⟩))/\w'.cell? ⟨xb,0,none⟩=some u0/\w'.cell? ⟨xb,1,none⟩=some u1:=λw' hk=>⟨hk.cell' (uq y2),hk.cell' (uq x0),hk.cell' (uq x1)⟩)
      |(have hG:Gq 1:=HG;clear hG
        generalize w5.drew=w6 at HI5 HP5 HRk x0 x1 x2 x3 x4 x5 x6 x7 x8 x9 x10 y2 y5 y6 HOWN5 |-;have hold:∀ w',Keep w6 w'->w'.cell? ⟨g2,0,none⟩=some (.pointer (some ⟨b,o,none⟩))/\w'.cell? ⟨xb,0,none⟩=some u0/\w'.cell? ⟨xb,1,none⟩=some u1/\w'.cell? ⟨xb,2,none⟩=some u2/\w'.cell? ⟨xb,3,none⟩=some u3/\w'.cell? ⟨xb,4,none⟩=some u4/\w'.cell? ⟨xb,5,none⟩=some u5/\w'.cell? ⟨xb,6,none⟩=some u6/\w'.cell? ⟨xb,7,none⟩=some u7/\w'.cell? ⟨xb,8,none⟩=some u8/\w'.cell? ⟨xb,9,none⟩=some u9/\w'.cell? ⟨xb,10,none⟩=some u10:=λw' hk=>⟨hk.cell' (uq y2),hk.cell' (uq x0),hk.cell' (uq x1),hk.cell' (uq x2),hk.cell' (uq x3),hk.cell' (uq x4),hk.cell' (uq x5),hk.cell' (uq x6),hk.cell' (uq x7),hk.cell' (uq x8),hk.cell' (uq x9),hk.cell' (uq x10)⟩)
      |(have hG:Gq 2:=HG;clear hG
        generalize w5.drew=w6 at HI5 HP5 HRk x0 x1 x2 x3 x4 x5 y2 y5 y6 HOWN5 |-;have hold:∀ w',Keep w6 w'->w'.cell? ⟨g2,0,none⟩=some (.pointer (some ⟨b,o,none⟩))/\w'.cell? ⟨xb,0,none⟩=some u0/\w'.cell? ⟨xb,1,none⟩=some u1/\w'.cell? ⟨xb,2,none⟩=some u2/\w'.cell? ⟨xb,3,none⟩=some u3/\w'.cell? ⟨xb,4,none⟩=some u4/\w'.cell? ⟨xb,5,none⟩=some u5:=λw' hk=>⟨hk.cell' (uq y2),hk.cell' (uq x0),hk.cell' (uq x1),hk.cell' (uq x2),hk.cell' (uq x3),hk.cell' (uq x4),hk.cell' (uq x5)⟩)
      |(have hG:Gq 6:=HG;clear hG
        generalize w5.drew=w6 at HI5 HP5 HRk x0 x1 x2 x3 x4 x5 y2 y5 y6 HOWN5 |-;have hold:∀ w',Keep w6 w'->w'.cell? ⟨g2,0,none⟩=some (.pointer (some ⟨b,o,none⟩))/\w'.cell? ⟨xb,0,none⟩=some u0/\w'.cell? ⟨xb,1,none⟩=some u1/\w'.cell? ⟨xb,2,none⟩=some u2/\w'.cell? ⟨xb,3,none⟩=some u3/\w'.cell? ⟨xb,4,none⟩=some u4/\w'.cell? ⟨xb,5,none⟩=some u5:=λw' hk=>⟨hk.cell' (uq y2),hk.cell' (uq x0),hk.cell' (uq x1),hk.cell' (uq x2),hk.cell' (uq x3),hk.cell' (uq x4),hk.cell' (uq x5)⟩)
      |(have hG:Gq 3:=HG;clear hG
        generalize w5.drew=w6 at HI5 HP5 HRk x0 x1 x2 y2 y5 y6 HOWN5 |-;have hold:∀ w',Keep w6 w'->w'.cell? ⟨g2,0,none⟩=some (.pointer (some ⟨b,o,none⟩))/\w'.cell? ⟨xb,0,none⟩=some u0/\w'.cell? ⟨xb,1,none⟩=some u1/\w'.cell? ⟨xb,2,none⟩=some u2:=λw' hk=>⟨hk.cell' (uq y2),hk.cell' (uq x0),hk.cell' (uq x1),hk.cell' (uq x2)⟩)
      |(have hG:Gq 5:=HG;clear hG
        generalize w5.drew=w6 at HI5 HP5 HRk x0 x1 x2 y2 y5 y6 HOWN5 |-;have hold:∀ w',Keep w6 w'->w'.cell? ⟨g2,0,none⟩=some (.pointer (some ⟨b,o,none⟩))/\w'.cell? ⟨xb,0,none⟩=some u0/\w'.cell? ⟨xb,1,none⟩=some u1/\w'.cell? ⟨xb,2,none⟩=some u2:=λw' hk=>⟨hk.cell' (uq y2),hk.cell' (uq x0),hk.cell' (uq x1),hk.cell' (uq x2)⟩)
      |(have hG:Gq 4:=HG;clear hG
        generalize w5.drew=w6 at HI5 HP5 HRk x0 y2 y5 y6 HOWN5 |-;have hold:∀ w',Keep w6 w'->w'.cell? ⟨g2,0,none⟩=some (.pointer (some ⟨b,o,none⟩))/\w'.cell? ⟨xb,0,none⟩=some u0:=λw' hk=>⟨hk.cell' (uq y2),hk.cell' (uq x0)⟩)
      |(have hG:Gq 7:=HG;clear hG
        generalize w5.drew=w6 at HI5 HP5 HRk x0 x1 x2 x3 x4 x5 x6 y2 y5 y6 HOWN5 |-;have hold:∀ w',Keep w6 w'->w'.cell? ⟨g2,0,none⟩=some (.pointer (some ⟨b,o,none⟩))/\w'.cell? ⟨xb,0,none⟩=some u0/\w'.cell? ⟨xb,1,none⟩=some u1/\w'.cell? ⟨xb,2,none⟩=some u2/\w'.cell? ⟨xb,3,none⟩=some u3/\w'.cell? ⟨xb,4,none⟩=some u4/\w'.cell? ⟨xb,5,none⟩=some u5/\w'.cell? ⟨xb,6,none⟩=some u6:=λw' hk=>⟨hk.cell' (uq y2),hk.cell' (uq x0),hk.cell' (uq x1),hk.cell' (uq x2),hk.cell' (uq x3),hk.cell' (uq x4),hk.cell' (uq x5),hk.cell' (uq x6)⟩)
      have HOLD:=zh hold;clear hold;have z5:=uq y5;have z5a:∀ ob,(w6.alloc ob).cell? ⟨b,o,none⟩=some (.slice av n cap):=λob=>((zk w6).alloc ob).cell' z5
      have Z5:=zh z5a;clear z5a;refine wpAnyH_ready (rs:= [3,5]) (by kernel_rfl) (by simp) ?_;refine AllReadyH.cons rfl (λK hK=>?_) (AllReadyH.cons rfl (λK hK=>?_) AllReadyH.nil)
      focus
       skip
       go_simp;clear zH;refine hK.out _ _ ?_ (λzH=>?_)
       ·exact(uq HOLD) _ (zk _)
       clear hK K;try simp only[Yq]
       refine zap 5 (λK hK=>?_)
      rotate_left
      focus
       skip
       go_simp;clear zH;refine hK.out _ _ ?_ (λzH=>?_)
       ·exact(uq HOLD) _ ((zk _).alloc _)
       clear hK K;try simp only[Yq]
       have z5a:=uq Z5;clear z5;refine zap 3 (λK hK=>?_)
      rotate_left
      all_goals
       go_simp;clear zH;refine hK.out _ _ ?_ (λzH=>?_)
       ·exact(uq HOLD) _ ((zk _).alloc _)
       clear hK K;try simp only[Yq]
       refine wpAnyH_ready (rs:= [6]) (by kernel_rfl) (by simp) ?_;refine AllReadyH.cons rfl (λK hK=>?_) AllReadyH.nil;first
       |(have hG:Gq 0:=HG;clear hG
         refine zaC _ _ _ rfl 0 86 i0 _ 2 32 Tryz.underlying82 (uq HI0) (uq HZ0) (uq HZ1) (uq HZ2) rfl (by decide) _ _ _ rfl ((uq HOWN5).alloc _) ⟨w6.heap.size,0,none⟩ 1 1 [u0,u1] rfl rfl (new_cells w6 [u0,u1] 86) (uq HON) (by unfold maxLen;omega) (by omega) (Nat.zero_le _) ?_)
       |(have hG:Gq 1:=HG;clear hG
         refine zaC _ _ _ rfl 0 77 i0 _ 11 96 Tryz.underlying39 (uq HI0) (uq HZ0) (uq HZ1) (uq HZ2) rfl (by decide) _ _ _ rfl ((uq HOWN5).alloc _) ⟨w6.heap.size,0,none⟩ 1 1 [u0,u1,u2,u3,u4,u5,u6,u7,u8,u9,u10] rfl rfl (new_cells w6 [u0,u1,u2,u3,u4,u5,u6,u7,u8,u9,u10] 77) (uq HON) (by unfold maxLen;omega) (by omega) (Nat.zero_le _) ?_)
       |(have hG:Gq 2:=HG;clear hG
         refine zaC _ _ _ rfl 0 79 i0 _ 6 64 Tryz.underlying40 (uq HI0) (uq HZ0) (uq HZ1) (uq HZ2) rfl (by decide) _ _ _ rfl ((uq HOWN5).alloc _) ⟨w6.heap.size,0,none⟩ 1 1 [u0,u1,u2,u3,u4,u5] rfl rfl (new_cells w6 [u0,u1,u2,u3,u4,u5] 79) (uq HON) (by unfold maxLen;omega) (by omega) (Nat.zero_le _) ?_)
       |(have hG:Gq 3:=HG;clear hG
         refine zaC _ _ _ rfl 0 81 i0 _ 3 48 Tryz.underlying41 (uq HI0) (uq HZ0) (uq HZ1) (uq HZ2) rfl (by decide) _ _ _ rfl ((uq HOWN5).alloc _) ⟨w6.heap.size,0,none⟩ 1 1 [u0,u1,u2] rfl rfl (new_cells w6 [u0,u1,u2] 81) (uq HON) (by unfold maxLen;omega) (by omega) (Nat.zero_le _) ?_)
       |(have hG:Gq 4:=HG;clear hG
         refine zaC _ _ _ rfl 0 84 i0 _ 1 24 Tryz.underlying42 (uq HI0) (uq HZ0) (uq HZ1) (uq HZ2) rfl (by decide) _ _ _ rfl ((uq HOWN5).alloc _) ⟨w6.heap.size,0,none⟩ 1 1 [u0] rfl rfl (new_cells w6 [u0] 84) (uq HON) (by unfold maxLen;omega) (by omega) (Nat.zero_le _) ?_)
       |(have hG:Gq 5:=HG;clear hG
         refine zaC _ _ _ rfl 0 88 i0 _ 3 40 Tryz.underlying43 (uq HI0) (uq HZ0) (uq HZ1) (uq HZ2) rfl (by decide) _ _ _ rfl ((uq HOWN5).alloc _) ⟨w6.heap.size,0,none⟩ 1 1 [u0,u1,u2] rfl rfl (new_cells w6 [u0,u1,u2] 88) (uq HON) (by unfold maxLen;omega) (by omega) (Nat.zero_le _) ?_)
       |(have hG:Gq 6:=HG;clear hG
         refine zaC _ _ _ rfl 0 48 i0 _ 6 72 Tryz.underlying25 (uq HI0) (uq HZ0) (uq HZ1) (uq HZ2) rfl (by decide) _ _ _ rfl ((uq HOWN5).alloc _) ⟨w6.heap.size,0,none⟩ 1 1 [u0,u1,u2,u3,u4,u5] rfl rfl (new_cells w6 [u0,u1,u2,u3,u4,u5] 48) (uq HON) (by unfold maxLen;omega) (by omega) (Nat.zero_le _) ?_)
       |(have hG:Gq 7:=HG;clear hG
         refine zaC _ _ _ rfl 0 45 i0 _ 7 144 Tryz.underlying24 (uq HI0) (uq HZ0) (uq HZ1) (uq HZ2) rfl (by decide) _ _ _ rfl ((uq HOWN5).alloc _) ⟨w6.heap.size,0,none⟩ 1 1 [u0,u1,u2,u3,u4,u5,u6] rfl rfl (new_cells w6 [u0,u1,u2,u3,u4,u5,u6] 45) (uq HON) (by unfold maxLen;omega) (by omega) (Nat.zero_le _) ?_)
       intro v' w7 hown' hgrow hat
       obtain⟨g',cp',rfl⟩:=zaP hown';have HOWN':=zh hown';have HGROW:=zh hgrow;have HAT:=zh hat;clear hown' hgrow hat;have HSt:Hid (∀ q,(q<w6.heap.size/\∀ j,(Value.slice av n cap).ownBlock=some j->j≠q)->w7.heap[q]? =w6.heap[q]?):=zh (λq hq=>by rw[(uq HGROW).block q (by rw[World.size_alloc];omega) (λe=>hq.2 q e.symm rfl)];exact heap_alloc_old w6 _ hq.1);first
       |(have hG:Gq 0:=HG;clear hG
         have HSt2:Hid (w7.cell? ⟨g2,0,none⟩=some (.pointer (some ⟨b,o,none⟩))/\w7.cell? ⟨xb,0,none⟩=some u0/\w7.cell? ⟨xb,1,none⟩=some u1):=zh (by
          have hg2:w7.heap[g2]? =w6.heap[g2]? :=(uq HSt) g2 ⟨zat (uq y2),λj ej e=>by have:=((uq HNB) j ej).2.1;have:=zat (uq B2).1;simp at this;omega⟩;have hx2:w7.heap[xb]? =w6.heap[xb]? :=(uq HSt) xb ⟨zat (uq x0),λj ej e=>by have:=((uq HNB) j ej).2.2;omega⟩;exact⟨(zam (a:=⟨g2,0,none⟩) hg2).trans (uq y2),(zam (a:=⟨xb,0,none⟩) hx2).trans (uq x0),(zam (a:=⟨xb,1,none⟩) hx2).trans (uq x1)⟩))
       |(have hG:Gq 1:=HG;clear hG
         have HSt2:Hid (w7.cell? ⟨g2,0,none⟩=some (.pointer (some ⟨b,o,none⟩))/\w7.cell? ⟨xb,0,none⟩=some u0/\w7.cell? ⟨xb,1,none⟩=some u1/\w7.cell? ⟨xb,2,none⟩=some u2/\w7.cell? ⟨xb,3,none⟩=some u3/\w7.cell? ⟨xb,4,none⟩=some u4/\w7.cell? ⟨xb,5,none⟩=some u5/\w7.cell? ⟨xb,6,none⟩=some u6/\w7.cell? ⟨xb,7,none⟩=some u7/\w7.cell? ⟨xb,8,none⟩=some u8/\w7.cell? ⟨xb,9,none⟩=some u9/\w7.cell? ⟨xb,10,none⟩=some u10):=zh (by
          have hg2:w7.heap[g2]? =w6.heap[g2]? :=(uq HSt) g2 ⟨zat (uq y2),λj ej e=>by have:=((uq HNB) j ej).2.1;have:=zat (uq B2).1;simp at this;omega⟩;have hx2:w7.heap[xb]? =w6.heap[xb]? :=(uq HSt) xb ⟨zat (uq x0),λj ej e=>by have:=((uq HNB) j ej).2.2;omega⟩;exact⟨(zam (a:=⟨g2,0,none⟩) hg2).trans (uq y2),(zam (a:=⟨xb,0,none⟩) hx2).trans (uq x0),(zam (a:=⟨xb,1,none⟩) hx2).trans (uq x1),(zam (a:=⟨xb,2,none⟩) hx2).trans (uq x2),(zam (a:=⟨xb,3,none⟩) hx2).trans (uq x3),(zam (a:=⟨xb,4,none⟩) hx2).trans (uq x4),(zam (a:=⟨xb,5,none⟩) hx2).trans (uq x5),(zam (a:=⟨xb,6,none⟩) hx2).trans (uq x6),(zam (a:=⟨xb,7,none⟩) hx2).trans (uq x7),(zam (a:=⟨xb,8,none⟩) hx2).trans (uq x8),(zam (a:=⟨xb,9,none⟩) hx2).trans (uq x9),(zam (a:=⟨xb,10,none⟩) hx2).trans (uq x10)⟩))
       |(have hG:Gq 2:=HG;clear hG
         have HSt2:Hid (w7.cell? ⟨g2,0,none⟩=some (.pointer (some ⟨b,o,none⟩))/\w7.cell? ⟨xb,0,none⟩=some u0/\w7.cell? ⟨xb,1,none⟩=some u1/\w7.cell? ⟨xb,2,none⟩=some u2/\w7.cell? ⟨xb,3,none⟩=some u3/\w7.cell? ⟨xb,4,none⟩=some u4/\w7.cell? ⟨xb,5,none⟩=some u5):=zh (by
          have hg2:w7.heap[g2]? =w6.heap[g2]? :=(uq HSt) g2 ⟨zat (uq y2),λj ej e=>by have:=((uq HNB) j ej).2.1;have:=zat (uq B2).1;simp at this;omega⟩;have hx2:w7.heap[xb]? =w6.heap[xb]? :=(uq HSt) xb ⟨zat (uq x0),λj ej e=>by have:=((uq HNB) j ej).2.2;omega⟩;exact⟨(zam (a:=⟨g2,0,none⟩) hg2).trans (uq y2),(zam (a:=⟨xb,0,none⟩) hx2).trans (uq x0),(zam (a:=⟨xb,1,none⟩) hx2).trans (uq x1),(zam (a:=⟨xb,2,none⟩) hx2).trans (uq x2),(zam (a:=⟨xb,3,none⟩) hx2).trans (uq x3),(zam (a:=⟨xb,4,none⟩) hx2).trans (uq x4),(zam (a:=⟨xb,5,none⟩) hx2).trans (uq x5)⟩))
       |(have hG:Gq 6:=HG;clear hG
         have HSt2:Hid (w7.cell? ⟨g2,0,none⟩=some (.pointer (some ⟨b,o,none⟩))/\w7.cell? ⟨xb,0,none⟩=some u0/\w7.cell? ⟨xb,1,none⟩=some u1/\w7.cell? ⟨xb,2,none⟩=some u2/\w7.cell? ⟨xb,3,none⟩=some u3/\w7.cell? ⟨xb,4,none⟩=some u4/\w7.cell? ⟨xb,5,none⟩=some u5):=zh (by
          have hg2:w7.heap[g2]? =w6.heap[g2]? :=(uq HSt) g2 ⟨zat (uq y2),λj ej e=>by have:=((uq HNB) j ej).2.1;have:=zat (uq B2).1;simp at this;omega⟩;have hx2:w7.heap[xb]? =w6.heap[xb]? :=(uq HSt) xb ⟨zat (uq x0),λj ej e=>by have:=((uq HNB) j ej).2.2;omega⟩;exact⟨(zam (a:=⟨g2,0,none⟩) hg2).trans (uq y2),(zam (a:=⟨xb,0,none⟩) hx2).trans (uq x0),(zam (a:=⟨xb,1,none⟩) hx2).trans (uq x1),(zam (a:=⟨xb,2,none⟩) hx2).trans (uq x2),(zam (a:=⟨xb,3,none⟩) hx2).trans (uq x3),(zam (a:=⟨xb,4,none⟩) hx2).trans (uq x4),(zam (a:=⟨xb,5,none⟩) hx2).trans (uq x5)⟩))
       |(have hG:Gq 3:=HG;clear hG
         have HSt2:Hid (w7.cell? ⟨g2,0,none⟩=some (.pointer (some ⟨b,o,none⟩))/\w7.cell? ⟨xb,0,none⟩=some u0/\w7.cell? ⟨xb,1,none⟩=some u1/\w7.cell? ⟨xb,2,none⟩=some u2):=zh (by
          have hg2:w7.heap[g2]? =w6.heap[g2]? :=(uq HSt) g2 ⟨zat (uq y2),λj ej e=>by have:=((uq HNB) j ej).2.1;have:=zat (uq B2).1;simp at this;omega⟩;have hx2:w7.heap[xb]? =w6.heap[xb]? :=(uq HSt) xb ⟨zat (uq x0),λj ej e=>by have:=((uq HNB) j ej).2.2;omega⟩;exact⟨(zam (a:=⟨g2,0,none⟩) hg2).trans (uq y2),(zam (a:=⟨xb,0,none⟩) hx2).trans (uq x0),(zam (a:=⟨xb,1,none⟩) hx2).trans (uq x1),(zam (a:=⟨xb,2,none⟩) hx2).trans (uq x2)⟩))
       |(have hG:Gq 5:=HG;clear hG
         have HSt2:Hid (w7.cell? ⟨g2,0,none⟩=some (.pointer (some ⟨b,o,none⟩))/\w7.cell? ⟨xb,0,none⟩=some u0/\w7.cell? ⟨xb,1,none⟩=some u1/\w7.cell? ⟨xb,2,none⟩=some u2):=zh (by
          have hg2:w7.heap[g2]? =w6.heap[g2]? :=(uq HSt) g2 ⟨zat (uq y2),λj ej e=>by have:=((uq HNB) j ej).2.1;have:=zat (uq B2).1;simp at this;omega⟩;have hx2:w7.heap[xb]? =w6.heap[xb]? :=(uq HSt) xb ⟨zat (uq x0),λj ej e=>by have:=((uq HNB) j ej).2.2;omega⟩;exact⟨(zam (a:=⟨g2,0,none⟩) hg2).trans (uq y2),(zam (a:=⟨xb,0,none⟩) hx2).trans (uq x0),(zam (a:=⟨xb,1,none⟩) hx2).trans (uq x1),(zam (a:=⟨xb,2,none⟩) hx2).trans (uq x2)⟩))
       |(have hG:Gq 4:=HG;clear hG
         have HSt2:Hid (w7.cell? ⟨g2,0,none⟩=some (.pointer (some ⟨b,o,none⟩))/\w7.cell? ⟨xb,0,none⟩=some u0):=zh (by
          have hg2:w7.heap[g2]? =w6.heap[g2]? :=(uq HSt) g2 ⟨zat (uq y2),λj ej e=>by have:=((uq HNB) j ej).2.1;have:=zat (uq B2).1;simp at this;omega⟩;have hx2:w7.heap[xb]? =w6.heap[xb]? :=(uq HSt) xb ⟨zat (uq x0),λj ej e=>by have:=((uq HNB) j ej).2.2;omega⟩;exact⟨(zam (a:=⟨g2,0,none⟩) hg2).trans (uq y2),(zam (a:=⟨xb,0,none⟩) hx2).trans (uq x0)⟩))
       |(have hG:Gq 7:=HG;clear hG
         have HSt2:Hid (w7.cell? ⟨g2,0,none⟩=some (.pointer (some ⟨b,o,none⟩))/\w7.cell? ⟨xb,0,none⟩=some u0/\w7.cell? ⟨xb,1,none⟩=some u1/\w7.cell? ⟨xb,2,none⟩=some u2/\w7.cell? ⟨xb,3,none⟩=some u3/\w7.cell? ⟨xb,4,none⟩=some u4/\w7.cell? ⟨xb,5,none⟩=some u5/\w7.cell? ⟨xb,6,none⟩=some u6):=zh (by
          have hg2:w7.heap[g2]? =w6.heap[g2]? :=(uq HSt) g2 ⟨zat (uq y2),λj ej e=>by have:=((uq HNB) j ej).2.1;have:=zat (uq B2).1;simp at this;omega⟩;have hx2:w7.heap[xb]? =w6.heap[xb]? :=(uq HSt) xb ⟨zat (uq x0),λj ej e=>by have:=((uq HNB) j ej).2.2;omega⟩;exact⟨(zam (a:=⟨g2,0,none⟩) hg2).trans (uq y2),(zam (a:=⟨xb,0,none⟩) hx2).trans (uq x0),(zam (a:=⟨xb,1,none⟩) hx2).trans (uq x1),(zam (a:=⟨xb,2,none⟩) hx2).trans (uq x2),(zam (a:=⟨xb,3,none⟩) hx2).trans (uq x3),(zam (a:=⟨xb,4,none⟩) hx2).trans (uq x4),(zam (a:=⟨xb,5,none⟩) hx2).trans (uq x5),(zam (a:=⟨xb,6,none⟩) hx2).trans (uq x6)⟩))
       have hb7:w7.heap[b]? =w6.heap[b]? :=(uq HSt) b ⟨zat (uq y5),λj ej e=>((uq HNB) j ej).1 (e▸uq HBl)⟩;have b5:w7.cell? ⟨b,o,none⟩=some (.slice av n cap):=(zam (a:=⟨b,o,none⟩) hb7).trans (uq y5);have b6:w7.frozen? ⟨b,o,none⟩=false:=(World.frozen?_of_block (a:=⟨b,o,none⟩) hb7).trans (uq y6);clear hb7;refine hK.out _ _ ?_ (λzH=>?_)
       ·exact uq HSt2
       clear hK K;try simp only[Act.put,List.setIfInBounds_toArray,List.set_cons_zero,List.set_cons_succ]
       refine tkk 7 35 zH ?_;try simp only[Yq]
       refine zap 8 (λK hK=>?_);go_simp;clear zH;refine hK.out _ _ ?_ (λzH=>?_);first
       |(have hG:Gq 0:=HG;clear hG
         ·first|exact⟨(zac w7 ⟨b,o,none⟩ ⟨g2,0,none⟩ _ (uq hg2b)).trans (uq HSt2).1,(zac w7 ⟨b,o,none⟩ ⟨xb,0,none⟩ _ (uq hxbb)).trans (uq HSt2).2.1,(zac w7 ⟨b,o,none⟩ ⟨xb,1,none⟩ _ (uq hxbb)).trans (uq HSt2).2.2⟩|exact⟨(zac w7 ⟨b,o,none⟩ ⟨g2,0,none⟩ _ (uq hg2b)).trans (uq HSt2).1,by rw[zac _ _ _ _ (λe=>absurd ((uq HS) _ (uq HBl)) (by have:=(uq HIr).fr.size;have:=uq HXB;simp at e;omega))];exact(uq HSt2).2.1,by rw[zac _ _ _ _ (λe=>absurd ((uq HS) _ (uq HBl)) (by have:=(uq HIr).fr.size;have:=uq HXB;simp at e;omega))];exact(uq HSt2).2.2⟩)
       |(have hG:Gq 1:=HG;clear hG
         ·first|exact⟨(zac w7 ⟨b,o,none⟩ ⟨g2,0,none⟩ _ (uq hg2b)).trans (uq HSt2).1,(zac w7 ⟨b,o,none⟩ ⟨xb,0,none⟩ _ (uq hxbb)).trans (uq HSt2).2.1,(zac w7 ⟨b,o,none⟩ ⟨xb,1,none⟩ _ (uq hxbb)).trans (uq HSt2).2.2.1,(zac w7 ⟨b,o,none⟩ ⟨xb,2,none⟩ _ (uq hxbb)).trans (uq HSt2).2.2.2.1,(zac w7 ⟨b,o,none⟩ ⟨xb,3,none⟩ _ (uq hxbb)).trans (uq HSt2).2.2.2.2.1,(zac w7 ⟨b,o,none⟩ ⟨xb,4,none⟩ _ (uq hxbb)).trans (uq HSt2).2.2.2.2.2.1,(zac w7 ⟨b,o,none⟩ ⟨xb,5,none⟩ _ (uq hxbb)).trans (uq HSt2).2.2.2.2.2.2.1,(zac w7 ⟨b,o,none⟩ ⟨xb,6,none⟩ _ (uq hxbb)).trans (uq HSt2).2.2.2.2.2.2.2.1,(zac w7 ⟨b,o,none⟩ ⟨xb,7,none⟩ _ (uq hxbb)).trans (uq HSt2).2.2.2.2.2.2.2.2.1,(zac w7 ⟨b,o,none⟩ ⟨xb,8,none⟩ _ (uq hxbb)).trans (uq HSt2).2.2.2.2.2.2.2.2.2.1,(zac w7 ⟨b,o,none⟩ ⟨xb,9,none⟩ _ (uq hxbb)).trans (uq HSt2).2.2.2.2.2.2.2.2.2.2.1,(zac w7 ⟨b,o,none⟩ ⟨xb,10,none⟩ _ (uq hxbb)).trans (uq HSt2).2.2.2.2.2.2.2.2.2.2.2⟩|exact⟨(zac w7 ⟨b,o,none⟩ ⟨g2,0,none⟩ _ (uq hg2b)).trans (uq HSt2).1,by rw[zac _ _ _ _ (λe=>absurd ((uq HS) _ (uq HBl)) (by have:=(uq HIr).fr.size;have:=uq HXB;simp at e;omega))];exact(uq HSt2).2.1,by rw[zac _ _ _ _ (λe=>absurd ((uq HS) _ (uq HBl)) (by have:=(uq HIr).fr.size;have:=uq HXB;simp at e;omega))];exact(uq HSt2).2.2.1,by rw[zac _ _ _ _ (λe=>absurd ((uq HS) _ (uq HBl)) (by have:=(uq HIr).fr.size;have:=uq HXB;simp at e;omega))];exact(uq HSt2).2.2.2.1,by rw[zac _ _ _ _ (λe=>absurd ((uq HS) _ (uq HBl)) (by have:=(uq HIr).fr.size;have:=uq HXB;simp at e;omega))];exact(uq HSt2).2.2.2.2.1,by rw[zac _ _ _ _ (λe=>absurd ((uq HS) _ (uq HBl)) (by have:=(uq HIr).fr.size;have:=uq HXB;simp at e;omega))];exact(uq HSt2).2.2.2.2.2.1,by rw[zac _ _ _ _ (λe=>absurd ((uq HS) _ (uq HBl)) (by have:=(uq HIr).fr.size;have:=uq HXB;simp at e;omega))];exact(uq HSt2).2.2.2.2.2.2.1,by rw[zac _ _ _ _ (λe=>absurd ((uq HS) _ (uq HBl)) (by have:=(uq HIr).fr.size;have:=uq HXB;simp at e;omega))];exact(uq HSt2).2.2.2.2.2.2.2.1,by rw[zac _ _ _ _ (λe=>absurd ((uq HS) _ (uq HBl)) (by have:=(uq HIr).fr.size;have:=uq HXB;simp at e;omega))];exact(uq HSt2).2.2.2.2.2.2.2.2.1,by rw[zac _ _ _ _ (λe=>absurd ((uq HS) _ (uq HBl)) (by have:=(uq HIr).fr.size;have:=uq HXB;simp at e;omega))];exact(uq HSt2).2.2.2.2.2.2.2.2.2.1,by rw[zac _ _ _ _ (λe=>absurd ((uq HS) _ (uq HBl)) (by have:=(uq HIr).fr.size;have:=uq HXB;simp at e;omega))];exact(uq HSt2).2.2.2.2.2.2.2.2.2.2.1,by rw[zac _ _ _ _ (λe=>absurd ((uq HS) _ (uq HBl)) (by have:=(uq HIr).fr.size;have:=uq HXB;simp at e;omega))];exact(uq HSt2).2.2.2.2.2.2.2.2.2.2.2⟩)
       |(have hG:Gq 2:=HG;clear hG
         ·first|exact⟨(zac w7 ⟨b,o,none⟩ ⟨g2,0,none⟩ _ (uq hg2b)).trans (uq HSt2).1,(zac w7 ⟨b,o,none⟩ ⟨xb,0,none⟩ _ (uq hxbb)).trans (uq HSt2).2.1,(zac w7 ⟨b,o,none⟩ ⟨xb,1,none⟩ _ (uq hxbb)).trans (uq HSt2).2.2.1,(zac w7 ⟨b,o,none⟩ ⟨xb,2,none⟩ _ (uq hxbb)).trans (uq HSt2).2.2.2.1,(zac w7 ⟨b,o,none⟩ ⟨xb,3,none⟩ _ (uq hxbb)).trans (uq HSt2).2.2.2.2.1,(zac w7 ⟨b,o,none⟩ ⟨xb,4,none⟩ _ (uq hxbb)).trans (uq HSt2).2.2.2.2.2.1,(zac w7 ⟨b,o,none⟩ ⟨xb,5,none⟩ _ (uq hxbb)).trans (uq HSt2).2.2.2.2.2.2⟩|exact⟨(zac w7 ⟨b,o,none⟩ ⟨g2,0,none⟩ _ (uq hg2b)).trans (uq HSt2).1,by rw[zac _ _ _ _ (λe=>absurd ((uq HS) _ (uq HBl)) (by have:=(uq HIr).fr.size;have:=uq HXB;simp at e;omega))];exact(uq HSt2).2.1,by rw[zac _ _ _ _ (λe=>absurd ((uq HS) _ (uq HBl)) (by have:=(uq HIr).fr.size;have:=uq HXB;simp at e;omega))];exact(uq HSt2).2.2.1,by rw[zac _ _ _ _ (λe=>absurd ((uq HS) _ (uq HBl)) (by have:=(uq HIr).fr.size;have:=uq HXB;simp at e;omega))];exact(uq HSt2).2.2.2.1,by rw[zac _ _ _ _ (λe=>absurd ((uq HS) _ (uq HBl)) (by have:=(uq HIr).fr.size;have:=uq HXB;simp at e;omega))];exact(uq HSt2).2.2.2.2.1,by rw[zac _ _ _ _ (λe=>absurd ((uq HS) _ (uq HBl)) (by have:=(uq HIr).fr.size;have:=uq HXB;simp at e;omega))];exact(uq HSt2).2.2.2.2.2.1,by rw[zac _ _ _ _ (λe=>absurd ((uq HS) _ (uq HBl)) (by have:=(uq HIr).fr.size;have:=uq HXB;simp at e;omega))];exact(uq HSt2).2.2.2.2.2.2⟩)
       |(have hG:Gq 6:=HG;clear hG
         ·first|exact⟨(zac w7 ⟨b,o,none⟩ ⟨g2,0,none⟩ _ (uq hg2b)).trans (uq HSt2).1,(zac w7 ⟨b,o,none⟩ ⟨xb,0,none⟩ _ (uq hxbb)).trans (uq HSt2).2.1,(zac w7 ⟨b,o,none⟩ ⟨xb,1,none⟩ _ (uq hxbb)).trans (uq HSt2).2.2.1,(zac w7 ⟨b,o,none⟩ ⟨xb,2,none⟩ _ (uq hxbb)).trans (uq HSt2).2.2.2.1,(zac w7 ⟨b,o,none⟩ ⟨xb,3,none⟩ _ (uq hxbb)).trans (uq HSt2).2.2.2.2.1,(zac w7 ⟨b,o,none⟩ ⟨xb,4,none⟩ _ (uq hxbb)).trans (uq HSt2).2.2.2.2.2.1,(zac w7 ⟨b,o,none⟩ ⟨xb,5,none⟩ _ (uq hxbb)).trans (uq HSt2).2.2.2.2.2.2⟩|exact⟨(zac w7 ⟨b,o,none⟩ ⟨g2,0,none⟩ _ (uq hg2b)).trans (uq HSt2).1,by rw[zac _ _ _ _ (λe=>absurd ((uq HS) _ (uq HBl)) (by have:=(uq HIr).fr.size;have:=uq HXB;simp at e;omega))];exact(uq HSt2).2.1,by rw[zac _ _ _ _ (λe=>absurd ((uq HS) _ (uq HBl)) (by have:=(uq HIr).fr.size;have:=uq HXB;simp at e;omega))];exact(uq HSt2).2.2.1,by rw[zac _ _ _ _ (λe=>absurd ((uq HS) _ (uq HBl)) (by have:=(uq HIr).fr.size;have:=uq HXB;simp at e;omega))];exact(uq HSt2).2.2.2.1,by rw[zac _ _ _ _ (λe=>absurd ((uq HS) _ (uq HBl)) (by have:=(uq HIr).fr.size;have:=uq HXB;simp at e;omega))];exact(uq HSt2).2.2.2.2.1,by rw[zac _ _ _ _ (λe=>absurd ((uq HS) _ (uq HBl)) (by have:=(uq HIr).fr.size;have:=uq HXB;simp at e;omega))];exact(uq HSt2).2.2.2.2.2.1,by rw[zac _ _ _ _ (λe=>absurd ((uq HS) _ (uq HBl)) (by have:=(uq HIr).fr.size;have:=uq HXB;simp at e;omega))];exact(uq HSt2).2.2.2.2.2.2⟩)
       |(have hG:Gq 3:=HG;clear hG
         ·first|exact⟨(zac w7 ⟨b,o,none⟩ ⟨g2,0,none⟩ _ (uq hg2b)).trans (uq HSt2).1,(zac w7 ⟨b,o,none⟩ ⟨xb,0,none⟩ _ (uq hxbb)).trans (uq HSt2).2.1,(zac w7 ⟨b,o,none⟩ ⟨xb,1,none⟩ _ (uq hxbb)).trans (uq HSt2).2.2.1,(zac w7 ⟨b,o,none⟩ ⟨xb,2,none⟩ _ (uq hxbb)).trans (uq HSt2).2.2.2⟩|exact⟨(zac w7 ⟨b,o,none⟩ ⟨g2,0,none⟩ _ (uq hg2b)).trans (uq HSt2).1,by rw[zac _ _ _ _ (λe=>absurd ((uq HS) _ (uq HBl)) (by have:=(uq HIr).fr.size;have:=uq HXB;simp at e;omega))];exact(uq HSt2).2.1,by rw[zac _ _ _ _ (λe=>absurd ((uq HS) _ (uq HBl)) (by have:=(uq HIr).fr.size;have:=uq HXB;simp at e;omega))];exact(uq HSt2).2.2.1,by rw[zac _ _ _ _ (λe=>absurd ((uq HS) _ (uq HBl)) (by have:=(uq HIr).fr.size;have:=uq HXB;simp at e;omega))];exact(uq HSt2).2.2.2⟩)
       |(have hG:Gq 5:=HG;clear hG
         ·first|exact⟨(zac w7 ⟨b,o,none⟩ ⟨g2,0,none⟩ _ (uq hg2b)).trans (uq HSt2).1,(zac w7 ⟨b,o,none⟩ ⟨xb,0,none⟩ _ (uq hxbb)).trans (uq HSt2).2.1,(zac w7 ⟨b,o,none⟩ ⟨xb,1,none⟩ _ (uq hxbb)).trans (uq HSt2).2.2.1,(zac w7 ⟨b,o,none⟩ ⟨xb,2,none⟩ _ (uq hxbb)).trans (uq HSt2).2.2.2⟩|exact⟨(zac w7 ⟨b,o,none⟩ ⟨g2,0,none⟩ _ (uq hg2b)).trans (uq HSt2).1,by rw[zac _ _ _ _ (λe=>absurd ((uq HS) _ (uq HBl)) (by have:=(uq HIr).fr.size;have:=uq HXB;simp at e;omega))];exact(uq HSt2).2.1,by rw[zac _ _ _ _ (λe=>absurd ((uq HS) _ (uq HBl)) (by have:=(uq HIr).fr.size;have:=uq HXB;simp at e;omega))];exact(uq HSt2).2.2.1,by rw[zac _ _ _ _ (λe=>absurd ((uq HS) _ (uq HBl)) (by have:=(uq HIr).fr.size;have:=uq HXB;simp at e;omega))];exact(uq HSt2).2.2.2⟩)
       |(have hG:Gq 4:=HG;clear hG
         ·first|exact⟨(zac w7 ⟨b,o,none⟩ ⟨g2,0,none⟩ _ (uq hg2b)).trans (uq HSt2).1,(zac w7 ⟨b,o,none⟩ ⟨xb,0,none⟩ _ (uq hxbb)).trans (uq HSt2).2⟩|exact⟨(zac w7 ⟨b,o,none⟩ ⟨g2,0,none⟩ _ (uq hg2b)).trans (uq HSt2).1,by rw[zac _ _ _ _ (λe=>absurd ((uq HS) _ (uq HBl)) (by have:=(uq HIr).fr.size;have:=uq HXB;simp at e;omega))];exact(uq HSt2).2⟩)
       |(have hG:Gq 7:=HG;clear hG
         ·first|exact⟨(zac w7 ⟨b,o,none⟩ ⟨g2,0,none⟩ _ (uq hg2b)).trans (uq HSt2).1,(zac w7 ⟨b,o,none⟩ ⟨xb,0,none⟩ _ (uq hxbb)).trans (uq HSt2).2.1,(zac w7 ⟨b,o,none⟩ ⟨xb,1,none⟩ _ (uq hxbb)).trans (uq HSt2).2.2.1,(zac w7 ⟨b,o,none⟩ ⟨xb,2,none⟩ _ (uq hxbb)).trans (uq HSt2).2.2.2.1,(zac w7 ⟨b,o,none⟩ ⟨xb,3,none⟩ _ (uq hxbb)).trans (uq HSt2).2.2.2.2.1,(zac w7 ⟨b,o,none⟩ ⟨xb,4,none⟩ _ (uq hxbb)).trans (uq HSt2).2.2.2.2.2.1,(zac w7 ⟨b,o,none⟩ ⟨xb,5,none⟩ _ (uq hxbb)).trans (uq HSt2).2.2.2.2.2.2.1,(zac w7 ⟨b,o,none⟩ ⟨xb,6,none⟩ _ (uq hxbb)).trans (uq HSt2).2.2.2.2.2.2.2⟩|exact⟨(zac w7 ⟨b,o,none⟩ ⟨g2,0,none⟩ _ (uq hg2b)).trans (uq HSt2).1,by rw[zac _ _ _ _ (λe=>absurd ((uq HS) _ (uq HBl)) (by have:=(uq HIr).fr.size;have:=uq HXB;simp at e;omega))];exact(uq HSt2).2.1,by rw[zac _ _ _ _ (λe=>absurd ((uq HS) _ (uq HBl)) (by have:=(uq HIr).fr.size;have:=uq HXB;simp at e;omega))];exact(uq HSt2).2.2.1,by rw[zac _ _ _ _ (λe=>absurd ((uq HS) _ (uq HBl)) (by have:=(uq HIr).fr.size;have:=uq HXB;simp at e;omega))];exact(uq HSt2).2.2.2.1,by rw[zac _ _ _ _ (λe=>absurd ((uq HS) _ (uq HBl)) (by have:=(uq HIr).fr.size;have:=uq HXB;simp at e;omega))];exact(uq HSt2).2.2.2.2.1,by rw[zac _ _ _ _ (λe=>absurd ((uq HS) _ (uq HBl)) (by have:=(uq HIr).fr.size;have:=uq HXB;simp at e;omega))];exact(uq HSt2).2.2.2.2.2.1,by rw[zac _ _ _ _ (λe=>absurd ((uq HS) _ (uq HBl)) (by have:=(uq HIr).fr.size;have:=uq HXB;simp at e;omega))];exact(uq HSt2).2.2.2.2.2.2.1,by rw[zac _ _ _ _ (λe=>absurd ((uq HS) _ (uq HBl)) (by have:=(uq HIr).fr.size;have:=uq HXB;simp at e;omega))];exact(uq HSt2).2.2.2.2.2.2.2⟩)
       clear hK K;try simp only[Yq]
       refine wpAnyH_done (by kernel_rfl) ?_ _;clear zH;go_wp2_with fail
       go_roundw
       case rel=>
        refine⟨L++ [ds],r2,.slice (some ⟨g',0,none⟩) (n+1) cp',zh ?_,HE2,zh (by rw[List.length_append];have:=uq HN;have:=uq HNN;simp;omega)⟩;first
        |(have hG:Gq 0:=HG;clear hG
          have h9:=(uq HI5).app (w3:=w7) (o:= .cells #[u0,u1] 86) (v':= .slice (some ⟨g',0,none⟩) (n+1) cp') (xs:=xs5) (vs:= [u0,u1]) (B:=xb+1) (uq HS) (λg eg=>by have:=((uq HNB) g eg).2.2;omega) (by have:=(uq HIr).fr.size;have:=uq HXB;omega) (uq HP5) (uq HP3) (by rw[uq HN];exact uq HOWN5) (by rw[uq HN];exact uq HOWN') (uq HGROW) (uq HAT))
        |(have hG:Gq 1:=HG;clear hG
          have h9:=(uq HI5).app (w3:=w7) (o:= .cells #[u0,u1,u2,u3,u4,u5,u6,u7,u8,u9,u10] 77) (v':= .slice (some ⟨g',0,none⟩) (n+1) cp') (xs:=xs5) (vs:= [u0,u1,u2,u3,u4,u5,u6,u7,u8,u9,u10]) (B:=xb+1) (uq HS) (λg eg=>by have:=((uq HNB) g eg).2.2;omega) (by have:=(uq HIr).fr.size;have:=uq HXB;omega) (uq HP5) (uq HP3) (by rw[uq HN];exact uq HOWN5) (by rw[uq HN];exact uq HOWN') (uq HGROW) (uq HAT))
        |(have hG:Gq 2:=HG;clear hG
          have h9:=(uq HI5).app (w3:=w7) (o:= .cells #[u0,u1,u2,u3,u4,u5] 79) (v':= .slice (some ⟨g',0,none⟩) (n+1) cp') (xs:=xs5) (vs:= [u0,u1,u2,u3,u4,u5]) (B:=xb+1) (uq HS) (λg eg=>by have:=((uq HNB) g eg).2.2;omega) (by have:=(uq HIr).fr.size;have:=uq HXB;omega) (uq HP5) (uq HP3) (by rw[uq HN];exact uq HOWN5) (by rw[uq HN];exact uq HOWN') (uq HGROW) (uq HAT))
        |(have hG:Gq 3:=HG;clear hG
          have h9:=(uq HI5).app (w3:=w7) (o:= .cells #[u0,u1,u2] 81) (v':= .slice (some ⟨g',0,none⟩) (n+1) cp') (xs:=xs5) (vs:= [u0,u1,u2]) (B:=xb+1) (uq HS) (λg eg=>by have:=((uq HNB) g eg).2.2;omega) (by have:=(uq HIr).fr.size;have:=uq HXB;omega) (uq HP5) (uq HP3) (by rw[uq HN];exact uq HOWN5) (by rw[uq HN];exact uq HOWN') (uq HGROW) (uq HAT))
        |(have hG:Gq 4:=HG;clear hG
          have h9:=(uq HI5).app (w3:=w7) (o:= .cells #[u0] 84) (v':= .slice (some ⟨g',0,none⟩) (n+1) cp') (xs:=xs5) (vs:= [u0]) (B:=xb+1) (uq HS) (λg eg=>by have:=((uq HNB) g eg).2.2;omega) (by have:=(uq HIr).fr.size;have:=uq HXB;omega) (uq HP5) (uq HP3) (by rw[uq HN];exact uq HOWN5) (by rw[uq HN];exact uq HOWN') (uq HGROW) (uq HAT))
        |(have hG:Gq 5:=HG;clear hG
          have h9:=(uq HI5).app (w3:=w7) (o:= .cells #[u0,u1,u2] 88) (v':= .slice (some ⟨g',0,none⟩) (n+1) cp') (xs:=xs5) (vs:= [u0,u1,u2]) (B:=xb+1) (uq HS) (λg eg=>by have:=((uq HNB) g eg).2.2;omega) (by have:=(uq HIr).fr.size;have:=uq HXB;omega) (uq HP5) (uq HP3) (by rw[uq HN];exact uq HOWN5) (by rw[uq HN];exact uq HOWN') (uq HGROW) (uq HAT))
        |(have hG:Gq 6:=HG;clear hG
          have h9:=(uq HI5).app (w3:=w7) (o:= .cells #[u0,u1,u2,u3,u4,u5] 48) (v':= .slice (some ⟨g',0,none⟩) (n+1) cp') (xs:=xs5) (vs:= [u0,u1,u2,u3,u4,u5]) (B:=xb+1) (uq HS) (λg eg=>by have:=((uq HNB) g eg).2.2;omega) (by have:=(uq HIr).fr.size;have:=uq HXB;omega) (uq HP5) (uq HP3) (by rw[uq HN];exact uq HOWN5) (by rw[uq HN];exact uq HOWN') (uq HGROW) (uq HAT))
        |(have hG:Gq 7:=HG;clear hG
          have h9:=(uq HI5).app (w3:=w7) (o:= .cells #[u0,u1,u2,u3,u4,u5,u6] 45) (v':= .slice (some ⟨g',0,none⟩) (n+1) cp') (xs:=xs5) (vs:= [u0,u1,u2,u3,u4,u5,u6]) (B:=xb+1) (uq HS) (λg eg=>by have:=((uq HNB) g eg).2.2;omega) (by have:=(uq HIr).fr.size;have:=uq HXB;omega) (uq HP5) (uq HP3) (by rw[uq HN];exact uq HOWN5) (by rw[uq HN];exact uq HOWN') (uq HGROW) (uq HAT))
        rw[uq A0]at h9;exact h9
       case measure=>
        have e9:rk E.rb (w7.setCell ⟨b,o,none⟩ (.slice (some ⟨g',0,none⟩) (n+1) cp'))=rk E.rb w6:=by
         unfold rk
         have hrb:w7.heap[E.rb]? =w6.heap[E.rb]? :=(uq HSt) _ ⟨Nat.lt_of_lt_of_le ((uq HS) _ (uq HR).2.2) (uq HI5).fr.size,λj ej e=>((uq HNB) j ej).1 (e▸(uq HR).2.2)⟩;rw[zac _ _ _ _ (by have:=((uq HI5).part (uq HI5).lt).2.2.1;rw[uq A0]at this;exact this),zam (a:=⟨E.rb,1,none⟩) hrb]
        have q1:=uq HRk;have q2:=uq HRk0;have q3:=uq HMo;simp only[List.length_cons]at q2;first
        |(rw[e9];omega)
        |(show 70001 - rk E.rb (w7.setCell ⟨b,o,none⟩ (.slice (some ⟨g',0,none⟩) (n+1) cp'))<_;rw[e9];omega)
   ·go_wp2_with fail
    refine wp_region_held_drew (S:=λw'=>w'.cell? ⟨g0,0,none⟩=some (.pointer (some ⟨E.rb,0,none⟩))/\w'.cell? ⟨g1,0,none⟩=some (.string (sv X))/\w'.cell? ⟨g2,0,none⟩=some (.pointer (some ⟨b,o,none⟩))/\w'.cell? ⟨g3,0,none⟩=some (.int .i64 (most:Int))/\w'.cell? ⟨b,o,none⟩=some (.slice av n cap)) (by kernel_rfl) (by exact⟨uq c0,uq c1,uq c2,uq c3,uq c5⟩) (λzH=>?_);refine tk6 0 9 1 10 2 11 3 12 4 13 5 14 zH ?_;try simp only[Yq]
    refine tkk 6 15 zH ?_;try simp only[Yq]
    refine zap 7 (λK hK=>?_);go_simp;clear zH;(refine(zpj E.rb n most t.k t.n t.p (sv t.s) (sv X) _ (by rw[svl,svl];simpa using ht) (zh (zdq ((uq HR0).keep (zk _).drew))) (zh λw' a b hk x1 x2=>zke E.rb a b t.k t.n t.p (sv t.s) (sv X) w' (by rw[svl,svl];simpa using ht) x1 x2 (zh (zdq ((uq HR0).keep (Keep.trans (zk wr).drew hk)))) (zh (zdJ ((uq HR0).keep (Keep.trans (zk wr).drew hk)))))).mono ?_;rintro e w2 ⟨rfl,hk⟩;have HK2:=zh (Keep.trans (zk wr).drew hk);clear hk);try go_wp2_with fail
    refine hK.out _ _ ?_ (λzH=>?_)
    ·exact⟨(uq HK2).cell' (uq c0),(uq HK2).cell' (uq c1),(uq HK2).cell' (uq c2),(uq HK2).cell' (uq c3),(uq HK2).cell' (uq c5)⟩
    clear hK K;try simp only[Yq]
    refine tkk 8 6 zH ?_;try simp only[Yq]
    refine wpAnyH_done (by kernel_rfl) ?_ _;clear zH;unfold flt
    go_wp2_with fail
    (refine((uq Isw) _ _).mono ?_;rintro e w3 ⟨rfl,hk⟩;have HK3:=zh ((uq HK2).trans hk);clear hk);go_wp2_with fail
    go_ret;first
    |(have hG:Gq 0:=HG;clear hG
      have hres:zaL X most 86 2 body c r0= .ok (c++ [D.row 86 2 L],t :: r'):=by
       show(match rw_ X most body [] r0 with| .error x=>Except.error x| .ok (L,r')=> .ok (c++ [D.row 86 2 L],r'))=_;rw[<- uq HE,uq HEq,if_neg ht])
    |(have hG:Gq 1:=HG;clear hG
      have hres:zaL X most 77 11 body c r0= .ok (c++ [D.row 77 11 L],t :: r'):=by
       show(match rw_ X most body [] r0 with| .error x=>Except.error x| .ok (L,r')=> .ok (c++ [D.row 77 11 L],r'))=_;rw[<- uq HE,uq HEq,if_neg ht])
    |(have hG:Gq 2:=HG;clear hG
      have hres:zaL X most 79 6 body c r0= .ok (c++ [D.row 79 6 L],t :: r'):=by
       show(match rw_ X most body [] r0 with| .error x=>Except.error x| .ok (L,r')=> .ok (c++ [D.row 79 6 L],r'))=_;rw[<- uq HE,uq HEq,if_neg ht])
    |(have hG:Gq 3:=HG;clear hG
      have hres:zaL X most 81 3 body c r0= .ok (c++ [D.row 81 3 L],t :: r'):=by
       show(match rw_ X most body [] r0 with| .error x=>Except.error x| .ok (L,r')=> .ok (c++ [D.row 81 3 L],r'))=_;rw[<- uq HE,uq HEq,if_neg ht])
    |(have hG:Gq 4:=HG;clear hG
      have hres:zaL X most 84 1 body c r0= .ok (c++ [D.row 84 1 L],t :: r'):=by
       show(match rw_ X most body [] r0 with| .error x=>Except.error x| .ok (L,r')=> .ok (c++ [D.row 84 1 L],r'))=_;rw[<- uq HE,uq HEq,if_neg ht])
    |(have hG:Gq 5:=HG;clear hG
      have hres:zaL X most 88 3 body c r0= .ok (c++ [D.row 88 3 L],t :: r'):=by
       show(match rw_ X most body [] r0 with| .error x=>Except.error x| .ok (L,r')=> .ok (c++ [D.row 88 3 L],r'))=_;rw[<- uq HE,uq HEq,if_neg ht])
    |(have hG:Gq 6:=HG;clear hG
      have hres:zaL X most 48 6 body c r0= .ok (c++ [D.row 48 6 L],t :: r'):=by
       show(match rw_ X most body [] r0 with| .error x=>Except.error x| .ok (L,r')=> .ok (c++ [D.row 48 6 L],r'))=_;rw[<- uq HE,uq HEq,if_neg ht])
    |(have hG:Gq 7:=HG;clear hG
      have hres:zaL X most 45 7 body c r0= .ok (c++ [D.row 45 7 L],t :: r'):=by
       show(match rw_ X most body [] r0 with| .error x=>Except.error x| .ok (L,r')=> .ok (c++ [D.row 45 7 L],r'))=_;rw[<- uq HE,uq HEq,if_neg ht])
    rw[hres];have HI3:=(uq HI).keep (uq HK3);have hm:=uq hcm;subst hm;exact zbD rfl HI3.fr (by simp) HI3.rd (HI3.fin (uq HLo))
namespace RowR
theorem core:zrG:=zgh.1
set_option maxHeartbeats 1000000 in
theorem make (a b:Option Addr) (X:ByteArray) (most:Int) (f:Value) (w:World) (hf:∃ g xs ys,f= .func g xs ys):Calls Tryz.prog 151 #[.pointer a,.string X,.int .i64 most,f,.pointer b] w λe w'=>e= .returned (.func (.func 169) #[] #[.pointer (some ⟨w.heap.size,0,none⟩),.pointer (some ⟨w.heap.size+1,0,none⟩),.pointer (some ⟨w.heap.size+1+1+1+1,0,none⟩),.pointer (some ⟨w.heap.size+1+1,0,none⟩),.pointer (some ⟨w.heap.size+1+1+1,0,none⟩)])/\w'=((((w.alloc (.cells #[.pointer a] 123)).alloc (.cells #[.string X] 9)).alloc (.cells #[.int .i64 most] 3)).alloc (.cells #[f] 245)).alloc (.cells #[.pointer b] 246):=by
 obtain⟨g,xs,ys,rfl⟩:=hf;go_enter Tryz.func151,Tryz.ntmps151;go_wp2;go_ret;exact⟨rfl,rfl⟩
end RowR
theorem zih {E:Env} (X:List UInt8) (hX:X≠ []) (most:Nat) (hmost:most<=1000) (body:List Tok->Rs) {fT:FuncId} (hT:zbg E.rb E.l E.ta E.cap fT 86 [.bool false,.slice none 0 0] body) (m b o:Nat) (hA:E.A m=(b,o)) (w:World) (hS:∀ b,E.S b->b<w.heap.size) (hLo:E.lo<=w.heap.size):
  Calls Tryz.prog 151 #[.pointer (some ⟨E.rb,0,none⟩),.string (sv X),.int .i64 (most:Int),.func (.func fT) #[.pointer (some ⟨E.rb,0,none⟩)] #[],.pointer (some ⟨b,o,none⟩)] w (Mk E m [dN] (zaL X most 86 2 body) w):=by
 refine(RowR.make _ _ _ _ _ w ⟨_,_,_,rfl⟩).mono ?_;rintro e w' ⟨rfl,rfl⟩;obtain⟨b1,b2,b3,b4,b5⟩:=zbG E w (.pointer (some ⟨E.rb,0,none⟩)) (.string (sv X)) (.int .i64 (most:Int)) (.func (.func fT) #[.pointer (some ⟨E.rb,0,none⟩)] #[]) (.pointer (some ⟨b,o,none⟩)) 123 9 3 245 246 hS;have hk:=zbS w (.cells #[.pointer (some ⟨E.rb,0,none⟩)] 123) (.cells #[.string (sv X)] 9) (.cells #[.int .i64 (most:Int)] 3) (.cells #[.func (.func fT) #[.pointer (some ⟨E.rb,0,none⟩)] #[]] 245) (.cells #[.pointer (some ⟨b,o,none⟩)] 246);exact⟨_,_,_,rfl,hk,⟨_,_,_,rfl,λxs w=>by kernel_rfl,λw2 c rest r hf hc hr hl=>RowR.core E _ _ _ _ _ b o m most fT X body c rest w2 r (zh (b1.fr hf)) (zh (b2.fr hf)) (zh (b5.fr hf)) (zh (b3.fr hf)) (zh (b4.fr hf)) (zh hA) (zh (Bx.hs (zae hS hk) hf)) (zh (Nat.le_trans (zah hLo hk) hf.size)) (zh hc) (zh hr) (zh hl) (zh hT.2.2) (zh hT.2.1) (zh hT.1) hmost (zh hX)⟩⟩
namespace HeadR
theorem core:zmx:=zgh.2.1
set_option maxHeartbeats 1000000 in
theorem make (a b:Option Addr) (X:ByteArray) (most:Int) (f:Value) (w:World) (hf:∃ g xs ys,f= .func g xs ys):Calls Tryz.prog 116 #[.pointer a,.string X,.int .i64 most,f,.pointer b] w λe w'=>e= .returned (.func (.func 145) #[] #[.pointer (some ⟨w.heap.size,0,none⟩),.pointer (some ⟨w.heap.size+1,0,none⟩),.pointer (some ⟨w.heap.size+1+1+1+1,0,none⟩),.pointer (some ⟨w.heap.size+1+1,0,none⟩),.pointer (some ⟨w.heap.size+1+1+1,0,none⟩)])/\w'=((((w.alloc (.cells #[.pointer a] 123)).alloc (.cells #[.string X] 9)).alloc (.cells #[.int .i64 most] 3)).alloc (.cells #[f] 200)).alloc (.cells #[.pointer b] 201):=by
 obtain⟨g,xs,ys,rfl⟩:=hf;go_enter Tryz.func116,Tryz.ntmps116;go_wp2;go_ret;exact⟨rfl,rfl⟩
end HeadR
theorem zgR {E:Env} (X:List UInt8) (hX:X≠ []) (most:Nat) (hmost:most<=1000) (body:List Tok->Rs) {fT:FuncId} (hT:zbg E.rb E.l E.ta E.cap fT 77 [.string ⟨#[]⟩,.int .i64 0,.int .i64 0,.int .i64 0,.int .i64 0,.int .i64 0,.int .i64 0,.int .i64 0,.int .i64 0,.int .i64 0,.int .i64 0] body) (m b o:Nat) (hA:E.A m=(b,o)) (w:World) (hS:∀ b,E.S b->b<w.heap.size) (hLo:E.lo<=w.heap.size):
  Calls Tryz.prog 116 #[.pointer (some ⟨E.rb,0,none⟩),.string (sv X),.int .i64 (most:Int),.func (.func fT) #[.pointer (some ⟨E.rb,0,none⟩)] #[],.pointer (some ⟨b,o,none⟩)] w (Mk E m [dN] (zaL X most 77 11 body) w):=by
 refine(HeadR.make _ _ _ _ _ w ⟨_,_,_,rfl⟩).mono ?_;rintro e w' ⟨rfl,rfl⟩;obtain⟨b1,b2,b3,b4,b5⟩:=zbG E w (.pointer (some ⟨E.rb,0,none⟩)) (.string (sv X)) (.int .i64 (most:Int)) (.func (.func fT) #[.pointer (some ⟨E.rb,0,none⟩)] #[]) (.pointer (some ⟨b,o,none⟩)) 123 9 3 200 201 hS;have hk:=zbS w (.cells #[.pointer (some ⟨E.rb,0,none⟩)] 123) (.cells #[.string (sv X)] 9) (.cells #[.int .i64 (most:Int)] 3) (.cells #[.func (.func fT) #[.pointer (some ⟨E.rb,0,none⟩)] #[]] 200) (.cells #[.pointer (some ⟨b,o,none⟩)] 201);exact⟨_,_,_,rfl,hk,⟨_,_,_,rfl,λxs w=>by kernel_rfl,λw2 c rest r hf hc hr hl=>HeadR.core E _ _ _ _ _ b o m most fT X body c rest w2 r (zh (b1.fr hf)) (zh (b2.fr hf)) (zh (b5.fr hf)) (zh (b3.fr hf)) (zh (b4.fr hf)) (zh hA) (zh (Bx.hs (zae hS hk) hf)) (zh (Nat.le_trans (zah hLo hk) hf.size)) (zh hc) (zh hr) (zh hl) (zh hT.2.2) (zh hT.2.1) (zh hT.1) hmost (zh hX)⟩⟩
namespace PedR
theorem core:zrH:=zgh.2.2.1
set_option maxHeartbeats 1000000 in
theorem make (a b:Option Addr) (X:ByteArray) (most:Int) (f:Value) (w:World) (hf:∃ g xs ys,f= .func g xs ys):Calls Tryz.prog 118 #[.pointer a,.string X,.int .i64 most,f,.pointer b] w λe w'=>e= .returned (.func (.func 147) #[] #[.pointer (some ⟨w.heap.size,0,none⟩),.pointer (some ⟨w.heap.size+1,0,none⟩),.pointer (some ⟨w.heap.size+1+1+1+1,0,none⟩),.pointer (some ⟨w.heap.size+1+1,0,none⟩),.pointer (some ⟨w.heap.size+1+1+1,0,none⟩)])/\w'=((((w.alloc (.cells #[.pointer a] 123)).alloc (.cells #[.string X] 9)).alloc (.cells #[.int .i64 most] 3)).alloc (.cells #[f] 203)).alloc (.cells #[.pointer b] 204):=by
 obtain⟨g,xs,ys,rfl⟩:=hf;go_enter Tryz.func118,Tryz.ntmps118;go_wp2;go_ret;exact⟨rfl,rfl⟩
end PedR
theorem zii {E:Env} (X:List UInt8) (hX:X≠ []) (most:Nat) (hmost:most<=1000) (body:List Tok->Rs) {fT:FuncId} (hT:zbg E.rb E.l E.ta E.cap fT 79 [.string ⟨#[]⟩,.string ⟨#[]⟩,.int .i64 0,.int .i64 0,.int .i64 0,.int .i64 0] body) (m b o:Nat) (hA:E.A m=(b,o)) (w:World) (hS:∀ b,E.S b->b<w.heap.size) (hLo:E.lo<=w.heap.size):
  Calls Tryz.prog 118 #[.pointer (some ⟨E.rb,0,none⟩),.string (sv X),.int .i64 (most:Int),.func (.func fT) #[.pointer (some ⟨E.rb,0,none⟩)] #[],.pointer (some ⟨b,o,none⟩)] w (Mk E m [dN] (zaL X most 79 6 body) w):=by
 refine(PedR.make _ _ _ _ _ w ⟨_,_,_,rfl⟩).mono ?_;rintro e w' ⟨rfl,rfl⟩;obtain⟨b1,b2,b3,b4,b5⟩:=zbG E w (.pointer (some ⟨E.rb,0,none⟩)) (.string (sv X)) (.int .i64 (most:Int)) (.func (.func fT) #[.pointer (some ⟨E.rb,0,none⟩)] #[]) (.pointer (some ⟨b,o,none⟩)) 123 9 3 203 204 hS;have hk:=zbS w (.cells #[.pointer (some ⟨E.rb,0,none⟩)] 123) (.cells #[.string (sv X)] 9) (.cells #[.int .i64 (most:Int)] 3) (.cells #[.func (.func fT) #[.pointer (some ⟨E.rb,0,none⟩)] #[]] 203) (.cells #[.pointer (some ⟨b,o,none⟩)] 204);exact⟨_,_,_,rfl,hk,⟨_,_,_,rfl,λxs w=>by kernel_rfl,λw2 c rest r hf hc hr hl=>PedR.core E _ _ _ _ _ b o m most fT X body c rest w2 r (zh (b1.fr hf)) (zh (b2.fr hf)) (zh (b5.fr hf)) (zh (b3.fr hf)) (zh (b4.fr hf)) (zh hA) (zh (Bx.hs (zae hS hk) hf)) (zh (Nat.le_trans (zah hLo hk) hf.size)) (zh hc) (zh hr) (zh hl) (zh hT.2.2) (zh hT.2.1) (zh hT.1) hmost (zh hX)⟩⟩
namespace PhaseR
theorem core:zkw:=zgh.2.2.2.1
set_option maxHeartbeats 1000000 in
theorem make (a b:Option Addr) (X:ByteArray) (most:Int) (f:Value) (w:World) (hf:∃ g xs ys,f= .func g xs ys):Calls Tryz.prog 120 #[.pointer a,.string X,.int .i64 most,f,.pointer b] w λe w'=>e= .returned (.func (.func 148) #[] #[.pointer (some ⟨w.heap.size,0,none⟩),.pointer (some ⟨w.heap.size+1,0,none⟩),.pointer (some ⟨w.heap.size+1+1+1+1,0,none⟩),.pointer (some ⟨w.heap.size+1+1,0,none⟩),.pointer (some ⟨w.heap.size+1+1+1,0,none⟩)])/\w'=((((w.alloc (.cells #[.pointer a] 123)).alloc (.cells #[.string X] 9)).alloc (.cells #[.int .i64 most] 3)).alloc (.cells #[f] 206)).alloc (.cells #[.pointer b] 207):=by
 obtain⟨g,xs,ys,rfl⟩:=hf;go_enter Tryz.func120,Tryz.ntmps120;go_wp2;go_ret;exact⟨rfl,rfl⟩
end PhaseR
theorem zgi {E:Env} (X:List UInt8) (hX:X≠ []) (most:Nat) (hmost:most<=1000) (body:List Tok->Rs) {fT:FuncId} (hT:zbg E.rb E.l E.ta E.cap fT 81 [.string ⟨#[]⟩,.slice none 0 0,.int .i64 0] body) (m b o:Nat) (hA:E.A m=(b,o)) (w:World) (hS:∀ b,E.S b->b<w.heap.size) (hLo:E.lo<=w.heap.size):
  Calls Tryz.prog 120 #[.pointer (some ⟨E.rb,0,none⟩),.string (sv X),.int .i64 (most:Int),.func (.func fT) #[.pointer (some ⟨E.rb,0,none⟩)] #[],.pointer (some ⟨b,o,none⟩)] w (Mk E m [dN] (zaL X most 81 3 body) w):=by
 refine(PhaseR.make _ _ _ _ _ w ⟨_,_,_,rfl⟩).mono ?_;rintro e w' ⟨rfl,rfl⟩;obtain⟨b1,b2,b3,b4,b5⟩:=zbG E w (.pointer (some ⟨E.rb,0,none⟩)) (.string (sv X)) (.int .i64 (most:Int)) (.func (.func fT) #[.pointer (some ⟨E.rb,0,none⟩)] #[]) (.pointer (some ⟨b,o,none⟩)) 123 9 3 206 207 hS;have hk:=zbS w (.cells #[.pointer (some ⟨E.rb,0,none⟩)] 123) (.cells #[.string (sv X)] 9) (.cells #[.int .i64 (most:Int)] 3) (.cells #[.func (.func fT) #[.pointer (some ⟨E.rb,0,none⟩)] #[]] 206) (.cells #[.pointer (some ⟨b,o,none⟩)] 207);exact⟨_,_,_,rfl,hk,⟨_,_,_,rfl,λxs w=>by kernel_rfl,λw2 c rest r hf hc hr hl=>PhaseR.core E _ _ _ _ _ b o m most fT X body c rest w2 r (zh (b1.fr hf)) (zh (b2.fr hf)) (zh (b5.fr hf)) (zh (b3.fr hf)) (zh (b4.fr hf)) (zh hA) (zh (Bx.hs (zae hS hk) hf)) (zh (Nat.le_trans (zah hLo hk) hf.size)) (zh hc) (zh hr) (zh hl) (zh hT.2.2) (zh hT.2.1) (zh hT.1) hmost (zh hX)⟩⟩
namespace GroupR
theorem core:zkx:=zgh.2.2.2.2.1
set_option maxHeartbeats 1000000 in
theorem make (a b:Option Addr) (X:ByteArray) (most:Int) (f:Value) (w:World) (hf:∃ g xs ys,f= .func g xs ys):Calls Tryz.prog 122 #[.pointer a,.string X,.int .i64 most,f,.pointer b] w λe w'=>e= .returned (.func (.func 150) #[] #[.pointer (some ⟨w.heap.size,0,none⟩),.pointer (some ⟨w.heap.size+1,0,none⟩),.pointer (some ⟨w.heap.size+1+1+1+1,0,none⟩),.pointer (some ⟨w.heap.size+1+1,0,none⟩),.pointer (some ⟨w.heap.size+1+1+1,0,none⟩)])/\w'=((((w.alloc (.cells #[.pointer a] 123)).alloc (.cells #[.string X] 9)).alloc (.cells #[.int .i64 most] 3)).alloc (.cells #[f] 209)).alloc (.cells #[.pointer b] 210):=by
 obtain⟨g,xs,ys,rfl⟩:=hf;go_enter Tryz.func122,Tryz.ntmps122;go_wp2;go_ret;exact⟨rfl,rfl⟩
end GroupR
theorem zgj {E:Env} (X:List UInt8) (hX:X≠ []) (most:Nat) (hmost:most<=1000) (body:List Tok->Rs) {fT:FuncId} (hT:zbg E.rb E.l E.ta E.cap fT 84 [.slice none 0 0] body) (m b o:Nat) (hA:E.A m=(b,o)) (w:World) (hS:∀ b,E.S b->b<w.heap.size) (hLo:E.lo<=w.heap.size):
  Calls Tryz.prog 122 #[.pointer (some ⟨E.rb,0,none⟩),.string (sv X),.int .i64 (most:Int),.func (.func fT) #[.pointer (some ⟨E.rb,0,none⟩)] #[],.pointer (some ⟨b,o,none⟩)] w (Mk E m [dN] (zaL X most 84 1 body) w):=by
 refine(GroupR.make _ _ _ _ _ w ⟨_,_,_,rfl⟩).mono ?_;rintro e w' ⟨rfl,rfl⟩;obtain⟨b1,b2,b3,b4,b5⟩:=zbG E w (.pointer (some ⟨E.rb,0,none⟩)) (.string (sv X)) (.int .i64 (most:Int)) (.func (.func fT) #[.pointer (some ⟨E.rb,0,none⟩)] #[]) (.pointer (some ⟨b,o,none⟩)) 123 9 3 209 210 hS;have hk:=zbS w (.cells #[.pointer (some ⟨E.rb,0,none⟩)] 123) (.cells #[.string (sv X)] 9) (.cells #[.int .i64 (most:Int)] 3) (.cells #[.func (.func fT) #[.pointer (some ⟨E.rb,0,none⟩)] #[]] 209) (.cells #[.pointer (some ⟨b,o,none⟩)] 210);exact⟨_,_,_,rfl,hk,⟨_,_,_,rfl,λxs w=>by kernel_rfl,λw2 c rest r hf hc hr hl=>GroupR.core E _ _ _ _ _ b o m most fT X body c rest w2 r (zh (b1.fr hf)) (zh (b2.fr hf)) (zh (b5.fr hf)) (zh (b3.fr hf)) (zh (b4.fr hf)) (zh hA) (zh (Bx.hs (zae hS hk) hf)) (zh (Nat.le_trans (zah hLo hk) hf.size)) (zh hc) (zh hr) (zh hl) (zh hT.2.2) (zh hT.2.1) (zh hT.1) hmost (zh hX)⟩⟩
namespace FoeR
theorem core:zrI:=zgh.2.2.2.2.2.1
set_option maxHeartbeats 1000000 in
theorem make (a b:Option Addr) (X:ByteArray) (most:Int) (f:Value) (w:World) (hf:∃ g xs ys,f= .func g xs ys):Calls Tryz.prog 124 #[.pointer a,.string X,.int .i64 most,f,.pointer b] w λe w'=>e= .returned (.func (.func 154) #[] #[.pointer (some ⟨w.heap.size,0,none⟩),.pointer (some ⟨w.heap.size+1,0,none⟩),.pointer (some ⟨w.heap.size+1+1+1+1,0,none⟩),.pointer (some ⟨w.heap.size+1+1,0,none⟩),.pointer (some ⟨w.heap.size+1+1+1,0,none⟩)])/\w'=((((w.alloc (.cells #[.pointer a] 123)).alloc (.cells #[.string X] 9)).alloc (.cells #[.int .i64 most] 3)).alloc (.cells #[f] 212)).alloc (.cells #[.pointer b] 213):=by
 obtain⟨g,xs,ys,rfl⟩:=hf;go_enter Tryz.func124,Tryz.ntmps124;go_wp2;go_ret;exact⟨rfl,rfl⟩
end FoeR
theorem zij {E:Env} (X:List UInt8) (hX:X≠ []) (most:Nat) (hmost:most<=1000) (body:List Tok->Rs) {fT:FuncId} (hT:zbg E.rb E.l E.ta E.cap fT 88 [.string ⟨#[]⟩,.string ⟨#[]⟩,.int .i64 0] body) (m b o:Nat) (hA:E.A m=(b,o)) (w:World) (hS:∀ b,E.S b->b<w.heap.size) (hLo:E.lo<=w.heap.size):
  Calls Tryz.prog 124 #[.pointer (some ⟨E.rb,0,none⟩),.string (sv X),.int .i64 (most:Int),.func (.func fT) #[.pointer (some ⟨E.rb,0,none⟩)] #[],.pointer (some ⟨b,o,none⟩)] w (Mk E m [dN] (zaL X most 88 3 body) w):=by
 refine(FoeR.make _ _ _ _ _ w ⟨_,_,_,rfl⟩).mono ?_;rintro e w' ⟨rfl,rfl⟩;obtain⟨b1,b2,b3,b4,b5⟩:=zbG E w (.pointer (some ⟨E.rb,0,none⟩)) (.string (sv X)) (.int .i64 (most:Int)) (.func (.func fT) #[.pointer (some ⟨E.rb,0,none⟩)] #[]) (.pointer (some ⟨b,o,none⟩)) 123 9 3 212 213 hS;have hk:=zbS w (.cells #[.pointer (some ⟨E.rb,0,none⟩)] 123) (.cells #[.string (sv X)] 9) (.cells #[.int .i64 (most:Int)] 3) (.cells #[.func (.func fT) #[.pointer (some ⟨E.rb,0,none⟩)] #[]] 212) (.cells #[.pointer (some ⟨b,o,none⟩)] 213);exact⟨_,_,_,rfl,hk,⟨_,_,_,rfl,λxs w=>by kernel_rfl,λw2 c rest r hf hc hr hl=>FoeR.core E _ _ _ _ _ b o m most fT X body c rest w2 r (zh (b1.fr hf)) (zh (b2.fr hf)) (zh (b5.fr hf)) (zh (b3.fr hf)) (zh (b4.fr hf)) (zh hA) (zh (Bx.hs (zae hS hk) hf)) (zh (Nat.le_trans (zah hLo hk) hf.size)) (zh hc) (zh hr) (zh hl) (zh hT.2.2) (zh hT.2.1) (zh hT.1) hmost (zh hX)⟩⟩
namespace StopR
theorem core:zmy:=zgh.2.2.2.2.2.2.1
set_option maxHeartbeats 1000000 in
theorem make (a b:Option Addr) (X:ByteArray) (most:Int) (f:Value) (w:World) (hf:∃ g xs ys,f= .func g xs ys):Calls Tryz.prog 128 #[.pointer a,.string X,.int .i64 most,f,.pointer b] w λe w'=>e= .returned (.func (.func 156) #[] #[.pointer (some ⟨w.heap.size,0,none⟩),.pointer (some ⟨w.heap.size+1,0,none⟩),.pointer (some ⟨w.heap.size+1+1+1+1,0,none⟩),.pointer (some ⟨w.heap.size+1+1,0,none⟩),.pointer (some ⟨w.heap.size+1+1+1,0,none⟩)])/\w'=((((w.alloc (.cells #[.pointer a] 123)).alloc (.cells #[.string X] 9)).alloc (.cells #[.int .i64 most] 3)).alloc (.cells #[f] 217)).alloc (.cells #[.pointer b] 218):=by
 obtain⟨g,xs,ys,rfl⟩:=hf;go_enter Tryz.func128,Tryz.ntmps128;go_wp2;go_ret;exact⟨rfl,rfl⟩
end StopR
theorem zgS {E:Env} (X:List UInt8) (hX:X≠ []) (most:Nat) (hmost:most<=1000) (body:List Tok->Rs) {fT:FuncId} (hT:zbg E.rb E.l E.ta E.cap fT 48 [.string ⟨#[]⟩,.string ⟨#[]⟩,.string ⟨#[]⟩,.int .i64 0,.int .i64 0,.int .i64 0] body) (m b o:Nat) (hA:E.A m=(b,o)) (w:World) (hS:∀ b,E.S b->b<w.heap.size) (hLo:E.lo<=w.heap.size):
  Calls Tryz.prog 128 #[.pointer (some ⟨E.rb,0,none⟩),.string (sv X),.int .i64 (most:Int),.func (.func fT) #[.pointer (some ⟨E.rb,0,none⟩)] #[],.pointer (some ⟨b,o,none⟩)] w (Mk E m [dN] (zaL X most 48 6 body) w):=by
 refine(StopR.make _ _ _ _ _ w ⟨_,_,_,rfl⟩).mono ?_;rintro e w' ⟨rfl,rfl⟩;obtain⟨b1,b2,b3,b4,b5⟩:=zbG E w (.pointer (some ⟨E.rb,0,none⟩)) (.string (sv X)) (.int .i64 (most:Int)) (.func (.func fT) #[.pointer (some ⟨E.rb,0,none⟩)] #[]) (.pointer (some ⟨b,o,none⟩)) 123 9 3 217 218 hS;have hk:=zbS w (.cells #[.pointer (some ⟨E.rb,0,none⟩)] 123) (.cells #[.string (sv X)] 9) (.cells #[.int .i64 (most:Int)] 3) (.cells #[.func (.func fT) #[.pointer (some ⟨E.rb,0,none⟩)] #[]] 217) (.cells #[.pointer (some ⟨b,o,none⟩)] 218);exact⟨_,_,_,rfl,hk,⟨_,_,_,rfl,λxs w=>by kernel_rfl,λw2 c rest r hf hc hr hl=>StopR.core E _ _ _ _ _ b o m most fT X body c rest w2 r (zh (b1.fr hf)) (zh (b2.fr hf)) (zh (b5.fr hf)) (zh (b3.fr hf)) (zh (b4.fr hf)) (zh hA) (zh (Bx.hs (zae hS hk) hf)) (zh (Nat.le_trans (zah hLo hk) hf.size)) (zh hc) (zh hr) (zh hl) (zh hT.2.2) (zh hT.2.1) (zh hT.1) hmost (zh hX)⟩⟩
namespace NodeR
theorem core:zmz:=zgh.2.2.2.2.2.2.2
set_option maxHeartbeats 1000000 in
theorem make (a b:Option Addr) (X:ByteArray) (most:Int) (f:Value) (w:World) (hf:∃ g xs ys,f= .func g xs ys):Calls Tryz.prog 88 #[.pointer a,.string X,.int .i64 most,f,.pointer b] w λe w'=>e= .returned (.func (.func 111) #[] #[.pointer (some ⟨w.heap.size,0,none⟩),.pointer (some ⟨w.heap.size+1,0,none⟩),.pointer (some ⟨w.heap.size+1+1+1+1,0,none⟩),.pointer (some ⟨w.heap.size+1+1,0,none⟩),.pointer (some ⟨w.heap.size+1+1+1,0,none⟩)])/\w'=((((w.alloc (.cells #[.pointer a] 123)).alloc (.cells #[.string X] 9)).alloc (.cells #[.int .i64 most] 3)).alloc (.cells #[f] 169)).alloc (.cells #[.pointer b] 170):=by
 obtain⟨g,xs,ys,rfl⟩:=hf;go_enter Tryz.func88,Tryz.ntmps88;go_wp2;go_ret;exact⟨rfl,rfl⟩
end NodeR
theorem zgT {E:Env} (X:List UInt8) (hX:X≠ []) (most:Nat) (hmost:most<=1000) (body:List Tok->Rs) {fT:FuncId} (hT:zbg E.rb E.l E.ta E.cap fT 45 [.string ⟨#[]⟩,.slice none 0 0,.slice none 0 0,.slice none 0 0,.slice none 0 0,.slice none 0 0,.int .i64 0] body) (m b o:Nat) (hA:E.A m=(b,o)) (w:World) (hS:∀ b,E.S b->b<w.heap.size) (hLo:E.lo<=w.heap.size):
  Calls Tryz.prog 88 #[.pointer (some ⟨E.rb,0,none⟩),.string (sv X),.int .i64 (most:Int),.func (.func fT) #[.pointer (some ⟨E.rb,0,none⟩)] #[],.pointer (some ⟨b,o,none⟩)] w (Mk E m [dN] (zaL X most 45 7 body) w):=by
 refine(NodeR.make _ _ _ _ _ w ⟨_,_,_,rfl⟩).mono ?_;rintro e w' ⟨rfl,rfl⟩;obtain⟨b1,b2,b3,b4,b5⟩:=zbG E w (.pointer (some ⟨E.rb,0,none⟩)) (.string (sv X)) (.int .i64 (most:Int)) (.func (.func fT) #[.pointer (some ⟨E.rb,0,none⟩)] #[]) (.pointer (some ⟨b,o,none⟩)) 123 9 3 169 170 hS;have hk:=zbS w (.cells #[.pointer (some ⟨E.rb,0,none⟩)] 123) (.cells #[.string (sv X)] 9) (.cells #[.int .i64 (most:Int)] 3) (.cells #[.func (.func fT) #[.pointer (some ⟨E.rb,0,none⟩)] #[]] 169) (.cells #[.pointer (some ⟨b,o,none⟩)] 170);exact⟨_,_,_,rfl,hk,⟨_,_,_,rfl,λxs w=>by kernel_rfl,λw2 c rest r hf hc hr hl=>NodeR.core E _ _ _ _ _ b o m most fT X body c rest w2 r (zh (b1.fr hf)) (zh (b2.fr hf)) (zh (b5.fr hf)) (zh (b3.fr hf)) (zh (b4.fr hf)) (zh hA) (zh (Bx.hs (zae hS hk) hf)) (zh (Nat.le_trans (zah hLo hk) hf.size)) (zh hc) (zh hr) (zh hl) (zh hT.2.2) (zh hT.2.1) (zh hT.1) hmost (zh hX)⟩⟩
end Go.Proofs.YthceiikgecoimaaGreatDoor
