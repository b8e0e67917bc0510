/- Trees in memory: the cells of a row's things, in any later world. -/
import Derived.Test.YtpmaonkelkmhbaaGreatSRow
import Derived.Test.YtpmaonkelkmhbaaGreatLOpn
import Derived.Deep.DrawnRows
import Derived.Deep.RegionHeld
namespace Go.Proofs.YtpmaonkelkmhbaaGreat
open Go.RowKit
set_option linter.unusedVariables false
set_option linter.unusedSimpArgs false
set_option maxRecDepth 10000
namespace S
def sA (w:World) (a:Option Addr) (z j k:Nat):Option Addr:=slA w (ati ((adO a).add (k * z)) j)
def sN (w:World) (a:Option Addr) (z j k:Nat):Nat:=slN w (ati ((adO a).add (k * z)) j)
def sC (w:World) (a:Option Addr) (z j k:Nat):Nat:=slC w (ati ((adO a).add (k * z)) j)
theorem zaH (a:Addr) (j:Nat):(a.add j).block=a.block:=by unfold Addr.add;split<;>rfl
theorem zgp (a:Addr) (j:Nat):(ati a j).block=a.block:=by unfold ati;split<;>rfl
theorem low {w0 w:World} (hF:Keep w0 w) {ad:Addr} {n j:Nat} {u:Value} (hb:ad.block<w0.heap.size) (h:w0.cell? (ati (ad.add n) j)=some u):w.cell? (ati (ad.add n) j)=some u:=
 (Below.cell hF (by rw[zgp,zaH];exact hb)).trans h
theorem clHead {w0 w:World} {a:Option Addr} {L:List (List D)} (hF:Keep w0 w) (hL:∀ ds∈L,ShL zcs ds) (HA:Rvss w0 a 11 L 0) (k:Nat) (hk:k<L.length):∃ ad,a=some ad∧ad.block<w0.heap.size∧w.cell? (ad.add (k * 11))=some (.string (sv (tS (gt (L.getD k []) 0))))∧w.cell? ⟨(ad.add (k * 11)).block,(ad.add (k * 11)).off+1,none⟩=some (.int .i64 (fI (gt (L.getD k []) 1)))∧w.cell? ⟨(ad.add (k * 11)).block,(ad.add (k * 11)).off+2,none⟩=some (.int .i64 (fI (gt (L.getD k []) 2)))∧w.cell? ⟨(ad.add (k * 11)).block,(ad.add (k * 11)).off+3,none⟩=some (.int .i64 (fI (gt (L.getD k []) 3)))∧w.cell? ⟨(ad.add (k * 11)).block,(ad.add (k * 11)).off+4,none⟩=some (.int .i64 (fI (gt (L.getD k []) 4)))∧w.cell? ⟨(ad.add (k * 11)).block,(ad.add (k * 11)).off+5,none⟩=some (.int .i64 (fI (gt (L.getD k []) 5)))∧w.cell? ⟨(ad.add (k * 11)).block,(ad.add (k * 11)).off+6,none⟩=some (.int .i64 (fI (gt (L.getD k []) 6)))∧w.cell? ⟨(ad.add (k * 11)).block,(ad.add (k * 11)).off+7,none⟩=some (.int .i64 (fI (gt (L.getD k []) 7)))∧w.cell? ⟨(ad.add (k * 11)).block,(ad.add (k * 11)).off+8,none⟩=some (.int .i64 (fI (gt (L.getD k []) 8)))∧w.cell? ⟨(ad.add (k * 11)).block,(ad.add (k * 11)).off+9,none⟩=some (.int .i64 (fI (gt (L.getD k []) 9)))∧w.cell? ⟨(ad.add (k * 11)).block,(ad.add (k * 11)).off+10,none⟩=some (.int .i64 (fI (gt (L.getD k []) 10))):=by
 obtain⟨ad,us,rfl,hb,h1,h2,h3⟩:=zaI L 0 HA k hk;have hs:=hL (L.getD k []) (by rw[List.getD_eq_getElem?_getD,List.getElem?_eq_getElem hk];exact List.getElem_mem hk);generalize L.getD k []=ds at h1 hs ⊢;simp only[ShL,Sh1,zcs]at hs;obtain⟨_,_,rfl,⟨s0,rfl,_⟩,⟨_,_,rfl,⟨v1,rfl,_,_⟩,⟨_,_,rfl,⟨v2,rfl,_,_⟩,⟨_,_,rfl,⟨v3,rfl,_,_⟩,⟨_,_,rfl,⟨v4,rfl,_,_⟩,⟨_,_,rfl,⟨v5,rfl,_,_⟩,⟨_,_,rfl,⟨v6,rfl,_,_⟩,⟨_,_,rfl,⟨v7,rfl,_,_⟩,⟨_,_,rfl,⟨v8,rfl,_,_⟩,⟨_,_,rfl,⟨v9,rfl,_,_⟩,⟨_,_,rfl,⟨v10,rfl,_,_⟩,rfl⟩⟩⟩⟩⟩⟩⟩⟩⟩⟩⟩:=hs;simp only[Rvs,Rv,dS,dI,dB]at h1;obtain⟨_,_,rfl,rfl,⟨_,_,rfl,rfl,⟨_,_,rfl,rfl,⟨_,_,rfl,rfl,⟨_,_,rfl,rfl,⟨_,_,rfl,rfl,⟨_,_,rfl,rfl,⟨_,_,rfl,rfl,⟨_,_,rfl,rfl,⟨_,_,rfl,rfl,⟨_,_,rfl,rfl,rfl⟩⟩⟩⟩⟩⟩⟩⟩⟩⟩⟩:=h1;rw[Nat.zero_add]at h3;exact⟨ad,rfl,hb,low hF hb (n:=k * 11) (j:=0) (h3 0 _ rfl),low hF hb (n:=k * 11) (j:=1) (h3 1 _ rfl),low hF hb (n:=k * 11) (j:=2) (h3 2 _ rfl),low hF hb (n:=k * 11) (j:=3) (h3 3 _ rfl),low hF hb (n:=k * 11) (j:=4) (h3 4 _ rfl),low hF hb (n:=k * 11) (j:=5) (h3 5 _ rfl),low hF hb (n:=k * 11) (j:=6) (h3 6 _ rfl),low hF hb (n:=k * 11) (j:=7) (h3 7 _ rfl),low hF hb (n:=k * 11) (j:=8) (h3 8 _ rfl),low hF hb (n:=k * 11) (j:=9) (h3 9 _ rfl),low hF hb (n:=k * 11) (j:=10) (h3 10 _ rfl)⟩
theorem clPed {w0 w:World} {a:Option Addr} {L:List (List D)} (hF:Keep w0 w) (hL:∀ ds∈L,ShL zlL ds) (HA:Rvss w0 a 6 L 0) (k:Nat) (hk:k<L.length):∃ ad,a=some ad∧ad.block<w0.heap.size∧w.cell? (ad.add (k * 6))=some (.string (sv (tS (gt (L.getD k []) 0))))∧w.cell? ⟨(ad.add (k * 6)).block,(ad.add (k * 6)).off+1,none⟩=some (.string (sv (tS (gt (L.getD k []) 1))))∧w.cell? ⟨(ad.add (k * 6)).block,(ad.add (k * 6)).off+2,none⟩=some (.int .i64 (fI (gt (L.getD k []) 2)))∧w.cell? ⟨(ad.add (k * 6)).block,(ad.add (k * 6)).off+3,none⟩=some (.int .i64 (fI (gt (L.getD k []) 3)))∧w.cell? ⟨(ad.add (k * 6)).block,(ad.add (k * 6)).off+4,none⟩=some (.int .i64 (fI (gt (L.getD k []) 4)))∧w.cell? ⟨(ad.add (k * 6)).block,(ad.add (k * 6)).off+5,none⟩=some (.int .i64 (fI (gt (L.getD k []) 5))):=by
 obtain⟨ad,us,rfl,hb,h1,h2,h3⟩:=zaI L 0 HA k hk;have hs:=hL (L.getD k []) (by rw[List.getD_eq_getElem?_getD,List.getElem?_eq_getElem hk];exact List.getElem_mem hk);generalize L.getD k []=ds at h1 hs ⊢;simp only[ShL,Sh1,zlL]at hs;obtain⟨_,_,rfl,⟨s0,rfl,_⟩,⟨_,_,rfl,⟨s1,rfl,_⟩,⟨_,_,rfl,⟨v2,rfl,_,_⟩,⟨_,_,rfl,⟨v3,rfl,_,_⟩,⟨_,_,rfl,⟨v4,rfl,_,_⟩,⟨_,_,rfl,⟨v5,rfl,_,_⟩,rfl⟩⟩⟩⟩⟩⟩:=hs;simp only[Rvs,Rv,dS,dI,dB]at h1;obtain⟨_,_,rfl,rfl,⟨_,_,rfl,rfl,⟨_,_,rfl,rfl,⟨_,_,rfl,rfl,⟨_,_,rfl,rfl,⟨_,_,rfl,rfl,rfl⟩⟩⟩⟩⟩⟩:=h1;rw[Nat.zero_add]at h3;exact⟨ad,rfl,hb,low hF hb (n:=k * 6) (j:=0) (h3 0 _ rfl),low hF hb (n:=k * 6) (j:=1) (h3 1 _ rfl),low hF hb (n:=k * 6) (j:=2) (h3 2 _ rfl),low hF hb (n:=k * 6) (j:=3) (h3 3 _ rfl),low hF hb (n:=k * 6) (j:=4) (h3 4 _ rfl),low hF hb (n:=k * 6) (j:=5) (h3 5 _ rfl)⟩
theorem clPhase {w0 w:World} {a:Option Addr} {L:List (List D)} (hF:Keep w0 w) (hL:∀ ds∈L,ShL zba ds) (HA:Rvss w0 a 3 L 0) (k:Nat) (hk:k<L.length):∃ ad,a=some ad∧ad.block<w0.heap.size∧w.cell? (ad.add (k * 3))=some (.string (sv (tS (gt (L.getD k []) 0))))∧w.cell? ⟨(ad.add (k * 3)).block,(ad.add (k * 3)).off+1,none⟩=some (.slice (sA w0 a 3 1 k) (sN w0 a 3 1 k) (sC w0 a 3 1 k))∧w.cell? ⟨(ad.add (k * 3)).block,(ad.add (k * 3)).off+2,none⟩=some (.int .i64 (fI (gt (L.getD k []) 2))):=by
 obtain⟨ad,us,rfl,hb,h1,h2,h3⟩:=zaI L 0 HA k hk;have hs:=hL (L.getD k []) (by rw[List.getD_eq_getElem?_getD,List.getElem?_eq_getElem hk];exact List.getElem_mem hk);generalize L.getD k []=ds at h1 hs ⊢;simp only[ShL,Sh1,zba]at hs;obtain⟨_,_,rfl,⟨s0,rfl,_⟩,⟨_,_,rfl,⟨L1,rfl,_,q1⟩,⟨_,_,rfl,⟨v2,rfl,_,_⟩,rfl⟩⟩⟩:=hs;simp only[Rvs,Rv,dS,dI,dB]at h1;obtain⟨_,_,rfl,rfl,⟨_,_,rfl,⟨x1,z1,rfl,y1,m1⟩,⟨_,_,rfl,rfl,rfl⟩⟩⟩:=h1;rw[Nat.zero_add]at h3;have e1:=h3 1 _ rfl;have g1:(.slice (sA w0 (some ad) 3 1 k) (sN w0 (some ad) 3 1 k) (sC w0 (some ad) 3 1 k):Value)= .slice x1 L1.length z1:=by have e:=e1;simp only[sA,sN,sC,slA,slN,slC,adO,Option.getD_some,e]
 exact⟨ad,rfl,hb,low hF hb (n:=k * 3) (j:=0) (h3 0 _ rfl),(low hF hb (n:=k * 3) (j:=1) e1).trans (congrArg some g1.symm),low hF hb (n:=k * 3) (j:=2) (h3 2 _ rfl)⟩
theorem rsPhase {w0:World} {a:Option Addr} {L:List (List D)} (hL:∀ ds∈L,ShL zba ds) (HA:Rvss w0 a 3 L 0) (k:Nat) (hk:k<L.length):(sN w0 a 3 1 k=(fL (gt (L.getD k []) 1)).length∧(fL (gt (L.getD k []) 1)).length≤sC w0 a 3 1 k∧Rvss w0 (sA w0 a 3 1 k) 1 (fL (gt (L.getD k []) 1)) 0∧∀ ds∈fL (gt (L.getD k []) 1),ShL zdP ds):=by
 obtain⟨ad,us,rfl,hb,h1,h2,h3⟩:=zaI L 0 HA k hk;have hs:=hL (L.getD k []) (by rw[List.getD_eq_getElem?_getD,List.getElem?_eq_getElem hk];exact List.getElem_mem hk);generalize L.getD k []=ds at h1 hs ⊢;simp only[ShL,Sh1,zba]at hs;obtain⟨_,_,rfl,⟨s0,rfl,_⟩,⟨_,_,rfl,⟨L1,rfl,_,q1⟩,⟨_,_,rfl,⟨v2,rfl,_,_⟩,rfl⟩⟩⟩:=hs;simp only[Rvs,Rv,dS,dI,dB]at h1;obtain⟨_,_,rfl,rfl,⟨_,_,rfl,⟨x1,z1,rfl,y1,m1⟩,⟨_,_,rfl,rfl,rfl⟩⟩⟩:=h1;rw[Nat.zero_add]at h3;have e1:=h3 1 _ rfl;have a1:sA w0 (some ad) 3 1 k=x1:=by have e:=e1;simp only[sA,slA,adO,Option.getD_some,e]
 have b1:sN w0 (some ad) 3 1 k=L1.length:=by have e:=e1;simp only[sN,slN,adO,Option.getD_some,e]
 have c1:sC w0 (some ad) 3 1 k=z1:=by have e:=e1;simp only[sC,slC,adO,Option.getD_some,e]
 rw[a1,b1,c1];exact⟨rfl,y1,m1,q1⟩
theorem clGroup {w0 w:World} {a:Option Addr} {L:List (List D)} (hF:Keep w0 w) (hL:∀ ds∈L,ShL zbH ds) (HA:Rvss w0 a 1 L 0) (k:Nat) (hk:k<L.length):∃ ad,a=some ad∧ad.block<w0.heap.size∧w.cell? (ad.add k)=some (.slice (sA w0 a 1 0 k) (sN w0 a 1 0 k) (sC w0 a 1 0 k)):=by
 obtain⟨ad,us,rfl,hb,h1,h2,h3⟩:=zaI L 0 HA k hk;have hs:=hL (L.getD k []) (by rw[List.getD_eq_getElem?_getD,List.getElem?_eq_getElem hk];exact List.getElem_mem hk);generalize L.getD k []=ds at h1 hs ⊢;simp only[ShL,Sh1,zbH]at hs;obtain⟨_,_,rfl,⟨L0,rfl,_,q0⟩,rfl⟩:=hs;simp only[Rvs,Rv,dS,dI,dB]at h1;obtain⟨_,_,rfl,⟨x0,z0,rfl,y0,m0⟩,rfl⟩:=h1;rw[Nat.zero_add]at h3;have e0:=h3 0 _ rfl;have g0:(.slice (sA w0 (some ad) 1 0 k) (sN w0 (some ad) 1 0 k) (sC w0 (some ad) 1 0 k):Value)= .slice x0 L0.length z0:=by have e:=e0;simp only[sA,sN,sC,slA,slN,slC,adO,Option.getD_some,e]
 exact⟨ad,rfl,hb,(by have e:=low hF hb (n:=k * 1) (j:=0) e0;rw[Nat.mul_one]at e;exact e.trans (congrArg some g0.symm))⟩
theorem rsGroup {w0:World} {a:Option Addr} {L:List (List D)} (hL:∀ ds∈L,ShL zbH ds) (HA:Rvss w0 a 1 L 0) (k:Nat) (hk:k<L.length):(sN w0 a 1 0 k=(fL (gt (L.getD k []) 0)).length∧(fL (gt (L.getD k []) 0)).length≤sC w0 a 1 0 k∧Rvss w0 (sA w0 a 1 0 k) 2 (fL (gt (L.getD k []) 0)) 0∧∀ ds∈fL (gt (L.getD k []) 0),ShL ziR ds):=by
 obtain⟨ad,us,rfl,hb,h1,h2,h3⟩:=zaI L 0 HA k hk;have hs:=hL (L.getD k []) (by rw[List.getD_eq_getElem?_getD,List.getElem?_eq_getElem hk];exact List.getElem_mem hk);generalize L.getD k []=ds at h1 hs ⊢;simp only[ShL,Sh1,zbH]at hs;obtain⟨_,_,rfl,⟨L0,rfl,_,q0⟩,rfl⟩:=hs;simp only[Rvs,Rv,dS,dI,dB]at h1;obtain⟨_,_,rfl,⟨x0,z0,rfl,y0,m0⟩,rfl⟩:=h1;rw[Nat.zero_add]at h3;have e0:=h3 0 _ rfl;have a0:sA w0 (some ad) 1 0 k=x0:=by have e:=e0;simp only[sA,slA,adO,Option.getD_some,e]
 have b0:sN w0 (some ad) 1 0 k=L0.length:=by have e:=e0;simp only[sN,slN,adO,Option.getD_some,e]
 have c0:sC w0 (some ad) 1 0 k=z0:=by have e:=e0;simp only[sC,slC,adO,Option.getD_some,e]
 rw[a0,b0,c0];exact⟨rfl,y0,m0,q0⟩
theorem clFoe {w0 w:World} {a:Option Addr} {L:List (List D)} (hF:Keep w0 w) (hL:∀ ds∈L,ShL zkW ds) (HA:Rvss w0 a 3 L 0) (k:Nat) (hk:k<L.length):∃ ad,a=some ad∧ad.block<w0.heap.size∧w.cell? (ad.add (k * 3))=some (.string (sv (tS (gt (L.getD k []) 0))))∧w.cell? ⟨(ad.add (k * 3)).block,(ad.add (k * 3)).off+1,none⟩=some (.string (sv (tS (gt (L.getD k []) 1))))∧w.cell? ⟨(ad.add (k * 3)).block,(ad.add (k * 3)).off+2,none⟩=some (.int .i64 (fI (gt (L.getD k []) 2))):=by
 obtain⟨ad,us,rfl,hb,h1,h2,h3⟩:=zaI L 0 HA k hk;have hs:=hL (L.getD k []) (by rw[List.getD_eq_getElem?_getD,List.getElem?_eq_getElem hk];exact List.getElem_mem hk);generalize L.getD k []=ds at h1 hs ⊢;simp only[ShL,Sh1,zkW]at hs;obtain⟨_,_,rfl,⟨s0,rfl,_⟩,⟨_,_,rfl,⟨s1,rfl,_⟩,⟨_,_,rfl,⟨v2,rfl,_,_⟩,rfl⟩⟩⟩:=hs;simp only[Rvs,Rv,dS,dI,dB]at h1;obtain⟨_,_,rfl,rfl,⟨_,_,rfl,rfl,⟨_,_,rfl,rfl,rfl⟩⟩⟩:=h1;rw[Nat.zero_add]at h3;exact⟨ad,rfl,hb,low hF hb (n:=k * 3) (j:=0) (h3 0 _ rfl),low hF hb (n:=k * 3) (j:=1) (h3 1 _ rfl),low hF hb (n:=k * 3) (j:=2) (h3 2 _ rfl)⟩
theorem clNode {w0 w:World} {a:Option Addr} {L:List (List D)} (hF:Keep w0 w) (hL:∀ ds∈L,ShL za5 ds) (HA:Rvss w0 a 7 L 0) (k:Nat) (hk:k<L.length):∃ ad,a=some ad∧ad.block<w0.heap.size∧w.cell? (ad.add (k * 7))=some (.string (sv (tS (gt (L.getD k []) 0))))∧w.cell? ⟨(ad.add (k * 7)).block,(ad.add (k * 7)).off+1,none⟩=some (.slice (sA w0 a 7 1 k) (sN w0 a 7 1 k) (sC w0 a 7 1 k))∧w.cell? ⟨(ad.add (k * 7)).block,(ad.add (k * 7)).off+2,none⟩=some (.slice (sA w0 a 7 2 k) (sN w0 a 7 2 k) (sC w0 a 7 2 k))∧w.cell? ⟨(ad.add (k * 7)).block,(ad.add (k * 7)).off+3,none⟩=some (.slice (sA w0 a 7 3 k) (sN w0 a 7 3 k) (sC w0 a 7 3 k))∧w.cell? ⟨(ad.add (k * 7)).block,(ad.add (k * 7)).off+4,none⟩=some (.slice (sA w0 a 7 4 k) (sN w0 a 7 4 k) (sC w0 a 7 4 k))∧w.cell? ⟨(ad.add (k * 7)).block,(ad.add (k * 7)).off+5,none⟩=some (.slice (sA w0 a 7 5 k) (sN w0 a 7 5 k) (sC w0 a 7 5 k))∧w.cell? ⟨(ad.add (k * 7)).block,(ad.add (k * 7)).off+6,none⟩=some (.int .i64 (fI (gt (L.getD k []) 6))):=by
 obtain⟨ad,us,rfl,hb,h1,h2,h3⟩:=zaI L 0 HA k hk;have hs:=hL (L.getD k []) (by rw[List.getD_eq_getElem?_getD,List.getElem?_eq_getElem hk];exact List.getElem_mem hk);generalize L.getD k []=ds at h1 hs ⊢;simp only[ShL,Sh1,za5]at hs;obtain⟨_,_,rfl,⟨s0,rfl,_⟩,⟨_,_,rfl,⟨L1,rfl,_,q1⟩,⟨_,_,rfl,⟨L2,rfl,_,q2⟩,⟨_,_,rfl,⟨L3,rfl,_,q3⟩,⟨_,_,rfl,⟨L4,rfl,_,q4⟩,⟨_,_,rfl,⟨L5,rfl,_,q5⟩,⟨_,_,rfl,⟨v6,rfl,_,_⟩,rfl⟩⟩⟩⟩⟩⟩⟩:=hs;simp only[Rvs,Rv,dS,dI,dB]at h1;obtain⟨_,_,rfl,rfl,⟨_,_,rfl,⟨x1,z1,rfl,y1,m1⟩,⟨_,_,rfl,⟨x2,z2,rfl,y2,m2⟩,⟨_,_,rfl,⟨x3,z3,rfl,y3,m3⟩,⟨_,_,rfl,⟨x4,z4,rfl,y4,m4⟩,⟨_,_,rfl,⟨x5,z5,rfl,y5,m5⟩,⟨_,_,rfl,rfl,rfl⟩⟩⟩⟩⟩⟩⟩:=h1;rw[Nat.zero_add]at h3;have e1:=h3 1 _ rfl;have g1:(.slice (sA w0 (some ad) 7 1 k) (sN w0 (some ad) 7 1 k) (sC w0 (some ad) 7 1 k):Value)= .slice x1 L1.length z1:=by have e:=e1;simp only[sA,sN,sC,slA,slN,slC,adO,Option.getD_some,e]
 have e2:=h3 2 _ rfl;have g2:(.slice (sA w0 (some ad) 7 2 k) (sN w0 (some ad) 7 2 k) (sC w0 (some ad) 7 2 k):Value)= .slice x2 L2.length z2:=by have e:=e2;simp only[sA,sN,sC,slA,slN,slC,adO,Option.getD_some,e]
 have e3:=h3 3 _ rfl;have g3:(.slice (sA w0 (some ad) 7 3 k) (sN w0 (some ad) 7 3 k) (sC w0 (some ad) 7 3 k):Value)= .slice x3 L3.length z3:=by have e:=e3;simp only[sA,sN,sC,slA,slN,slC,adO,Option.getD_some,e]
 have e4:=h3 4 _ rfl;have g4:(.slice (sA w0 (some ad) 7 4 k) (sN w0 (some ad) 7 4 k) (sC w0 (some ad) 7 4 k):Value)= .slice x4 L4.length z4:=by have e:=e4;simp only[sA,sN,sC,slA,slN,slC,adO,Option.getD_some,e]
 have e5:=h3 5 _ rfl;have g5:(.slice (sA w0 (some ad) 7 5 k) (sN w0 (some ad) 7 5 k) (sC w0 (some ad) 7 5 k):Value)= .slice x5 L5.length z5:=by have e:=e5;simp only[sA,sN,sC,slA,slN,slC,adO,Option.getD_some,e]
 exact⟨ad,rfl,hb,low hF hb (n:=k * 7) (j:=0) (h3 0 _ rfl),(low hF hb (n:=k * 7) (j:=1) e1).trans (congrArg some g1.symm),(low hF hb (n:=k * 7) (j:=2) e2).trans (congrArg some g2.symm),(low hF hb (n:=k * 7) (j:=3) e3).trans (congrArg some g3.symm),(low hF hb (n:=k * 7) (j:=4) e4).trans (congrArg some g4.symm),(low hF hb (n:=k * 7) (j:=5) e5).trans (congrArg some g5.symm),low hF hb (n:=k * 7) (j:=6) (h3 6 _ rfl)⟩
theorem zeV {w0:World} {a:Option Addr} {L:List (List D)} (hL:∀ ds∈L,ShL za5 ds) (HA:Rvss w0 a 7 L 0) (k:Nat) (hk:k<L.length):(sN w0 a 7 1 k=(fL (gt (L.getD k []) 1)).length∧(fL (gt (L.getD k []) 1)).length≤sC w0 a 7 1 k∧Rvss w0 (sA w0 a 7 1 k) 11 (fL (gt (L.getD k []) 1)) 0∧∀ ds∈fL (gt (L.getD k []) 1),ShL zcs ds)∧(sN w0 a 7 2 k=(fL (gt (L.getD k []) 2)).length∧(fL (gt (L.getD k []) 2)).length≤sC w0 a 7 2 k∧Rvss w0 (sA w0 a 7 2 k) 6 (fL (gt (L.getD k []) 2)) 0∧∀ ds∈fL (gt (L.getD k []) 2),ShL zlL ds)∧(sN w0 a 7 3 k=(fL (gt (L.getD k []) 3)).length∧(fL (gt (L.getD k []) 3)).length≤sC w0 a 7 3 k∧Rvss w0 (sA w0 a 7 3 k) 3 (fL (gt (L.getD k []) 3)) 0∧∀ ds∈fL (gt (L.getD k []) 3),ShL zba ds)∧(sN w0 a 7 4 k=(fL (gt (L.getD k []) 4)).length∧(fL (gt (L.getD k []) 4)).length≤sC w0 a 7 4 k∧Rvss w0 (sA w0 a 7 4 k) 1 (fL (gt (L.getD k []) 4)) 0∧∀ ds∈fL (gt (L.getD k []) 4),ShL zbH ds)∧(sN w0 a 7 5 k=(fL (gt (L.getD k []) 5)).length∧(fL (gt (L.getD k []) 5)).length≤sC w0 a 7 5 k∧Rvss w0 (sA w0 a 7 5 k) 3 (fL (gt (L.getD k []) 5)) 0∧∀ ds∈fL (gt (L.getD k []) 5),ShL zkW ds):=by
 obtain⟨ad,us,rfl,hb,h1,h2,h3⟩:=zaI L 0 HA k hk;have hs:=hL (L.getD k []) (by rw[List.getD_eq_getElem?_getD,List.getElem?_eq_getElem hk];exact List.getElem_mem hk);generalize L.getD k []=ds at h1 hs ⊢;simp only[ShL,Sh1,za5]at hs;obtain⟨_,_,rfl,⟨s0,rfl,_⟩,⟨_,_,rfl,⟨L1,rfl,_,q1⟩,⟨_,_,rfl,⟨L2,rfl,_,q2⟩,⟨_,_,rfl,⟨L3,rfl,_,q3⟩,⟨_,_,rfl,⟨L4,rfl,_,q4⟩,⟨_,_,rfl,⟨L5,rfl,_,q5⟩,⟨_,_,rfl,⟨v6,rfl,_,_⟩,rfl⟩⟩⟩⟩⟩⟩⟩:=hs;simp only[Rvs,Rv,dS,dI,dB]at h1;obtain⟨_,_,rfl,rfl,⟨_,_,rfl,⟨x1,z1,rfl,y1,m1⟩,⟨_,_,rfl,⟨x2,z2,rfl,y2,m2⟩,⟨_,_,rfl,⟨x3,z3,rfl,y3,m3⟩,⟨_,_,rfl,⟨x4,z4,rfl,y4,m4⟩,⟨_,_,rfl,⟨x5,z5,rfl,y5,m5⟩,⟨_,_,rfl,rfl,rfl⟩⟩⟩⟩⟩⟩⟩:=h1;rw[Nat.zero_add]at h3;have e1:=h3 1 _ rfl;have a1:sA w0 (some ad) 7 1 k=x1:=by have e:=e1;simp only[sA,slA,adO,Option.getD_some,e]
 have b1:sN w0 (some ad) 7 1 k=L1.length:=by have e:=e1;simp only[sN,slN,adO,Option.getD_some,e]
 have c1:sC w0 (some ad) 7 1 k=z1:=by have e:=e1;simp only[sC,slC,adO,Option.getD_some,e]
 rw[a1,b1,c1];have e2:=h3 2 _ rfl;have a2:sA w0 (some ad) 7 2 k=x2:=by have e:=e2;simp only[sA,slA,adO,Option.getD_some,e]
 have b2:sN w0 (some ad) 7 2 k=L2.length:=by have e:=e2;simp only[sN,slN,adO,Option.getD_some,e]
 have c2:sC w0 (some ad) 7 2 k=z2:=by have e:=e2;simp only[sC,slC,adO,Option.getD_some,e]
 rw[a2,b2,c2];have e3:=h3 3 _ rfl;have a3:sA w0 (some ad) 7 3 k=x3:=by have e:=e3;simp only[sA,slA,adO,Option.getD_some,e]
 have b3:sN w0 (some ad) 7 3 k=L3.length:=by have e:=e3;simp only[sN,slN,adO,Option.getD_some,e]
 have c3:sC w0 (some ad) 7 3 k=z3:=by have e:=e3;simp only[sC,slC,adO,Option.getD_some,e]
 rw[a3,b3,c3];have e4:=h3 4 _ rfl;have a4:sA w0 (some ad) 7 4 k=x4:=by have e:=e4;simp only[sA,slA,adO,Option.getD_some,e]
 have b4:sN w0 (some ad) 7 4 k=L4.length:=by have e:=e4;simp only[sN,slN,adO,Option.getD_some,e]
 have c4:sC w0 (some ad) 7 4 k=z4:=by have e:=e4;simp only[sC,slC,adO,Option.getD_some,e]
 rw[a4,b4,c4];have e5:=h3 5 _ rfl;have a5:sA w0 (some ad) 7 5 k=x5:=by have e:=e5;simp only[sA,slA,adO,Option.getD_some,e]
 have b5:sN w0 (some ad) 7 5 k=L5.length:=by have e:=e5;simp only[sN,slN,adO,Option.getD_some,e]
 have c5:sC w0 (some ad) 7 5 k=z5:=by have e:=e5;simp only[sC,slC,adO,Option.getD_some,e]
 rw[a5,b5,c5];exact⟨⟨rfl,y1,m1,q1⟩,⟨rfl,y2,m2,q2⟩,⟨rfl,y3,m3,q3⟩,⟨rfl,y4,m4,q4⟩,⟨rfl,y5,m5,q5⟩⟩
theorem clStop {w0 w:World} {a:Option Addr} {L:List (List D)} (hF:Keep w0 w) (hL:∀ ds∈L,ShL zhW ds) (HA:Rvss w0 a 6 L 0) (k:Nat) (hk:k<L.length):∃ ad,a=some ad∧ad.block<w0.heap.size∧w.cell? (ad.add (k * 6))=some (.string (sv (tS (gt (L.getD k []) 0))))∧w.cell? ⟨(ad.add (k * 6)).block,(ad.add (k * 6)).off+1,none⟩=some (.string (sv (tS (gt (L.getD k []) 1))))∧w.cell? ⟨(ad.add (k * 6)).block,(ad.add (k * 6)).off+2,none⟩=some (.string (sv (tS (gt (L.getD k []) 2))))∧w.cell? ⟨(ad.add (k * 6)).block,(ad.add (k * 6)).off+3,none⟩=some (.int .i64 (fI (gt (L.getD k []) 3)))∧w.cell? ⟨(ad.add (k * 6)).block,(ad.add (k * 6)).off+4,none⟩=some (.int .i64 (fI (gt (L.getD k []) 4)))∧w.cell? ⟨(ad.add (k * 6)).block,(ad.add (k * 6)).off+5,none⟩=some (.int .i64 (fI (gt (L.getD k []) 5))):=by
 obtain⟨ad,us,rfl,hb,h1,h2,h3⟩:=zaI L 0 HA k hk;have hs:=hL (L.getD k []) (by rw[List.getD_eq_getElem?_getD,List.getElem?_eq_getElem hk];exact List.getElem_mem hk);generalize L.getD k []=ds at h1 hs ⊢;simp only[ShL,Sh1,zhW]at hs;obtain⟨_,_,rfl,⟨s0,rfl,_⟩,⟨_,_,rfl,⟨s1,rfl,_⟩,⟨_,_,rfl,⟨s2,rfl,_⟩,⟨_,_,rfl,⟨v3,rfl,_,_⟩,⟨_,_,rfl,⟨v4,rfl,_,_⟩,⟨_,_,rfl,⟨v5,rfl,_,_⟩,rfl⟩⟩⟩⟩⟩⟩:=hs;simp only[Rvs,Rv,dS,dI,dB]at h1;obtain⟨_,_,rfl,rfl,⟨_,_,rfl,rfl,⟨_,_,rfl,rfl,⟨_,_,rfl,rfl,⟨_,_,rfl,rfl,⟨_,_,rfl,rfl,rfl⟩⟩⟩⟩⟩⟩:=h1;rw[Nat.zero_add]at h3;exact⟨ad,rfl,hb,low hF hb (n:=k * 6) (j:=0) (h3 0 _ rfl),low hF hb (n:=k * 6) (j:=1) (h3 1 _ rfl),low hF hb (n:=k * 6) (j:=2) (h3 2 _ rfl),low hF hb (n:=k * 6) (j:=3) (h3 3 _ rfl),low hF hb (n:=k * 6) (j:=4) (h3 4 _ rfl),low hF hb (n:=k * 6) (j:=5) (h3 5 _ rfl)⟩
theorem clRow {w0 w:World} {a:Option Addr} {L:List (List D)} (hF:Keep w0 w) (hL:∀ ds∈L,ShL ziR ds) (HA:Rvss w0 a 2 L 0) (k:Nat) (hk:k<L.length):∃ ad,a=some ad∧ad.block<w0.heap.size∧w.cell? (ad.add (k * 2))=some (.bool (fB (gt (L.getD k []) 0)))∧w.cell? ⟨(ad.add (k * 2)).block,(ad.add (k * 2)).off+1,none⟩=some (.slice (sA w0 a 2 1 k) (sN w0 a 2 1 k) (sC w0 a 2 1 k)):=by
 obtain⟨ad,us,rfl,hb,h1,h2,h3⟩:=zaI L 0 HA k hk;have hs:=hL (L.getD k []) (by rw[List.getD_eq_getElem?_getD,List.getElem?_eq_getElem hk];exact List.getElem_mem hk);generalize L.getD k []=ds at h1 hs ⊢;simp only[ShL,Sh1,ziR]at hs;obtain⟨_,_,rfl,⟨f0,rfl⟩,⟨_,_,rfl,⟨L1,rfl,_,q1⟩,rfl⟩⟩:=hs;simp only[Rvs,Rv,dS,dI,dB]at h1;obtain⟨_,_,rfl,rfl,⟨_,_,rfl,⟨x1,z1,rfl,y1,m1⟩,rfl⟩⟩:=h1;rw[Nat.zero_add]at h3;have e1:=h3 1 _ rfl;have g1:(.slice (sA w0 (some ad) 2 1 k) (sN w0 (some ad) 2 1 k) (sC w0 (some ad) 2 1 k):Value)= .slice x1 L1.length z1:=by have e:=e1;simp only[sA,sN,sC,slA,slN,slC,adO,Option.getD_some,e]
 exact⟨ad,rfl,hb,low hF hb (n:=k * 2) (j:=0) (h3 0 _ rfl),(low hF hb (n:=k * 2) (j:=1) e1).trans (congrArg some g1.symm)⟩
theorem rsRow {w0:World} {a:Option Addr} {L:List (List D)} (hL:∀ ds∈L,ShL ziR ds) (HA:Rvss w0 a 2 L 0) (k:Nat) (hk:k<L.length):(sN w0 a 2 1 k=(fL (gt (L.getD k []) 1)).length∧(fL (gt (L.getD k []) 1)).length≤sC w0 a 2 1 k∧Rvss w0 (sA w0 a 2 1 k) 1 (fL (gt (L.getD k []) 1)) 0∧∀ ds∈fL (gt (L.getD k []) 1),ShL zdP ds):=by
 obtain⟨ad,us,rfl,hb,h1,h2,h3⟩:=zaI L 0 HA k hk;have hs:=hL (L.getD k []) (by rw[List.getD_eq_getElem?_getD,List.getElem?_eq_getElem hk];exact List.getElem_mem hk);generalize L.getD k []=ds at h1 hs ⊢;simp only[ShL,Sh1,ziR]at hs;obtain⟨_,_,rfl,⟨f0,rfl⟩,⟨_,_,rfl,⟨L1,rfl,_,q1⟩,rfl⟩⟩:=hs;simp only[Rvs,Rv,dS,dI,dB]at h1;obtain⟨_,_,rfl,rfl,⟨_,_,rfl,⟨x1,z1,rfl,y1,m1⟩,rfl⟩⟩:=h1;rw[Nat.zero_add]at h3;have e1:=h3 1 _ rfl;have a1:sA w0 (some ad) 2 1 k=x1:=by have e:=e1;simp only[sA,slA,adO,Option.getD_some,e]
 have b1:sN w0 (some ad) 2 1 k=L1.length:=by have e:=e1;simp only[sN,slN,adO,Option.getD_some,e]
 have c1:sC w0 (some ad) 2 1 k=z1:=by have e:=e1;simp only[sC,slC,adO,Option.getD_some,e]
 rw[a1,b1,c1];exact⟨rfl,y1,m1,q1⟩
end S
end Go.Proofs.YtpmaonkelkmhbaaGreat
namespace Go.Proofs.YtpmaonkelkmhbaaGreat
open Go.RowKit
attribute [local go_sem ↓] Go.wp_at_zero Go.wp_at_succ
set_option linter.unusedVariables false
set_option linter.unusedSimpArgs false
set_option maxRecDepth 10000
namespace S
def Rw (w:World) (v:Value):Prop:=∃(a:Option Addr) (n cap:Nat) (X:Nat→ByteArray),v= .slice a n cap∧n≤cap∧∀ k,k<n→∃ ad,a=some ad∧ad.block<w.heap.size∧w.cell? (ad.add k)=some (.string (X k))
theorem Rw.keep {w w':World} {v:Value} (h:Rw w v) (k:Keep w w'):Rw w' v:=by
 obtain⟨a,n,cap,X,rfl,hc,h⟩:=h;refine⟨a,n,cap,X,rfl,hc,fun j hj=>?_⟩;obtain⟨ad,e,hb,h1⟩:=h j hj;exact⟨ad,e,Nat.lt_of_lt_of_le hb k.size,Q.kcell k h1⟩
def Ab (w:World) (e:Ending) (w':World):Prop:=∃ b,e= .returned (.bool b)∧w'=w
def Ak (w:World) (e:Ending) (w':World):Prop:=∃ b,e= .returned (.bool b)∧Keep w w'
set_option maxHeartbeats 2000000 in
theorem zgq (a:Option Addr) (n cap:Nat) (X:Nat→ByteArray) (w:World) (HC:Hid (∀ k,k<n→∃ ad,a=some ad∧w.cell? (ad.add k)=some (.string (X k)))):
  Calls Tryz.prog 15 #[.slice a n cap] w (Ab w):=by
 go_enter Tryz.func15,Tryz.ntmps15;go_wp2_with fail
 go_loopw [3] (fun vi wr=>∃ k:Nat,k≤n∧vi= .int .i64 (k:Int)∧wr=w) (fun vi _=>n - (intOf vi).toNat)
 case atStart=>exact⟨0,Nat.zero_le _,rfl,rfl⟩
 case round=>
  obtain⟨k,hk,rfl,rfl⟩:=hrel;by_cases hlt:k<n
  ·have li:(k:Int)<(n:Int):=by omega
   by_cases h5:k<50
   ·have l5:(k:Int)<50:=by omega
    obtain⟨ad,rfl,e0⟩:=(uq HC) k hlt;by_cases h1:(100:Int)<((X k).size:Int)
    ·go_wp2_with fail
     go_ret;exact⟨_,rfl,rfl⟩
    ·go_wp2_with fail
     go_roundw
     case rel=>exact⟨k+1,hlt,by go_num,by first|rfl|trivial⟩
     case measure=>simp[intOf];omega
   ·have l5:¬(k:Int)<50:=by omega
    go_wp2_with fail
    go_ret;exact⟨_,rfl,rfl⟩
  ·have li:¬(k:Int)<(n:Int):=by omega
   go_wp2_with fail
   go_ret;exact⟨_,rfl,rfl⟩
theorem zeW (v:Value) (w:World) (h:Rw w v):Calls Tryz.prog 15 #[v] w (Ab w):=by
 obtain⟨a,n,cap,X,rfl,_,h⟩:=h;exact zgq a n cap X w (hide fun k hk=>by obtain⟨ad,e,_,h1⟩:=h k hk;exact⟨ad,e,h1⟩)
end S
end Go.Proofs.YtpmaonkelkmhbaaGreat
