/- Package valid: where a name stands, and Check, by the network's tree. -/
import Derived.Test.YthbfohohelflnaaLIn
import Derived.Test.YthbfohohelflnaaVCh2
import Derived.Test.YthbfohohelflnaaVCk
namespace Go.Proofs.Ythbfohohelflnaa
open Go.RowKit
set_option linter.unusedVariables false
set_option linter.unusedSimpArgs false
set_option maxRecDepth 10000
namespace V
open S
theorem zcK {w0:World} {a:Option Addr} {L:List (List D)} (hL:∀ ds∈L,ShL za6 ds) (HA:Rvss w0 a 7 L 0) (k:Nat) (hk:k<L.length):Rvs w0 (L.getD k []) [.string (sv (tS (gt (L.getD k []) 0))),.slice (sA w0 a 7 1 k) (sN w0 a 7 1 k) (sC w0 a 7 1 k),.slice (sA w0 a 7 2 k) (sN w0 a 7 2 k) (sC w0 a 7 2 k),.slice (sA w0 a 7 3 k) (sN w0 a 7 3 k) (sC w0 a 7 3 k),.slice (sA w0 a 7 4 k) (sN w0 a 7 4 k) (sC w0 a 7 4 k),.slice (sA w0 a 7 5 k) (sN w0 a 7 5 k) (sC w0 a 7 5 k),.int .i64 (fI (gt (L.getD k []) 6))]:=by
 obtain⟨ad,us,rfl,hb,h1,h2,h3⟩:=zaI L 0 HA k hk;have hs:=hL (L.getD k []) (zaQ hk);generalize L.getD k []=ds at h1 hs ⊢;simp only[ShL,Sh1,za6]at hs;obtain⟨_,_,rfl,⟨s0,rfl,_⟩,⟨_,_,rfl,⟨L1,rfl,_,q1⟩,⟨_,_,rfl,⟨L2,rfl,_,q2⟩,⟨_,_,rfl,⟨L3,rfl,_,q3⟩,⟨_,_,rfl,⟨L4,rfl,_,q4⟩,⟨_,_,rfl,⟨L5,rfl,_,q5⟩,⟨_,_,rfl,⟨v6,rfl,_,_⟩,rfl⟩⟩⟩⟩⟩⟩⟩:=hs;have hr:=h1;simp only[Rvs,Rv,dS,dI,dB]at h1;obtain⟨_,_,rfl,rfl,⟨_,_,rfl,⟨x1,z1,rfl,y1,m1⟩,⟨_,_,rfl,⟨x2,z2,rfl,y2,m2⟩,⟨_,_,rfl,⟨x3,z3,rfl,y3,m3⟩,⟨_,_,rfl,⟨x4,z4,rfl,y4,m4⟩,⟨_,_,rfl,⟨x5,z5,rfl,y5,m5⟩,⟨_,_,rfl,rfl,rfl⟩⟩⟩⟩⟩⟩⟩:=h1;rw[Nat.zero_add]at h3;have e1:=h3 1 _ rfl;have g1:(.slice (sA w0 (some ad) 7 1 k) (sN w0 (some ad) 7 1 k) (sC w0 (some ad) 7 1 k):Value)= .slice x1 L1.length z1:=by have e:=e1;simp only[sA,sN,sC,slA,slN,slC,adO,Option.getD_some,e]
 have e2:=h3 2 _ rfl;have g2:(.slice (sA w0 (some ad) 7 2 k) (sN w0 (some ad) 7 2 k) (sC w0 (some ad) 7 2 k):Value)= .slice x2 L2.length z2:=by have e:=e2;simp only[sA,sN,sC,slA,slN,slC,adO,Option.getD_some,e]
 have e3:=h3 3 _ rfl;have g3:(.slice (sA w0 (some ad) 7 3 k) (sN w0 (some ad) 7 3 k) (sC w0 (some ad) 7 3 k):Value)= .slice x3 L3.length z3:=by have e:=e3;simp only[sA,sN,sC,slA,slN,slC,adO,Option.getD_some,e]
 have e4:=h3 4 _ rfl;have g4:(.slice (sA w0 (some ad) 7 4 k) (sN w0 (some ad) 7 4 k) (sC w0 (some ad) 7 4 k):Value)= .slice x4 L4.length z4:=by have e:=e4;simp only[sA,sN,sC,slA,slN,slC,adO,Option.getD_some,e]
 have e5:=h3 5 _ rfl;have g5:(.slice (sA w0 (some ad) 7 5 k) (sN w0 (some ad) 7 5 k) (sC w0 (some ad) 7 5 k):Value)= .slice x5 L5.length z5:=by have e:=e5;simp only[sA,sN,sC,slA,slN,slC,adO,Option.getD_some,e]
 rw[g1,g2,g3,g4,g5];exact hr
def nI (L:List (List D)) (nm:List UInt8):Int:=ix (fun k=>tn L k==nm) 0 L.length
def cI (L:List (List D)) (nm:List UInt8):Bool:=decide (0≤ix (fun k=>nm==tn L k) 0 L.length)
def hI (L:List (List D)) (nm:List UInt8):Int:=ix (fun k=>cI (sub L 1 k) nm) 0 L.length
theorem zeU {w:World} {s:ByteArray} {x1:Option Addr} {c1:Nat} {x2:Option Addr} {n2 c2:Nat} {x3:Option Addr} {n3 c3:Nat} {x4:Option Addr} {n4 c4:Nat} {x5:Option Addr} {n5 c5:Nat} {p:Int} {L:List (List D)} (nm:List UInt8)
  (hL:∀ ds∈L,ShL zdi ds) (HA:Rvss w x1 11 L 0) (hn:L.length≤maxLen):Calls Try.prog 26 #[.agg #[.string s,.slice x1 L.length c1,.slice x2 n2 c2,.slice x3 n3 c3,.slice x4 n4 c4,.slice x5 n5 c5,.int .i64 p],.string (sv nm)] w fun e w'=>e= .returned (.int .i64 (nI L nm))∧Keep w w':=
 zfH s x1 L.length c1 x2 n2 c2 x3 n3 c3 x4 n4 c4 x5 n5 c5 p nm _ w (hide fun w' c k hc hcell=>zh7 x1 L.length c1 c (tn L) (iv L 1) (iv L 2) (iv L 3) (iv L 4) (iv L 5) (iv L 6) (iv L 7) (iv L 8) (iv L 9) (iv L 10) (fun k=>tn L k==nm) _ w' hn
  (hide fun j hj=>S.clHead (Keep.refl w') hL (Rvss.keep k _ _ _ _ HA) j hj)
  (hide fun j hj w'' k'=>V.clHead (tn L j) nm _ _ _ _ _ _ _ _ _ _ c w'' (by rw[Below.cell (p:=⟨c,0,none⟩) k' hc];exact hcell) (Nat.lt_of_lt_of_le hc k'.size)) (hide rfl))
end V
namespace V
open S
theorem zh9 {w:World} {a0 a1 a2 a3 a4:Int} {aN:Option Addr} {cN:Nat} {aS:Option Addr} {nS cS:Nat} {a5 a6:Int} {LN:List (List D)} (nm:List UInt8) (hL:∀ ds∈LN,ShL za6 ds) (HA:Rvss w aN 7 LN 0) (hn:LN.length≤maxLen):
  Calls Try.prog 19 #[.agg #[.int .i64 a0,.int .i64 a1,.int .i64 a2,.int .i64 a3,.int .i64 a4,.slice aN LN.length cN,.slice aS nS cS,.int .i64 a5,.int .i64 a6],.string (sv nm)] w fun e w'=>e= .returned (.int .i64 (nI LN nm))∧Keep w w':=
 zfG a0 a1 a2 a3 a4 aN LN.length cN aS nS cS a5 a6 nm _ w (hide fun w' c k hc hcell=>zh6 aN LN.length cN c (tn LN) (sA w' aN 7 1) (sA w' aN 7 2) (sA w' aN 7 3) (sA w' aN 7 4) (sA w' aN 7 5) (sN w' aN 7 1) (sC w' aN 7 1) (sN w' aN 7 2) (sC w' aN 7 2) (sN w' aN 7 3) (sC w' aN 7 3) (sN w' aN 7 4) (sC w' aN 7 4) (sN w' aN 7 5) (sC w' aN 7 5) (iv LN 6) (fun k=>tn LN k==nm) _ w' hn
  (hide fun j hj=>S.clNode (Keep.refl w') hL (Rvss.keep k _ _ _ _ HA) j hj)
  (hide fun j hj w'' k'=>V.clNode (tn LN j) nm _ _ _ _ _ _ c w'' (by rw[Below.cell (p:=⟨c,0,none⟩) k' hc];exact hcell) (Nat.lt_of_lt_of_le hc k'.size)) (hide rfl))
def nsE (LN:List (List D)):Eq2:=fE (nsF (tn LN) (fun k=>zeb (LN.getD k [])) (iv LN 6)) 0 LN.length
theorem zeV {w:World} {aN:Option Addr} {cN:Nat} {LN:List (List D)} (hL:∀ ds∈LN,ShL za6 ds) (HA:Rvss w aN 7 LN 0) (hn:LN.length≤maxLen):Calls Try.prog 13 #[.slice aN LN.length cN] w (Hq (nsE LN) (mk (tn LN) LN.length) w):=
 zd7 aN LN.length cN (tn LN) (sA w aN 7 1) (sA w aN 7 2) (sA w aN 7 3) (sA w aN 7 4) (sA w aN 7 5) (sN w aN 7 1) (sC w aN 7 1) (sN w aN 7 2) (sC w aN 7 2) (sN w aN 7 3) (sC w aN 7 3) (sN w aN 7 4) (sC w aN 7 4) (sN w aN 7 5) (sC w aN 7 5) (iv LN 6) (fun k=>zeb (LN.getD k [])) _ w hn (hide fun k hk=>nm0 (hL _ (zaQ hk))) (hide fun k hk=>S.clNode (Keep.refl w) hL HA k hk)
  (hide fun k hk w' kw=>zb6 (hL _ (zaQ hk)) (Rvs.keep kw _ _ (zcK hL HA k hk))) (hide rfl)
def hdj (LN:List (List D)) (j:Int) (nm:List UInt8):Int:=nI (sub LN 1 j.toNat) nm
def s2 (L:List (List D)) (k:Nat):List UInt8:=tS (gt (L.getD k []) 2)
def stE (LN LS:List (List D)):Eq2:=fE (stF (mk (tn LN) LN.length) (tn LS) (un LS) (s2 LS) (hdj LN) (iv LS 3) (iv LS 4) (iv LS 5)) 0 LS.length
theorem zia {T:Nat→List UInt8} {s:List UInt8} :∀ n,hs (mk T n) s=true→∃ j:Nat,j<n∧lk (mk T n) s=(j:Int)
 |0,h=>by simp[mk,hs]at h
 |n+1,h=>by
  rw[zbA]at h ⊢;by_cases h':hs (mk T n) s=true
  ·obtain⟨j,h1,h2⟩:=zia n h';refine⟨j,by omega,?_⟩;rw[← h2];unfold lk
   rw[List.find?_append];have:((mk T n).find? (fun p=>p.1==s)).isSome=true:=by
    rw[List.find?_isSome];obtain⟨p,hp,he⟩:=List.any_eq_true.1 h';exact⟨p,hp,he⟩
   obtain⟨p,hp⟩:=Option.isSome_iff_exists.1 this;rw[hp];rfl
  ·refine⟨n,by omega,?_⟩;have h0:hs (mk T n) s=false:=by simpa using h'
   have h1:(T n==s)=true:=by rw[zeG,h0]at h;simpa using h
   have h2:T n=s:=by simpa using h1
   subst h2;rw[zgd _ _ h0,if_pos rfl]
theorem zeW {w:World} {a0 a1 a2 a3 a4:Int} {aN:Option Addr} {cN:Nat} {aS:Option Addr} {cS:Nat} {a5 a6:Int} {bn:Nat} {LN LS:List (List D)} (hL:∀ ds∈LN,ShL za6 ds) (HA:Rvss w aN 7 LN 0) (hn:LN.length≤maxLen) (hLS:∀ ds∈LS,ShL zfC ds) (HS:Rvss w aS 6 LS 0) (hnS:LS.length≤maxLen) (hM:Mp w bn (mk (tn LN) LN.length)):
  Calls Try.prog 12 #[.agg #[.int .i64 a0,.int .i64 a1,.int .i64 a2,.int .i64 a3,.int .i64 a4,.slice aN LN.length cN,.slice aS LS.length cS,.int .i64 a5,.int .i64 a6],.map (some bn)] w (Nq (stE LN LS) w):=by
 refine zd8 a0 a1 a2 a3 a4 aN LN.length cN aS LS.length cS a5 a6 bn (mk (tn LN) LN.length) (tn LN) (sA w aN 7 1) (sA w aN 7 2) (sA w aN 7 3) (sA w aN 7 4) (sA w aN 7 5) (sN w aN 7 1) (sC w aN 7 1) (sN w aN 7 2) (sC w aN 7 2) (sN w aN 7 3) (sC w aN 7 3) (sN w aN 7 4) (sC w aN 7 4) (sN w aN 7 5) (sC w aN 7 5) (iv LN 6) (tn LS) (un LS) (s2 LS) (iv LS 3) (iv LS 4) (iv LS 5) (hdj LN) _ w hnS hn (hide hM) (hide fun k hk=>nm0 (hLS _ (zaQ hk))) (hide fun k hk h=>zia _ h) (hide fun k hk=>S.clStop (Keep.refl w) hLS HS k hk) (hide fun j hj=>S.clNode (Keep.refl w) hL HA j hj) (hide fun j hj k hk w' kw=>?_) (hide rfl);obtain⟨⟨r1,r2,r3,r4⟩,_⟩:=zgc hL HA j hj;have hl:(sub LN 1 j).length≤maxLen:=by
  have hs:=hL _ (zaQ hj);unfold sub
  generalize LN.getD j []=ds at hs ⊢;simp only[ShL,Sh1,za6]at hs;obtain⟨_,_,rfl,_,⟨_,_,rfl,⟨L1,rfl,hl,_⟩,_⟩⟩:=hs;exact hl
 rw[r1];have e:∀ nm,hdj LN (j:Int) nm=nI (sub LN 1 j) nm:=fun nm=>by unfold hdj;rw[Int.toNat_natCast]
 rw[e,e];exact⟨zeU _ r4 (Rvss.keep kw _ _ _ _ r3) hl,zeU _ r4 (Rvss.keep kw _ _ _ _ r3) hl⟩
def zge (a0 a1 a2 a3 a4:Int) (LN LS:List (List D)) (a5 a6:Int):Int×Int:=match whE a0 a1 a2 a3 a4 LN.length LS.length a5 a6 with
 |some c=>(c,0)
 |none=>match nsE LN with
  |some x=>x
  |none=>match stE LN LS with
   |some x=>x
   |none=>(0,0)
def zeX (ds:List D):Int×Int:=zge (fI (gt ds 0)) (fI (gt ds 1)) (fI (gt ds 2)) (fI (gt ds 3)) (fI (gt ds 4)) (fL (gt ds 5)) (fL (gt ds 6)) (fI (gt ds 7)) (fI (gt ds 8))
set_option maxHeartbeats 1000000 in
theorem zbM {w:World} {ds:List D} {us:List Value} (hs:ShL zdK ds) (hr:Rvs w ds us):Calls Try.prog 5 #[.agg us.toArray] w fun e w'=>e= .returned (.tuple #[.int .i64 (zeX ds).1,.int .i64 (zeX ds).2])∧Keep w w':=by
 simp only[ShL,Sh1,zdK]at hs;obtain⟨_,_,rfl,⟨a0,rfl,_,_⟩,⟨_,_,rfl,⟨a1,rfl,_,_⟩,⟨_,_,rfl,⟨a2,rfl,_,_⟩,⟨_,_,rfl,⟨a3,rfl,_,_⟩,⟨_,_,rfl,⟨a4,rfl,_,_⟩,⟨_,_,rfl,⟨LN,rfl,bN,qN⟩,⟨_,_,rfl,⟨LS,rfl,bS,qS⟩,⟨_,_,rfl,⟨a5,rfl,_,_⟩,⟨_,_,rfl,⟨a6,rfl,_,_⟩,rfl⟩⟩⟩⟩⟩⟩⟩⟩⟩:=hs;simp only[Rvs,Rv,dS,dI,dB]at hr;obtain⟨_,_,rfl,rfl,⟨_,_,rfl,rfl,⟨_,_,rfl,rfl,⟨_,_,rfl,rfl,⟨_,_,rfl,rfl,⟨_,_,rfl,⟨aN,cN,rfl,yN,mN⟩,⟨_,_,rfl,⟨aS,cS,rfl,yS,mS⟩,⟨_,_,rfl,rfl,⟨_,_,rfl,rfl,rfl⟩⟩⟩⟩⟩⟩⟩⟩⟩:=hr;show Calls _ _ #[.agg #[.int .i64 a0,.int .i64 a1,.int .i64 a2,.int .i64 a3,.int .i64 a4,.slice aN LN.length cN,.slice aS LS.length cS,.int .i64 a5,.int .i64 a6]] w fun e w'=>e= .returned (.tuple #[.int .i64 (zge a0 a1 a2 a3 a4 LN LS a5 a6).1,.int .i64 (zge a0 a1 a2 a3 a4 LN LS a5 a6).2])∧Keep w w'
 have TW:∀ w',Keep w w'→Calls Try.prog 11 #[.agg #[.int .i64 a0,.int .i64 a1,.int .i64 a2,.int .i64 a3,.int .i64 a4,.slice aN LN.length cN,.slice aS LS.length cS,.int .i64 a5,.int .i64 a6]] w' fun e w''=>e=En ((whE a0 a1 a2 a3 a4 LN.length LS.length a5 a6).map ern) (.tuple #[])∧Keep w' w'':=fun w' k=>zd4 a0 a1 a2 a3 a4 aN LN.length cN aS LS.length cS a5 a6 w' _ (hide rfl)
 have TN:∀ w',Keep w w'→Calls Try.prog 13 #[.slice aN LN.length cN] w' (Hq (nsE LN) (mk (tn LN) LN.length) w'):=fun w' k=>zeV qN (Rvss.keep k _ _ _ _ mN) bN
 have TS:∀ w' b,Keep w w'→Mp w' b (mk (tn LN) LN.length)→Calls Try.prog 12 #[.agg #[.int .i64 a0,.int .i64 a1,.int .i64 a2,.int .i64 a3,.int .i64 a4,.slice aN LN.length cN,.slice aS LS.length cS,.int .i64 a5,.int .i64 a6],.map (some b)] w' (Nq (stE LN LS) w'):=fun w' b k hM=>zeW qN (Rvss.keep k _ _ _ _ mN) bN qS (Rvss.keep k _ _ _ _ mS) bS hM
 unfold zge
 cases h0:whE a0 a1 a2 a3 a4 LN.length LS.length a5 a6 with
 |some c=>rw[h0]at TW;exact zfI a0 a1 a2 a3 a4 aN LN.length cN aS LS.length cS a5 a6 c w (hide TW)
 |none=>
  rw[h0]at TW;cases h1:nsE LN with
  |some x=>rw[h1]at TN;exact zfJ a0 a1 a2 a3 a4 aN LN.length cN aS LS.length cS a5 a6 x _ w (hide TW) (hide TN)
  |none=>
   rw[h1]at TN;cases h2:stE LN LS with
   |some x=>rw[h2]at TS;exact zfK a0 a1 a2 a3 a4 aN LN.length cN aS LS.length cS a5 a6 x _ w (hide TW) (hide TN) (hide TS)
   |none=>rw[h2]at TS;exact zfL a0 a1 a2 a3 a4 aN LN.length cN aS LS.length cS a5 a6 _ w (hide TW) (hide TN) (hide TS)
end V
end Go.Proofs.Ythbfohohelflnaa
