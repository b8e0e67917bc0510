/- The document's digits of a number. -/
import Derived.Test.YtfepanidippjlaaGreatDoorSGrp
import Derived.Lib.ItoaNum
import Derived.Laws.IdiomStrings
import Derived.Test.YtfepanidippjlaaGreatDoorLEnd
import Derived.Test.YtfepanidippjlaaGreatDoorSNum
import Derived.Test.YtfepanidippjlaaGreatDoorSFew
import Derived.Test.YtfepanidippjlaaGreatDoorLNtA
import Derived.Lib.ItoaLen
import Derived.Deep.DrawnRows
import Derived.Deep.RegionHeld
namespace Go.Proofs.YtfepanidippjlaaGreatDoor
open Go.RowKit
attribute [local go_sem ↓] Go.wp_at_zero Go.wp_at_succ
set_option linter.unusedVariables false
set_option linter.unusedSimpArgs false
set_option maxRecDepth 10000
namespace S
set_option maxHeartbeats 400000 in
theorem zio (a:Int) (w:World) (h1: -9223372036854775808≤a) (h2:a≤9223372036854775807):
  Calls Tryz.prog 85 #[.int .i64 a] w fun e w'=>e= .returned (.int .u64 (a.natAbs:Int))∧w'=w:=by
 by_cases ha:a<0
 ·go_enter Tryz.func85,Tryz.ntmps85;go_wp2;go_ret;exact⟨ze7 (by rw[IntKind.wrap_u64,IntKind.wrap_u64];omega),rfl⟩
 ·go_enter Tryz.func85,Tryz.ntmps85;go_wp2;go_ret;exact⟨ze7 (by omega),rfl⟩
theorem zeY (u:Nat) (W:World):∃ d:ByteArray,d.data.toList= [UInt8.ofNat (48+u % 10)]∧d.size=1∧(convert 29 9 (.slice (some ⟨W.heap.size,0,none⟩) 1 1)).run Tryz.prog (W.alloc (.cells #[.int .u8 (48+(u:Int) % 10)] 5))= .ok (.string d) (W.alloc (.cells #[.int .u8 (48+(u:Int) % 10)] 5)):=by
 refine⟨⟨#[UInt8.ofNat (48+u % 10)]⟩,rfl,rfl,?_⟩;have h:=run_convert_bytes_back (P:=Tryz.prog) (W.alloc (.cells #[.int .u8 (48+(u:Int) % 10)] 5)) 29 9 5 ⟨W.heap.size,0,none⟩ 1 [UInt8.ofNat (48+u % 10)] Tryz.underlying29 Tryz.underlying5 Tryz.underlying9 (fun j hj=>by
  have:j=0:=by simpa using hj
  subst this;have e:((UInt8.ofNat (48+u % 10)).toNat:Int)=48+(u:Int) % 10:=by
   rw[UInt8.toNat_ofNat'];omega
  rw[List.getElem_cons_zero,e];simp[Addr.add,go_sem])
 exact h
def zee (N u:Nat) (l:List UInt8):Prop:=(l= []∧u=N)∨(l≠ []∧Lib.decDigits N=if u=0 then l else Lib.decDigits u++l)
theorem zf2 {N u:Nat} {l:List UInt8} (h:zee N u l) (hu:l= []∨¬u=0):zee N (u / 10) (UInt8.ofNat (48+u % 10) :: l):=by
 refine .inr ⟨by simp,?_⟩;have key:∀ v,Lib.decDigits v=if v / 10=0 then [UInt8.ofNat (48+v % 10)]else Lib.decDigits (v / 10)++ [UInt8.ofNat (48+v % 10)]:=by
  intro v
  rw[Lib.decDigits];by_cases hv:v<10
  ·rw[dif_pos hv,if_pos (by omega),Nat.mod_eq_of_lt hv]
  ·rw[dif_neg hv,if_neg (by omega)]
 rcases h with ⟨rfl,rfl⟩|⟨h1,h2⟩
 ·exact key u
 ·have hu':¬u=0:=by rcases hu with h|h;exact absurd h h1;exact h
  rw[h2,if_neg hu',key u];by_cases h10:u / 10=0
  ·simp[h10]
  ·simp[h10]
theorem zjF {N:Nat} {l:List UInt8} (h:zee N 0 l) (hl:l≠ []):l=Lib.decDigits N:=by
 rcases h with ⟨h1,_⟩|⟨_,h2⟩
 ·exact absurd h1 hl
 ·rw[h2];simp
theorem zeC {s:ByteArray} {l:List UInt8} (h:s.data.toList=l):s=⟨l.toArray⟩:=by
 obtain⟨a⟩:=s;simp at h;rw[← h]
theorem zdT (a b:ByteArray):(a++b).data.toList=a.data.toList++b.data.toList:=by simp
theorem zip {s t:ByteArray} (h:s=t):Ending.returned (.string s)= .returned (.string t):=by rw[h]
def zcU:Value→Nat
 | .string s=>if s.size=0 then 1 else 0
 | _=>0
theorem ziq (bs:ByteArray) (i:Nat) (r:List UInt8) (h:bs.size≤i):ByteArray.toList.loop bs i r=r.reverse:=by
 unfold ByteArray.toList.loop
 rw[if_neg (by omega)]
theorem zgw {s:ByteArray} (h:s.size=0):s.toList.isEmpty=true:=by
 unfold ByteArray.toList
 rw[ziq s 0 [] (by omega)]
 rfl
theorem zkl (bs:ByteArray):∀(k i:Nat) (r:List UInt8),bs.size - i=k→r≠ []→ByteArray.toList.loop bs i r≠ []
 |0,i,r,h,hr=>by
  rw[ziq bs i r (by omega)];simpa using hr
 |k+1,i,r,h,hr=>by
  unfold ByteArray.toList.loop
  rw[if_pos (by omega)];exact zkl bs k (i+1) _ (by omega) (by simp)
theorem zgx {s:ByteArray} (h:1≤s.size):s.toList.isEmpty=false:=by
 have h2:s.toList≠ []:=by
  unfold ByteArray.toList ByteArray.toList.loop
  rw[if_pos (by omega)];exact zkl s (s.size - 1) 1 _ rfl (by simp)
 cases hh:s.toList with
 |nil=>exact absurd hh h2
 |cons a b=>rfl
theorem zdi {s:ByteArray} (h:1≤s.size):zcU (.string s)=0:=by
 show(if s.size=0 then 1 else 0)=0;rw[if_neg (by omega)]
theorem zfp {s:ByteArray} (h:s.size=0):zcU (.string s)=1:=by
 show(if s.size=0 then 1 else 0)=1;rw[if_pos h]
theorem zgy {s:ByteArray} (h:s=⟨#[]⟩):s.data.toList= []:=by rw[h]
theorem zgz {s:ByteArray} (h:¬s=⟨#[]⟩):s.data.toList≠ []∧1≤s.size:=by
 have h1:s.data.toList≠ []:=fun h2=>h (by rw[zeC h2])
 refine⟨h1,?_⟩;rcases Nat.eq_zero_or_pos s.size with h2|h2
 ·refine absurd (List.length_eq_zero_iff.1 ?_) h1;rw[Array.length_toList];exact h2
 ·exact h2
theorem zir {P:Program} {t:TypeId} {s:ByteArray} (hs:2 * s.size≤9223372036854775810) (W:World):(binOp .add t (.string ⟨#[45]⟩) (.string s)).run P W= .ok (.string (⟨#[45]⟩++s)) W:=by
 have e:(⟨#[45]⟩:ByteArray).size=1:=rfl;obtain⟨m,hm⟩:∃ m:ByteArray,m=⟨#[45]⟩:=⟨_,rfl⟩;rw[← hm]at e ⊢;have:¬m.size+s.size > 9223372036854775807:=by omega
 simp[go_sem,this]
set_option maxHeartbeats 1000000 in
theorem zeZ (n:Int) (N:Nat) (w:World) (hN:N≤9223372036854775808)
  (HT:Hid (Lib.itoa n=if n<0 then 45 :: Lib.decDigits N else Lib.decDigits N))
  (T:Hid (∀ w,Calls Tryz.prog 85 #[.int .i64 n] w fun e w'=>e= .returned (.int .u64 (N:Int))∧w'=w)):
  Calls Tryz.prog 45 #[.int .i64 n] w fun e w'=>e= .returned (.string ⟨(Lib.itoa n).toArray⟩)∧Keep w w':=by
 go_enter Tryz.func45,Tryz.ntmps45;go_wp2_with fail
 (refine((uq T) _).mono ?_;rintro e w ⟨rfl,rfl⟩);go_wp2_with fail
 go_loopw [3,4] (fun uv sv wr=>∃(u:Nat) (s:ByteArray),uv= .int .u64 (u:Int)∧sv= .string s∧u≤9223372036854775808∧(1≤u→2 * s.size+u≤N)∧2 * s.size≤N+2∧Hid (zee N u s.data.toList)∧Keep w wr) (fun uv sv _=>2 * (intOf uv).toNat+zcU sv)
 case atStart=>exact⟨N,⟨#[]⟩,rfl,rfl,hN,fun _=>by simp[ByteArray.size],by simp[ByteArray.size],hide (.inl ⟨rfl,rfl⟩),Keep.refl _⟩
 case round=>
  obtain⟨u,s,rfl,rfl,hu,hb1,hb2,HI,hk⟩:=hrel;by_cases h0:s=⟨#[]⟩
  ·obtain⟨d,hd1,hd2,hcv⟩:=zeY u wr;have HD1:=hide hd1;have HS0:=hide h0;have hs0:s.size=0:=by rw[h0];rfl
   have hse:=zgw hs0;have HIN:Hid (zee N (u / 10) (d++s).data.toList):=by
    rw[zdT,hd1];exact hide (zf2 (uq HI) (.inl (zgy h0)))
   have hsz:(d++s).size=d.size+s.size:=ByteArray.size_append;have HSZ:=hide hsz;clear h0 hd1 HI hsz;go_wp2;go_roundw
   case rel=>exact⟨u / 10,d++s,by go_num,rfl,by omega,fun h=>by rw[uq HSZ];have:=hb1 (by omega);omega,by rw[uq HSZ];omega,HIN,hk.alloc _⟩
   case measure=>
    have h1:=uq HSZ;have:zcU (.string (d++s))=0:=zdi (by omega);have h2:zcU (.string s)=1:=zfp hs0;simp[intOf,this,h2]<;>omega
  ·obtain⟨hne,hs1⟩:=zgz h0;have hse:=zgx hs1;have HNE:=hide hne;clear h0 hne;by_cases hu0:u=0
   ·subst hu0;have hfin:=zjF (uq HI) (uq HNE);have HFIN:=hide hfin;clear hfin HI;by_cases hneg:n<0
    ·have hlast:(⟨#[45]⟩++s:ByteArray)=⟨(Lib.itoa n).toArray⟩:=by
      refine zeC ?_;rw[zdT,uq HFIN,uq HT,if_pos hneg]
      rfl
     have HL:=hide hlast;clear hlast;have hadd:=zir (P:=Tryz.prog) (t:=9) (s:=s) (by omega);go_wp2;go_ret;exact⟨zip (uq HL),hk⟩
    ·have hlast:s=⟨(Lib.itoa n).toArray⟩:=by
      refine zeC ?_;rw[uq HFIN,uq HT,if_neg hneg]
     have HL:=hide hlast;clear hlast;go_wp2;go_ret;exact⟨zip (uq HL),hk⟩
   ·obtain⟨d,hd1,hd2,hcv⟩:=zeY u wr;have hu1:1≤u:=by omega
    have hb1':=hb1 hu1;have hug:(0:Int)<(u:Int):=by omega
    have HIN:Hid (zee N (u / 10) (d++s).data.toList):=by
     rw[zdT,hd1];exact hide (zf2 (uq HI) (.inr hu0))
    have hsz:(d++s).size=d.size+s.size:=ByteArray.size_append;have HSZ:=hide hsz;clear hd1 HI hsz;go_wp2;go_roundw
    case rel=>exact⟨u / 10,d++s,by go_num,rfl,by omega,fun h=>by rw[uq HSZ];omega,by rw[uq HSZ];omega,HIN,hk.alloc _⟩
    case measure=>
     have h1:=uq HSZ;have:zcU (.string (d++s))=0:=zdi (by omega);have h2:zcU (.string s)=0:=zdi hs1;simp[intOf,this,h2]<;>omega
theorem zis (n:Int):Lib.itoa n=if n<0 then 45 :: Lib.decDigits n.natAbs else Lib.decDigits n.natAbs:=by
 unfold Lib.itoa
 by_cases h:n<0
 ·rw[if_pos h,if_pos h]
 ·rw[if_neg h,if_neg h,show n.toNat=n.natAbs by omega]
theorem zfq (n:Int) (w:World) (h1: -9223372036854775808≤n) (h2:n≤9223372036854775807):
  Calls Tryz.prog 45 #[.int .i64 n] w fun e w'=>e= .returned (.string ⟨(Lib.itoa n).toArray⟩)∧Keep w w':=
 zeZ n n.natAbs w (by omega) (hide (zis n)) (hide fun w=>zio n w h1 h2)
end S
namespace S
set_option maxHeartbeats 1000000 in
theorem zmS (n:Int) (s:ByteArray) (w:World) (T1:Hid (Calls Tryz.prog 45 #[.int .i64 n] w fun e w'=>e= .returned (.string s)∧Keep w w')):
  Calls Tryz.prog 19 #[.int .i64 n] w fun e w'=>e= .returned (.string s)∧Keep w w':=by
 go_enter Tryz.func19,Tryz.ntmps19;go_wp2_with fail
 (refine(uq T1).mono ?_;rintro e w2 ⟨rfl,hk⟩;have HK:=hide hk;clear hk);go_wp2_with fail
 go_ret;exact⟨rfl,uq HK⟩
theorem zit (n:Int) (w:World) (h1: -9223372036854775808≤n) (h2:n≤9223372036854775807):Calls Tryz.prog 19 #[.int .i64 n] w fun e w'=>e= .returned (.string (sv (dg n)))∧Keep w w':=zmS n _ w (hide (zfq n w h1 h2))
set_option maxHeartbeats 2000000 in
theorem zjG (a b:Int) (s1 s2:ByteArray) (w:World) (z1:s1.size≤100) (z2:s2.size≤100)
  (T1:Hid (∀ w',Calls Tryz.prog 19 #[.int .i64 a] w' fun e w''=>e= .returned (.string s1)∧Keep w' w''))
  (T2:Hid (∀ w',Calls Tryz.prog 19 #[.int .i64 b] w' fun e w''=>e= .returned (.string s2)∧Keep w' w'')):
  Calls Tryz.prog 20 #[.agg #[.int .i64 a,.int .i64 b]] w fun e w'=>e= .returned (.string ((s1++⟨#[47]⟩)++s2))∧Keep w w':=by
 have hno1:¬9223372036854775807<s1.size+1:=by omega
 have hno2:¬9223372036854775807<s1.size+1+s2.size:=by omega
 have hx:=heap_alloc_new w (.cells #[.int .i64 a,.int .i64 b] 23);have HK0:=hide ((Keep.refl w).alloc (.cells #[.int .i64 a,.int .i64 b] 23));go_enter Tryz.func20,Tryz.ntmps20
 go_upto_region 1 with fail
 generalize w.alloc (.cells #[.int .i64 a,.int .i64 b] 23)=w0 at hx HK0 ⊢;generalize w.heap.size=gb at hx ⊢;have HSX:Hid (∀ w',Keep w0 w'→w'.cell? ⟨gb,0,none⟩=some (.int .i64 a)∧w'.cell? ⟨gb,1,none⟩=some (.int .i64 b)):=hide (fun w' k9=>by have h:=k9.block gb (Array.getElem?_eq_some_iff.1 hx).1;rw[hx]at h;refine⟨?_,?_⟩<;>simp[World.cell?,h]);clear hx;refine wp_region_held_drew (S:=fun w'=>w'.cell? ⟨gb,0,none⟩=some (.int .i64 a)∧w'.cell? ⟨gb,1,none⟩=some (.int .i64 b)) (by kernel_rfl) (by exact(uq HSX) _ (Keep.refl w0).drew) (fun hHeld=>?_);refine tkk 0 3 hHeld ?_;try simp only[Act.put,Ya,Yb,Yc]
 refine tkk 1 4 hHeld ?_;try simp only[Act.put,Ya,Yb,Yc]
 refine tkk 4 7 hHeld ?_;try simp only[Act.put,Ya,Yb,Yc]
 refine tkk 5 8 hHeld ?_;try simp only[Act.put,Ya,Yb,Yc]
 refine zaC 2 (fun K hK=>?_);go_simp;clear hHeld;(refine((uq T1) _).mono ?_;rintro e w2 ⟨rfl,hk⟩;have HX1:=hide ((Keep.refl w0).drew.trans hk);clear hk);try go_wp2_with fail
 refine hK.out _ _ ?_ (fun hHeld=>?_)
 ·exact(uq HSX) _ (uq HX1)
 clear hK K;try simp only[Act.put,Ya,Yb,Yc]
 refine tkk 3 6 hHeld ?_;try simp only[Act.put,Ya,Yb,Yc]
 refine zaC 6 (fun K hK=>?_);go_simp;clear hHeld;(refine((uq T2) _).mono ?_;rintro e w3 ⟨rfl,hk⟩;have HX2:=hide ((uq HX1).trans hk);clear hk);try go_wp2_with fail
 refine hK.out _ _ ?_ (fun hHeld=>?_)
 ·exact(uq HSX) _ (uq HX2)
 clear hK K;try simp only[Act.put,Ya,Yb,Yc]
 refine tkk 7 10 hHeld ?_;try simp only[Act.put,Ya,Yb,Yc]
 refine tkk 8 2 hHeld ?_;try simp only[Act.put,Ya,Yb,Yc]
 refine wpAnyH_done (by kernel_rfl) ?_ _;clear hHeld;go_wp2_with fail
 go_ret;exact⟨rfl,(uq HK0).trans (uq HX2)⟩
theorem ziu (a b:Int) (w:World) (h1:grB a=true) (h2:grB b=true):Calls Tryz.prog 20 #[.agg #[.int .i64 a,.int .i64 b]] w fun e w'=>e= .returned (.string (sv (dg a++(47 :: dg b))))∧Keep w w':=by
 have k1:=Lib.itoa_length_le a (by have:=of_decide_eq_true h1;omega) (by have:=of_decide_eq_true h1;omega);have k2:=Lib.itoa_length_le b (by have:=of_decide_eq_true h2;omega) (by have:=of_decide_eq_true h2;omega);have g1:=of_decide_eq_true h1;have g2:=of_decide_eq_true h2;have e:sv (dg a++(47 :: dg b))=(sv (dg a)++⟨#[47]⟩)++sv (dg b):=by
  have:(⟨#[47]⟩:ByteArray)=sv [47]:=rfl;rw[this,zed,zed];simp
 rw[e];have sz:∀ l:List UInt8,(sv l).size=l.length:=fun l=>by simp[sv,ByteArray.size]
 exact zjG a b (sv (dg a)) (sv (dg b)) w (by rw[sz];unfold dg;omega) (by rw[sz];unfold dg;omega) (hide fun w'=>zit a w' (by omega) (by omega)) (hide fun w'=>zit b w' (by omega) (by omega))
def ls:List (List UInt8)→List UInt8
 | []=> []
 |s :: l=>s++l.flatMap (fun x=>44 :: 32 :: x)
theorem zmT (l:List (List UInt8)) (x:List UInt8):ls (l++ [x])=if l= []then x else ls l++(44 :: 32 :: x):=by
 cases l with
 |nil=>simp[ls]
 |cons s l=>simp[ls]
theorem zad (l:List UInt8):(sv l).size=l.length:=by simp[sv,ByteArray.size]
set_option maxHeartbeats 4000000 in
theorem zgA (a:Option Addr) (n cap:Nat) (X:Nat→List UInt8) (w:World) (hn:n≤1000)
  (HC:Hid (∀ k,k<n→∃ ad,a=some ad∧w.cell? (ad.add k)=some (.string (sv (X k))))) (HZ:Hid (∀ k,k<n→(X k).length≤24)):
  Calls Tryz.prog 46 #[.slice a n cap] w fun e w'=>e= .returned (.string (sv (ls ((List.range n).map X))))∧w'=w:=by
 go_enter Tryz.func46,Tryz.ntmps46;go_wp2_with fail
 go_loopw [3,4] (fun vs vi wr=>∃(k:Nat) (o:List UInt8) (S:ByteArray),k≤n∧vi= .int .i64 (k:Int)∧vs= .string S∧Hid (sv o=S)∧wr=w∧Hid (o=ls ((List.range k).map X))∧Hid (o.length≤26 * k)) (fun vs vi _=>n - (intOf vi).toNat)
 case atStart=>exact⟨0,[],_,Nat.zero_le _,rfl,rfl,hide rfl,rfl,hide rfl,hide (Nat.zero_le _)⟩
 case round=>
  obtain⟨k,o,S,hk,rfl,rfl,HS,rfl,HO,HLn⟩:=hrel;by_cases hlt:k<n
  ·have li:(k:Int)<(n:Int):=by omega
   have hz:=(uq HZ) k hlt;have hl:=uq HLn;have hS:S.size≤26000:=by rw[← uq HS,zad];omega
   obtain⟨ad,rfl,e0⟩:=(uq HC) k hlt;obtain⟨Y,HY⟩:∃ Y,Hid (sv (X k)=Y):=⟨_,hide rfl⟩;have hY:Y.size≤24:=by rw[← uq HY,zad];exact hz
   rw[uq HY]at e0;have HO2:=hide (zmT ((List.range k).map X) (X k));have HR:Hid ((List.range (k+1)).map X=(List.range k).map X++ [X k]):=hide (by rw[List.range_succ,List.map_append];rfl);have HLX:=hide hz;clear hl hz;by_cases h0:k=0
   ·subst h0;have e00:ad.add 0=ad:=by simp[Addr.add]
    rw[e00]at e0;have n1:¬9223372036854775807<S.size+Y.size:=by omega
    clear hS hY;go_wp2_with fail
    go_roundw
    case rel=>exact⟨1,o++X 0,_,hlt,by go_num,rfl,hide (by rw[← zed,uq HS,uq HY]),by first|rfl|trivial,hide (by have h1:=uq HO;have h2:=uq HO2;have h3:=uq HR;rw[h3,h2];simp[h1,ls]),hide (by have h1:=uq HO;have:=uq HLX;rw[h1];simp[ls];omega)⟩
    case measure=>simp[intOf];omega
   ·have g0:(0:Int)<(k:Int):=by omega
    have n1:¬9223372036854775807<S.size+2:=by omega
    have n2:¬9223372036854775807<S.size+2+Y.size:=by omega
    clear hS hY;go_wp2_with fail
    go_roundw
    case rel=>
     refine⟨k+1,o++(44 :: 32 :: X k),_,hlt,by go_num,rfl,hide ?_,by first|rfl|trivial,hide ?_,hide ?_⟩
     ·have:(⟨#[44,32]⟩:ByteArray)=sv [44,32]:=rfl;rw[this,← uq HS,← uq HY,zed,zed];simp
     ·have h1:=uq HO;have h2:=uq HO2;have h3:=uq HR;rw[h3,h2,if_neg (by simp;omega),h1]
     ·have:=uq HLn;have:=uq HLX;simp;omega
    case measure=>simp[intOf];omega
  ·have li:¬(k:Int)<(n:Int):=by omega
   have e:k=n:=by omega
   subst e;go_wp2_with fail
   go_ret;refine⟨?_,rfl⟩;rw[← uq HO,uq HS]
   rfl
end S
end Go.Proofs.YtfepanidippjlaaGreatDoor
