/- Rows of groups held against one another: the document's. -/
import Derived.Test.YthceiikgecoimaaGreatDoorMPh
import Derived.Test.YthceiikgecoimaaGreatDoorLVal
namespace Go.Proofs.YthceiikgecoimaaGreatDoor
open Go.RowKit
attribute [local go_sem ↓] Go.wp_at_zero Go.wp_at_succ
set_option linter.unusedVariables false
set_option linter.unusedSimpArgs false
set_option maxRecDepth 10000
set_option maxHeartbeats 8000000 in
theorem zgY (a b:Option Addr) (n m ca cb:Nat) (RA SA:Nat->Option Addr) (RN RC SN SC:Nat->Nat) (FA FB:Nat->Nat->Bool) (UA VA:Nat->Nat->Option Addr) (UN UC VN VC:Nat->Nat->Nat) (B E:Nat->Nat->Bool) (r:Bool) (w:World) (hn:n<=100000) (hm:m<=100000)
  (HR:Hid (∀ i,i<n->RN i<=100000)) (HS:Hid (∀ i,i<m->SN i<=100000))
  (HA:Hid (∀ i,i<n->∃ ad,a=some ad/\w.cell? (ad.add i)=some (.slice (RA i) (RN i) (RC i))))
  (HB:Hid (∀ i,i<m->∃ ad,b=some ad/\w.cell? (ad.add i)=some (.slice (SA i) (SN i) (SC i))))
  (HA2:Hid (∀ i,i<n->∀ k,k<RN i->∃ ad,RA i=some ad/\w.cell? (ad.add (k * 2))=some (.bool (FA i k))/\w.cell? ⟨(ad.add (k * 2)).block,(ad.add (k * 2)).off+1,none⟩=some (.slice (UA i k) (UN i k) (UC i k))))
  (HB2:Hid (∀ i,i<m->∀ k,k<SN i->∃ ad,SA i=some ad/\w.cell? (ad.add (k * 2))=some (.bool (FB i k))/\w.cell? ⟨(ad.add (k * 2)).block,(ad.add (k * 2)).off+1,none⟩=some (.slice (VA i k) (VN i k) (VC i k))))
  (HN:Hid (∀ i k,i<n->i<m->k<RN i->k<SN i->∀ w',Keep w w'->Calls Tryz.prog 61 #[.slice (UA i k) (UN i k) (UC i k),.slice (VA i k) (VN i k) (VC i k)] w' λe w''=>e= .returned (.bool (B i k))/\Keep w' w''))
  (HE:Hid (∀ i k,((FA i k==FB i k)&&B i k)=E i k))
  (H0:Hid (n≠m->r=false)) (H1:Hid (n=m->∀ i,i<n->RN i≠SN i->r=false)) (H3:Hid (n=m->∀ i,i<n->RN i=SN i->∀ k,k<RN i->E i k=false->r=false)) (H2:Hid (n=m->(∀ i,i<n->RN i=SN i/\∀ k,k<RN i->E i k=true)->r=true)):
  Calls Tryz.prog 28 #[.slice a n ca,.slice b m cb] w λe w'=>e= .returned (.bool r)/\Keep w w':=by
 by_cases hnm:n=m
 ·subst hnm;replace H1:=zh ((uq H1) rfl);replace H2:=zh ((uq H2) rfl);replace H3:=zh ((uq H3) rfl);go_enter Tryz.func28,Tryz.ntmps28;go_wp2_with fail
  go_loopw [5] (λv5 wr=>∃ i:Nat,i<=n/\v5= .int .i64 (i:Int)/\Hid (Keep w wr)/\Hid (∀ j,j<i->RN j=SN j/\∀ k,k<RN j->E j k=true)) (λv5 _=>n - (intOf v5).toNat)
  case atStart=>exact⟨0,Nat.zero_le _,rfl,zh (zk _),zh λj hj=>by omega⟩
  case round=>
   obtain⟨i,hi,rfl,HK,HI⟩:=hrel;by_cases hlt:i<n
   ·have li:(i:Int)<(n:Int):=by omega
    have lz:(0:Int)<=(i:Int):=by omega
    obtain⟨ad,rfl,p0⟩:=(uq HA) i hlt;obtain⟨bd,rfl,q0⟩:=(uq HB) i hlt;have hrl:=(uq HR) i hlt;have hsl:=(uq HS) i hlt;have HA3:=zh ((uq HA2) i hlt);have HB3:=zh ((uq HB2) i hlt);have HN3:=zh ((uq HN) i);have HE3:=zh ((uq HE) i);have HF:=zh ((uq H1) i hlt);have HG:=zh ((uq H3) i hlt);have HX:Hid ((RN i=SN i/\∀ k,k<RN i->E i k=true)->∀ j,j<i+1->RN j=SN j/\∀ k,k<RN j->E j k=true):=λh j hj=>(Nat.lt_succ_iff_lt_or_eq.1 hj).elim ((uq HI) j) (λe=>e▸h)
    have HLT:=zh hlt;generalize RA i=ra at p0 HA3;generalize RN i=rn at p0 hrl HA3 HN3 HF HG HX;generalize RC i=rc at p0;generalize SA i=sa at q0 HB3;generalize SN i=sn at q0 hsl HB3 HN3 HF HG HX;generalize SC i=sc at q0;generalize FA i=fa at HA3 HE3;generalize FB i=fb at HB3 HE3;generalize UA i=ua at HA3 HN3;generalize UN i=un at HA3 HN3;generalize UC i=uc at HA3 HN3;generalize VA i=va at HB3 HN3;generalize VN i=vn at HB3 HN3;generalize VC i=vc at HB3 HN3;generalize B i=bb at HN3 HE3;generalize E i=ee at HE3 HG HX;have HC:Hid (∀ w',Keep w w'->w'.cell? (ad.add i)=some (.slice ra rn rc)/\w'.cell? (bd.add i)=some (.slice sa sn sc)):=λw' hk=>⟨Keep.cell' hk p0,Keep.cell' hk q0⟩
    clear p0 q0
    go_upto_region 6 with fail
    by_cases hrs:rn=sn
    ·subst hrs;have hz:((rn:Int) !=(rn:Int))=false:=by simp
     refine wp_region_held_drew (S:=(λw'=>w'.cell? (ad.add i)=some (.slice ra rn rc)/\w'.cell? (bd.add i)=some (.slice sa rn sc))) (by kernel_rfl) (by exact uq HC _ ((uq HK).trans ((zk _).drew))) (λzH=>?_);refine tk6 0 18 1 19 2 20 3 21 4 22 5 23 zH ?_;try simp only[Yq]
     refine tk6 6 24 7 25 8 26 9 27 10 28 11 29 zH ?_;try simp only[Yq]
     refine tkk 12 30 zH ?_;try simp only[Yq]
     refine wpAnyH_done (by kernel_rfl) ?_ _;clear zH;have HK0:=zh (uq HK).drew;clear hz;generalize wr.drew=wd at HK0 |-;clear HK;go_wp2_with fail
     go_loopw [6] (λv6 wr=>∃ k:Nat,k<=rn/\v6= .int .i64 (k:Int)/\Hid (Keep w wr)/\Hid (∀ j,j<k->ee j=true)) (λv6 _=>rn - (intOf v6).toNat)
     case atStart=>exact⟨0,Nat.zero_le _,rfl,HK0,zh λj hj=>by omega⟩
     case round=>
      obtain⟨k,hk,rfl,HK,HJ⟩:=hrel;obtain⟨cA,cB⟩:=(uq HC) _ (uq HK);by_cases hkt:k<rn
      ·have lk:(k:Int)<(rn:Int):=by omega
       have lkz:(0:Int)<=(k:Int):=by omega
       obtain⟨rd,rfl,p0,p1⟩:=(uq HA3) k hkt;obtain⟨sd,rfl,q0,q1⟩:=(uq HB3) k hkt;have HNk:=zh ((uq HN3) k (uq HLT) (uq HLT) hkt hkt);have he:=(uq HE3) k;have HQ:=zh ((uq HG) (by simp) k hkt);have HY:Hid (ee k=true->∀ j,j<k+1->ee j=true):=λh j hj=>(Nat.lt_succ_iff_lt_or_eq.1 hj).elim ((uq HJ) j) (λe=>e▸h)
       generalize fa k=f1 at p0 he;generalize fb k=f2 at q0 he;generalize ua k=u1 at p1 HNk;generalize un k=u2 at p1 HNk;generalize uc k=u3 at p1 HNk;generalize va k=v1 at q1 HNk;generalize vn k=v2 at q1 HNk;generalize vc k=v3 at q1 HNk;generalize bb k=bk at he HNk;generalize ee k=ek at he HQ HY;have HD:Hid (∀ w',Keep w w'->w'.cell? (ad.add i)=some (.slice (some rd) rn rc)/\w'.cell? (bd.add i)=some (.slice (some sd) rn sc)/\w'.cell? (rd.add (k * 2))=some (.bool f1)/\w'.cell? ⟨(rd.add (k * 2)).block,(rd.add (k * 2)).off+1,none⟩=some (.slice u1 u2 u3)/\w'.cell? (sd.add (k * 2))=some (.bool f2)/\w'.cell? ⟨(sd.add (k * 2)).block,(sd.add (k * 2)).off+1,none⟩=some (.slice v1 v2 v3)):=λw' hk=>⟨((uq HC) w' hk).1,((uq HC) w' hk).2,Keep.cell' hk p0,Keep.cell' hk p1,Keep.cell' hk q0,Keep.cell' hk q1⟩
       clear p0 p1 q0 q1
       go_upto_region 11 with fail
       by_cases hf:f1=f2
       ·subst hf;have hz:(f1 !=f1)=false:=by simp
        have hek:ek=bk:=by rw[<- he];simp
        subst hek;clear he;cases ek with
        |true=>
         refine wp_region_held_drew (S:=(λw'=>w'.cell? (ad.add i)=some (.slice (some rd) rn rc)/\w'.cell? (bd.add i)=some (.slice (some sd) rn sc)/\w'.cell? (rd.add (k * 2))=some (.bool f1)/\w'.cell? ⟨(rd.add (k * 2)).block,(rd.add (k * 2)).off+1,none⟩=some (.slice u1 u2 u3)/\w'.cell? (sd.add (k * 2))=some (.bool f1)/\w'.cell? ⟨(sd.add (k * 2)).block,(sd.add (k * 2)).off+1,none⟩=some (.slice v1 v2 v3))) (by kernel_rfl) (by exact uq HD _ ((uq HK).trans ((zk _).drew))) (λzH=>?_);refine tk6 0 41 1 42 2 43 3 44 4 45 5 46 zH ?_;try simp only[Yq]
         refine tk6 6 47 7 48 8 49 9 50 10 51 11 52 zH ?_;try simp only[Yq]
         refine tk6 12 53 13 54 14 55 15 56 16 57 17 58 zH ?_;try simp only[Yq]
         refine tk6 18 59 19 60 20 61 21 62 22 63 23 64 zH ?_;try simp only[Yq]
         refine tk6 24 65 25 66 26 67 27 68 28 69 29 70 zH ?_;try simp only[Yq]
         refine tk6 30 71 31 72 32 73 33 74 34 75 35 76 zH ?_;try simp only[Yq]
         refine tk2 36 77 37 78 zH ?_;try simp only[Yq]
         refine zap 38 (λK hK=>?_);go_simp;clear zH;(refine((uq HNk) _ ((uq HK).trans ((zk _).drew))).mono ?_;rintro e w2 ⟨rfl,hk2⟩);try go_wp2_with fail
         refine hK.out _ _ ?_ (λzH=>?_)
         ·exact uq HD _ ((uq HK).trans (((zk _).drew).trans hk2))
         clear hK K;try simp only[Yq]
         refine tk2 39 80 40 81 zH ?_;try simp only[Yq]
         refine wpAnyH_done (by kernel_rfl) ?_ _;clear zH;go_wp2_with fail
         go_roundw
         case rel=>exact⟨k+1,hkt,by go_num,zh (((uq HK).drew).trans hk2),zh ((uq HY) (by simp))⟩
         case measure=>simp[intOf];omega
        |false=>
         have hr:=(uq HQ) rfl;subst hr;refine wp_region_held_drew (S:=(λw'=>w'.cell? (ad.add i)=some (.slice (some rd) rn rc)/\w'.cell? (bd.add i)=some (.slice (some sd) rn sc)/\w'.cell? (rd.add (k * 2))=some (.bool f1)/\w'.cell? ⟨(rd.add (k * 2)).block,(rd.add (k * 2)).off+1,none⟩=some (.slice u1 u2 u3)/\w'.cell? (sd.add (k * 2))=some (.bool f1)/\w'.cell? ⟨(sd.add (k * 2)).block,(sd.add (k * 2)).off+1,none⟩=some (.slice v1 v2 v3))) (by kernel_rfl) (by exact uq HD _ ((uq HK).trans ((zk _).drew))) (λzH=>?_);refine tk6 0 41 1 42 2 43 3 44 4 45 5 46 zH ?_;try simp only[Yq]
         refine tk6 6 47 7 48 8 49 9 50 10 51 11 52 zH ?_;try simp only[Yq]
         refine tk6 12 53 13 54 14 55 15 56 16 57 17 58 zH ?_;try simp only[Yq]
         refine tk6 18 59 19 60 20 61 21 62 22 63 23 64 zH ?_;try simp only[Yq]
         refine tk6 24 65 25 66 26 67 27 68 28 69 29 70 zH ?_;try simp only[Yq]
         refine tk6 30 71 31 72 32 73 33 74 34 75 35 76 zH ?_;try simp only[Yq]
         refine tk2 36 77 37 78 zH ?_;try simp only[Yq]
         refine zap 38 (λK hK=>?_);go_simp;clear zH;(refine((uq HNk) _ ((uq HK).trans ((zk _).drew))).mono ?_;rintro e w2 ⟨rfl,hk2⟩);try go_wp2_with fail
         refine hK.out _ _ ?_ (λzH=>?_)
         ·exact uq HD _ ((uq HK).trans (((zk _).drew).trans hk2))
         clear hK K;try simp only[Yq]
         refine tk2 39 80 40 81 zH ?_;try simp only[Yq]
         refine wpAnyH_done (by kernel_rfl) ?_ _;clear zH;go_wp2_with fail
         go_ret;exact⟨rfl,((uq HK).drew).trans hk2⟩
       ·have hek:ek=false:=by rw[<- he];simp[hf]
        have hr:=(uq HQ) hek;subst hr;have hf2:f2= !f1:=by cases f1<;>cases f2<;>simp_all
        subst hf2;clear he hf;cases f1 with
        |false=>
         simp only[Bool.not_true,Bool.not_false]at HD;refine wp_region_held_drew (S:=(λw'=>w'.cell? (ad.add i)=some (.slice (some rd) rn rc)/\w'.cell? (bd.add i)=some (.slice (some sd) rn sc)/\w'.cell? (rd.add (k * 2))=some (.bool false)/\w'.cell? ⟨(rd.add (k * 2)).block,(rd.add (k * 2)).off+1,none⟩=some (.slice u1 u2 u3)/\w'.cell? (sd.add (k * 2))=some (.bool true)/\w'.cell? ⟨(sd.add (k * 2)).block,(sd.add (k * 2)).off+1,none⟩=some (.slice v1 v2 v3))) (by kernel_rfl) (by exact uq HD _ ((uq HK).trans ((zk _).drew))) (λzH=>?_);refine tk6 0 41 1 42 2 43 3 44 4 45 5 46 zH ?_;try simp only[Yq]
         refine tk6 6 47 7 48 8 49 9 50 10 51 11 52 zH ?_;try simp only[Yq]
         refine tk6 12 53 13 54 14 55 15 56 16 57 17 58 zH ?_;try simp only[Yq]
         refine tk2 18 59 19 60 zH ?_;try simp only[Yq]
         refine wpAnyH_take (i:=20) (v:=undef) rfl (by kernel_rfl) (by kernel_rfl) (by kernel_rfl) (λ_ _ _ h=>h) (Or.inr ⟨by rfl,rfl⟩) zH ?_;show wpAnyH _ _ _ _ _ _ _ (Act.put _ (some 61) _) _;try simp only[Yq]
         refine wpAnyH_take (i:=21) (v:=undef) rfl (by kernel_rfl) (by kernel_rfl) (by kernel_rfl) (λ_ _ _ h=>h) (Or.inr ⟨by rfl,rfl⟩) zH ?_;show wpAnyH _ _ _ _ _ _ _ (Act.put _ (some 62) _) _;try simp only[Yq]
         refine wpAnyH_take (i:=22) (v:=undef) rfl (by kernel_rfl) (by kernel_rfl) (by kernel_rfl) (λ_ _ _ h=>h) (Or.inr ⟨by rfl,rfl⟩) zH ?_;show wpAnyH _ _ _ _ _ _ _ (Act.put _ (some 63) _) _;try simp only[Yq]
         refine wpAnyH_take (i:=23) (v:=undef) rfl (by kernel_rfl) (by kernel_rfl) (by kernel_rfl) (λ_ _ _ h=>h) (Or.inr ⟨by rfl,rfl⟩) zH ?_;show wpAnyH _ _ _ _ _ _ _ (Act.put _ (some 64) _) _;try simp only[Yq]
         refine wpAnyH_take (i:=24) (v:=undef) rfl (by kernel_rfl) (by kernel_rfl) (by kernel_rfl) (λ_ _ _ h=>h) (Or.inr ⟨by rfl,rfl⟩) zH ?_;show wpAnyH _ _ _ _ _ _ _ (Act.put _ (some 65) _) _;try simp only[Yq]
         refine wpAnyH_take (i:=25) (v:=undef) rfl (by kernel_rfl) (by kernel_rfl) (by kernel_rfl) (λ_ _ _ h=>h) (Or.inr ⟨by rfl,rfl⟩) zH ?_;show wpAnyH _ _ _ _ _ _ _ (Act.put _ (some 66) _) _;try simp only[Yq]
         refine wpAnyH_take (i:=26) (v:=undef) rfl (by kernel_rfl) (by kernel_rfl) (by kernel_rfl) (λ_ _ _ h=>h) (Or.inr ⟨by rfl,rfl⟩) zH ?_;show wpAnyH _ _ _ _ _ _ _ (Act.put _ (some 67) _) _;try simp only[Yq]
         refine wpAnyH_take (i:=27) (v:=undef) rfl (by kernel_rfl) (by kernel_rfl) (by kernel_rfl) (λ_ _ _ h=>h) (Or.inr ⟨by rfl,rfl⟩) zH ?_;show wpAnyH _ _ _ _ _ _ _ (Act.put _ (some 68) _) _;try simp only[Yq]
         refine wpAnyH_take (i:=28) (v:=undef) rfl (by kernel_rfl) (by kernel_rfl) (by kernel_rfl) (λ_ _ _ h=>h) (Or.inr ⟨by rfl,rfl⟩) zH ?_;show wpAnyH _ _ _ _ _ _ _ (Act.put _ (some 69) _) _;try simp only[Yq]
         refine wpAnyH_take (i:=29) (v:=undef) rfl (by kernel_rfl) (by kernel_rfl) (by kernel_rfl) (λ_ _ _ h=>h) (Or.inr ⟨by rfl,rfl⟩) zH ?_;show wpAnyH _ _ _ _ _ _ _ (Act.put _ (some 70) _) _;try simp only[Yq]
         refine wpAnyH_take (i:=30) (v:=undef) rfl (by kernel_rfl) (by kernel_rfl) (by kernel_rfl) (λ_ _ _ h=>h) (Or.inr ⟨by rfl,rfl⟩) zH ?_;show wpAnyH _ _ _ _ _ _ _ (Act.put _ (some 71) _) _;try simp only[Yq]
         refine wpAnyH_take (i:=31) (v:=undef) rfl (by kernel_rfl) (by kernel_rfl) (by kernel_rfl) (λ_ _ _ h=>h) (Or.inr ⟨by rfl,rfl⟩) zH ?_;show wpAnyH _ _ _ _ _ _ _ (Act.put _ (some 72) _) _;try simp only[Yq]
         refine wpAnyH_take (i:=32) (v:=undef) rfl (by kernel_rfl) (by kernel_rfl) (by kernel_rfl) (λ_ _ _ h=>h) (Or.inr ⟨by rfl,rfl⟩) zH ?_;show wpAnyH _ _ _ _ _ _ _ (Act.put _ (some 73) _) _;try simp only[Yq]
         refine wpAnyH_take (i:=33) (v:=undef) rfl (by kernel_rfl) (by kernel_rfl) (by kernel_rfl) (λ_ _ _ h=>h) (Or.inr ⟨by rfl,rfl⟩) zH ?_;show wpAnyH _ _ _ _ _ _ _ (Act.put _ (some 74) _) _;try simp only[Yq]
         refine wpAnyH_take (i:=34) (v:=undef) rfl (by kernel_rfl) (by kernel_rfl) (by kernel_rfl) (λ_ _ _ h=>h) (Or.inr ⟨by rfl,rfl⟩) zH ?_;show wpAnyH _ _ _ _ _ _ _ (Act.put _ (some 75) _) _;try simp only[Yq]
         refine wpAnyH_take (i:=35) (v:=undef) rfl (by kernel_rfl) (by kernel_rfl) (by kernel_rfl) (λ_ _ _ h=>h) (Or.inr ⟨by rfl,rfl⟩) zH ?_;show wpAnyH _ _ _ _ _ _ _ (Act.put _ (some 76) _) _;try simp only[Yq]
         refine wpAnyH_take (i:=36) (v:=undef) rfl (by kernel_rfl) (by kernel_rfl) (by kernel_rfl) (λ_ _ _ h=>h) (Or.inr ⟨by rfl,rfl⟩) zH ?_;show wpAnyH _ _ _ _ _ _ _ (Act.put _ (some 77) _) _;try simp only[Yq]
         refine wpAnyH_take (i:=37) (v:=undef) rfl (by kernel_rfl) (by kernel_rfl) (by kernel_rfl) (λ_ _ _ h=>h) (Or.inr ⟨by rfl,rfl⟩) zH ?_;show wpAnyH _ _ _ _ _ _ _ (Act.put _ (some 78) _) _;try simp only[Yq]
         refine wpAnyH_take (i:=38) (v:=undef) rfl (by kernel_rfl) (by kernel_rfl) (by kernel_rfl) (λ_ _ _ h=>h) (Or.inr ⟨by rfl,rfl⟩) zH ?_;show wpAnyH _ _ _ _ _ _ _ (Act.put _ (some 79) _) _;try simp only[Yq]
         refine wpAnyH_take (i:=39) (v:=undef) rfl (by kernel_rfl) (by kernel_rfl) (by kernel_rfl) (λ_ _ _ h=>h) (Or.inr ⟨by rfl,rfl⟩) zH ?_;show wpAnyH _ _ _ _ _ _ _ (Act.put _ (some 80) _) _;try simp only[Yq]
         refine tkk 40 81 zH ?_;try simp only[Yq]
         refine wpAnyH_done (by kernel_rfl) ?_ _;clear zH;go_wp2_with fail
         go_ret;exact⟨rfl,(uq HK).drew⟩
        |true=>
         simp only[Bool.not_true,Bool.not_false]at HD;refine wp_region_held_drew (S:=(λw'=>w'.cell? (ad.add i)=some (.slice (some rd) rn rc)/\w'.cell? (bd.add i)=some (.slice (some sd) rn sc)/\w'.cell? (rd.add (k * 2))=some (.bool true)/\w'.cell? ⟨(rd.add (k * 2)).block,(rd.add (k * 2)).off+1,none⟩=some (.slice u1 u2 u3)/\w'.cell? (sd.add (k * 2))=some (.bool false)/\w'.cell? ⟨(sd.add (k * 2)).block,(sd.add (k * 2)).off+1,none⟩=some (.slice v1 v2 v3))) (by kernel_rfl) (by exact uq HD _ ((uq HK).trans ((zk _).drew))) (λzH=>?_);refine tk6 0 41 1 42 2 43 3 44 4 45 5 46 zH ?_;try simp only[Yq]
         refine tk6 6 47 7 48 8 49 9 50 10 51 11 52 zH ?_;try simp only[Yq]
         refine tk6 12 53 13 54 14 55 15 56 16 57 17 58 zH ?_;try simp only[Yq]
         refine tk2 18 59 19 60 zH ?_;try simp only[Yq]
         refine wpAnyH_take (i:=20) (v:=undef) rfl (by kernel_rfl) (by kernel_rfl) (by kernel_rfl) (λ_ _ _ h=>h) (Or.inr ⟨by rfl,rfl⟩) zH ?_;show wpAnyH _ _ _ _ _ _ _ (Act.put _ (some 61) _) _;try simp only[Yq]
         refine wpAnyH_take (i:=21) (v:=undef) rfl (by kernel_rfl) (by kernel_rfl) (by kernel_rfl) (λ_ _ _ h=>h) (Or.inr ⟨by rfl,rfl⟩) zH ?_;show wpAnyH _ _ _ _ _ _ _ (Act.put _ (some 62) _) _;try simp only[Yq]
         refine wpAnyH_take (i:=22) (v:=undef) rfl (by kernel_rfl) (by kernel_rfl) (by kernel_rfl) (λ_ _ _ h=>h) (Or.inr ⟨by rfl,rfl⟩) zH ?_;show wpAnyH _ _ _ _ _ _ _ (Act.put _ (some 63) _) _;try simp only[Yq]
         refine wpAnyH_take (i:=23) (v:=undef) rfl (by kernel_rfl) (by kernel_rfl) (by kernel_rfl) (λ_ _ _ h=>h) (Or.inr ⟨by rfl,rfl⟩) zH ?_;show wpAnyH _ _ _ _ _ _ _ (Act.put _ (some 64) _) _;try simp only[Yq]
         refine wpAnyH_take (i:=24) (v:=undef) rfl (by kernel_rfl) (by kernel_rfl) (by kernel_rfl) (λ_ _ _ h=>h) (Or.inr ⟨by rfl,rfl⟩) zH ?_;show wpAnyH _ _ _ _ _ _ _ (Act.put _ (some 65) _) _;try simp only[Yq]
         refine wpAnyH_take (i:=25) (v:=undef) rfl (by kernel_rfl) (by kernel_rfl) (by kernel_rfl) (λ_ _ _ h=>h) (Or.inr ⟨by rfl,rfl⟩) zH ?_;show wpAnyH _ _ _ _ _ _ _ (Act.put _ (some 66) _) _;try simp only[Yq]
         refine wpAnyH_take (i:=26) (v:=undef) rfl (by kernel_rfl) (by kernel_rfl) (by kernel_rfl) (λ_ _ _ h=>h) (Or.inr ⟨by rfl,rfl⟩) zH ?_;show wpAnyH _ _ _ _ _ _ _ (Act.put _ (some 67) _) _;try simp only[Yq]
         refine wpAnyH_take (i:=27) (v:=undef) rfl (by kernel_rfl) (by kernel_rfl) (by kernel_rfl) (λ_ _ _ h=>h) (Or.inr ⟨by rfl,rfl⟩) zH ?_;show wpAnyH _ _ _ _ _ _ _ (Act.put _ (some 68) _) _;try simp only[Yq]
         refine wpAnyH_take (i:=28) (v:=undef) rfl (by kernel_rfl) (by kernel_rfl) (by kernel_rfl) (λ_ _ _ h=>h) (Or.inr ⟨by rfl,rfl⟩) zH ?_;show wpAnyH _ _ _ _ _ _ _ (Act.put _ (some 69) _) _;try simp only[Yq]
         refine wpAnyH_take (i:=29) (v:=undef) rfl (by kernel_rfl) (by kernel_rfl) (by kernel_rfl) (λ_ _ _ h=>h) (Or.inr ⟨by rfl,rfl⟩) zH ?_;show wpAnyH _ _ _ _ _ _ _ (Act.put _ (some 70) _) _;try simp only[Yq]
         refine wpAnyH_take (i:=30) (v:=undef) rfl (by kernel_rfl) (by kernel_rfl) (by kernel_rfl) (λ_ _ _ h=>h) (Or.inr ⟨by rfl,rfl⟩) zH ?_;show wpAnyH _ _ _ _ _ _ _ (Act.put _ (some 71) _) _;try simp only[Yq]
         refine wpAnyH_take (i:=31) (v:=undef) rfl (by kernel_rfl) (by kernel_rfl) (by kernel_rfl) (λ_ _ _ h=>h) (Or.inr ⟨by rfl,rfl⟩) zH ?_;show wpAnyH _ _ _ _ _ _ _ (Act.put _ (some 72) _) _;try simp only[Yq]
         refine wpAnyH_take (i:=32) (v:=undef) rfl (by kernel_rfl) (by kernel_rfl) (by kernel_rfl) (λ_ _ _ h=>h) (Or.inr ⟨by rfl,rfl⟩) zH ?_;show wpAnyH _ _ _ _ _ _ _ (Act.put _ (some 73) _) _;try simp only[Yq]
         refine wpAnyH_take (i:=33) (v:=undef) rfl (by kernel_rfl) (by kernel_rfl) (by kernel_rfl) (λ_ _ _ h=>h) (Or.inr ⟨by rfl,rfl⟩) zH ?_;show wpAnyH _ _ _ _ _ _ _ (Act.put _ (some 74) _) _;try simp only[Yq]
         refine wpAnyH_take (i:=34) (v:=undef) rfl (by kernel_rfl) (by kernel_rfl) (by kernel_rfl) (λ_ _ _ h=>h) (Or.inr ⟨by rfl,rfl⟩) zH ?_;show wpAnyH _ _ _ _ _ _ _ (Act.put _ (some 75) _) _;try simp only[Yq]
         refine wpAnyH_take (i:=35) (v:=undef) rfl (by kernel_rfl) (by kernel_rfl) (by kernel_rfl) (λ_ _ _ h=>h) (Or.inr ⟨by rfl,rfl⟩) zH ?_;show wpAnyH _ _ _ _ _ _ _ (Act.put _ (some 76) _) _;try simp only[Yq]
         refine wpAnyH_take (i:=36) (v:=undef) rfl (by kernel_rfl) (by kernel_rfl) (by kernel_rfl) (λ_ _ _ h=>h) (Or.inr ⟨by rfl,rfl⟩) zH ?_;show wpAnyH _ _ _ _ _ _ _ (Act.put _ (some 77) _) _;try simp only[Yq]
         refine wpAnyH_take (i:=37) (v:=undef) rfl (by kernel_rfl) (by kernel_rfl) (by kernel_rfl) (λ_ _ _ h=>h) (Or.inr ⟨by rfl,rfl⟩) zH ?_;show wpAnyH _ _ _ _ _ _ _ (Act.put _ (some 78) _) _;try simp only[Yq]
         refine wpAnyH_take (i:=38) (v:=undef) rfl (by kernel_rfl) (by kernel_rfl) (by kernel_rfl) (λ_ _ _ h=>h) (Or.inr ⟨by rfl,rfl⟩) zH ?_;show wpAnyH _ _ _ _ _ _ _ (Act.put _ (some 79) _) _;try simp only[Yq]
         refine wpAnyH_take (i:=39) (v:=undef) rfl (by kernel_rfl) (by kernel_rfl) (by kernel_rfl) (λ_ _ _ h=>h) (Or.inr ⟨by rfl,rfl⟩) zH ?_;show wpAnyH _ _ _ _ _ _ _ (Act.put _ (some 80) _) _;try simp only[Yq]
         refine tkk 40 81 zH ?_;try simp only[Yq]
         refine wpAnyH_done (by kernel_rfl) ?_ _;clear zH;go_wp2_with fail
         go_ret;exact⟨rfl,(uq HK).drew⟩
      ·have:k=rn:=by omega
       subst this;go_wp2_with fail
       go_roundw
       case rel=>exact⟨i+1,uq HLT,by go_num,HK,zh ((uq HX) ⟨by simp,uq HJ⟩)⟩
       case measure=>simp[intOf];omega
    ·have hr:=(uq HF) hrs;subst hr;have hne:((rn:Int) !=(sn:Int))=true:=by simp;omega
     have hne2:((rn:Int)==(sn:Int))=false:=by simp;omega
     have hne3:¬(rn:Int)=(sn:Int):=by omega
     refine wp_region_held_drew (S:=(λw'=>w'.cell? (ad.add i)=some (.slice ra rn rc)/\w'.cell? (bd.add i)=some (.slice sa sn sc))) (by kernel_rfl) (by exact uq HC _ ((uq HK).trans ((zk _).drew))) (λzH=>?_);refine tk6 0 18 1 19 2 20 3 21 4 22 5 23 zH ?_;try simp only[Yq]
     refine tk6 6 24 7 25 8 26 9 27 10 28 11 29 zH ?_;try simp only[Yq]
     refine tkk 12 30 zH ?_;try simp only[Yq]
     refine wpAnyH_done (by kernel_rfl) ?_ _;clear zH;go_wp2_with fail
     go_ret;exact⟨rfl,(uq HK).drew⟩
   ·have:i=n:=by omega
    subst this;have hr:=(uq H2) (uq HI);subst hr;go_wp2_with fail
    go_ret;exact⟨rfl,uq HK⟩
 ·have hr:=(uq H0) hnm;subst hr;have hne:((n:Int) !=(m:Int))=true:=by simp;omega
  have hne2:((n:Int)==(m:Int))=false:=by simp;omega
  have hne3:¬(n:Int)=(m:Int):=by omega
  have hne4:¬n=m:=hnm;go_enter Tryz.func28,Tryz.ntmps28;go_wp2_with fail
  go_ret;exact⟨rfl,zk _⟩
end Go.Proofs.YthceiikgecoimaaGreatDoor
