import Derived.Deep.RegionHeld3
import Derived.Test.YtcjfjflljdojlaaGreatDoorPart04
import Derived.Test.YtcjfjflljdojlaaGreatDoorPart03
set_option linter.all false
set_option maxHeartbeats 4000000
set_option maxRecDepth 100000
namespace Go.Proofs.YtcjfjflljdojlaaGreatDoor
open Go.RowKit
def vp:Nat->Nat->ByteArray->ByteArray
 | 0,_,t=>t
 | d+1,m,t=>if m=0 then t else vp d (m / 10) (⟨[UInt8.ofNat (48+m % 10)].toArray⟩++t)
def gR (k:Int):ByteArray:=if k<=0 then⟨#[109,48]⟩else⟨#[109]⟩++vp 20 k.toNat ByteArray.empty
theorem ie (k:Int)(w:w_)(hk:k<=1000000000000) :
  c_ 40 #[i_ k] w fun e w'=>e=.returned (.string (gR k))/\b_ w w':=by
 by_cases h0:k<=0;{go_enter Tryz.func40,Tryz.ntmps40;go_wp2;go_ret;exact⟨by unfold gR;rw[zca h0];rfl,r_⟩}
 obtain⟨n,rfl⟩:∃ n:Nat,k=n:=⟨k.toNat,by omega⟩;have HT:H_ (gR (n:Int)=⟨#[109]⟩++vp 20 n ByteArray.empty):=by
  show _=_;unfold gR;rw[zcb h0];rfl
 go_enter Tryz.func40,Tryz.ntmps40;go_wp2;go_loopw [0,3] (fun q s wr=>∃(m d:Nat) (t:ByteArray),q=i_ m/\s=.string t/\m<10 ^ d/\m<=1000000000000/\d+t.size<=20/\H_ (vp d m t=vp 20 n ByteArray.empty)/\b_ w wr) (fun q _ _=>(intOf q).toNat);(case atStart=>exact⟨n,20,ByteArray.empty,rfl,rfl,by omega,by omega,by simp,rfl,r_⟩);case round=>
  obtain⟨m,d,t,rfl,rfl,hm,hmb,hd,hD,hb⟩:=hrel;by_cases au:0<m
  ·have Ez:(convert 141 9 (s_ wr.heap.size 0 1 1)).run Tryz.prog (wr.alloc (.cells #[.int .u8 (48+(m:Int) % 10)] 5))=.ok (.string ⟨[UInt8.ofNat (48+m % 10)].toArray⟩) (wr.alloc (.cells #[.int .u8 (48+(m:Int) % 10)] 5)):=by{refine run_convert_bytes_back (P:=Tryz.prog) _ 141 9 5 (a_ wr.heap.size 0) 1 [UInt8.ofNat (48+m % 10)] Tryz.underlying141 Tryz.underlying5 Tryz.underlying9 fun j hj=>?_;obtain rfl:j=0:=by{simp at hj;omega};have e:((UInt8.ofNat (48+m % 10)).toNat:Int)=48+(m:Int) % 10:=by{rw[UInt8.toNat_ofNat'];omega};simp[Addr.add,go_sem];omega};have km:(⟨[UInt8.ofNat (48+m % 10)].toArray⟩:ByteArray).size=1:=rfl;have hd0:0<d:=by{rcases Nat.eq_zero_or_pos d with e | e;{subst e;simp at hm;omega};{exact e}};have HN:H_ (vp (d-1) (m / 10) (⟨[UInt8.ofNat (48+m % 10)].toArray⟩++t)=vp 20 n ByteArray.empty):=by
    have e:=hD.o;obtain⟨d',rfl⟩:∃ d',d=d'+1:=⟨d-1,by omega⟩
    rwa [show vp (d'+1) m t=vp d' (m / 10) (⟨[UInt8.ofNat (48+m % 10)].toArray⟩++t)from zcb (by omega)]at e
   generalize (⟨[UInt8.ofNat (48+m % 10)].toArray⟩:ByteArray)=t1 at Ez km HN;have HS:H_ (t1.size=1):=km;have QM:¬(9223372036854775807<t1.size+t.size):=by{omega};clear km hD;go_wp2;go_roundw;case rel=>
    have hs:=HS.o;refine⟨m / 10,d-1,t1++t,by go_num,rfl,?_,by omega,?_,HN,hb.alloc hb.size _⟩
    ·cases d with
     | zero=>simp at hm;omega
     | succ d=>rw[Nat.pow_succ]at hm;simp;omega
    {rw[ByteArray.size_append];omega}
   case measure=>simp[intOf];omega
  ·have QM:¬(9223372036854775807<1+t.size):=by{omega};have HE:H_ (t=vp 20 n ByteArray.empty):=by
    have e:=hD.o;have e0:m=0:=by{omega};show _=_;rw[<-e,e0];cases d with
    | zero=>rfl
    | succ d=>exact(zca rfl).symm
   go_wp2;go_ret;exact⟨by rw[HT.o,<-HE.o];rfl,hb⟩
theorem IT (k:Int):FloatKind.f64.format.order (floatOfInt .f64 k) (floatOfInt .f64 k)=some Ordering.eq:=by
 have hw:∃ neg Be,floatOfInt .f64 k=Ieee.double.word neg Be/\Be<=Ieee.double.infRung:=by
  show ∃ neg Be,Ieee.double.nearest (decide (k<0)) k.natAbs 0=_/\_;unfold Ieee.Format.nearest;dsimp only;split
  {exact⟨_,0,rfl,Nat.zero_le _⟩};{exact⟨_,_,rfl,Nat.min_le_right ..⟩}
 obtain⟨neg,Be,e,hr⟩:=hw;rw[e];have au:Be<Ieee.double.signWeight:=Nat.lt_of_le_of_lt hr (Ieee.Format.infRung_lt _);have Xi:Ieee.double.word neg Be % Ieee.double.signWeight=Be:=by unfold Ieee.Format.word;split;{rw[Nat.add_mod_left,Nat.mod_eq_of_lt au]};{exact Nat.mod_eq_of_lt au}
 have Bl:∀ s m i,Ieee.Datum.order (.number s m i) (.number s m i)=some Ordering.eq:=fun s m i=>by
  simp[Ieee.Datum.order]
 show(Ieee.double.read _).order (Ieee.double.read _)=_;unfold Ieee.Format.read;dsimp only;rw[Xi];split;{exact Bl _ _ _};{split;{exact Bl _ _ _};{rw[zca (by omega)];cases (Ieee.double.word neg Be / Ieee.double.signWeight % 2==1)<;>rfl}}
def lY (w:w_)(b off m j:Nat)(f:Nat->Nat->Value):Prop:=∀ i,i<j->∀ r,r<m->w.cell? (a_ b (off+i * m+r))=some (f i r)
def gS (w:w_)(a:o_)(n m:Nat)(f:Nat->Nat->Value):Prop:=0<n->∃ b off,a=some (a_ b off)/\b<w.heap.size/\lY w b off m n f
section
variable {w w':w_} {b off m j:Nat} {f:Nat->Nat->Value}
theorem lY.set (h:lY w b off m j f){o:Nat}(ho:off+j * m<=o)(v:Value):lY (w.setCell (a_ b o) v) b off m j f:=fun i hi r hr=>by
 rw[World.cell?_setCell_other _ (a_ b o) (a_ b (off+i * m+r)) v (fun e=>by
  injection e with _ e _;have:=Nat.mul_le_mul_right m (show i+1<=j by omega);rw[Nat.succ_mul]at this;omega)]
 exact h i hi r hr
theorem lY.next (h:lY w b off m j f)(hc:∀ r,r<m->w.cell? (a_ b (off+j * m+r))=some (f j r)):lY w b off m (j+1) f:=fun i hi r hr=>by
 by_cases e:i=j
 ·subst e;exact hc r hr
 ·exact h i (by omega) r hr
theorem lY.block (h:lY w b off m j f)(hb:w'.heap[b]? = w.heap[b]?):lY w' b off m j f:=fun i hi r hr=>(zbe (a:=(a_ b (off+i * m+r))) hb).trans (h i hi r hr)
theorem lY.below (h:lY w b off m j f)(hl:b<w.heap.size)(hb:b_ w w'):lY w' b off m j f:=h.block (hb.block b hl)
end
attribute [local go_sem] cn
def Ie (q:Int):Nat->Value
 | 0=>.bool (q % 3==0)
 | _=>i_ (q+1)
theorem CN (a:o_)(n c:Nat)(k:Int)(S:Nat->Prop)(w:w_)(hs:dJ w S a (n * 2))(hS:lU w S)(h0:0<=k)(hk:k+2 * n<=1000000000000) :
  c_ 41 #[.slice a n c,i_ k] w fun e w'=>e=.returned (i_ (k+2 * n))/\Mk S w w'/\gS w' a n 2 (fun j=>Ie (k+2 * j)):=by
 go_enter Tryz.func41,Tryz.ntmps41;go_wp2;go_loopw [1,5] (fun q i wr=>∃(j:Nat),j<=n/\q=i_ (k+2 * j)/\i=i_ j/\Mk S w wr/\H_ (∀ b off,a=some (a_ b off)->lY wr b off 2 j (fun j=>Ie (k+2 * j)))) (fun _ i _=>n-(intOf i).toNat);(case atStart=>exact⟨0,Nat.zero_le _,by simp,rfl,Mk.refl _ _,fun _ _ _ i hi=>zcc hi (bW _)⟩);case round=>
  obtain⟨j,hj,rfl,rfl,hm,yU⟩:=hrel;by_cases au:j<n
  ·have HB:H_ (k+2 * j+2<=1000000000000):=by{show _<=_;omega};have HE:H_ (k+2 * ((j+1:Nat):Int)=k+2 * j+2):=by show _=_;omega
   obtain⟨kj,jK⟩:∃ kj:Int,kj=k+2 * (j:Int):=⟨_,rfl⟩;have sO:0<=kj:=by omega
   have kM:kj+2<=1000000000000:=by{omega};have FV:H_ (k+2 * (j:Int)=kj):=jK.symm;rw[<-jK]at HB HE ⊢;have qD:n<=1000000000000:=by{omega};clear hk;have HM:=af hm;clear hm;obtain⟨b,off,rfl,hb,aC⟩:=(hs.mk HM.o) (by omega);have MT:=af (yU.o b off rfl);clear yU;obtain⟨v0,iu,f0⟩:=aC (j * 2+0) (by omega);rw[Nat.add_zero]at iu;obtain⟨v1,cT,f1⟩:=aC (j * 2+1) (by omega);rw[<-Nat.add_assoc]at cT;have hf:=((hS.mk HM.o) b hb).2;clear aC jK;go_wp2;go_roundw;case rel=>
    refine⟨j+1,by omega,by rw[HE.o];go_num,by go_num,HM.o.trans ?_,fun b' jP e=>?_⟩;{refine cE ?_ hb ⟨v1,cT,f1⟩ _ trivial;refine cE ?_ hb ⟨v0,iu,f0⟩ _ trivial;exact Mk.refl _ _}
    ·injection e with e;injection e with e1 e2;subst e1 e2;refine((MT.o.set n_ _).set (Nat.le_add_right _ 1) _).next (fun r hr=>?_);show _=some (Ie (k+2 * (j:Int)) r);rw[FV.o]
     match r,hr with
     | 0,_=>simp[Ie,go_sem,iu,cT]
     | 1,_=>simp[Ie,go_sem,iu,cT]
   case measure=>simp[intOf];omega
  {have HK:H_ (j=n):=by{show _=_;omega};go_wp2;go_ret;have hM:=hm;rw[HK.o]at yU ⊢;refine⟨rfl,hM,fun h0=>?_⟩;obtain⟨b,off,rfl,hb,_⟩:=(hs.mk hM) (by omega);exact⟨b,off,rfl,((hS.mk hM) b hb).1,yU.o b off rfl⟩}
def kL (q:Int):Nat->Value
 | 0=>i_ (q)
 | 1=>i_ (q+1)
 | 2=>.float .f64 (floatOfInt .f64 (q+1+1))
 | 3=>.string (gR (q+1+1+1))
 | _=>i_ (q+1+1+1+1)
theorem vx (a:o_)(n c:Nat)(k:Int)(S:Nat->Prop)(w:w_)(hs:dJ w S a (n * 5))(hS:lU w S)(h0:0<=k)(hk:k+5 * n<=1000000000000) :
  c_ 42 #[.slice a n c,i_ k] w fun e w'=>e=.returned (i_ (k+5 * n))/\Mk S w w'/\gS w' a n 5 (fun j=>kL (k+5 * j)):=by
 go_enter Tryz.func42,Tryz.ntmps42;go_wp2;go_loopw [1,5] (fun q i wr=>∃(j:Nat),j<=n/\q=i_ (k+5 * j)/\i=i_ j/\Mk S w wr/\H_ (∀ b off,a=some (a_ b off)->lY wr b off 5 j (fun j=>kL (k+5 * j)))) (fun _ i _=>n-(intOf i).toNat);(case atStart=>exact⟨0,Nat.zero_le _,by simp,rfl,Mk.refl _ _,fun _ _ _ i hi=>zcc hi (bW _)⟩);case round=>
  obtain⟨j,hj,rfl,rfl,hm,yU⟩:=hrel;by_cases au:j<n
  ·have HB:H_ (k+5 * j+5<=1000000000000):=by{show _<=_;omega};have HE:H_ (k+5 * ((j+1:Nat):Int)=k+5 * j+5):=by show _=_;omega
   obtain⟨kj,jK⟩:∃ kj:Int,kj=k+5 * (j:Int):=⟨_,rfl⟩;have sO:0<=kj:=by omega
   have kM:kj+5<=1000000000000:=by{omega};have FV:H_ (k+5 * (j:Int)=kj):=jK.symm;rw[<-jK]at HB HE ⊢;have qD:n<=1000000000000:=by{omega};clear hk;have HM:=af hm;clear hm;obtain⟨b,off,rfl,hb,aC⟩:=(hs.mk HM.o) (by omega);have MT:=af (yU.o b off rfl);clear yU;obtain⟨v0,iu,f0⟩:=aC (j * 5+0) (by omega);rw[Nat.add_zero]at iu;obtain⟨v1,cT,f1⟩:=aC (j * 5+1) (by omega);rw[<-Nat.add_assoc]at cT;obtain⟨v2,e9,f2⟩:=aC (j * 5+2) (by omega);rw[<-Nat.add_assoc]at e9;have hf:=((hS.mk HM.o) b hb).2;clear aC jK;have kN:=((hS.mk HM.o) b hb).1;have fM:H_ (kj+1+1+1<=1000000000000):=by{show _<=_;omega};go_wp2_with fail;refine(ie _ _ fM.o).mono ?_;rintro e w1 ⟨rfl,ar⟩;have m1:Mk S wr w1:=by{refine Mk.trans ?_ (Mk.of_below ar);refine cE ?_ hb ⟨v2,e9,f2⟩ _ trivial;refine cE ?_ hb ⟨v1,cT,f1⟩ _ trivial;refine cE ?_ hb ⟨v0,iu,f0⟩ _ trivial;exact Mk.refl _ _};have MT1:=af (lY.below (((MT.o.set n_ _).set (Nat.le_add_right _ 1) _).set (Nat.le_add_right _ 2) _) (by simp;omega) ar);have g0:w1.cell? (a_ b (off+j * 5))=some (kL kj 0):=by{rw[ar.cell (p:=(a_ b (off+j * 5))) (by simp;omega)];simp[kL,go_sem,iu,cT,e9]};have g1:w1.cell? (a_ b (off+j * 5+1))=some (kL kj 1):=by{rw[ar.cell (p:=(a_ b (off+j * 5+1))) (by simp;omega)];simp[kL,go_sem,iu,cT,e9]};have g2:w1.cell? (a_ b (off+j * 5+2))=some (kL kj 2):=by{rw[ar.cell (p:=(a_ b (off+j * 5+2))) (by simp;omega)];simp[kL,go_sem,iu,cT,e9]};clear iu f0 cT f1 e9 f2 hf ar;have bx:=(hs.mk (HM.o.trans m1)) (by omega);obtain⟨b',jP,Fr,dV,aC⟩:=bx;obtain⟨rfl,rfl⟩:b=b'/\off=jP:=by{injection Fr with Fr;injection Fr with h1 h2;exact⟨h1,h2⟩};clear Fr dV;obtain⟨v3,jB,f3⟩:=aC (j * 5+3) (by omega);rw[<-Nat.add_assoc]at jB;obtain⟨v4,pm,f4⟩:=aC (j * 5+4) (by omega);rw[<-Nat.add_assoc]at pm;have hf:=((hS.mk (HM.o.trans m1)) b hb).2;have M1:=af (HM.o.trans m1);clear aC m1 HM MT kN;have HG:H_ (w1.cell? (a_ b (off+j * 5))=some (kL kj 0)/\w1.cell? (a_ b (off+j * 5+1))=some (kL kj 1)/\w1.cell? (a_ b (off+j * 5+2))=some (kL kj 2)):=⟨g0,g1,g2⟩;clear g0 g1 g2;go_wp2;go_roundw;case rel=>
    refine⟨j+1,by omega,by rw[HE.o];go_num,by go_num,M1.o.trans ?_,fun b' jP e=>?_⟩;{refine cE ?_ hb ⟨v4,pm,f4⟩ _ trivial;refine cE ?_ hb ⟨v3,jB,f3⟩ _ trivial;exact Mk.refl _ _}
    ·injection e with e;injection e with e1 e2;subst e1 e2;refine((MT1.o.set (Nat.le_add_right _ 3) _).set (Nat.le_add_right _ 4) _).next (fun r hr=>?_);show _=some (kL (k+5 * (j:Int)) r);rw[FV.o];obtain⟨g0,g1,g2⟩:=HG.o
     match r,hr with
     | 0,_=>simp[go_sem,g0,g1,g2]
     | 1,_=>simp[go_sem,g0,g1,g2]
     | 2,_=>simp[go_sem,g0,g1,g2]
     | 3,_=>simp[kL,go_sem,jB,pm]
     | 4,_=>simp[kL,go_sem,jB,pm]
   case measure=>simp[intOf];omega
  {have HK:H_ (j=n):=by{show _=_;omega};go_wp2;go_ret;have hM:=hm;rw[HK.o]at yU ⊢;refine⟨rfl,hM,fun h0=>?_⟩;obtain⟨b,off,rfl,hb,_⟩:=(hs.mk hM) (by omega);exact⟨b,off,rfl,((hS.mk hM) b hb).1,yU.o b off rfl⟩}
def oL (q:Int):Nat->Value
 | 0=>i_ (q)
 | 1=>i_ (q+1)
 | 2=>i_ (q+1+1)
 | 3=>i_ (q+1+1+1)
 | _=>i_ (q+1+1+1+1)
theorem zx (a:o_)(n c:Nat)(k:Int)(S:Nat->Prop)(w:w_)(hs:dJ w S a (n * 5))(hS:lU w S)(h0:0<=k)(hk:k+5 * n<=1000000000000) :
  c_ 43 #[.slice a n c,i_ k] w fun e w'=>e=.returned (i_ (k+5 * n))/\Mk S w w'/\gS w' a n 5 (fun j=>oL (k+5 * j)):=by
 go_enter Tryz.func43,Tryz.ntmps43;go_wp2;go_loopw [1,5] (fun q i wr=>∃(j:Nat),j<=n/\q=i_ (k+5 * j)/\i=i_ j/\Mk S w wr/\H_ (∀ b off,a=some (a_ b off)->lY wr b off 5 j (fun j=>oL (k+5 * j)))) (fun _ i _=>n-(intOf i).toNat);(case atStart=>exact⟨0,Nat.zero_le _,by simp,rfl,Mk.refl _ _,fun _ _ _ i hi=>zcc hi (bW _)⟩);case round=>
  obtain⟨j,hj,rfl,rfl,hm,yU⟩:=hrel;by_cases au:j<n
  ·have HB:H_ (k+5 * j+5<=1000000000000):=by{show _<=_;omega};have HE:H_ (k+5 * ((j+1:Nat):Int)=k+5 * j+5):=by show _=_;omega
   obtain⟨kj,jK⟩:∃ kj:Int,kj=k+5 * (j:Int):=⟨_,rfl⟩;have sO:0<=kj:=by omega
   have kM:kj+5<=1000000000000:=by{omega};have FV:H_ (k+5 * (j:Int)=kj):=jK.symm;rw[<-jK]at HB HE ⊢;have qD:n<=1000000000000:=by{omega};clear hk;have HM:=af hm;clear hm;obtain⟨b,off,rfl,hb,aC⟩:=(hs.mk HM.o) (by omega);have MT:=af (yU.o b off rfl);clear yU;obtain⟨v0,iu,f0⟩:=aC (j * 5+0) (by omega);rw[Nat.add_zero]at iu;obtain⟨v1,cT,f1⟩:=aC (j * 5+1) (by omega);rw[<-Nat.add_assoc]at cT;obtain⟨v2,e9,f2⟩:=aC (j * 5+2) (by omega);rw[<-Nat.add_assoc]at e9;obtain⟨v3,jB,f3⟩:=aC (j * 5+3) (by omega);rw[<-Nat.add_assoc]at jB;obtain⟨v4,pm,f4⟩:=aC (j * 5+4) (by omega);rw[<-Nat.add_assoc]at pm;have hf:=((hS.mk HM.o) b hb).2;clear aC jK;go_wp2;go_roundw;case rel=>
    refine⟨j+1,by omega,by rw[HE.o];go_num,by go_num,HM.o.trans ?_,fun b' jP e=>?_⟩;{refine cE ?_ hb ⟨v4,pm,f4⟩ _ trivial;refine cE ?_ hb ⟨v3,jB,f3⟩ _ trivial;refine cE ?_ hb ⟨v2,e9,f2⟩ _ trivial;refine cE ?_ hb ⟨v1,cT,f1⟩ _ trivial;refine cE ?_ hb ⟨v0,iu,f0⟩ _ trivial;exact Mk.refl _ _}
    ·injection e with e;injection e with e1 e2;subst e1 e2;refine(((((MT.o.set n_ _).set (Nat.le_add_right _ 1) _).set (Nat.le_add_right _ 2) _).set (Nat.le_add_right _ 3) _).set (Nat.le_add_right _ 4) _).next (fun r hr=>?_);show _=some (oL (k+5 * (j:Int)) r);rw[FV.o]
     match r,hr with
     | 0,_=>simp[oL,go_sem,iu,cT,e9,jB,pm]
     | 1,_=>simp[oL,go_sem,iu,cT,e9,jB,pm]
     | 2,_=>simp[oL,go_sem,iu,cT,e9,jB,pm]
     | 3,_=>simp[oL,go_sem,iu,cT,e9,jB,pm]
     | 4,_=>simp[oL,go_sem,iu,cT,e9,jB,pm]
   case measure=>simp[intOf];omega
  {have HK:H_ (j=n):=by{show _=_;omega};go_wp2;go_ret;have hM:=hm;rw[HK.o]at yU ⊢;refine⟨rfl,hM,fun h0=>?_⟩;obtain⟨b,off,rfl,hb,_⟩:=(hs.mk hM) (by omega);exact⟨b,off,rfl,((hS.mk hM) b hb).1,yU.o b off rfl⟩}
def pI (q:Int):Nat->Value
 | 0=>.string (gR (q))
 | 1=>i_ (q+1)
 | 2=>i_ (q+1+1)
 | _=>i_ (q+1+1+1)
theorem vO (a:o_)(n c:Nat)(k:Int)(S:Nat->Prop)(w:w_)(hs:dJ w S a (n * 4))(hS:lU w S)(h0:0<=k)(hk:k+4 * n<=1000000000000) :
  c_ 44 #[.slice a n c,i_ k] w fun e w'=>e=.returned (i_ (k+4 * n))/\Mk S w w'/\gS w' a n 4 (fun j=>pI (k+4 * j)):=by
 go_enter Tryz.func44,Tryz.ntmps44;go_wp2;go_loopw [1,5] (fun q i wr=>∃(j:Nat),j<=n/\q=i_ (k+4 * j)/\i=i_ j/\Mk S w wr/\H_ (∀ b off,a=some (a_ b off)->lY wr b off 4 j (fun j=>pI (k+4 * j)))) (fun _ i _=>n-(intOf i).toNat);(case atStart=>exact⟨0,Nat.zero_le _,by simp,rfl,Mk.refl _ _,fun _ _ _ i hi=>zcc hi (bW _)⟩);case round=>
  obtain⟨j,hj,rfl,rfl,hm,yU⟩:=hrel;by_cases au:j<n
  ·have HB:H_ (k+4 * j+4<=1000000000000):=by{show _<=_;omega};have HE:H_ (k+4 * ((j+1:Nat):Int)=k+4 * j+4):=by show _=_;omega
   obtain⟨kj,jK⟩:∃ kj:Int,kj=k+4 * (j:Int):=⟨_,rfl⟩;have sO:0<=kj:=by omega
   have kM:kj+4<=1000000000000:=by{omega};have FV:H_ (k+4 * (j:Int)=kj):=jK.symm;rw[<-jK]at HB HE ⊢;have qD:n<=1000000000000:=by{omega};clear hk;have HM:=af hm;clear hm;obtain⟨b,off,rfl,hb,aC⟩:=(hs.mk HM.o) (by omega);have MT:=af (yU.o b off rfl);clear yU;clear aC jK;have kN:=((hS.mk HM.o) b hb).1;have fM:H_ (kj<=1000000000000):=by{show _<=_;omega};go_wp2_with fail;refine(ie _ _ fM.o).mono ?_;rintro e w1 ⟨rfl,ar⟩;have m1:Mk S wr w1:=by{refine Mk.trans ?_ (Mk.of_below ar);exact Mk.refl _ _};have MT1:=af (lY.below MT.o kN ar);clear ar;have bx:=(hs.mk (HM.o.trans m1)) (by omega);obtain⟨b',jP,Fr,dV,aC⟩:=bx;obtain⟨rfl,rfl⟩:b=b'/\off=jP:=by{injection Fr with Fr;injection Fr with h1 h2;exact⟨h1,h2⟩};clear Fr dV;obtain⟨v0,iu,f0⟩:=aC (j * 4+0) (by omega);rw[Nat.add_zero]at iu;obtain⟨v1,cT,f1⟩:=aC (j * 4+1) (by omega);rw[<-Nat.add_assoc]at cT;obtain⟨v2,e9,f2⟩:=aC (j * 4+2) (by omega);rw[<-Nat.add_assoc]at e9;obtain⟨v3,jB,f3⟩:=aC (j * 4+3) (by omega);rw[<-Nat.add_assoc]at jB;have hf:=((hS.mk (HM.o.trans m1)) b hb).2;have M1:=af (HM.o.trans m1);clear aC m1 HM MT kN;go_wp2;go_roundw;case rel=>
    refine⟨j+1,by omega,by rw[HE.o];go_num,by go_num,M1.o.trans ?_,fun b' jP e=>?_⟩;{refine cE ?_ hb ⟨v3,jB,f3⟩ _ trivial;refine cE ?_ hb ⟨v2,e9,f2⟩ _ trivial;refine cE ?_ hb ⟨v1,cT,f1⟩ _ trivial;refine cE ?_ hb ⟨v0,iu,f0⟩ _ trivial;exact Mk.refl _ _}
    ·injection e with e;injection e with e1 e2;subst e1 e2;refine((((MT1.o.set n_ _).set (Nat.le_add_right _ 1) _).set (Nat.le_add_right _ 2) _).set (Nat.le_add_right _ 3) _).next (fun r hr=>?_);show _=some (pI (k+4 * (j:Int)) r);rw[FV.o]
     match r,hr with
     | 0,_=>simp[pI,go_sem,iu,cT,e9,jB]
     | 1,_=>simp[pI,go_sem,iu,cT,e9,jB]
     | 2,_=>simp[pI,go_sem,iu,cT,e9,jB]
     | 3,_=>simp[pI,go_sem,iu,cT,e9,jB]
   case measure=>simp[intOf];omega
  {have HK:H_ (j=n):=by{show _=_;omega};go_wp2;go_ret;have hM:=hm;rw[HK.o]at yU ⊢;refine⟨rfl,hM,fun h0=>?_⟩;obtain⟨b,off,rfl,hb,_⟩:=(hs.mk hM) (by omega);exact⟨b,off,rfl,((hS.mk hM) b hb).1,yU.o b off rfl⟩}
attribute [local go_sem] cn
theorem Cg (a:o_)(n c:Nat)(k:Int)(w:w_)(hs:gS w a n 2 (fun j=>Ie (k+2 * j)))(h0:0<=k)(hk:k+2 * n<=1000000000000) :
  c_ 45 #[.slice a n c,i_ k] w fun e w'=>e=.returned (i_ (k+2 * n))/\b_ w w':=by
 go_enter Tryz.func45,Tryz.ntmps45;go_wp2;go_loopw [1,5] (fun q i wr=>∃(j:Nat),j<=n/\q=i_ (k+2 * j)/\i=i_ j/\b_ w wr) (fun _ i _=>n-(intOf i).toNat);(case atStart=>exact⟨0,Nat.zero_le _,by simp,rfl,r_⟩);case round=>
  obtain⟨j,hj,rfl,rfl,hb⟩:=hrel;by_cases au:j<n
  ·have HE:H_ (k+2 * ((j+1:Nat):Int)=k+2 * j+2):=by show _=_;omega
   obtain⟨b,off,rfl,cY,MT⟩:=hs (by omega);have C:∀ r,r<2->wr.cell? (a_ b (off+j * 2+r))=some (Ie (k+2 * j) r):=fun r hr=>(hb.cell (p:=(a_ b (off+j * 2+r))) cY).trans (MT j au r hr);have c0:=C 0 (by omega);have c1:=C 1 (by omega);obtain⟨kj,jK⟩:∃ kj:Int,kj=k+2 * (j:Int):=⟨_,rfl⟩;have sO:0<=kj:=by omega
   have kM:kj+2<=1000000000000:=by{omega};rw[<-jK]at HE c0 c1 ⊢;have qD:n<=1000000000000:=by{omega};have yN:b<wr.heap.size:=by{have:=hb.size;omega};clear hk jK C MT;simp only[Ie,Nat.add_zero]at c0 c1;go_wp2;go_roundw;(case rel=>exact⟨j+1,by omega,by rw[HE.o];go_num,by go_num,hb⟩);case measure=>simp[intOf];omega
  {have HK:H_ (j=n):=by{show _=_;omega};go_wp2;go_ret;rw[HK.o];exact⟨rfl,hb⟩}
theorem vN (a:o_)(n c:Nat)(k:Int)(w:w_)(hs:gS w a n 5 (fun j=>kL (k+5 * j)))(h0:0<=k)(hk:k+5 * n<=1000000000000) :
  c_ 46 #[.slice a n c,i_ k] w fun e w'=>e=.returned (i_ (k+5 * n))/\b_ w w':=by
 go_enter Tryz.func46,Tryz.ntmps46;go_wp2;go_loopw [1,5] (fun q i wr=>∃(j:Nat),j<=n/\q=i_ (k+5 * j)/\i=i_ j/\b_ w wr) (fun _ i _=>n-(intOf i).toNat);(case atStart=>exact⟨0,Nat.zero_le _,by simp,rfl,r_⟩);case round=>
  obtain⟨j,hj,rfl,rfl,hb⟩:=hrel;by_cases au:j<n
  ·have HE:H_ (k+5 * ((j+1:Nat):Int)=k+5 * j+5):=by show _=_;omega
   obtain⟨b,off,rfl,cY,MT⟩:=hs (by omega);have C:∀ r,r<5->wr.cell? (a_ b (off+j * 5+r))=some (kL (k+5 * j) r):=fun r hr=>(hb.cell (p:=(a_ b (off+j * 5+r))) cY).trans (MT j au r hr);have c0:=C 0 (by omega);have c1:=C 1 (by omega);have c2:=C 2 (by omega);have c3:=C 3 (by omega);have c4:=C 4 (by omega);obtain⟨kj,jK⟩:∃ kj:Int,kj=k+5 * (j:Int):=⟨_,rfl⟩;have sO:0<=kj:=by omega
   have kM:kj+5<=1000000000000:=by{omega};rw[<-jK]at HE c0 c1 c2 c3 c4 ⊢;have qD:n<=1000000000000:=by{omega};have yN:b<wr.heap.size:=by{have:=hb.size;omega};clear hk jK C MT;simp only[kL,Nat.add_zero]at c0 c1 c2 c3 c4;have hfl:=IT (kj+1+1);have fM:H_ (kj+1+1+1<=1000000000000):=by{show _<=_;omega};have HC:H_ (∀ w1,Below wr.heap.size wr.drew w1->w1.cell? (a_ b (off+j * 5+3))=some (.string (gR (kj+1+1+1)))/\w1.cell? (a_ b (off+j * 5+4))=some (i_ (kj+1+1+1+1))):=fun w1 h1=>⟨(h1.cell (p:=(a_ b _)) yN).trans c3,(h1.cell (p:=(a_ b _)) yN).trans c4⟩;have Ty:H_ (c_ 40 #[i_ (kj+1+1+1)] wr.drew fun e w'=>e=.returned (.string (gR (kj+1+1+1)))/\Below wr.drew.heap.size wr.drew w'):=ie _ _ fM.o;have oH:=af hb;go_wp2_with fail
   go_region_held3 (fun W=>W.cell? (a_ b (off+j * 5+3))=some (.string (gR (kj+1+1+1)))) (simp[go_sem, *])
    (first | (go_at_call 40;refine Ty.o.mono ?_;rintro e w1 ⟨rfl,ar⟩;obtain⟨e3,e4⟩:=HC.o w1 ar))
   have ZZ:b<w1.heap.size:=by{have h2:=ar.size;have h3:wr.drew.heap.size=wr.heap.size:=rfl;omega};have lv:H_ (b_ w w1):=oH.o.drew.trans (ar.mono oH.o.size);clear ar HC c0 c1 c2 c3 c4 hb;go_wp2;go_roundw;(case rel=>exact⟨j+1,by omega,by rw[HE.o];go_num,by go_num,lv.o⟩);case measure=>simp[intOf];omega
  {have HK:H_ (j=n):=by{show _=_;omega};go_wp2;go_ret;rw[HK.o];exact⟨rfl,hb⟩}
theorem AH (a:o_)(n c:Nat)(k:Int)(w:w_)(hs:gS w a n 5 (fun j=>oL (k+5 * j)))(h0:0<=k)(hk:k+5 * n<=1000000000000) :
  c_ 47 #[.slice a n c,i_ k] w fun e w'=>e=.returned (i_ (k+5 * n))/\b_ w w':=by
 go_enter Tryz.func47,Tryz.ntmps47;go_wp2;go_loopw [1,5] (fun q i wr=>∃(j:Nat),j<=n/\q=i_ (k+5 * j)/\i=i_ j/\b_ w wr) (fun _ i _=>n-(intOf i).toNat);(case atStart=>exact⟨0,Nat.zero_le _,by simp,rfl,r_⟩);case round=>
  obtain⟨j,hj,rfl,rfl,hb⟩:=hrel;by_cases au:j<n
  ·have HE:H_ (k+5 * ((j+1:Nat):Int)=k+5 * j+5):=by show _=_;omega
   obtain⟨b,off,rfl,cY,MT⟩:=hs (by omega);have C:∀ r,r<5->wr.cell? (a_ b (off+j * 5+r))=some (oL (k+5 * j) r):=fun r hr=>(hb.cell (p:=(a_ b (off+j * 5+r))) cY).trans (MT j au r hr);have c0:=C 0 (by omega);have c1:=C 1 (by omega);have c2:=C 2 (by omega);have c3:=C 3 (by omega);have c4:=C 4 (by omega);obtain⟨kj,jK⟩:∃ kj:Int,kj=k+5 * (j:Int):=⟨_,rfl⟩;have sO:0<=kj:=by omega
   have kM:kj+5<=1000000000000:=by{omega};rw[<-jK]at HE c0 c1 c2 c3 c4 ⊢;have qD:n<=1000000000000:=by{omega};have yN:b<wr.heap.size:=by{have:=hb.size;omega};clear hk jK C MT;simp only[oL,Nat.add_zero]at c0 c1 c2 c3 c4;go_wp2;go_roundw;(case rel=>exact⟨j+1,by omega,by rw[HE.o];go_num,by go_num,hb⟩);case measure=>simp[intOf];omega
  {have HK:H_ (j=n):=by{show _=_;omega};go_wp2;go_ret;rw[HK.o];exact⟨rfl,hb⟩}
theorem vu (a:o_)(n c:Nat)(k:Int)(w:w_)(hs:gS w a n 4 (fun j=>pI (k+4 * j)))(h0:0<=k)(hk:k+4 * n<=1000000000000) :
  c_ 48 #[.slice a n c,i_ k] w fun e w'=>e=.returned (i_ (k+4 * n))/\b_ w w':=by
 go_enter Tryz.func48,Tryz.ntmps48;go_wp2;go_loopw [1,5] (fun q i wr=>∃(j:Nat),j<=n/\q=i_ (k+4 * j)/\i=i_ j/\b_ w wr) (fun _ i _=>n-(intOf i).toNat);(case atStart=>exact⟨0,Nat.zero_le _,by simp,rfl,r_⟩);case round=>
  obtain⟨j,hj,rfl,rfl,hb⟩:=hrel;by_cases au:j<n
  ·have HE:H_ (k+4 * ((j+1:Nat):Int)=k+4 * j+4):=by show _=_;omega
   obtain⟨b,off,rfl,cY,MT⟩:=hs (by omega);have C:∀ r,r<4->wr.cell? (a_ b (off+j * 4+r))=some (pI (k+4 * j) r):=fun r hr=>(hb.cell (p:=(a_ b (off+j * 4+r))) cY).trans (MT j au r hr);have c0:=C 0 (by omega);have c1:=C 1 (by omega);have c2:=C 2 (by omega);have c3:=C 3 (by omega);obtain⟨kj,jK⟩:∃ kj:Int,kj=k+4 * (j:Int):=⟨_,rfl⟩;have sO:0<=kj:=by omega
   have kM:kj+4<=1000000000000:=by{omega};rw[<-jK]at HE c0 c1 c2 c3 ⊢;have qD:n<=1000000000000:=by{omega};have yN:b<wr.heap.size:=by{have:=hb.size;omega};clear hk jK C MT;simp only[pI,Nat.add_zero]at c0 c1 c2 c3;have fM:H_ (kj<=1000000000000):=by{show _<=_;omega};have HC:H_ (∀ w1,Below wr.heap.size wr.drew w1->w1.cell? (a_ b (off+j * 4))=some (.string (gR (kj)))/\w1.cell? (a_ b (off+j * 4+1))=some (i_ (kj+1))/\w1.cell? (a_ b (off+j * 4+2))=some (i_ (kj+1+1))/\w1.cell? (a_ b (off+j * 4+3))=some (i_ (kj+1+1+1))):=fun w1 h1=>⟨(h1.cell (p:=(a_ b _)) yN).trans c0,(h1.cell (p:=(a_ b _)) yN).trans c1,(h1.cell (p:=(a_ b _)) yN).trans c2,(h1.cell (p:=(a_ b _)) yN).trans c3⟩;have Ty:H_ (c_ 40 #[i_ (kj)] wr.drew fun e w'=>e=.returned (.string (gR (kj)))/\Below wr.drew.heap.size wr.drew w'):=ie _ _ fM.o;have oH:=af hb;go_wp2_with fail
   go_region_held3 (fun W=>W.cell? (a_ b (off+j * 4))=some (.string (gR (kj)))) (simp[go_sem, *])
    (first | (go_at_call 40;refine Ty.o.mono ?_;rintro e w1 ⟨rfl,ar⟩;obtain⟨e0,e1,e2,e3⟩:=HC.o w1 ar))
   have ZZ:b<w1.heap.size:=by{have h2:=ar.size;have h3:wr.drew.heap.size=wr.heap.size:=rfl;omega};have lv:H_ (b_ w w1):=oH.o.drew.trans (ar.mono oH.o.size);clear ar HC c0 c1 c2 c3 hb;go_wp2;go_roundw;(case rel=>exact⟨j+1,by omega,by rw[HE.o];go_num,by go_num,lv.o⟩);case measure=>simp[intOf];omega
  {have HK:H_ (j=n):=by{show _=_;omega};go_wp2;go_ret;rw[HK.o];exact⟨rfl,hb⟩}
def rA (R:dq):Nat->o_
 | 0=>R.a5
 | 1=>R.a6
 | 2=>R.a7
 | _=>R.a8
def rN (x:aj):Nat->Nat
 | 0=>x.s.length
 | 1=>x.k.length
 | 2=>x.u.length
 | _=>x.g.length
def rM:Nat->Nat
 | 0=>2
 | 1=>5
 | 2=>5
 | _=>4
def rG:Nat->Int->Nat->Value
 | 0=>Ie
 | 1=>kL
 | 2=>oL
 | _=>pI
def rK (x:aj):Nat->Nat
 | 0=>5
 | 1=>5+2 * x.s.length
 | 2=>5+2 * x.s.length+5 * x.k.length
 | _=>5+2 * x.s.length+5 * x.k.length+5 * x.u.length
def zQ (q:Int):Nat->Value
 | 0=>.string (gR q)
 | 1=>i_ (q+1)
 | 2=>i_ (q+1+1)
 | 3=>.bool ((q+1+1+1) % 3==0)
 | _=>i_ (q+1+1+1+1)
def eA (R:dq)(x:aj)(s b:Nat):Prop:=0<rN x s/\∃ o,rA R s=some (a_ b o)
structure PA (w:w_)(bP o:Nat)(x:aj)(R:dq):Prop where
 flat:∀ r,r<5->∃ v,w.cell? (a_ bP (o+r))=some v/\ug v
 h5:w.cell? (a_ bP (o+5))=some (.slice R.a5 x.s.length R.c5)
 h6:w.cell? (a_ bP (o+6))=some (.slice R.a6 x.k.length R.c6)
 h7:w.cell? (a_ bP (o+7))=some (.slice R.a7 x.u.length R.c7)
 h8:w.cell? (a_ bP (o+8))=some (.slice R.a8 x.g.length R.c8)
 row:∀ s,s<4->dJ w (eA R x s) (rA R s) (rN x s * rM s)
def CB (bP:Nat)(l:List aj)(R:Nat->dq)(b:Nat):Prop:=b=bP\/∃ i s,i<l.length/\s<4/\eA (R i) (al l i) s b
structure CA (w:w_)(bP off:Nat)(l:List aj)(R:Nat->dq):Prop where
 here:∀ i,i<l.length->PA w bP (off+i * 9) (al l i) (R i)
 soft:lU w (CB bP l R)
 apart:∀ i s j t b,i<l.length->j<l.length->s<4->t<4->eA (R i) (al l i) s b->eA (R j) (al l j) t b->i=j/\s=t
 away:∀ i s,i<l.length->s<4->¬eA (R i) (al l i) s bP
def vV (w:w_)(bP o:Nat)(x:aj)(R:dq)(k:Int)(t:Nat):Prop:=(∀ r,r<5->w.cell? (a_ bP (o+r))=some (zQ k r))/\∀ s,s<t->gS w (rA R s) (rN x s) (rM s) (fun j=>rG s (k+rK x s+rM s * j))
section
variable {w w':w_} {bP o:Nat} {x:aj} {R:dq}
theorem Ca {T S:Nat->Prop}{a:o_}{n:Nat}(h:dJ w T a n)(k:Mk S w w'):dJ w' T a n:=fun hn=>by
 obtain⟨b,off,e,hs,hc⟩:=h hn;exact⟨b,off,e,hs,fun j hj=>by obtain⟨v,ev,fv⟩:=hc j hj;exact k.flat _ _ v ev fv⟩
theorem PA.mk' {S:Nat->Prop}(h:PA w bP o x R)(k:Mk S w w'):PA w' bP o x R where
 flat r hr:=by obtain⟨v,e,f⟩:=h.flat r hr;exact k.flat _ _ v e f
 h5:=k.hdr _ _ _ _ _ h.h5
 h6:=k.hdr _ _ _ _ _ h.h6
 h7:=k.hdr _ _ _ _ _ h.h7
 h8:=k.hdr _ _ _ _ _ h.h8
 row s hs:=Ca (h.row s hs) k
theorem CA.mk' {S:Nat->Prop}{off:Nat}{l:List aj}{R:Nat->dq}(h:CA w bP off l R)(k:Mk S w w'):CA w' bP off l R where
 here i hi:=(h.here i hi).mk' k
 soft b hb:=⟨l_ (h.soft b hb).1 k.size,fun o=>(k.soft b o (h.soft b hb).1).trans ((h.soft b hb).2 o)⟩
 apart:=h.apart
 away:=h.away
theorem vV.mk' {S:Nat->Prop}{k:Int}{t:Nat}(h:vV w bP o x R k t)(m:Mk S w w')(hb:bP<w.heap.size)(h1:¬S bP)(h2:∀ s,s<t->∀ b,eA R x s b->¬S b):vV w' bP o x R k t:=
 ⟨fun r hr=>(zbe (a:=(a_ bP (o+r))) (m.block bP hb h1)).trans (h.1 r hr),fun s hs h0=>by
  obtain⟨b,off,e,cY,hm⟩:=h.2 s hs h0;exact⟨b,off,e,l_ cY m.size,hm.block (m.block b cY (h2 s hs b ⟨h0,off,e⟩))⟩⟩
theorem vV.set {k:Int}{t q:Nat}(h:vV w bP o x R k t)(ha:∀ s,s<t->¬eA R x s bP)(hq:o+9<=q)(v:Value):vV (w.setCell (a_ bP q) v) bP o x R k t:=
 ⟨fun r hr=>by
  rw[World.cell?_setCell_other _ (a_ bP q) (a_ bP (o+r)) v (fun e=>by injection e with _ e _;omega)];exact h.1 r hr,fun s hs h0=>by
  obtain⟨b,off,e,cY,hm⟩:=h.2 s hs h0;exact⟨b,off,e,by simpa using cY,hm.block (zbg w (a_ bP q) b v (fun eb=>ha s hs (by rw[<-show b=bP from eb];exact⟨h0,off,e⟩)))⟩⟩
end
theorem CA.lt {w:w_}{bP off:Nat}{l:List aj}{R:Nat->dq}(h:CA w bP off l R):bP<w.heap.size:=(h.soft bP (.inl rfl)).1
theorem vU (bP off:Nat)(l:List aj)(c:Nat)(k:Int)(R:Nat->dq)(w:w_)(h:CA w bP off l R)(h0:0<=k)(hk:k+aS aL l<=1000000000)(hn:l.length<=1000000000) :
  c_ 18 #[s_ bP off l.length c,i_ k] w fun e w'=>e=.returned (i_ (k+aS aL l))/\Mk (CB bP l R) w w'/\∀ i,i<l.length->vV w' bP (off+i * 9) (al l i) (R i) (k+bo aL l i) 4:=by
 have Ln:H_ (∀ j,j<l.length->bo aL l (j+1)=bo aL l j+aL (al l j)/\bo aL l (j+1)<=aS aL l):=fun j hj=>⟨dI aL l j aj.z hj,gw _ _ _⟩;have HC:=af h;clear h;go_enter Tryz.func18,Tryz.ntmps18;go_wp2
 go_loopw [1,5] (fun q i wr=>∃(j:Nat),j<=l.length/\q=i_ (k+bo aL l j)/\i=i_ j/\H_ (Mk (CB bP l R) w wr)/\H_ (∀ i,i<j->vV wr bP (off+i * 9) (al l i) (R i) (k+bo aL l i) 4)) (fun _ i _=>l.length-(intOf i).toNat);(case atStart=>exact⟨0,Nat.zero_le _,by simp[fe],rfl,Mk.refl _ _,fun i hi=>zcc hi (bW _)⟩);case round=>
  obtain⟨j,hj,rfl,rfl,HM,HP⟩:=hrel;by_cases au:j<l.length
  ·obtain⟨je,sn⟩:=aa Ln j au;have CW:=HC.o.mk' HM.o;have N:=CW.here j au;have yQ:bP<wr.heap.size:=CW.lt;have K3:=af CW.soft;have BN:H_ (∀ i s b,i<l.length->s<4->∀ t,t<4->eA (R i) (al l i) s b->eA (R j) (al l j) t b->i=j/\s=t):=fun i s b hi hs t ht h1 h2=>HC.o.apart i s j t b hi au hs ht h1 h2;have Xq:H_ (∀ i s,i<l.length->s<4->¬eA (R i) (al l i) s bP):=HC.o.away;have D8:H_ (CB bP l R bP/\∀ t,t<4->∀ b,eA (R j) (al l j) t b->CB bP l R b):=⟨.inl rfl,fun t ht b hb=>.inr ⟨j,t,au,ht,hb⟩⟩;obtain⟨x,hx⟩:∃ x,al l j=x:=⟨_,rfl⟩;rw[hx]at N je;obtain⟨Q,hQ⟩:∃ Q,R j=Q:=⟨_,rfl⟩;rw[hQ]at N;have HX:H_ (al l j=x/\R j=Q):=⟨hx,hQ⟩;rw[hx,hQ]at BN D8;have he:aL x=5+2 * x.s.length+5 * x.k.length+5 * x.u.length+4 * x.g.length:=rfl;obtain⟨kj,jK⟩:∃ kj:Int,kj=k+bo aL l j:=⟨_,rfl⟩;have HKJ:=af jK;rw[<-jK];have Xr:0<=kj:=by omega
   have VJ:kj+5+2 * x.s.length+5 * x.k.length+5 * x.u.length+4 * x.g.length<=1000000000:=by{omega};have HE:H_ (kj+5+2 * x.s.length+5 * x.k.length+5 * x.u.length+4 * x.g.length=k+bo aL l (j+1)):=by{show _=_;omega};clear he je sn jK hk CW hx hQ;have HN:=af N;clear N;have HB:H_ (kj<=1000000000000):=by{show _<=_;omega};go_wp2_with fail;refine(ie _ _ HB.o).mono ?_;rintro e w1 ⟨rfl,ar⟩;have m1:Mk (CB bP l R) wr w1:=Mk.of_below ar;have N1:=HN.o.mk' m1;obtain⟨v0,iu,f0⟩:=N1.flat 0 (by omega);obtain⟨v1,cT,f1⟩:=N1.flat 1 (by omega);obtain⟨v2,e9,f2⟩:=N1.flat 2 (by omega);obtain⟨v3,jB,f3⟩:=N1.flat 3 (by omega);obtain⟨v4,pm,f4⟩:=N1.flat 4 (by omega);rw[Nat.add_zero]at iu;have hr:=N1.h5;have fI:=((K3.o.mk m1) bP D8.o.1).2;have Ww:bP<w1.heap.size:=by{have:=ar.size;omega};have P1:H_ (∀ i,i<j->vV w1 bP (off+i * 9) (al l i) (R i) (k+bo aL l i) 4):=fun i hi=>(HP.o i hi).mk' (S:=fun _=>False) (Mk.of_below ar) yQ id (fun _ _ _ _=>id);have M1:=af m1;have VF:=af N1;clear m1 ar HP N1;go_wp2_with fail;have m2:Mk (CB bP l R) w1 (((((w1.setCell (a_ bP (off+j * 9)) (.string (gR kj))).setCell (a_ bP (off+j * 9+1)) (i_ (kj+1))).setCell (a_ bP (off+j * 9+2)) (i_ (kj+1+1))).setCell (a_ bP (off+j * 9+3)) (.bool ((kj+1+1+1) % 3==0))).setCell (a_ bP (off+j * 9+4)) (i_ (kj+1+1+1+1))):=by{refine cE ?_ D8.o.1 ⟨v4,pm,f4⟩ _ trivial;refine cE ?_ D8.o.1 ⟨v3,jB,f3⟩ _ trivial;refine cE ?_ D8.o.1 ⟨v2,e9,f2⟩ _ trivial;refine cE ?_ D8.o.1 ⟨v1,cT,f1⟩ _ trivial;refine cE ?_ D8.o.1 ⟨v0,iu,f0⟩ _ trivial;exact Mk.refl _ _};have P2:H_ (∀ i,i<j->vV (((((w1.setCell (a_ bP (off+j * 9)) (.string (gR kj))).setCell (a_ bP (off+j * 9+1)) (i_ (kj+1))).setCell (a_ bP (off+j * 9+2)) (i_ (kj+1+1))).setCell (a_ bP (off+j * 9+3)) (.bool ((kj+1+1+1) % 3==0))).setCell (a_ bP (off+j * 9+4)) (i_ (kj+1+1+1+1))) bP (off+i * 9) (al l i) (R i) (k+bo aL l i) 4):=fun i hi=>by
    have ha:∀ s,s<4->¬eA (R i) (al l i) s bP:=fun s hs=>Xq.o i s (by omega) hs;exact(((((P1.o i hi).set ha (by omega) _).set ha (by omega) _).set ha (by omega) _).set ha (by omega) _).set ha (by omega) _
   have Q2:H_ (vV (((((w1.setCell (a_ bP (off+j * 9)) (.string (gR kj))).setCell (a_ bP (off+j * 9+1)) (i_ (kj+1))).setCell (a_ bP (off+j * 9+2)) (i_ (kj+1+1))).setCell (a_ bP (off+j * 9+3)) (.bool ((kj+1+1+1) % 3==0))).setCell (a_ bP (off+j * 9+4)) (i_ (kj+1+1+1+1))) bP (off+j * 9) x Q kj 0):=⟨fun r hr=>by
    match r,hr with
    | 0,_=>simp[zQ,go_sem,iu,cT,e9,jB,pm]
    | 1,_=>simp[zQ,go_sem,iu,cT,e9,jB,pm]
    | 2,_=>simp[zQ,go_sem,iu,cT,e9,jB,pm]
    | 3,_=>simp[zQ,go_sem,iu,cT,e9,jB,pm]
    | 4,_=>simp[zQ,go_sem,iu,cT,e9,jB,pm],fun s hs=>zcc hs (bW _)⟩
   have M2:=af (M1.o.trans m2);have N2:=VF.o.mk' m2;have Bh:bP<(((((w1.setCell (a_ bP (off+j * 9)) (.string (gR kj))).setCell (a_ bP (off+j * 9+1)) (i_ (kj+1))).setCell (a_ bP (off+j * 9+2)) (i_ (kj+1+1))).setCell (a_ bP (off+j * 9+3)) (.bool ((kj+1+1+1) % 3==0))).setCell (a_ bP (off+j * 9+4)) (i_ (kj+1+1+1+1))).heap.size:=by{simpa using Ww};clear iu f0 cT f1 e9 f2 jB f3 pm f4 hr m2 M1 fI P1 VF;generalize ((((w1.setCell (a_ bP (off+j * 9)) (.string (gR kj))).setCell (a_ bP (off+j * 9+1)) (i_ (kj+1))).setCell (a_ bP (off+j * 9+2)) (i_ (kj+1+1))).setCell (a_ bP (off+j * 9+3)) (.bool ((kj+1+1+1) % 3==0))).setCell (a_ bP (off+j * 9+4)) (i_ (kj+1+1+1+1))=w2 at *;have S0:lU w2 (eA Q x 0):=fun b hb=>(K3.o.mk M2.o) b (D8.o.2 0 (by omega) b hb);refine(CN Q.a5 x.s.length Q.c5 _ (eA Q x 0) _ (N2.row 0 (by omega)) S0 (by omega) (by omega)).mono ?_;rintro e w3 ⟨rfl,n0,r0⟩;have OS:¬eA Q x 0 bP:=by{have:=Xq.o j 0 au (by omega);rwa [HX.o.1,HX.o.2]at this};have P3:H_ (∀ i,i<j->vV w3 bP (off+i * 9) (al l i) (R i) (k+bo aL l i) 4):=fun i hi=>(P2.o i hi).mk' n0 Bh OS (fun s hs b h1 h2=>by have:=(BN.o i s b (by omega) hs 0 (by omega) h1 h2).1;omega);have Q3:H_ (vV w3 bP (off+j * 9) x Q kj 1):=by
    have old:=Q2.o.mk' n0 Bh OS (fun s hs b h1 h2=>by
     have Rb:eA (R j) (al l j) s b:=by rw[HX.o.1,HX.o.2];exact h1
     have:=(BN.o j s b au (by omega) 0 (by omega) Rb h2).2;omega)
    refine⟨old.1,fun s hs=>?_⟩;by_cases e:s=0;{subst e;have r:=r0;show gS _ _ _ _ (fun j=>Ie (kj+((rK x 0:Nat):Int)+2 * j));rwa [show kj+((rK x 0:Nat):Int)=kj+1+1+1+1+1 by have e:rK x 0=5:=rfl;rw[e];omega]};{exact old.2 s (by omega)}
   have M3:=af (M2.o.trans (n0.mono (D8.o.2 0 (by omega))));have N3:=N2.mk' n0;have NA:bP<w3.heap.size:=l_ Bh n0.size;have vl:=N3.h6;clear n0 r0 P2 Q2 M2 S0 N2;go_wp2_with fail;have S1:lU w3 (eA Q x 1):=fun b hb=>(K3.o.mk M3.o) b (D8.o.2 1 (by omega) b hb);refine(vx Q.a6 x.k.length Q.c6 _ (eA Q x 1) _ (N3.row 1 (by omega)) S1 (by omega) (by omega)).mono ?_;rintro e w4 ⟨rfl,n1,r1⟩;have Lt:¬eA Q x 1 bP:=by{have:=Xq.o j 1 au (by omega);rwa [HX.o.1,HX.o.2]at this};have P4:H_ (∀ i,i<j->vV w4 bP (off+i * 9) (al l i) (R i) (k+bo aL l i) 4):=fun i hi=>(P3.o i hi).mk' n1 NA Lt (fun s hs b h1 h2=>by have:=(BN.o i s b (by omega) hs 1 (by omega) h1 h2).1;omega);have Q4:H_ (vV w4 bP (off+j * 9) x Q kj 2):=by
    have old:=Q3.o.mk' n1 NA Lt (fun s hs b h1 h2=>by
     have Rb:eA (R j) (al l j) s b:=by rw[HX.o.1,HX.o.2];exact h1
     have:=(BN.o j s b au (by omega) 1 (by omega) Rb h2).2;omega)
    refine⟨old.1,fun s hs=>?_⟩;by_cases e:s=1;{subst e;have r:=r1;show gS _ _ _ _ (fun j=>kL (kj+((rK x 1:Nat):Int)+5 * j));rwa [show kj+((rK x 1:Nat):Int)=kj+1+1+1+1+1+2 * (x.s.length:Int)by have e:rK x 1=5+2 * x.s.length:=rfl;rw[e];omega]};{exact old.2 s (by omega)}
   have M4:=af (M3.o.trans (n1.mono (D8.o.2 1 (by omega))));have N4:=N3.mk' n1;have NC:bP<w4.heap.size:=l_ NA n1.size;have Uk:=N4.h7;clear n1 r1 P3 Q3 M3 S1 N3;go_wp2_with fail;have S2:lU w4 (eA Q x 2):=fun b hb=>(K3.o.mk M4.o) b (D8.o.2 2 (by omega) b hb);refine(zx Q.a7 x.u.length Q.c7 _ (eA Q x 2) _ (N4.row 2 (by omega)) S2 (by omega) (by omega)).mono ?_;rintro e w5 ⟨rfl,n2,r2⟩;have Lz:¬eA Q x 2 bP:=by{have:=Xq.o j 2 au (by omega);rwa [HX.o.1,HX.o.2]at this};have P5:H_ (∀ i,i<j->vV w5 bP (off+i * 9) (al l i) (R i) (k+bo aL l i) 4):=fun i hi=>(P4.o i hi).mk' n2 NC Lz (fun s hs b h1 h2=>by have:=(BN.o i s b (by omega) hs 2 (by omega) h1 h2).1;omega);have Q5:H_ (vV w5 bP (off+j * 9) x Q kj 3):=by
    have old:=Q4.o.mk' n2 NC Lz (fun s hs b h1 h2=>by
     have Rb:eA (R j) (al l j) s b:=by rw[HX.o.1,HX.o.2];exact h1
     have:=(BN.o j s b au (by omega) 2 (by omega) Rb h2).2;omega)
    refine⟨old.1,fun s hs=>?_⟩;by_cases e:s=2;{subst e;have r:=r2;show gS _ _ _ _ (fun j=>oL (kj+((rK x 2:Nat):Int)+5 * j));rwa [show kj+((rK x 2:Nat):Int)=kj+1+1+1+1+1+2 * (x.s.length:Int)+5 * (x.k.length:Int)by have e:rK x 2=5+2 * x.s.length+5 * x.k.length:=rfl;rw[e];omega]};{exact old.2 s (by omega)}
   have M5:=af (M4.o.trans (n2.mono (D8.o.2 2 (by omega))));have N5:=N4.mk' n2;have N9:bP<w5.heap.size:=l_ NC n2.size;have Ua:=N5.h8;clear n2 r2 P4 Q4 M4 S2 N4;go_wp2_with fail;have S3:lU w5 (eA Q x 3):=fun b hb=>(K3.o.mk M5.o) b (D8.o.2 3 (by omega) b hb);refine(vO Q.a8 x.g.length Q.c8 _ (eA Q x 3) _ (N5.row 3 (by omega)) S3 (by omega) (by omega)).mono ?_;rintro e w6 ⟨rfl,n3,r3⟩;have N7:¬eA Q x 3 bP:=by{have:=Xq.o j 3 au (by omega);rwa [HX.o.1,HX.o.2]at this};have P6:H_ (∀ i,i<j->vV w6 bP (off+i * 9) (al l i) (R i) (k+bo aL l i) 4):=fun i hi=>(P5.o i hi).mk' n3 N9 N7 (fun s hs b h1 h2=>by have:=(BN.o i s b (by omega) hs 3 (by omega) h1 h2).1;omega);have Q6:H_ (vV w6 bP (off+j * 9) x Q kj 4):=by
    have old:=Q5.o.mk' n3 N9 N7 (fun s hs b h1 h2=>by
     have Rb:eA (R j) (al l j) s b:=by rw[HX.o.1,HX.o.2];exact h1
     have:=(BN.o j s b au (by omega) 3 (by omega) Rb h2).2;omega)
    refine⟨old.1,fun s hs=>?_⟩;by_cases e:s=3;{subst e;have r:=r3;show gS _ _ _ _ (fun j=>pI (kj+((rK x 3:Nat):Int)+4 * j));rwa [show kj+((rK x 3:Nat):Int)=kj+1+1+1+1+1+2 * (x.s.length:Int)+5 * (x.k.length:Int)+5 * (x.u.length:Int)by have e:rK x 3=5+2 * x.s.length+5 * x.k.length+5 * x.u.length:=rfl;rw[e];omega]};{exact old.2 s (by omega)}
   have M6:=af (M5.o.trans (n3.mono (D8.o.2 3 (by omega))));have N6:=N5.mk' n3;have hb6s:bP<w6.heap.size:=l_ N9 n3.size;have M9:=af (HM.o.trans M6.o);have P9:H_ (∀ i,i<j+1->vV w6 bP (off+i * 9) (al l i) (R i) (k+bo aL l i) 4):=fun i hi=>by{by_cases e:i=j;{subst e;rw[HX.o.1,HX.o.2,<-HKJ.o];exact Q6.o};{exact P6.o i (by omega)}};clear n3 r3 P5 Q5 M5 S3 N5 P6 Q6 M6 N6;go_wp2;go_roundw;(case rel=>exact⟨j+1,by omega,by rw[<-HE.o];go_num,by go_num,M9,P9⟩);case measure=>simp[intOf];omega
  {have HK:H_ (j=l.length):=by{show _=_;omega};go_wp2;go_ret;rw[HK.o]at HP ⊢;rw[fD];exact⟨rfl,HM.o,HP.o⟩}
end Go.Proofs.YtcjfjflljdojlaaGreatDoor
