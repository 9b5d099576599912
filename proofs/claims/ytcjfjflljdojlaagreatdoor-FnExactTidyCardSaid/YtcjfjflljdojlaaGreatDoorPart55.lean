import Derived.Test.YtcjfjflljdojlaaGreatDoorPart02
import Derived.Test.YtcjfjflljdojlaaGreatDoorProg
import Derived.WalkKit
import Derived.WalkSpells
import Derived.WalkLawsBesides
import Derived.Laws.FloatArith
import Derived.Deep.RegionHeld3
import Derived.Test.YtcjfjflljdojlaaGreatDoorPart05
import Derived.Test.YtcjfjflljdojlaaGreatDoorPart03
set_option linter.unusedSimpArgs false
set_option linter.unusedVariables false
set_option maxHeartbeats 4000000
set_option maxRecDepth 100000
namespace Go.Proofs.YtcjfjflljdojlaaGreatDoor
open Go.RowKit
def vH:Nat->Nat->ByteArray->ByteArray
 | 0,_,t=>t
 | d+1,m,t=>if m=0 then t else vH d (m / 10) (⟨[UInt8.ofNat (48+m % 10)].toArray⟩++t)
def gT (k:Int):ByteArray:=if k<=0 then⟨#[109,48]⟩else⟨#[109]⟩++vH 20 k.toNat ByteArray.empty
theorem ip (k:Int)(w:World)(hk:k<=1000000000000) :
  c_ 40 #[i_ k] w fun e w'=>e=.returned (.string (gT k))/\b_ w w':=by
 by_cases h0:k<=0
 ·go_enter Tryz.func40,Tryz.ntmps40;go_wp2_with fail
  go_ret;exact⟨by unfold gT;rw[if_pos h0];rfl,r_⟩
 obtain⟨n,rfl⟩:∃ n:Nat,k=n:=⟨k.toNat,by omega⟩;have HT:Hid (gT (n:Int)=⟨#[109]⟩++vH 20 n ByteArray.empty):=by
  show _=_;unfold gT;rw[if_neg h0];rfl
 go_enter Tryz.func40,Tryz.ntmps40;go_wp2_with fail
 go_loopw [0,3] (fun q s wr=>∃(m d:Nat) (t:ByteArray),q=i_ m/\s=.string t/\m<10 ^ d/\m<=1000000000000/\d+t.size<=20/\Hid (vH d m t=vH 20 n ByteArray.empty)/\b_ w wr) (fun q _ _=>(intOf q).toNat)
 case atStart=>exact⟨n,20,ByteArray.empty,rfl,rfl,by omega,by omega,by simp,rfl,r_⟩
 case round=>
  obtain⟨m,d,t,rfl,rfl,hm,hmb,hd,hD,hb⟩:=hrel;by_cases ax:0<m
  ·have Ea:(convert 141 9 (.slice (some (a_ wr.heap.size 0)) 1 1)).run Tryz.prog (wr.alloc (.cells #[.int .u8 (48+(m:Int) % 10)] 5))=.ok (.string ⟨[UInt8.ofNat (48+m % 10)].toArray⟩) (wr.alloc (.cells #[.int .u8 (48+(m:Int) % 10)] 5)):=by
    refine run_convert_bytes_back (P:=Tryz.prog) _ 141 9 5 (a_ wr.heap.size 0) 1 [UInt8.ofNat (48+m % 10)] Tryz.underlying141 Tryz.underlying5 Tryz.underlying9 fun j hj=>?_;obtain rfl:j=0:=by simp at hj;omega
    have e:((UInt8.ofNat (48+m % 10)).toNat:Int)=48+(m:Int) % 10:=by
     rw[UInt8.toNat_ofNat'];omega
    simp[Addr.add,go_sem];omega
   have kq:(⟨[UInt8.ofNat (48+m % 10)].toArray⟩:ByteArray).size=1:=rfl;have hd0:0<d:=by
    rcases Nat.eq_zero_or_pos d with e | e
    ·aj e;simp at hm;omega
    ·exact e
   have HN:Hid (vH (d-1) (m / 10) (⟨[UInt8.ofNat (48+m % 10)].toArray⟩++t)=vH 20 n ByteArray.empty):=by
    have e:=hD.out;obtain⟨d',rfl⟩:∃ d',d=d'+1:=⟨d-1,by omega⟩
    rwa [show vH (d'+1) m t=vH d' (m / 10) (⟨[UInt8.ofNat (48+m % 10)].toArray⟩++t)from if_neg (by omega)]at e
   generalize (⟨[UInt8.ofNat (48+m % 10)].toArray⟩:ByteArray)=t1 at Ea kq HN;have HS:Hid (t1.size=1):=kq;have Sy:¬(9223372036854775807<t1.size+t.size):=by omega
   clear kq hD;go_wp2_with fail
   go_roundw
   case rel=>
    have hs:=HS.out;refine⟨m / 10,d-1,t1++t,by go_num,rfl,?_,by omega,?_,HN,hb.alloc hb.size _⟩
    ·cases d with
     | zero=>simp at hm;omega
     | succ d=>rw[Nat.pow_succ]at hm;simp;omega
    ·rw[ByteArray.size_append];omega
   case measure=>simp[intOf];omega
  ·have Sy:¬(9223372036854775807<1+t.size):=by omega
   have HE:Hid (t=vH 20 n ByteArray.empty):=by
    have e:=hD.out;have e0:m=0:=by omega
    show _=_;rw[<-e,e0];cases d with
    | zero=>rfl
    | succ d=>exact(if_pos rfl).symm
   go_wp2_with fail
   go_ret;exact⟨by rw[HT.out,<-HE.out];rfl,hb⟩
theorem I4 (k:Int):FloatKind.f64.format.order (floatOfInt .f64 k) (floatOfInt .f64 k)=some Ordering.eq:=by
 have hw:∃ neg Bl,floatOfInt .f64 k=Ieee.double.word neg Bl/\Bl<=Ieee.double.infRung:=by
  show ∃ neg Bl,Ieee.double.nearest (decide (k<0)) k.natAbs 0=_/\_;unfold Ieee.Format.nearest;dsimp only;split
  ·exact⟨_,0,rfl,Nat.zero_le _⟩
  ·exact⟨_,_,rfl,Nat.min_le_right ..⟩
 obtain⟨neg,Bl,e,hr⟩:=hw;rw[e];have ax:Bl<Ieee.double.signWeight:=Nat.lt_of_le_of_lt hr (Ieee.Format.infRung_lt _);have WB:Ieee.double.word neg Bl % Ieee.double.signWeight=Bl:=by
  unfold Ieee.Format.word;split
  ·rw[Nat.add_mod_left,Nat.mod_eq_of_lt ax]
  ·exact Nat.mod_eq_of_lt ax
 have Bn:∀ s m i,Ieee.Datum.order (.number s m i) (.number s m i)=some Ordering.eq:=fun s m i=>by
  simp[Ieee.Datum.order]
 show(Ieee.double.read _).order (Ieee.double.read _)=_;unfold Ieee.Format.read;dsimp only;rw[WB];split
 ·exact Bn _ _ _
 ·split
  ·exact Bn _ _ _
  ·rw[if_pos (by omega)];cases (Ieee.double.word neg Bl / Ieee.double.signWeight % 2==1)<;>rfl
def lN (w:World)(b off m j:Nat)(f:Nat->Nat->Value):Prop:=∀ i,i<j->∀ r,r<m->w.cell? (a_ b (off+i * m+r))=some (f i r)
def gU (w:World)(a:o_)(n m:Nat)(f:Nat->Nat->Value):Prop:=0<n->∃ b off,a=some (a_ b off)/\b<w.heap.size/\lN w b off m n f
section
variable {w w':World} {b off m j:Nat} {f:Nat->Nat->Value}
theorem lN.set (h:lN w b off m j f){o:Nat}(ho:off+j * m<=o)(v:Value):lN (w.setCell (a_ b o) v) b off m j f:=fun i hi r hr=>by
 rw[World.cell?_setCell_other _ (a_ b o) (a_ b (off+i * m+r)) v (fun e=>by
  injection e with _ e _;have:=Nat.mul_le_mul_right m (show i+1<=j by omega);rw[Nat.succ_mul]at this;omega)]
 exact h i hi r hr
theorem lN.next (h:lN w b off m j f)(hc:∀ r,r<m->w.cell? (a_ b (off+j * m+r))=some (f j r)):lN w b off m (j+1) f:=fun i hi r hr=>by
 by_cases e:i=j
 ·aj e;exact hc r hr
 ·exact h i (by omega) r hr
theorem lN.block (h:lN w b off m j f)(hb:w'.heap[b]? = w.heap[b]?):lN w' b off m j f:=fun i hi r hr=>(World.cell?_of_block (a:=(a_ b (off+i * m+r))) hb).trans (h i hi r hr)
theorem lN.below (h:lN w b off m j f)(hl:b<w.heap.size)(hb:b_ w w'):lN w' b off m j f:=h.block (hb.block b hl)
end
attribute [local go_sem] cp
def Ih (q:Int):Nat->Value
 | 0=>.bool (q % 3==0)
 | _=>i_ (q+1)
theorem Dp (a:o_)(n c:Nat)(k:Int)(S:Nat->Prop)(w:World)(hs:dK w S a (n * 2))(hS:lP w S)(h0:0<=k)(hk:k+2 * n<=1000000000000) :
  c_ 41 #[.slice a n c,i_ k] w fun e w'=>e=.returned (i_ (k+2 * n))/\Mk S w w'/\gU w' a n 2 (fun j=>Ih (k+2 * j)):=by
 go_enter Tryz.func41,Tryz.ntmps41;go_wp2_with fail
 go_loopw [1,5] (fun q i wr=>∃(j:Nat),j<=n/\q=i_ (k+2 * j)/\i=i_ j/\Mk S w wr/\Hid (∀ b off,a=some (a_ b off)->lN wr b off 2 j (fun j=>Ih (k+2 * j)))) (fun _ i _=>n-(intOf i).toNat)
 case atStart=>exact⟨0,Nat.zero_le _,by simp,rfl,Mk.refl _ _,fun _ _ _ i hi=>absurd hi (Nat.not_lt_zero _)⟩
 case round=>
  obtain⟨j,hj,rfl,rfl,hm,yL⟩:=hrel;by_cases ax:j<n
  ·have HB:Hid (k+2 * j+2<=1000000000000):=by show _<=_;omega
   have HE:Hid (k+2 * ((j+1:Nat):Int)=k+2 * j+2):=by show _=_;omega
   obtain⟨kj,jL⟩:∃ kj:Int,kj=k+2 * (j:Int):=⟨_,rfl⟩;have sN:0<=kj:=by omega
   have kN:kj+2<=1000000000000:=by omega
   have FV:Hid (k+2 * (j:Int)=kj):=jL.symm;rw[<-jL]at HB HE ⊢;have qF:n<=1000000000000:=by omega
   clear hk;have HM:=af hm;clear hm;obtain⟨b,off,rfl,hb,aE⟩:=(hs.mk HM.out) (by omega);have MT:=af (yL.out b off rfl);clear yL;obtain⟨v0,iw,f0⟩:=aE (j * 2+0) (by omega);rw[Nat.add_zero]at iw;obtain⟨v1,cU,f1⟩:=aE (j * 2+1) (by omega);rw[<-Nat.add_assoc]at cU;have hf:=((hS.mk HM.out) b hb).2;clear aE jL;go_wp2_with fail
   go_roundw
   case rel=>
    refine⟨j+1,by omega,by rw[HE.out];go_num,by go_num,HM.out.trans ?_,fun b' jM e=>?_⟩
    ·refine cH ?_ hb ⟨v1,cU,f1⟩ _ trivial;refine cH ?_ hb ⟨v0,iw,f0⟩ _ trivial;exact Mk.refl _ _
    ·injection e with e;injection e with e1 e2
     aj e1 e2
     refine((MT.out.set n_ _).set (Nat.le_add_right _ 1) _).next (fun r hr=>?_);show _=some (Ih (k+2 * (j:Int)) r);rw[FV.out]
     match r,hr with
     | 0,_=>simp[Ih,go_sem,iw,cU]
     | 1,_=>simp[Ih,go_sem,iw,cU]
   case measure=>simp[intOf];omega
  ·have HK:Hid (j=n):=by show _=_;omega
   go_wp2_with fail
   go_ret;have hM:=hm;rw[HK.out]at yL ⊢;refine⟨rfl,hM,fun h0=>?_⟩;obtain⟨b,off,rfl,hb,_⟩:=(hs.mk hM) (by omega);exact⟨b,off,rfl,((hS.mk hM) b hb).1,yL.out b off rfl⟩
def kL (q:Int):Nat->Value
 | 0=>i_ (q)
 | 1=>i_ (q+1)
 | 2=>.float .f64 (floatOfInt .f64 (q+1+1))
 | 3=>.string (gT (q+1+1+1))
 | _=>i_ (q+1+1+1+1)
theorem vC (a:o_)(n c:Nat)(k:Int)(S:Nat->Prop)(w:World)(hs:dK w S a (n * 5))(hS:lP w S)(h0:0<=k)(hk:k+5 * n<=1000000000000) :
  c_ 42 #[.slice a n c,i_ k] w fun e w'=>e=.returned (i_ (k+5 * n))/\Mk S w w'/\gU w' a n 5 (fun j=>kL (k+5 * j)):=by
 go_enter Tryz.func42,Tryz.ntmps42;go_wp2_with fail
 go_loopw [1,5] (fun q i wr=>∃(j:Nat),j<=n/\q=i_ (k+5 * j)/\i=i_ j/\Mk S w wr/\Hid (∀ b off,a=some (a_ b off)->lN wr b off 5 j (fun j=>kL (k+5 * j)))) (fun _ i _=>n-(intOf i).toNat)
 case atStart=>exact⟨0,Nat.zero_le _,by simp,rfl,Mk.refl _ _,fun _ _ _ i hi=>absurd hi (Nat.not_lt_zero _)⟩
 case round=>
  obtain⟨j,hj,rfl,rfl,hm,yL⟩:=hrel;by_cases ax:j<n
  ·have HB:Hid (k+5 * j+5<=1000000000000):=by show _<=_;omega
   have HE:Hid (k+5 * ((j+1:Nat):Int)=k+5 * j+5):=by show _=_;omega
   obtain⟨kj,jL⟩:∃ kj:Int,kj=k+5 * (j:Int):=⟨_,rfl⟩;have sN:0<=kj:=by omega
   have kN:kj+5<=1000000000000:=by omega
   have FV:Hid (k+5 * (j:Int)=kj):=jL.symm;rw[<-jL]at HB HE ⊢;have qF:n<=1000000000000:=by omega
   clear hk;have HM:=af hm;clear hm;obtain⟨b,off,rfl,hb,aE⟩:=(hs.mk HM.out) (by omega);have MT:=af (yL.out b off rfl);clear yL;obtain⟨v0,iw,f0⟩:=aE (j * 5+0) (by omega);rw[Nat.add_zero]at iw;obtain⟨v1,cU,f1⟩:=aE (j * 5+1) (by omega);rw[<-Nat.add_assoc]at cU;obtain⟨v2,fe,f2⟩:=aE (j * 5+2) (by omega);rw[<-Nat.add_assoc]at fe;have hf:=((hS.mk HM.out) b hb).2;clear aE jL;have kO:=((hS.mk HM.out) b hb).1;have fN:Hid (kj+1+1+1<=1000000000000):=by show _<=_;omega
   go_wp2_with fail
   refine(ip _ _ fN.out).mono ?_;rintro e w1 ⟨rfl,au⟩;have m1:Mk S wr w1:=by
    refine Mk.trans ?_ (Mk.of_below au);refine cH ?_ hb ⟨v2,fe,f2⟩ _ trivial;refine cH ?_ hb ⟨v1,cU,f1⟩ _ trivial;refine cH ?_ hb ⟨v0,iw,f0⟩ _ trivial;exact Mk.refl _ _
   have MT1:=af (lN.below (((MT.out.set n_ _).set (Nat.le_add_right _ 1) _).set (Nat.le_add_right _ 2) _) (by simp;omega) au);have g0:w1.cell? (a_ b (off+j * 5))=some (kL kj 0):=by
    rw[au.cell (p:=(a_ b (off+j * 5))) (by simp;omega)];simp[kL,go_sem,iw,cU,fe]
   have g1:w1.cell? (a_ b (off+j * 5+1))=some (kL kj 1):=by
    rw[au.cell (p:=(a_ b (off+j * 5+1))) (by simp;omega)];simp[kL,go_sem,iw,cU,fe]
   have g2:w1.cell? (a_ b (off+j * 5+2))=some (kL kj 2):=by
    rw[au.cell (p:=(a_ b (off+j * 5+2))) (by simp;omega)];simp[kL,go_sem,iw,cU,fe]
   clear iw f0 cU f1 fe f2 hf au;have bz:=(hs.mk (HM.out.trans m1)) (by omega);obtain⟨b',jM,Fj,dW,aE⟩:=bz;obtain⟨rfl,rfl⟩:b=b'/\off=jM:=by injection Fj with Fj;injection Fj with h1 h2;exact⟨h1,h2⟩
   clear Fj dW;obtain⟨v3,jD,f3⟩:=aE (j * 5+3) (by omega);rw[<-Nat.add_assoc]at jD;obtain⟨v4,pk,f4⟩:=aE (j * 5+4) (by omega);rw[<-Nat.add_assoc]at pk;have hf:=((hS.mk (HM.out.trans m1)) b hb).2;have M1:=af (HM.out.trans m1);clear aE m1 HM MT kO;have HG:Hid (w1.cell? (a_ b (off+j * 5))=some (kL kj 0)/\w1.cell? (a_ b (off+j * 5+1))=some (kL kj 1)/\w1.cell? (a_ b (off+j * 5+2))=some (kL kj 2)):=⟨g0,g1,g2⟩;clear g0 g1 g2;go_wp2_with fail
   go_roundw
   case rel=>
    refine⟨j+1,by omega,by rw[HE.out];go_num,by go_num,M1.out.trans ?_,fun b' jM e=>?_⟩
    ·refine cH ?_ hb ⟨v4,pk,f4⟩ _ trivial;refine cH ?_ hb ⟨v3,jD,f3⟩ _ trivial;exact Mk.refl _ _
    ·injection e with e;injection e with e1 e2
     aj e1 e2
     refine((MT1.out.set (Nat.le_add_right _ 3) _).set (Nat.le_add_right _ 4) _).next (fun r hr=>?_);show _=some (kL (k+5 * (j:Int)) r);rw[FV.out];obtain⟨g0,g1,g2⟩:=HG.out
     match r,hr with
     | 0,_=>simp[go_sem,g0,g1,g2]
     | 1,_=>simp[go_sem,g0,g1,g2]
     | 2,_=>simp[go_sem,g0,g1,g2]
     | 3,_=>simp[kL,go_sem,jD,pk]
     | 4,_=>simp[kL,go_sem,jD,pk]
   case measure=>simp[intOf];omega
  ·have HK:Hid (j=n):=by show _=_;omega
   go_wp2_with fail
   go_ret;have hM:=hm;rw[HK.out]at yL ⊢;refine⟨rfl,hM,fun h0=>?_⟩;obtain⟨b,off,rfl,hb,_⟩:=(hs.mk hM) (by omega);exact⟨b,off,rfl,((hS.mk hM) b hb).1,yL.out b off rfl⟩
def pd (q:Int):Nat->Value
 | 0=>i_ (q)
 | 1=>i_ (q+1)
 | 2=>i_ (q+1+1)
 | 3=>i_ (q+1+1+1)
 | _=>i_ (q+1+1+1+1)
theorem zF (a:o_)(n c:Nat)(k:Int)(S:Nat->Prop)(w:World)(hs:dK w S a (n * 5))(hS:lP w S)(h0:0<=k)(hk:k+5 * n<=1000000000000) :
  c_ 43 #[.slice a n c,i_ k] w fun e w'=>e=.returned (i_ (k+5 * n))/\Mk S w w'/\gU w' a n 5 (fun j=>pd (k+5 * j)):=by
 go_enter Tryz.func43,Tryz.ntmps43;go_wp2_with fail
 go_loopw [1,5] (fun q i wr=>∃(j:Nat),j<=n/\q=i_ (k+5 * j)/\i=i_ j/\Mk S w wr/\Hid (∀ b off,a=some (a_ b off)->lN wr b off 5 j (fun j=>pd (k+5 * j)))) (fun _ i _=>n-(intOf i).toNat)
 case atStart=>exact⟨0,Nat.zero_le _,by simp,rfl,Mk.refl _ _,fun _ _ _ i hi=>absurd hi (Nat.not_lt_zero _)⟩
 case round=>
  obtain⟨j,hj,rfl,rfl,hm,yL⟩:=hrel;by_cases ax:j<n
  ·have HB:Hid (k+5 * j+5<=1000000000000):=by show _<=_;omega
   have HE:Hid (k+5 * ((j+1:Nat):Int)=k+5 * j+5):=by show _=_;omega
   obtain⟨kj,jL⟩:∃ kj:Int,kj=k+5 * (j:Int):=⟨_,rfl⟩;have sN:0<=kj:=by omega
   have kN:kj+5<=1000000000000:=by omega
   have FV:Hid (k+5 * (j:Int)=kj):=jL.symm;rw[<-jL]at HB HE ⊢;have qF:n<=1000000000000:=by omega
   clear hk;have HM:=af hm;clear hm;obtain⟨b,off,rfl,hb,aE⟩:=(hs.mk HM.out) (by omega);have MT:=af (yL.out b off rfl);clear yL;obtain⟨v0,iw,f0⟩:=aE (j * 5+0) (by omega);rw[Nat.add_zero]at iw;obtain⟨v1,cU,f1⟩:=aE (j * 5+1) (by omega);rw[<-Nat.add_assoc]at cU;obtain⟨v2,fe,f2⟩:=aE (j * 5+2) (by omega);rw[<-Nat.add_assoc]at fe;obtain⟨v3,jD,f3⟩:=aE (j * 5+3) (by omega);rw[<-Nat.add_assoc]at jD;obtain⟨v4,pk,f4⟩:=aE (j * 5+4) (by omega);rw[<-Nat.add_assoc]at pk;have hf:=((hS.mk HM.out) b hb).2;clear aE jL;go_wp2_with fail
   go_roundw
   case rel=>
    refine⟨j+1,by omega,by rw[HE.out];go_num,by go_num,HM.out.trans ?_,fun b' jM e=>?_⟩
    ·refine cH ?_ hb ⟨v4,pk,f4⟩ _ trivial;refine cH ?_ hb ⟨v3,jD,f3⟩ _ trivial;refine cH ?_ hb ⟨v2,fe,f2⟩ _ trivial;refine cH ?_ hb ⟨v1,cU,f1⟩ _ trivial;refine cH ?_ hb ⟨v0,iw,f0⟩ _ trivial;exact Mk.refl _ _
    ·injection e with e;injection e with e1 e2
     aj e1 e2
     refine(((((MT.out.set n_ _).set (Nat.le_add_right _ 1) _).set (Nat.le_add_right _ 2) _).set (Nat.le_add_right _ 3) _).set (Nat.le_add_right _ 4) _).next (fun r hr=>?_);show _=some (pd (k+5 * (j:Int)) r);rw[FV.out]
     match r,hr with
     | 0,_=>simp[pd,go_sem,iw,cU,fe,jD,pk]
     | 1,_=>simp[pd,go_sem,iw,cU,fe,jD,pk]
     | 2,_=>simp[pd,go_sem,iw,cU,fe,jD,pk]
     | 3,_=>simp[pd,go_sem,iw,cU,fe,jD,pk]
     | 4,_=>simp[pd,go_sem,iw,cU,fe,jD,pk]
   case measure=>simp[intOf];omega
  ·have HK:Hid (j=n):=by show _=_;omega
   go_wp2_with fail
   go_ret;have hM:=hm;rw[HK.out]at yL ⊢;refine⟨rfl,hM,fun h0=>?_⟩;obtain⟨b,off,rfl,hb,_⟩:=(hs.mk hM) (by omega);exact⟨b,off,rfl,((hS.mk hM) b hb).1,yL.out b off rfl⟩
def pX (q:Int):Nat->Value
 | 0=>.string (gT (q))
 | 1=>i_ (q+1)
 | 2=>i_ (q+1+1)
 | _=>i_ (q+1+1+1)
theorem vJ (a:o_)(n c:Nat)(k:Int)(S:Nat->Prop)(w:World)(hs:dK w S a (n * 4))(hS:lP w S)(h0:0<=k)(hk:k+4 * n<=1000000000000) :
  c_ 44 #[.slice a n c,i_ k] w fun e w'=>e=.returned (i_ (k+4 * n))/\Mk S w w'/\gU w' a n 4 (fun j=>pX (k+4 * j)):=by
 go_enter Tryz.func44,Tryz.ntmps44;go_wp2_with fail
 go_loopw [1,5] (fun q i wr=>∃(j:Nat),j<=n/\q=i_ (k+4 * j)/\i=i_ j/\Mk S w wr/\Hid (∀ b off,a=some (a_ b off)->lN wr b off 4 j (fun j=>pX (k+4 * j)))) (fun _ i _=>n-(intOf i).toNat)
 case atStart=>exact⟨0,Nat.zero_le _,by simp,rfl,Mk.refl _ _,fun _ _ _ i hi=>absurd hi (Nat.not_lt_zero _)⟩
 case round=>
  obtain⟨j,hj,rfl,rfl,hm,yL⟩:=hrel;by_cases ax:j<n
  ·have HB:Hid (k+4 * j+4<=1000000000000):=by show _<=_;omega
   have HE:Hid (k+4 * ((j+1:Nat):Int)=k+4 * j+4):=by show _=_;omega
   obtain⟨kj,jL⟩:∃ kj:Int,kj=k+4 * (j:Int):=⟨_,rfl⟩;have sN:0<=kj:=by omega
   have kN:kj+4<=1000000000000:=by omega
   have FV:Hid (k+4 * (j:Int)=kj):=jL.symm;rw[<-jL]at HB HE ⊢;have qF:n<=1000000000000:=by omega
   clear hk;have HM:=af hm;clear hm;obtain⟨b,off,rfl,hb,aE⟩:=(hs.mk HM.out) (by omega);have MT:=af (yL.out b off rfl);clear yL;clear aE jL;have kO:=((hS.mk HM.out) b hb).1;have fN:Hid (kj<=1000000000000):=by show _<=_;omega
   go_wp2_with fail
   refine(ip _ _ fN.out).mono ?_;rintro e w1 ⟨rfl,au⟩;have m1:Mk S wr w1:=by
    refine Mk.trans ?_ (Mk.of_below au);exact Mk.refl _ _
   have MT1:=af (lN.below MT.out kO au);clear au;have bz:=(hs.mk (HM.out.trans m1)) (by omega);obtain⟨b',jM,Fj,dW,aE⟩:=bz;obtain⟨rfl,rfl⟩:b=b'/\off=jM:=by injection Fj with Fj;injection Fj with h1 h2;exact⟨h1,h2⟩
   clear Fj dW;obtain⟨v0,iw,f0⟩:=aE (j * 4+0) (by omega);rw[Nat.add_zero]at iw;obtain⟨v1,cU,f1⟩:=aE (j * 4+1) (by omega);rw[<-Nat.add_assoc]at cU;obtain⟨v2,fe,f2⟩:=aE (j * 4+2) (by omega);rw[<-Nat.add_assoc]at fe;obtain⟨v3,jD,f3⟩:=aE (j * 4+3) (by omega);rw[<-Nat.add_assoc]at jD;have hf:=((hS.mk (HM.out.trans m1)) b hb).2;have M1:=af (HM.out.trans m1);clear aE m1 HM MT kO;go_wp2_with fail
   go_roundw
   case rel=>
    refine⟨j+1,by omega,by rw[HE.out];go_num,by go_num,M1.out.trans ?_,fun b' jM e=>?_⟩
    ·refine cH ?_ hb ⟨v3,jD,f3⟩ _ trivial;refine cH ?_ hb ⟨v2,fe,f2⟩ _ trivial;refine cH ?_ hb ⟨v1,cU,f1⟩ _ trivial;refine cH ?_ hb ⟨v0,iw,f0⟩ _ trivial;exact Mk.refl _ _
    ·injection e with e;injection e with e1 e2
     aj e1 e2
     refine((((MT1.out.set n_ _).set (Nat.le_add_right _ 1) _).set (Nat.le_add_right _ 2) _).set (Nat.le_add_right _ 3) _).next (fun r hr=>?_);show _=some (pX (k+4 * (j:Int)) r);rw[FV.out]
     match r,hr with
     | 0,_=>simp[pX,go_sem,iw,cU,fe,jD]
     | 1,_=>simp[pX,go_sem,iw,cU,fe,jD]
     | 2,_=>simp[pX,go_sem,iw,cU,fe,jD]
     | 3,_=>simp[pX,go_sem,iw,cU,fe,jD]
   case measure=>simp[intOf];omega
  ·have HK:Hid (j=n):=by show _=_;omega
   go_wp2_with fail
   go_ret;have hM:=hm;rw[HK.out]at yL ⊢;refine⟨rfl,hM,fun h0=>?_⟩;obtain⟨b,off,rfl,hb,_⟩:=(hs.mk hM) (by omega);exact⟨b,off,rfl,((hS.mk hM) b hb).1,yL.out b off rfl⟩
attribute [local go_sem] cp
theorem CJ (a:o_)(n c:Nat)(k:Int)(w:World)(hs:gU w a n 2 (fun j=>Ih (k+2 * j)))(h0:0<=k)(hk:k+2 * n<=1000000000000) :
  c_ 45 #[.slice a n c,i_ k] w fun e w'=>e=.returned (i_ (k+2 * n))/\b_ w w':=by
 go_enter Tryz.func45,Tryz.ntmps45;go_wp2_with fail
 go_loopw [1,5] (fun q i wr=>∃(j:Nat),j<=n/\q=i_ (k+2 * j)/\i=i_ j/\b_ w wr) (fun _ i _=>n-(intOf i).toNat)
 case atStart=>exact⟨0,Nat.zero_le _,by simp,rfl,r_⟩
 case round=>
  obtain⟨j,hj,rfl,rfl,hb⟩:=hrel;by_cases ax:j<n
  ·have HE:Hid (k+2 * ((j+1:Nat):Int)=k+2 * j+2):=by show _=_;omega
   obtain⟨b,off,rfl,cZ,MT⟩:=hs (by omega);have C:∀ r,r<2->wr.cell? (a_ b (off+j * 2+r))=some (Ih (k+2 * j) r):=fun r hr=>(hb.cell (p:=(a_ b (off+j * 2+r))) cZ).trans (MT j ax r hr);have c0:=C 0 (by omega);have c1:=C 1 (by omega);obtain⟨kj,jL⟩:∃ kj:Int,kj=k+2 * (j:Int):=⟨_,rfl⟩;have sN:0<=kj:=by omega
   have kN:kj+2<=1000000000000:=by omega
   rw[<-jL]at HE c0 c1 ⊢;have qF:n<=1000000000000:=by omega
   have yN:b<wr.heap.size:=by have:=hb.size;omega
   clear hk jL C MT;simp only[Ih,Nat.add_zero]at c0 c1;go_wp2_with fail
   go_roundw
   case rel=>exact⟨j+1,by omega,by rw[HE.out];go_num,by go_num,hb⟩
   case measure=>simp[intOf];omega
  ·have HK:Hid (j=n):=by show _=_;omega
   go_wp2_with fail
   go_ret;rw[HK.out];exact⟨rfl,hb⟩
theorem vw (a:o_)(n c:Nat)(k:Int)(w:World)(hs:gU w a n 5 (fun j=>kL (k+5 * j)))(h0:0<=k)(hk:k+5 * n<=1000000000000) :
  c_ 46 #[.slice a n c,i_ k] w fun e w'=>e=.returned (i_ (k+5 * n))/\b_ w w':=by
 go_enter Tryz.func46,Tryz.ntmps46;go_wp2_with fail
 go_loopw [1,5] (fun q i wr=>∃(j:Nat),j<=n/\q=i_ (k+5 * j)/\i=i_ j/\b_ w wr) (fun _ i _=>n-(intOf i).toNat)
 case atStart=>exact⟨0,Nat.zero_le _,by simp,rfl,r_⟩
 case round=>
  obtain⟨j,hj,rfl,rfl,hb⟩:=hrel;by_cases ax:j<n
  ·have HE:Hid (k+5 * ((j+1:Nat):Int)=k+5 * j+5):=by show _=_;omega
   obtain⟨b,off,rfl,cZ,MT⟩:=hs (by omega);have C:∀ r,r<5->wr.cell? (a_ b (off+j * 5+r))=some (kL (k+5 * j) r):=fun r hr=>(hb.cell (p:=(a_ b (off+j * 5+r))) cZ).trans (MT j ax r hr);have c0:=C 0 (by omega);have c1:=C 1 (by omega);have c2:=C 2 (by omega);have c3:=C 3 (by omega);have c4:=C 4 (by omega);obtain⟨kj,jL⟩:∃ kj:Int,kj=k+5 * (j:Int):=⟨_,rfl⟩;have sN:0<=kj:=by omega
   have kN:kj+5<=1000000000000:=by omega
   rw[<-jL]at HE c0 c1 c2 c3 c4 ⊢;have qF:n<=1000000000000:=by omega
   have yN:b<wr.heap.size:=by have:=hb.size;omega
   clear hk jL C MT;simp only[kL,Nat.add_zero]at c0 c1 c2 c3 c4;have hfl:=I4 (kj+1+1);have fN:Hid (kj+1+1+1<=1000000000000):=by show _<=_;omega
   have HC:Hid (∀ w1,Below wr.heap.size wr.drew w1->w1.cell? (a_ b (off+j * 5+3))=some (.string (gT (kj+1+1+1)))/\w1.cell? (a_ b (off+j * 5+4))=some (i_ (kj+1+1+1+1))):=fun w1 h1=>⟨(h1.cell (p:=(a_ b _)) yN).trans c3,(h1.cell (p:=(a_ b _)) yN).trans c4⟩;have TP:Hid (c_ 40 #[i_ (kj+1+1+1)] wr.drew fun e w'=>e=.returned (.string (gT (kj+1+1+1)))/\Below wr.drew.heap.size wr.drew w'):=ip _ _ fN.out;have oH:=af hb;go_wp2_with fail
   go_region_held3 (fun W=>W.cell? (a_ b (off+j * 5+3))=some (.string (gT (kj+1+1+1)))) (simp[go_sem, *])
    (first | (go_at_call 40;refine TP.out.mono ?_;rintro e w1 ⟨rfl,au⟩;obtain⟨e3,e4⟩:=HC.out w1 au))
   have aci:b<w1.heap.size:=by have h2:=au.size;have h3:wr.drew.heap.size=wr.heap.size:=rfl;omega
   have lq:Hid (b_ w w1):=oH.out.drew.trans (au.mono oH.out.size);clear au HC c0 c1 c2 c3 c4 hb;go_wp2_with fail
   go_roundw
   case rel=>exact⟨j+1,by omega,by rw[HE.out];go_num,by go_num,lq.out⟩
   case measure=>simp[intOf];omega
  ·have HK:Hid (j=n):=by show _=_;omega
   go_wp2_with fail
   go_ret;rw[HK.out];exact⟨rfl,hb⟩
theorem AF (a:o_)(n c:Nat)(k:Int)(w:World)(hs:gU w a n 5 (fun j=>pd (k+5 * j)))(h0:0<=k)(hk:k+5 * n<=1000000000000) :
  c_ 47 #[.slice a n c,i_ k] w fun e w'=>e=.returned (i_ (k+5 * n))/\b_ w w':=by
 go_enter Tryz.func47,Tryz.ntmps47;go_wp2_with fail
 go_loopw [1,5] (fun q i wr=>∃(j:Nat),j<=n/\q=i_ (k+5 * j)/\i=i_ j/\b_ w wr) (fun _ i _=>n-(intOf i).toNat)
 case atStart=>exact⟨0,Nat.zero_le _,by simp,rfl,r_⟩
 case round=>
  obtain⟨j,hj,rfl,rfl,hb⟩:=hrel;by_cases ax:j<n
  ·have HE:Hid (k+5 * ((j+1:Nat):Int)=k+5 * j+5):=by show _=_;omega
   obtain⟨b,off,rfl,cZ,MT⟩:=hs (by omega);have C:∀ r,r<5->wr.cell? (a_ b (off+j * 5+r))=some (pd (k+5 * j) r):=fun r hr=>(hb.cell (p:=(a_ b (off+j * 5+r))) cZ).trans (MT j ax r hr);have c0:=C 0 (by omega);have c1:=C 1 (by omega);have c2:=C 2 (by omega);have c3:=C 3 (by omega);have c4:=C 4 (by omega);obtain⟨kj,jL⟩:∃ kj:Int,kj=k+5 * (j:Int):=⟨_,rfl⟩;have sN:0<=kj:=by omega
   have kN:kj+5<=1000000000000:=by omega
   rw[<-jL]at HE c0 c1 c2 c3 c4 ⊢;have qF:n<=1000000000000:=by omega
   have yN:b<wr.heap.size:=by have:=hb.size;omega
   clear hk jL C MT;simp only[pd,Nat.add_zero]at c0 c1 c2 c3 c4;go_wp2_with fail
   go_roundw
   case rel=>exact⟨j+1,by omega,by rw[HE.out];go_num,by go_num,hb⟩
   case measure=>simp[intOf];omega
  ·have HK:Hid (j=n):=by show _=_;omega
   go_wp2_with fail
   go_ret;rw[HK.out];exact⟨rfl,hb⟩
theorem vW (a:o_)(n c:Nat)(k:Int)(w:World)(hs:gU w a n 4 (fun j=>pX (k+4 * j)))(h0:0<=k)(hk:k+4 * n<=1000000000000) :
  c_ 48 #[.slice a n c,i_ k] w fun e w'=>e=.returned (i_ (k+4 * n))/\b_ w w':=by
 go_enter Tryz.func48,Tryz.ntmps48;go_wp2_with fail
 go_loopw [1,5] (fun q i wr=>∃(j:Nat),j<=n/\q=i_ (k+4 * j)/\i=i_ j/\b_ w wr) (fun _ i _=>n-(intOf i).toNat)
 case atStart=>exact⟨0,Nat.zero_le _,by simp,rfl,r_⟩
 case round=>
  obtain⟨j,hj,rfl,rfl,hb⟩:=hrel;by_cases ax:j<n
  ·have HE:Hid (k+4 * ((j+1:Nat):Int)=k+4 * j+4):=by show _=_;omega
   obtain⟨b,off,rfl,cZ,MT⟩:=hs (by omega);have C:∀ r,r<4->wr.cell? (a_ b (off+j * 4+r))=some (pX (k+4 * j) r):=fun r hr=>(hb.cell (p:=(a_ b (off+j * 4+r))) cZ).trans (MT j ax r hr);have c0:=C 0 (by omega);have c1:=C 1 (by omega);have c2:=C 2 (by omega);have c3:=C 3 (by omega);obtain⟨kj,jL⟩:∃ kj:Int,kj=k+4 * (j:Int):=⟨_,rfl⟩;have sN:0<=kj:=by omega
   have kN:kj+4<=1000000000000:=by omega
   rw[<-jL]at HE c0 c1 c2 c3 ⊢;have qF:n<=1000000000000:=by omega
   have yN:b<wr.heap.size:=by have:=hb.size;omega
   clear hk jL C MT;simp only[pX,Nat.add_zero]at c0 c1 c2 c3;have fN:Hid (kj<=1000000000000):=by show _<=_;omega
   have HC:Hid (∀ w1,Below wr.heap.size wr.drew w1->w1.cell? (a_ b (off+j * 4))=some (.string (gT (kj)))/\w1.cell? (a_ b (off+j * 4+1))=some (i_ (kj+1))/\w1.cell? (a_ b (off+j * 4+2))=some (i_ (kj+1+1))/\w1.cell? (a_ b (off+j * 4+3))=some (i_ (kj+1+1+1))):=fun w1 h1=>⟨(h1.cell (p:=(a_ b _)) yN).trans c0,(h1.cell (p:=(a_ b _)) yN).trans c1,(h1.cell (p:=(a_ b _)) yN).trans c2,(h1.cell (p:=(a_ b _)) yN).trans c3⟩;have TP:Hid (c_ 40 #[i_ (kj)] wr.drew fun e w'=>e=.returned (.string (gT (kj)))/\Below wr.drew.heap.size wr.drew w'):=ip _ _ fN.out;have oH:=af hb;go_wp2_with fail
   go_region_held3 (fun W=>W.cell? (a_ b (off+j * 4))=some (.string (gT (kj)))) (simp[go_sem, *])
    (first | (go_at_call 40;refine TP.out.mono ?_;rintro e w1 ⟨rfl,au⟩;obtain⟨e0,e1,e2,e3⟩:=HC.out w1 au))
   have aci:b<w1.heap.size:=by have h2:=au.size;have h3:wr.drew.heap.size=wr.heap.size:=rfl;omega
   have lq:Hid (b_ w w1):=oH.out.drew.trans (au.mono oH.out.size);clear au HC c0 c1 c2 c3 hb;go_wp2_with fail
   go_roundw
   case rel=>exact⟨j+1,by omega,by rw[HE.out];go_num,by go_num,lq.out⟩
   case measure=>simp[intOf];omega
  ·have HK:Hid (j=n):=by show _=_;omega
   go_wp2_with fail
   go_ret;rw[HK.out];exact⟨rfl,hb⟩
def rA (R:dp):Nat->o_
 | 0=>R.a5
 | 1=>R.a6
 | 2=>R.a7
 | _=>R.a8
def rN (x:ak):Nat->Nat
 | 0=>x.ups.length
 | 1=>x.consts.length
 | 2=>x.ins.length
 | _=>x.named.length
def rM:Nat->Nat
 | 0=>2
 | 1=>5
 | 2=>5
 | _=>4
def rG:Nat->Int->Nat->Value
 | 0=>Ih
 | 1=>kL
 | 2=>pd
 | _=>pX
def rK (x:ak):Nat->Nat
 | 0=>5
 | 1=>5+2 * x.ups.length
 | 2=>5+2 * x.ups.length+5 * x.consts.length
 | _=>5+2 * x.ups.length+5 * x.consts.length+5 * x.ins.length
def AU (q:Int):Nat->Value
 | 0=>.string (gT q)
 | 1=>i_ (q+1)
 | 2=>i_ (q+1+1)
 | 3=>.bool ((q+1+1+1) % 3==0)
 | _=>i_ (q+1+1+1+1)
def eD (R:dp)(x:ak)(s b:Nat):Prop:=0<rN x s/\∃ o,rA R s=some (a_ b o)
structure PA (w:World)(bP o:Nat)(x:ak)(R:dp):Prop where
 flat:∀ r,r<5->∃ v,w.cell? (a_ bP (o+r))=some v/\uy v
 h5:w.cell? (a_ bP (o+5))=some (.slice R.a5 x.ups.length R.c5)
 h6:w.cell? (a_ bP (o+6))=some (.slice R.a6 x.consts.length R.c6)
 h7:w.cell? (a_ bP (o+7))=some (.slice R.a7 x.ins.length R.c7)
 h8:w.cell? (a_ bP (o+8))=some (.slice R.a8 x.named.length R.c8)
 row:∀ s,s<4->dK w (eD R x s) (rA R s) (rN x s * rM s)
def CB (bP:Nat)(l:List ak)(R:Nat->dp)(b:Nat):Prop:=b=bP\/∃ i s,i<l.length/\s<4/\eD (R i) (am l i) s b
structure CA (w:World)(bP off:Nat)(l:List ak)(R:Nat->dp):Prop where
 here:∀ i,i<l.length->PA w bP (off+i * 9) (am l i) (R i)
 soft:lP w (CB bP l R)
 apart:∀ i s j t b,i<l.length->j<l.length->s<4->t<4->eD (R i) (am l i) s b->eD (R j) (am l j) t b->i=j/\s=t
 away:∀ i s,i<l.length->s<4->¬eD (R i) (am l i) s bP
def vY (w:World)(bP o:Nat)(x:ak)(R:dp)(k:Int)(t:Nat):Prop:=(∀ r,r<5->w.cell? (a_ bP (o+r))=some (AU k r))/\∀ s,s<t->gU w (rA R s) (rN x s) (rM s) (fun j=>rG s (k+rK x s+rM s * j))
section
variable {w w':World} {bP o:Nat} {x:ak} {R:dp}
theorem Dl {T S:Nat->Prop}{a:o_}{n:Nat}(h:dK w T a n)(k:Mk S w w'):dK w' T a n:=fun hn=>by
 obtain⟨b,off,e,hs,hc⟩:=h hn;exact⟨b,off,e,hs,fun j hj=>by obtain⟨v,ev,fv⟩:=hc j hj;exact k.flat _ _ v ev fv⟩
theorem PA.mk' {S:Nat->Prop}(h:PA w bP o x R)(k:Mk S w w'):PA w' bP o x R where
 flat r hr:=by obtain⟨v,e,f⟩:=h.flat r hr;exact k.flat _ _ v e f
 h5:=k.hdr _ _ _ _ _ h.h5
 h6:=k.hdr _ _ _ _ _ h.h6
 h7:=k.hdr _ _ _ _ _ h.h7
 h8:=k.hdr _ _ _ _ _ h.h8
 row s hs:=Dl (h.row s hs) k
theorem CA.mk' {S:Nat->Prop}{off:Nat}{l:List ak}{R:Nat->dp}(h:CA w bP off l R)(k:Mk S w w'):CA w' bP off l R where
 here i hi:=(h.here i hi).mk' k
 soft b hb:=⟨l_ (h.soft b hb).1 k.size,fun o=>(k.soft b o (h.soft b hb).1).trans ((h.soft b hb).2 o)⟩
 apart:=h.apart
 away:=h.away
theorem vY.mk' {S:Nat->Prop}{k:Int}{t:Nat}(h:vY w bP o x R k t)(m:Mk S w w')(hb:bP<w.heap.size)(h1:¬S bP)(h2:∀ s,s<t->∀ b,eD R x s b->¬S b):vY w' bP o x R k t:=
 ⟨fun r hr=>(World.cell?_of_block (a:=(a_ bP (o+r))) (m.block bP hb h1)).trans (h.1 r hr),fun s hs h0=>by
  obtain⟨b,off,e,cZ,hm⟩:=h.2 s hs h0;exact⟨b,off,e,l_ cZ m.size,hm.block (m.block b cZ (h2 s hs b ⟨h0,off,e⟩))⟩⟩
theorem vY.set {k:Int}{t q:Nat}(h:vY w bP o x R k t)(ha:∀ s,s<t->¬eD R x s bP)(hq:o+9<=q)(v:Value):vY (w.setCell (a_ bP q) v) bP o x R k t:=
 ⟨fun r hr=>by
  rw[World.cell?_setCell_other _ (a_ bP q) (a_ bP (o+r)) v (fun e=>by injection e with _ e _;omega)];exact h.1 r hr,fun s hs h0=>by
  obtain⟨b,off,e,cZ,hm⟩:=h.2 s hs h0;exact⟨b,off,e,by simpa using cZ,hm.block (heap_setCell_other w (a_ bP q) b v (fun eb=>ha s hs (by rw[<-show b=bP from eb];exact⟨h0,off,e⟩)))⟩⟩
end
theorem CA.lt {w:World}{bP off:Nat}{l:List ak}{R:Nat->dp}(h:CA w bP off l R):bP<w.heap.size:=(h.soft bP (.inl rfl)).1
theorem vp (bP off:Nat)(l:List ak)(c:Nat)(k:Int)(R:Nat->dp)(w:World)(h:CA w bP off l R)(h0:0<=k)(hk:k+aS aM l<=1000000000)(hn:l.length<=1000000000) :
  c_ 18 #[.slice (some (a_ bP off)) l.length c,i_ k] w fun e w'=>e=.returned (i_ (k+aS aM l))/\Mk (CB bP l R) w w'/\∀ i,i<l.length->vY w' bP (off+i * 9) (am l i) (R i) (k+bw aM l i) 4:=by
 have Ly:Hid (∀ j,j<l.length->bw aM l (j+1)=bw aM l j+aM (am l j)/\bw aM l (j+1)<=aS aM l):=fun j hj=>⟨dJ aM l j ak.z hj,gw _ _ _⟩;have HC:=af h;clear h;go_enter Tryz.func18,Tryz.ntmps18;go_wp2_with fail
 go_loopw [1,5] (fun q i wr=>∃(j:Nat),j<=l.length/\q=i_ (k+bw aM l j)/\i=i_ j/\Hid (Mk (CB bP l R) w wr)/\Hid (∀ i,i<j->vY wr bP (off+i * 9) (am l i) (R i) (k+bw aM l i) 4)) (fun _ i _=>l.length-(intOf i).toNat)
 case atStart=>exact⟨0,Nat.zero_le _,by simp[fi],rfl,Mk.refl _ _,fun i hi=>absurd hi (Nat.not_lt_zero _)⟩
 case round=>
  obtain⟨j,hj,rfl,rfl,HM,HP⟩:=hrel;by_cases ax:j<l.length
  ·obtain⟨jf,sr⟩:=aa Ly j ax;have CW:=HC.out.mk' HM.out;have N:=CW.here j ax;have yP:bP<wr.heap.size:=CW.lt;have Lh:=af CW.soft;have BJ:Hid (∀ i s b,i<l.length->s<4->∀ t,t<4->eD (R i) (am l i) s b->eD (R j) (am l j) t b->i=j/\s=t):=fun i s b hi hs t ht h1 h2=>HC.out.apart i s j t b hi ax hs ht h1 h2;have WH:Hid (∀ i s,i<l.length->s<4->¬eD (R i) (am l i) s bP):=HC.out.away;have Ek:Hid (CB bP l R bP/\∀ t,t<4->∀ b,eD (R j) (am l j) t b->CB bP l R b):=⟨.inl rfl,fun t ht b hb=>.inr ⟨j,t,ax,ht,hb⟩⟩;obtain⟨x,hx⟩:∃ x,am l j=x:=⟨_,rfl⟩;rw[hx]at N jf;obtain⟨Q,hQ⟩:∃ Q,R j=Q:=⟨_,rfl⟩;rw[hQ]at N;have HX:Hid (am l j=x/\R j=Q):=⟨hx,hQ⟩;rw[hx,hQ]at BJ Ek;have he:aM x=5+2 * x.ups.length+5 * x.consts.length+5 * x.ins.length+4 * x.named.length:=rfl;obtain⟨kj,jL⟩:∃ kj:Int,kj=k+bw aM l j:=⟨_,rfl⟩;have HKJ:=af jL;rw[<-jL];have WZ:0<=kj:=by omega
   have Ww:kj+5+2 * x.ups.length+5 * x.consts.length+5 * x.ins.length+4 * x.named.length<=1000000000:=by omega
   have HE:Hid (kj+5+2 * x.ups.length+5 * x.consts.length+5 * x.ins.length+4 * x.named.length=k+bw aM l (j+1)):=by show _=_;omega
   clear he jf sr jL hk CW hx hQ;have HN:=af N;clear N;have HB:Hid (kj<=1000000000000):=by show _<=_;omega
   go_wp2_with fail
   refine(ip _ _ HB.out).mono ?_;rintro e w1 ⟨rfl,au⟩;have m1:Mk (CB bP l R) wr w1:=Mk.of_below au;have N1:=HN.out.mk' m1;obtain⟨v0,iw,f0⟩:=N1.flat 0 (by omega);obtain⟨v1,cU,f1⟩:=N1.flat 1 (by omega);obtain⟨v2,fe,f2⟩:=N1.flat 2 (by omega);obtain⟨v3,jD,f3⟩:=N1.flat 3 (by omega);obtain⟨v4,pk,f4⟩:=N1.flat 4 (by omega);rw[Nat.add_zero]at iw;have hr:=N1.h5;have fJ:=((Lh.out.mk m1) bP Ek.out.1).2;have Wg:bP<w1.heap.size:=by have:=au.size;omega
   have P1:Hid (∀ i,i<j->vY w1 bP (off+i * 9) (am l i) (R i) (k+bw aM l i) 4):=fun i hi=>(HP.out i hi).mk' (S:=fun _=>False) (Mk.of_below au) yP id (fun _ _ _ _=>id);have M1:=af m1;have Xz:=af N1;clear m1 au HP N1;go_wp2_with fail
   have m2:Mk (CB bP l R) w1 (((((w1.setCell (a_ bP (off+j * 9)) (.string (gT kj))).setCell (a_ bP (off+j * 9+1)) (i_ (kj+1))).setCell (a_ bP (off+j * 9+2)) (i_ (kj+1+1))).setCell (a_ bP (off+j * 9+3)) (.bool ((kj+1+1+1) % 3==0))).setCell (a_ bP (off+j * 9+4)) (i_ (kj+1+1+1+1))):=by
    refine cH ?_ Ek.out.1 ⟨v4,pk,f4⟩ _ trivial;refine cH ?_ Ek.out.1 ⟨v3,jD,f3⟩ _ trivial;refine cH ?_ Ek.out.1 ⟨v2,fe,f2⟩ _ trivial;refine cH ?_ Ek.out.1 ⟨v1,cU,f1⟩ _ trivial;refine cH ?_ Ek.out.1 ⟨v0,iw,f0⟩ _ trivial;exact Mk.refl _ _
   have P2:Hid (∀ i,i<j->vY (((((w1.setCell (a_ bP (off+j * 9)) (.string (gT kj))).setCell (a_ bP (off+j * 9+1)) (i_ (kj+1))).setCell (a_ bP (off+j * 9+2)) (i_ (kj+1+1))).setCell (a_ bP (off+j * 9+3)) (.bool ((kj+1+1+1) % 3==0))).setCell (a_ bP (off+j * 9+4)) (i_ (kj+1+1+1+1))) bP (off+i * 9) (am l i) (R i) (k+bw aM l i) 4):=fun i hi=>by
    have ha:∀ s,s<4->¬eD (R i) (am l i) s bP:=fun s hs=>WH.out i s (by omega) hs;exact(((((P1.out i hi).set ha (by omega) _).set ha (by omega) _).set ha (by omega) _).set ha (by omega) _).set ha (by omega) _
   have Q2:Hid (vY (((((w1.setCell (a_ bP (off+j * 9)) (.string (gT kj))).setCell (a_ bP (off+j * 9+1)) (i_ (kj+1))).setCell (a_ bP (off+j * 9+2)) (i_ (kj+1+1))).setCell (a_ bP (off+j * 9+3)) (.bool ((kj+1+1+1) % 3==0))).setCell (a_ bP (off+j * 9+4)) (i_ (kj+1+1+1+1))) bP (off+j * 9) x Q kj 0):=⟨fun r hr=>by
    match r,hr with
    | 0,_=>simp[AU,go_sem,iw,cU,fe,jD,pk]
    | 1,_=>simp[AU,go_sem,iw,cU,fe,jD,pk]
    | 2,_=>simp[AU,go_sem,iw,cU,fe,jD,pk]
    | 3,_=>simp[AU,go_sem,iw,cU,fe,jD,pk]
    | 4,_=>simp[AU,go_sem,iw,cU,fe,jD,pk],fun s hs=>absurd hs (Nat.not_lt_zero _)⟩
   have M2:=af (M1.out.trans m2);have N2:=Xz.out.mk' m2;have Br:bP<(((((w1.setCell (a_ bP (off+j * 9)) (.string (gT kj))).setCell (a_ bP (off+j * 9+1)) (i_ (kj+1))).setCell (a_ bP (off+j * 9+2)) (i_ (kj+1+1))).setCell (a_ bP (off+j * 9+3)) (.bool ((kj+1+1+1) % 3==0))).setCell (a_ bP (off+j * 9+4)) (i_ (kj+1+1+1+1))).heap.size:=by simpa using Wg
   clear iw f0 cU f1 fe f2 jD f3 pk f4 hr m2 M1 fJ P1 Xz;generalize ((((w1.setCell (a_ bP (off+j * 9)) (.string (gT kj))).setCell (a_ bP (off+j * 9+1)) (i_ (kj+1))).setCell (a_ bP (off+j * 9+2)) (i_ (kj+1+1))).setCell (a_ bP (off+j * 9+3)) (.bool ((kj+1+1+1) % 3==0))).setCell (a_ bP (off+j * 9+4)) (i_ (kj+1+1+1+1))=w2 at *;have S0:lP w2 (eD Q x 0):=fun b hb=>(Lh.out.mk M2.out) b (Ek.out.2 0 (by omega) b hb);refine(Dp Q.a5 x.ups.length Q.c5 _ (eD Q x 0) _ (N2.row 0 (by omega)) S0 (by omega) (by omega)).mono ?_;rintro e w3 ⟨rfl,n0,r0⟩;have OJ:¬eD Q x 0 bP:=by have:=WH.out j 0 ax (by omega);rwa [HX.out.1,HX.out.2]at this
   have P3:Hid (∀ i,i<j->vY w3 bP (off+i * 9) (am l i) (R i) (k+bw aM l i) 4):=fun i hi=>(P2.out i hi).mk' n0 Br OJ (fun s hs b h1 h2=>by have:=(BJ.out i s b (by omega) hs 0 (by omega) h1 h2).1;omega);have Q3:Hid (vY w3 bP (off+j * 9) x Q kj 1):=by
    have old:=Q2.out.mk' n0 Br OJ (fun s hs b h1 h2=>by
     have Sp:eD (R j) (am l j) s b:=by rw[HX.out.1,HX.out.2];exact h1
     have:=(BJ.out j s b ax (by omega) 0 (by omega) Sp h2).2;omega)
    refine⟨old.1,fun s hs=>?_⟩;by_cases e:s=0
    ·aj e
     have r:=r0;show gU _ _ _ _ (fun j=>Ih (kj+((rK x 0:Nat):Int)+2 * j))
     rwa [show kj+((rK x 0:Nat):Int)=kj+1+1+1+1+1 by have e:rK x 0=5:=rfl;rw[e];omega]
    ·exact old.2 s (by omega)
   have M3:=af (M2.out.trans (n0.mono (Ek.out.2 0 (by omega))));have N3:=N2.mk' n0;have OM:bP<w3.heap.size:=l_ Br n0.size;have vj:=N3.h6;clear n0 r0 P2 Q2 M2 S0 N2;go_wp2_with fail
   have S1:lP w3 (eD Q x 1):=fun b hb=>(Lh.out.mk M3.out) b (Ek.out.2 1 (by omega) b hb);refine(vC Q.a6 x.consts.length Q.c6 _ (eD Q x 1) _ (N3.row 1 (by omega)) S1 (by omega) (by omega)).mono ?_;rintro e w4 ⟨rfl,n1,r1⟩;have LC:¬eD Q x 1 bP:=by have:=WH.out j 1 ax (by omega);rwa [HX.out.1,HX.out.2]at this
   have P4:Hid (∀ i,i<j->vY w4 bP (off+i * 9) (am l i) (R i) (k+bw aM l i) 4):=fun i hi=>(P3.out i hi).mk' n1 OM LC (fun s hs b h1 h2=>by have:=(BJ.out i s b (by omega) hs 1 (by omega) h1 h2).1;omega);have Q4:Hid (vY w4 bP (off+j * 9) x Q kj 2):=by
    have old:=Q3.out.mk' n1 OM LC (fun s hs b h1 h2=>by
     have Sp:eD (R j) (am l j) s b:=by rw[HX.out.1,HX.out.2];exact h1
     have:=(BJ.out j s b ax (by omega) 1 (by omega) Sp h2).2;omega)
    refine⟨old.1,fun s hs=>?_⟩;by_cases e:s=1
    ·aj e
     have r:=r1;show gU _ _ _ _ (fun j=>kL (kj+((rK x 1:Nat):Int)+5 * j))
     rwa [show kj+((rK x 1:Nat):Int)=kj+1+1+1+1+1+2 * (x.ups.length:Int)by have e:rK x 1=5+2 * x.ups.length:=rfl;rw[e];omega]
    ·exact old.2 s (by omega)
   have M4:=af (M3.out.trans (n1.mono (Ek.out.2 1 (by omega))));have N4:=N3.mk' n1;have OU:bP<w4.heap.size:=l_ OM n1.size;have Tp:=N4.h7;clear n1 r1 P3 Q3 M3 S1 N3;go_wp2_with fail
   have S2:lP w4 (eD Q x 2):=fun b hb=>(Lh.out.mk M4.out) b (Ek.out.2 2 (by omega) b hb);refine(zF Q.a7 x.ins.length Q.c7 _ (eD Q x 2) _ (N4.row 2 (by omega)) S2 (by omega) (by omega)).mono ?_;rintro e w5 ⟨rfl,n2,r2⟩;have KQ:¬eD Q x 2 bP:=by have:=WH.out j 2 ax (by omega);rwa [HX.out.1,HX.out.2]at this
   have P5:Hid (∀ i,i<j->vY w5 bP (off+i * 9) (am l i) (R i) (k+bw aM l i) 4):=fun i hi=>(P4.out i hi).mk' n2 OU KQ (fun s hs b h1 h2=>by have:=(BJ.out i s b (by omega) hs 2 (by omega) h1 h2).1;omega);have Q5:Hid (vY w5 bP (off+j * 9) x Q kj 3):=by
    have old:=Q4.out.mk' n2 OU KQ (fun s hs b h1 h2=>by
     have Sp:eD (R j) (am l j) s b:=by rw[HX.out.1,HX.out.2];exact h1
     have:=(BJ.out j s b ax (by omega) 2 (by omega) Sp h2).2;omega)
    refine⟨old.1,fun s hs=>?_⟩;by_cases e:s=2
    ·aj e
     have r:=r2;show gU _ _ _ _ (fun j=>pd (kj+((rK x 2:Nat):Int)+5 * j))
     rwa [show kj+((rK x 2:Nat):Int)=kj+1+1+1+1+1+2 * (x.ups.length:Int)+5 * (x.consts.length:Int)by have e:rK x 2=5+2 * x.ups.length+5 * x.consts.length:=rfl;rw[e];omega]
    ·exact old.2 s (by omega)
   have M5:=af (M4.out.trans (n2.mono (Ek.out.2 2 (by omega))));have N5:=N4.mk' n2;have NJ:bP<w5.heap.size:=l_ OU n2.size;have Ts:=N5.h8;clear n2 r2 P4 Q4 M4 S2 N4;go_wp2_with fail
   have S3:lP w5 (eD Q x 3):=fun b hb=>(Lh.out.mk M5.out) b (Ek.out.2 3 (by omega) b hb);refine(vJ Q.a8 x.named.length Q.c8 _ (eD Q x 3) _ (N5.row 3 (by omega)) S3 (by omega) (by omega)).mono ?_;rintro e w6 ⟨rfl,n3,r3⟩;have Oi:¬eD Q x 3 bP:=by have:=WH.out j 3 ax (by omega);rwa [HX.out.1,HX.out.2]at this
   have P6:Hid (∀ i,i<j->vY w6 bP (off+i * 9) (am l i) (R i) (k+bw aM l i) 4):=fun i hi=>(P5.out i hi).mk' n3 NJ Oi (fun s hs b h1 h2=>by have:=(BJ.out i s b (by omega) hs 3 (by omega) h1 h2).1;omega);have Q6:Hid (vY w6 bP (off+j * 9) x Q kj 4):=by
    have old:=Q5.out.mk' n3 NJ Oi (fun s hs b h1 h2=>by
     have Sp:eD (R j) (am l j) s b:=by rw[HX.out.1,HX.out.2];exact h1
     have:=(BJ.out j s b ax (by omega) 3 (by omega) Sp h2).2;omega)
    refine⟨old.1,fun s hs=>?_⟩;by_cases e:s=3
    ·aj e
     have r:=r3;show gU _ _ _ _ (fun j=>pX (kj+((rK x 3:Nat):Int)+4 * j))
     rwa [show kj+((rK x 3:Nat):Int)=kj+1+1+1+1+1+2 * (x.ups.length:Int)+5 * (x.consts.length:Int)+5 * (x.ins.length:Int)by have e:rK x 3=5+2 * x.ups.length+5 * x.consts.length+5 * x.ins.length:=rfl;rw[e];omega]
    ·exact old.2 s (by omega)
   have M6:=af (M5.out.trans (n3.mono (Ek.out.2 3 (by omega))));have N6:=N5.mk' n3;have hb6s:bP<w6.heap.size:=l_ NJ n3.size;have M9:=af (HM.out.trans M6.out);have P9:Hid (∀ i,i<j+1->vY w6 bP (off+i * 9) (am l i) (R i) (k+bw aM l i) 4):=fun i hi=>by
    by_cases e:i=j
    ·aj e
     rw[HX.out.1,HX.out.2,<-HKJ.out];exact Q6.out
    ·exact P6.out i (by omega)
   clear n3 r3 P5 Q5 M5 S3 N5 P6 Q6 M6 N6;go_wp2_with fail
   go_roundw
   case rel=>exact⟨j+1,by omega,by rw[<-HE.out];go_num,by go_num,M9,P9⟩
   case measure=>simp[intOf];omega
  ·have HK:Hid (j=l.length):=by show _=_;omega
   go_wp2_with fail
   go_ret;rw[HK.out]at HP ⊢;rw[fI];exact⟨rfl,HM.out,HP.out⟩
end Go.Proofs.YtcjfjflljdojlaaGreatDoor
