import Derived.Test.YtcjfjflljdojlaaGreatDoorPart55
import Derived.Deep.RegionHeld3
import Derived.Test.YtcjfjflljdojlaaGreatDoorPart54
import Derived.Test.YtcjfjflljdojlaaGreatDoorPart03
import Derived.Test.YtcjfjflljdojlaaGreatDoorPart04
import Derived.Test.YtcjfjflljdojlaaGreatDoorPart16
set_option linter.unusedSimpArgs false
set_option linter.unusedVariables false
set_option maxHeartbeats 8000000
set_option maxRecDepth 100000
namespace Go.Proofs.YtcjfjflljdojlaaGreatDoor
open Go.RowKit
def Qy (w:World)(bP o:Nat)(x:ak)(R:dp)(k:Int):Prop:=vY w bP o x R k 4/\w.cell? (a_ bP (o+5))=some (.slice R.a5 x.ups.length R.c5)/\w.cell? (a_ bP (o+6))=some (.slice R.a6 x.consts.length R.c6)/\w.cell? (a_ bP (o+7))=some (.slice R.a7 x.ins.length R.c7)/\w.cell? (a_ bP (o+8))=some (.slice R.a8 x.named.length R.c8)
theorem Qy.below {w w':World}{bP o:Nat}{x:ak}{R:dp}{k:Int}(h:Qy w bP o x R k)(hb:bP<w.heap.size)(hw:b_ w w'):Qy w' bP o x R k:=
 ⟨h.1.mk' (S:=fun _=>False) (Mk.of_below hw) hb id (fun _ _ _ _=>id),(hw.cell (p:=(a_ bP (o+5))) hb).trans h.2.1,(hw.cell (p:=(a_ bP (o+6))) hb).trans h.2.2.1,(hw.cell (p:=(a_ bP (o+7))) hb).trans h.2.2.2.1,(hw.cell (p:=(a_ bP (o+8))) hb).trans h.2.2.2.2⟩
theorem vL (bP off:Nat)(l:List ak)(c:Nat)(k:Int)(R:Nat->dp)(w:World)(h:∀ i,i<l.length->Qy w bP (off+i * 9) (am l i) (R i) (k+bw aM l i))(yP:bP<w.heap.size)(h0:0<=k)(hk:k+aS aM l<=1000000000)(hn:l.length<=1000000000) :
  c_ 19 #[.slice (some (a_ bP off)) l.length c,i_ k] w fun e w'=>e=.returned (i_ (k+aS aM l))/\b_ w w':=by
 have Ly:Hid (∀ j,j<l.length->bw aM l (j+1)=bw aM l j+aM (am l j)/\bw aM l (j+1)<=aS aM l):=fun j hj=>⟨dJ aM l j ak.z hj,gw _ _ _⟩;have HH:=af h;clear h;go_enter Tryz.func19,Tryz.ntmps19;go_wp2_with fail
 go_loopw [1,5] (fun q i wr=>∃(j:Nat),j<=l.length/\q=i_ (k+bw aM l j)/\i=i_ j/\Hid (b_ w wr)) (fun _ i _=>l.length-(intOf i).toNat)
 case atStart=>exact⟨0,Nat.zero_le _,by simp[fi],rfl,r_⟩
 case round=>
  obtain⟨j,hj,rfl,rfl,HB⟩:=hrel;by_cases ax:j<l.length
  ·obtain⟨jf,sr⟩:=aa Ly j ax;have N:=HH.out j ax;obtain⟨x,hx⟩:∃ x,am l j=x:=⟨_,rfl⟩;obtain⟨Q,hQ⟩:∃ Q,R j=Q:=⟨_,rfl⟩;rw[hx,hQ]at N;rw[hx]at jf;have he:aM x=5+2 * x.ups.length+5 * x.consts.length+5 * x.ins.length+4 * x.named.length:=rfl;obtain⟨kj,jL⟩:∃ kj:Int,kj=k+bw aM l j:=⟨_,rfl⟩;rw[<-jL]at N ⊢;have WZ:0<=kj:=by omega
   have Ww:kj+5+2 * x.ups.length+5 * x.consts.length+5 * x.ins.length+4 * x.named.length<=1000000000:=by omega
   have HE:Hid (kj+5+2 * x.ups.length+5 * x.consts.length+5 * x.ins.length+4 * x.named.length=k+bw aM l (j+1)):=by show _=_;omega
   have HP:Hid (∀ W,b_ w W->Qy W bP (off+j * 9) x Q kj):=fun W hW=>N.below yP hW;clear he jf sr jL hk hx hQ N;have HK0:Hid (kj<=1000000000000):=by show _<=_;omega
   have mh:bP<wr.heap.size:=by have:=HB.out.size;omega
   have C:=(HP.out wr HB.out).1.1;have c0:=C 0 (by omega);simp only[AU,Nat.add_zero]at c0;have HC:Hid (∀ w1,Below wr.heap.size wr.drew w1->w1.cell? (a_ bP (off+j * 9))=some (.string (gT kj))):=fun w1 h1=>(h1.cell (p:=(a_ bP _)) mh).trans c0;have TP:Hid (c_ 40 #[i_ kj] wr.drew fun e w'=>e=.returned (.string (gT kj))/\Below wr.drew.heap.size wr.drew w'):=ip _ _ HK0.out;clear C;go_wp2_with fail
   go_region_held3 (fun W=>W.cell? (a_ bP (off+j * 9))=some (.string (gT kj))) (simp[go_sem, *])
    (first | (go_at_call 40;refine TP.out.mono ?_;rintro e w1 ⟨rfl,au⟩;have e0:=HC.out w1 au))
   have sM:Hid (b_ w w1):=HB.out.drew.trans (au.mono HB.out.size);have eo:bP<w1.heap.size:=by have:=sM.out.size;omega
   have C1:=(HP.out w1 sM.out).1.1;have c1:=C1 1 (by omega);have c2:=C1 2 (by omega);have c3:=C1 3 (by omega);have c4:=C1 4 (by omega);simp only[AU]at c1 c2 c3 c4;have HP0:=af (HP.out w1 sM.out).1;have qK:=(HP.out w1 sM.out).2.1;clear au HC TP C1 c0 e0;go_wp2_with fail
   have A0:gU w1 Q.a5 x.ups.length 2 (fun j=>Ih (kj+1+1+1+1+1+2 * j)):=by
    have r:=(HP0.out).2 0 (by omega);have e1:kj+((rK x 0:Nat):Int)=kj+1+1+1+1+1:=by have e:rK x 0=5:=rfl;rw[e];omega
    have r2:gU w1 Q.a5 x.ups.length 2 (fun j=>Ih (kj+((rK x 0:Nat):Int)+2 * j)):=r
    rwa [e1]at r2
   refine(CJ Q.a5 x.ups.length Q.c5 _ _ A0 (by omega) (by omega)).mono ?_;rintro e w2 ⟨rfl,Mb⟩;have lz:=af (sM.out.trans (Mb.mono sM.out.size));have HP1:=af (HP.out w2 lz.out).1;have vj:=(HP.out w2 lz.out).2.2.1;clear A0 Mb sM HP0;have hks0:¬(kj+1+1+1+1+1+2 * (x.ups.length:Int)<0):=by omega
   have hbw0:bP<w2.heap.size:=by have:=lz.out.size;omega
   go_wp2_with fail
   have A1:gU w2 Q.a6 x.consts.length 5 (fun j=>kL (kj+1+1+1+1+1+2 * (x.ups.length:Int)+5 * j)):=by
    have r:=(HP1.out).2 1 (by omega);have e1:kj+((rK x 1:Nat):Int)=kj+1+1+1+1+1+2 * (x.ups.length:Int):=by have e:rK x 1=5+2 * x.ups.length:=rfl;rw[e];omega
    have r2:gU w2 Q.a6 x.consts.length 5 (fun j=>kL (kj+((rK x 1:Nat):Int)+5 * j)):=r
    rwa [e1]at r2
   refine(vw Q.a6 x.consts.length Q.c6 _ _ A1 (by omega) (by omega)).mono ?_;rintro e w3 ⟨rfl,au⟩;have lD:=af (lz.out.trans (au.mono lz.out.size));have HP2:=af (HP.out w3 lD.out).1;have Tp:=(HP.out w3 lD.out).2.2.2.1;clear A1 au lz HP1;have hks1:¬(kj+1+1+1+1+1+2 * (x.ups.length:Int)+5 * (x.consts.length:Int)<0):=by omega
   have sL:bP<w3.heap.size:=by have:=lD.out.size;omega
   go_wp2_with fail
   have A2:gU w3 Q.a7 x.ins.length 5 (fun j=>pd (kj+1+1+1+1+1+2 * (x.ups.length:Int)+5 * (x.consts.length:Int)+5 * j)):=by
    have r:=(HP2.out).2 2 (by omega);have e1:kj+((rK x 2:Nat):Int)=kj+1+1+1+1+1+2 * (x.ups.length:Int)+5 * (x.consts.length:Int):=by have e:rK x 2=5+2 * x.ups.length+5 * x.consts.length:=rfl;rw[e];omega
    have r2:gU w3 Q.a7 x.ins.length 5 (fun j=>pd (kj+((rK x 2:Nat):Int)+5 * j)):=r
    rwa [e1]at r2
   refine(AF Q.a7 x.ins.length Q.c7 _ _ A2 (by omega) (by omega)).mono ?_;rintro e w4 ⟨rfl,bo⟩;have oo:=af (lD.out.trans (bo.mono lD.out.size));have LY:=af (HP.out w4 oo.out).1;have Ts:=(HP.out w4 oo.out).2.2.2.2;clear A2 bo lD HP2;have hks2:¬(kj+1+1+1+1+1+2 * (x.ups.length:Int)+5 * (x.consts.length:Int)+5 * (x.ins.length:Int)<0):=by omega
   have Ed:bP<w4.heap.size:=by have:=oo.out.size;omega
   go_wp2_with fail
   have A3:gU w4 Q.a8 x.named.length 4 (fun j=>pX (kj+1+1+1+1+1+2 * (x.ups.length:Int)+5 * (x.consts.length:Int)+5 * (x.ins.length:Int)+4 * j)):=by
    have r:=(LY.out).2 3 (by omega);have e1:kj+((rK x 3:Nat):Int)=kj+1+1+1+1+1+2 * (x.ups.length:Int)+5 * (x.consts.length:Int)+5 * (x.ins.length:Int):=by have e:rK x 3=5+2 * x.ups.length+5 * x.consts.length+5 * x.ins.length:=rfl;rw[e];omega
    have r2:gU w4 Q.a8 x.named.length 4 (fun j=>pX (kj+((rK x 3:Nat):Int)+4 * j)):=r
    rwa [e1]at r2
   refine(vW Q.a8 x.named.length Q.c8 _ _ A3 (by omega) (by omega)).mono ?_;rintro e w5 ⟨rfl,bY⟩;have XN:=af (oo.out.trans (bY.mono oo.out.size));have HP4:=af (HP.out w5 XN.out).1;clear A3 bY oo LY;have hks3:¬(kj+1+1+1+1+1+2 * (x.ups.length:Int)+5 * (x.consts.length:Int)+5 * (x.ins.length:Int)+4 * (x.named.length:Int)<0):=by omega
   have Eq:bP<w5.heap.size:=by have:=XN.out.size;omega
   go_wp2_with fail
   go_roundw
   case rel=>exact⟨j+1,by omega,by rw[<-HE.out];go_num,by go_num,XN⟩
   case measure=>simp[intOf];omega
  ·have HK:Hid (j=l.length):=by show _=_;omega
   go_wp2_with fail
   go_ret;rw[HK.out,fI];exact⟨rfl,HB.out⟩
def S7 (w:World)(lo hi:Nat)(l:List ak)(a:o_):Prop:=l.length=0\/∃ bP off R,a=some (a_ bP off)/\CA w bP off l R/\∀ b,CB bP l R b->lo<=b/\b<hi
def IY (w:World)(lo hi:Nat)(l:List ak)(a:o_):Prop:=l.length=0\/∃ bP off R,a=some (a_ bP off)/\bP<w.heap.size/\(∀ b,CB bP l R b->lo<=b/\b<hi)/\∀ i,i<l.length->Qy w bP (off+i * 9) (am l i) (R i) (1+bw aM l i)
structure y7 (w:World)(lo hi:Nat)(l:List ak)(ap:Prop)(a:o_):Prop where
 at_:ao w (fun b=>lo<=b/\b<hi) a l
 own:ap->S7 w lo hi l a
section
variable {w w':World} {lo hi:Nat} {l:List ak} {ap:Prop} {a:o_}
theorem dK.blk {S:Nat->Prop}{n:Nat}(h:dK w S a n)(hb:∀ b,S b->w'.heap[b]? = w.heap[b]?):dK w' S a n:=fun hn=>by
 obtain⟨b,off,e,hs,hc⟩:=h hn;exact⟨b,off,e,hs,fun j hj=>by obtain⟨v,ev,fv⟩:=hc j hj;exact⟨v,(World.cell?_of_block (a:=(a_ b (off+j))) (hb b hs)).trans ev,fv⟩⟩
theorem S7.blk (h:S7 w lo hi l a)(hb:∀ b,lo<=b->b<hi->w'.heap[b]? = w.heap[b]?)(hs:w.heap.size<=w'.heap.size):S7 w' lo hi l a:=by
 rcases h with h | ⟨bP,off,R,e,h,hc⟩
 ·exact .inl h
 ·have hP:=hc bP (.inl rfl);have v9:∀ b,CB bP l R b->w'.heap[b]? = w.heap[b]?:=fun b k=>hb b (hc b k).1 (hc b k).2;have lv:∀ o,w'.cell? (a_ bP o)=w.cell? (a_ bP o):=fun o=>World.cell?_of_block (a:=(a_ bP o)) (v9 bP (.inl rfl));refine .inr ⟨bP,off,R,e,⟨fun i hi=>?_,fun b k=>⟨l_ (h.soft b k).1 hs,fun o=>?_⟩,h.apart,h.away⟩,hc⟩
  ·have N:=h.here i hi;exact⟨fun r hr=>by obtain⟨v,ev,fv⟩:=N.flat r hr;exact⟨v,(lv _).trans ev,fv⟩,(lv _).trans N.h5,(lv _).trans N.h6,(lv _).trans N.h7,(lv _).trans N.h8,fun s hs=>(N.row s hs).blk (fun b k=>v9 b (.inr ⟨i,s,hi,hs,k⟩))⟩
  ·exact(World.frozen?_of_block (a:=(a_ b o)) (v9 b k)).trans ((h.soft b k).2 o)
theorem IY.blk (h:IY w lo hi l a)(hb:∀ b,lo<=b->b<hi->w'.heap[b]? = w.heap[b]?)(hs:w.heap.size<=w'.heap.size):IY w' lo hi l a:=by
 rcases h with h | ⟨bP,off,R,e,hl,hc,h⟩
 ·exact .inl h
 ·have v9:∀ b,CB bP l R b->w'.heap[b]? = w.heap[b]?:=fun b k=>hb b (hc b k).1 (hc b k).2;have lv:∀ o,w'.cell? (a_ bP o)=w.cell? (a_ bP o):=fun o=>World.cell?_of_block (a:=(a_ bP o)) (v9 bP (.inl rfl));refine .inr ⟨bP,off,R,e,l_ hl hs,hc,fun i hi=>?_⟩;have N:=h i hi;refine⟨⟨fun r hr=>(lv _).trans (N.1.1 r hr),fun s tj h0=>?_⟩,(lv _).trans N.2.1,(lv _).trans N.2.2.1,(lv _).trans N.2.2.2.1,(lv _).trans N.2.2.2.2⟩;obtain⟨b,o,eb,cZ,hm⟩:=N.1.2 s tj h0;exact⟨b,o,eb,l_ cZ hs,hm.block (v9 b (.inr ⟨i,s,hi,tj,h0,o,eb⟩))⟩
theorem y7.blk (h:y7 w lo hi l ap a)(hb:∀ b,lo<=b->b<hi->w'.heap[b]? = w.heap[b]?)(hs:w.heap.size<=w'.heap.size):y7 w' lo hi l ap a:=
 ⟨h.at_.same (fun b k=>hb b k.1 k.2),fun k=>(h.own k).blk hb hs⟩
theorem y7.below (h:y7 w lo hi l ap a)(hh:hi<=w.heap.size)(hb:b_ w w'):y7 w' lo hi l ap a:=h.blk (fun b _ h2=>hb.block b (by omega)) hb.size
theorem IY.below (h:IY w lo hi l a)(hh:hi<=w.heap.size)(hb:b_ w w'):IY w' lo hi l a:=h.blk (fun b _ h2=>hb.block b (by omega)) hb.size
theorem y7.marked {S:Nat->Prop}(h:y7 w lo hi l ap a)(hh:hi<=w.heap.size)(hm:Mk S w w')(hS:∀ b,lo<=b->b<hi->¬S b):y7 w' lo hi l ap a:=h.blk (fun b h1 h2=>hm.block b (by omega) (hS b h1 h2)) hm.size
end
theorem Ck {w:World}{lo hi:Nat}{l:List ak}{a:o_}(c:Nat)(h:S7 w lo hi l a)(hh:hi<=w.heap.size)(hk:1+(aS aM l:Int)<=1000000000)(hn:l.length<=1000000000) :
  c_ 9 #[.agg #[.slice a l.length c],i_ 1] w fun e w'=>e=.returned (i_ (1+aS aM l))/\IY w' lo hi l a/\Mk (fun b=>lo<=b/\b<hi) w w':=by
 have dR:Hid (∀ o,b_ w (w.alloc o)):=fun o=>r_.alloc n_ o;rcases h with h | ⟨bP,off,R,rfl,h,hc⟩
 ·have hl:l=[]:=List.length_eq_zero_iff.1 h
  aj hl
  have HP:Hid (∀ W:World,c_ 18 #[.slice a (0:Nat) c,i_ 1] W fun e w'=>e=.returned (i_ 1)/\b_ W w'):=fun W=>by
   go_enter Tryz.func18,Tryz.ntmps18;go_wp2_with fail
   go_loopw [1,5] (fun q i wr=>q=i_ 1/\i=i_ (0:Nat)/\b_ W wr) (fun _ _ _=>0)
   case atStart=>exact⟨rfl,rfl,r_⟩
   case round=>
    obtain⟨rfl,rfl,hb⟩:=hrel;go_wp2_with fail
    go_ret;exact⟨rfl,hb⟩
  go_enter Tryz.func9,Tryz.ntmps9;go_wp2_with fail
  refine(HP.out _).mono ?_;rintro e w1 ⟨rfl,au⟩;go_wp2_with fail
  go_ret;exact⟨rfl,.inl rfl,Mk.of_below ((dR.out _).trans (au.mono (by simp)))⟩
 ·have HC:=af h;have PB:=af hc;clear h hc;go_enter Tryz.func9,Tryz.ntmps9;go_wp2_with fail
  refine(vp bP off l c 1 R _ (HC.out.mk' (S:=fun _=>False) (Mk.of_below (dR.out _))) (by omega) hk hn).mono ?_;rintro e w1 ⟨rfl,m1,P1⟩;have C1:=(HC.out.mk' (S:=fun _=>False) (Mk.of_below (dR.out (.cells #[.slice (some (a_ bP off)) l.length c] 28)))).mk' m1;have eM:Hid (IY w1 lo hi l (some (a_ bP off))/\Mk (fun b=>lo<=b/\b<hi) w w1):=⟨.inr ⟨bP,off,R,rfl,C1.lt,PB.out,fun i hi=>⟨P1 i hi,(C1.here i hi).h5,(C1.here i hi).h6,(C1.here i hi).h7,(C1.here i hi).h8⟩⟩,(Mk.of_below (dR.out _)).trans (m1.mono PB.out)⟩;clear m1 P1 C1;go_wp2_with fail
  go_ret;exact⟨rfl,eM.out⟩
theorem C7 {w:World}{lo hi:Nat}{l:List ak}{a:o_}(c:Nat)(h:IY w lo hi l a)(hk:1+(aS aM l:Int)<=1000000000)(hn:l.length<=1000000000) :
  c_ 10 #[.agg #[.slice a l.length c],i_ 1] w fun e w'=>e=.returned (i_ (1+aS aM l))/\b_ w w':=by
 have dR:Hid (∀ o,b_ w (w.alloc o)):=fun o=>r_.alloc n_ o;have ei:¬(1+(aS aM l:Int)<0):=by omega
 rcases h with h | ⟨bP,off,R,rfl,hl,hc,h⟩
 ·have hl:l=[]:=List.length_eq_zero_iff.1 h
  aj hl
  have HP:Hid (∀ W:World,c_ 19 #[.slice a (0:Nat) c,i_ 1] W fun e w'=>e=.returned (i_ 1)/\b_ W w'):=fun W=>by
   go_enter Tryz.func19,Tryz.ntmps19;go_wp2_with fail
   go_loopw [1,5] (fun q i wr=>q=i_ 1/\i=i_ (0:Nat)/\b_ W wr) (fun _ _ _=>0)
   case atStart=>exact⟨rfl,rfl,r_⟩
   case round=>
    obtain⟨rfl,rfl,hb⟩:=hrel;go_wp2_with fail
    go_ret;exact⟨rfl,hb⟩
  go_enter Tryz.func10,Tryz.ntmps10;go_wp2_with fail
  refine(HP.out _).mono ?_;rintro e w1 ⟨rfl,au⟩;go_wp2_with fail
  go_ret;exact⟨rfl,(dR.out _).trans (au.mono (by simp))⟩
 ·have HC:Hid (∀ W,b_ w W->∀ i,i<l.length->Qy W bP (off+i * 9) (am l i) (R i) (1+bw aM l i)):=fun W hW i hi=>(h i hi).below hl hW;clear h hc;go_enter Tryz.func10,Tryz.ntmps10;go_wp2_with fail
  refine(vL bP off l c 1 R _ (HC.out _ (dR.out _)) (by simp;omega) (by omega) hk hn).mono ?_;rintro e w1 ⟨rfl,au⟩;go_wp2_with fail
  go_ret;exact⟨rfl,(dR.out _).trans (au.mono (by simp))⟩
def UA (l':List ak)(ap:Prop)(w:World)(e:Ending)(w':World):Prop:=
 ∃ a c,e=.returned (.agg #[.slice a l'.length c])/\y7 w' w.heap.size w'.heap.size l' ap a/\b_ w w'
def AZ (l l':List ak):Prop:=
 ∀(a:o_) (c:Nat) (S:Nat->Prop) (w:World),ao w S a l->(∀ b,S b->b<w.heap.size)->c_ 5 #[.agg #[.slice a l.length c]] w (UA l' False w)
def AC (G:World->Prop)(l l':List ak):Prop:=
 ∀(a:o_) (c:Nat) (S:Nat->Prop) (w:World),G w->ao w S a l->(∀ b,S b->b<w.heap.size)->c_ 7 #[.agg #[.slice a l.length c]] w (UA l' True w)
structure LT (w:World)(a:o_)(nl c:Nat)(l':List ak)(aw:o_)(cw hi:Nat)(W:World):Prop where
 old:b_ w W
 box:W.cell? (a_ w.heap.size 0)=some (.slice a nl c)
 wbox:W.cell? (a_ hi 0)=some (.slice aw l'.length cw)
 row:y7 W (w.heap.size+1) hi l' False aw
 lh:w.heap.size<hi
 hh:hi<W.heap.size
section
variable {w:World} {a:o_} {nl c:Nat} {l':List ak} {aw:o_} {cw hi:Nat} {W W':World}
theorem LT.next (h:LT w a nl c l' aw cw hi W)(hb:b_ W W'):LT w a nl c l' aw cw hi W':=
 ⟨h.old.trans (hb.mono h.old.size),(hb.cell (p:=(a_ w.heap.size 0)) (Nat.lt_trans h.lh h.hh)).trans h.box,(hb.cell (p:=(a_ hi 0)) h.hh).trans h.wbox,h.row.below (Nat.le_of_lt h.hh) hb,h.lh,l_ h.hh hb.size⟩
theorem LT.marked {S:Nat->Prop}(h:LT w a nl c l' aw cw hi W)(hm:Mk S W W')(hS:∀ b,S b->hi<b):LT w a nl c l' aw cw hi W' where
 old:=h.old.trans (hm.below (fun b hb=>by have:=hS b hb;have:=h.lh;omega) h.old.size)
 box:=(World.cell?_of_block (a:=(a_ w.heap.size 0)) (hm.block _ (Nat.lt_trans h.lh h.hh) (fun hs=>by have:hi<w.heap.size:=hS _ hs;have:=h.lh;omega))).trans h.box
 wbox:=(World.cell?_of_block (a:=(a_ hi 0)) (hm.block _ h.hh (fun hs=>by have:hi<hi:=hS _ hs;omega))).trans h.wbox
 row:=h.row.marked (Nat.le_of_lt h.hh) hm (fun b h1 h2 h3=>by have:=hS b h3;omega)
 lh:=h.lh
 hh:=l_ h.hh hm.size
end
theorem lm {a:o_}{l:List ak}{c:Nat}{S:Nat->Prop}(w W:World)(hs:ao w S a l)(hB:∀ b,S b->b<w.heap.size)(hl:aI l<=1048576)(hW:b_ w W) :
  c_ 6 #[.agg #[.slice a l.length c]] W fun e w'=>∃ a' c',e=.returned (.agg #[.slice a' l.length c'])/\ao w' (jk W.heap.size w') a' l/\aG W.heap.size W w':=
 Aq a l c S W (hs.keep hW hB) (fun b h=>l_ (hB b h) hW.size) hl
theorem qW {a:o_}{l:List ak}{c:Nat}{S:Nat->Prop}(w W:World)(hs:ao w S a l)(hB:∀ b,S b->b<w.heap.size)(hl:aI l<=1048576)(hW:b_ w W) :
  c_ 6 #[.agg #[.slice a l.length c]] W fun e w'=>∃ a' c',e=.returned (.agg #[.slice a' l.length c'])/\ao w' (jk W.heap.size w') a' l/\b_ W w':=
 (lm w W hs hB hl hW).mono (fun e w' ⟨a',c',h1,h2,h3⟩=>⟨a',c',h1,h2,h3.1⟩)
theorem wQ {a b:o_}{l:List ak}{ca cb:Nat}{S:Nat->Prop}(W:World)(h1:ao W S a l)(h2:ao W S b l)(hB:∀ b,S b->b<W.heap.size) :
  c_ 8 #[.agg #[.slice a l.length ca],.agg #[.slice b l.length cb]] W fun e w'=>e=.returned (.bool true)/\b_ W w':=zS a b l ca cb S W h1 h2 hB
theorem tU {lo hi lo' Il:Nat}{l:List ak}{ap aq:Prop}{a b:o_}(ca cb:Nat)(W:World)(h1:y7 W lo hi l ap a)(h2:y7 W lo' Il l aq b)(k1:hi<=W.heap.size)(k2:Il<=W.heap.size) :
  c_ 8 #[.agg #[.slice a l.length ca],.agg #[.slice b l.length cb]] W fun e w'=>e=.returned (.bool true)/\b_ W w':=
 wQ (S:=fun b=>b<W.heap.size) W (h1.at_.mono (fun b h=>by have:=h.2;omega)) (h2.at_.mono (fun b h=>by have:=h.2;omega)) (fun b h=>h)
theorem zO (G:World->Prop)(hG:∀ w W:World,G w->b_ w W->G W)(a:o_)(l:List ak)(c:Nat)(l':List ak)(Te:1+(aS aM l':Int)<=1000000000)(hn':l'.length<=1000000000)(hsp:aI l<=1048576->AZ l l')(him:aI l<=1048576->AC G l l')(S:Nat->Prop)(w:World)(g0:G w)(hs:ao w S a l)(hB:∀ b,S b->b<w.heap.size) :
  c_ 3 #[.agg #[.slice a l.length c]] w fun e w'=>e=.returned (.bool true)/\b_ w w':=by
 have dF:∀ o,b_ w (w.alloc o):=fun o=>r_.alloc n_ o;have HS:=af hs;have HB:=af hB;have G0:=af g0;have HGG:Hid (∀ W,b_ w W->G W):=fun W hW=>hG w W g0 hW;have FN:Hid (∀ W:World,b_ w W->ao W S a l/\∀ b,S b->b<W.heap.size):=fun W hW=>⟨hs.keep hW hB,fun b h=>l_ (hB b h) hW.size⟩;have dR:=af dF;have HSP:=af hsp;have HIM:=af him;clear hs hB g0 dF hsp him hG;by_cases q:(1048576:Int)<aI l
 ·have B1:Hid (oM 1048576 (aI l)=-1):=er q;go_enter Tryz.func3,Tryz.ntmps3;go_wp2_with fail
  refine(tT a l c S _ (aa FN _ (aa dR _)).1 (aa FN _ (aa dR _)).2).mono ?_;rintro e w1 ⟨rfl,au⟩;rw[B1.out];go_wp2_with fail
  go_ret;exact⟨rfl,(aa dR _).trans (au.mono (aa dR _).size)⟩
 have hl:aI l<=1048576:=by omega
 have B1:Hid (oM 1048576 (aI l)=1048576-aI l):=eV (by omega);have pw:(aI l:Int)<=1048576:=by omega
 have Uh:0<=(1+(aS aM l':Int)):=by omega
 obtain⟨mm,Tm⟩:∃ mm,(1+(aS aM l':Int))=mm:=⟨_,rfl⟩;have MS:Hid (∀(ag:o_) (lo hi cg:Nat) (W:World),S7 W lo hi l' ag->hi<=W.heap.size->c_ 9 #[.agg #[.slice ag l'.length cg],i_ 1] W fun e w'=>e=.returned (i_ mm)/\IY w' lo hi l' ag/\Mk (fun b=>lo<=b/\b<hi) W w'):=fun ag lo hi cg W h hh=>by
  rw[<-Tm];exact Ck cg h hh Te hn'
 have HE:Hid (∀(ag:o_) (lo hi cg:Nat) (W:World),IY W lo hi l' ag->c_ 10 #[.agg #[.slice ag l'.length cg],i_ 1] W fun e w'=>e=.returned (i_ mm)/\b_ W w'):=fun ag lo hi cg W h=>by
  rw[<-Tm];exact C7 cg h Te hn'
 rw[Tm]at Uh;clear Tm Te;go_enter Tryz.func3,Tryz.ntmps3;go_wp2_with fail
 refine(tT a l c S _ (aa FN _ (aa dR _)).1 (aa FN _ (aa dR _)).2).mono ?_;rintro e w1 ⟨rfl,au⟩;rw[B1.out];have yU:b_ w w1:=(aa dR _).trans (au.mono (aa dR _).size);have v1:w1.cell? (a_ w.heap.size 0)=some (.slice a l.length c):=by rw[au.cell (p:=(a_ w.heap.size 0)) (by simp)];simp[go_sem]
 have s1:w.heap.size+1<=w1.heap.size:=by have:=au.size;simpa using this
 have s1':w.heap.size<w1.heap.size:=by omega
 clear au;go_wp2_with fail
 refine(qW w1 _ (aa FN _ yU).1 (aa FN _ yU).2 hl r_).mono ?_;rintro e w2 ⟨a2,c2,rfl,hF2,bo⟩;have BK:b_ w w2:=yU.trans (bo.mono yU.size);have v2:w2.cell? (a_ w.heap.size 0)=some (.slice a l.length c):=(bo.cell (p:=(a_ w.heap.size 0)) s1').trans v1;have s2:=bo.size;clear bo v1;go_wp2_with fail
 refine(aa HSP hl a2 c2 _ w2 hF2 (fun b h=>h.2)).mono ?_;rintro e w3 ⟨aw,cw,rfl,Ts,bY⟩;have s3:=bY.size;have L3:Hid (LT w a l.length c l' aw cw w3.heap.size (w3.alloc (.cells #[.slice aw l'.length cw] 28))):=by
  have h3:b_ w3 (w3.alloc (.cells #[.slice aw l'.length cw] 28)):=r_.alloc n_ _;have ho:b_ w w3:=BK.trans (bY.mono BK.size);refine⟨ho.trans (h3.mono ho.size),(h3.cell (p:=(a_ w.heap.size 0)) (by show w.heap.size<w3.heap.size;omega)).trans ((bY.cell (p:=(a_ w.heap.size 0)) (by show w.heap.size<w2.heap.size;omega)).trans v2),by simp[go_sem],?_,by omega,by simp⟩;refine y7.below ⟨Ts.at_.mono (fun b h=>⟨by have:=h.1;omega,h.2⟩),fun h=>h.elim⟩ n_ h3
 have v3:w3.cell? (a_ w.heap.size 0)=some (.slice a l.length c):=(bY.cell (p:=(a_ w.heap.size 0)) (by show w.heap.size<w2.heap.size;omega)).trans v2;have s3':w.heap.size<w3.heap.size:=by omega
 clear bY v2 hF2 Ts yU BK;go_wp2_with fail
 refine(lm w _ (aa HS) (aa HB) hl L3.out.old).mono ?_;rintro e w4 ⟨a4,c4,rfl,hF4,lx⟩;obtain⟨hi,XQ⟩:∃ hi,w3.heap.size=hi:=⟨_,rfl⟩;have e3:(w3.alloc (.cells #[.slice aw l'.length cw] 28)).heap.size=hi+1:=by rw[<-XQ];simp
 have s4:hi+1<=w4.heap.size:=by rw[<-e3];exact lx.size
 have H4:Hid (LT w a l.length c l' aw cw hi w4):=by rw[<-XQ];exact L3.out.next lx.1
 have Qb:Hid (jp (hi+1) w4):=by rw[<-e3];exact lx.2 (jp.start _)
 have Uk:Hid (ao w4 (jk (hi+1) w4) a4 l):=by rw[<-e3];exact hF4
 clear hF4 lx v3 L3 e3;rw[XQ]at *;clear XQ;go_wp2_with fail
 refine(aa HIM hl a4 c4 _ _ (HGG.out _ ((H4.out).old.alloc (H4.out).old.size _)) (Uk.out.keep (B:=w4.heap.size) (r_.alloc n_ _) (fun b h=>h.2)) (fun b h=>by have:=h.2;simp;omega)).mono ?_;rintro e w5 ⟨ag,cg,rfl,hr5,px⟩;have XL:b_ w4 w5:=(r_.alloc n_ _).trans (px.mono (by simp));have s5:w4.heap.size+1<=w5.heap.size:=by have:=px.size;simpa using this
 have L5:=H4.out.next XL;have x5:w5.cell? (a_ w4.heap.size 0)=some (.slice a4 l.length c4):=by rw[px.cell (p:=(a_ w4.heap.size 0)) (by simp)];simp[go_sem]
 have QC:=af (Uk.out.keep XL (fun b h=>h.2));have R5:Hid (y7 w5 (w4.heap.size+1) w5.heap.size l' True ag):=by
  show y7 _ _ _ _ _ _;simpa using hr5
 have wb5:=L5.wbox;have v5:=L5.box;have H5:=af L5;have s5a:hi<w5.heap.size:=by omega
 have s5b:w.heap.size<w5.heap.size:=by have:=H4.out.lh;omega
 have s5c:w4.heap.size<w5.heap.size:=by omega
 have BG:Hid (∀ o,b_ w5 (w5.alloc o)):=fun o=>r_.alloc n_ o;clear px L5 hr5;go_wp2_with fail
 refine(tU _ _ _ (R5.out.below n_ (BG.out _)) (H5.out.next (BG.out _)).row (by simp) (by simp;omega)).mono ?_;rintro e w6 ⟨rfl,tl⟩;have Hx:b_ w5 w6:=(BG.out _).trans (tl.mono (by simp));have L6:=H5.out.next Hx;have x6:w6.cell? (a_ w4.heap.size 0)=some (.slice a4 l.length c4):=(Hx.cell (p:=(a_ w4.heap.size 0)) s5c).trans x5;have g6:w6.cell? (a_ w5.heap.size 0)=some (.slice ag l'.length cg):=by rw[tl.cell (p:=(a_ w5.heap.size 0)) (by simp)];simp[go_sem]
 have v6:=L6.box;have s6:w5.heap.size+1<=w6.heap.size:=by have:=tl.size;simpa using this
 have R6:=af (R5.out.below n_ Hx);have Le:=af (QC.out.keep (B:=w4.heap.size) (Hx.mono (by omega)) (fun b h=>h.2));have WV:Hid (∀ b,jk (hi+1) w4 b->∀ o,w6.frozen? (a_ b o)=false):=fun b hb o=>by
  rw[Hx.frozen (p:=(a_ b o)) (by have:=hb.2;show b<w5.heap.size;omega),XL.frozen (p:=(a_ b o)) hb.2];exact Qb.out b hb.1 o
 have H6:=af L6;clear x5 tl Hx XL L6 H5 R5 QC Uk wb5 v5 BG H4;have TU:Hid (c_ 6 #[.agg #[.slice a l.length c]] w6.drew fun e w'=>∃ a' c',e=.returned (.agg #[.slice a' l.length c'])/\ao w' (jk w6.heap.size w') a' l/\Below w6.heap.size w6.drew w'):=qW w w6.drew (aa HS) (aa HB) hl H6.out.old.drew;have EU:Hid (∀(w7:World) (a7:o_) (c7:Nat),ao w7 (jk w6.heap.size w7) a7 l->Below w6.heap.size w6.drew w7->c_ 8 #[.agg #[.slice a4 l.length c4],.agg #[.slice a7 l.length c7]] w7 fun e w'=>e=.returned (.bool true)/\b_ w7 w'):=fun w7 a7 c7 h7 kw=>
  wQ (S:=fun b=>b<w7.heap.size) w7 ((Le.out.keep (B:=w6.heap.size) (w':=w7) ⟨kw.os,kw.tape,kw.output,kw.size,kw.block⟩ (fun b h=>by have:=h.2;omega)).mono (fun b h=>by have:=h.2;have:=kw.size;simp at this;omega)) (h7.mono (fun b h=>h.2)) (fun b h=>h)
 have CL:Hid (∀ w7,Below w6.heap.size w6.drew w7->w7.cell? (a_ w.heap.size 0)=some (.slice a l.length c)/\w7.cell? (a_ w4.heap.size 0)=some (.slice a4 l.length c4)):=fun w7 h7=>
  ⟨(h7.cell (p:=(a_ w.heap.size 0)) (by show w.heap.size<w6.heap.size;omega)).trans v6,(h7.cell (p:=(a_ w4.heap.size 0)) (by show w4.heap.size<w6.heap.size;omega)).trans x6⟩
 have s6a:w.heap.size<w6.heap.size:=by omega
 have s6b:w4.heap.size<w6.heap.size:=by omega
 go_wp2_with fail
 go_region_held3 (fun w'=>w'.cell? (a_ w.heap.size 0)=some (.slice a l.length c)/\w'.cell? (a_ w4.heap.size 0)=some (.slice a4 l.length c4)) (simp[go_sem, *])
  (first
   | (go_at_call 6;refine(aa TU).mono ?_;rintro e w7 ⟨a7,c7,rfl,Wq,kw⟩;obtain⟨v7,x7⟩:=aa CL w7 kw)
   | (go_at_call 8;refine(aa EU _ _ _ Wq kw).mono ?_;rintro e w8 ⟨rfl,ze⟩;have v8:=(ze.cell (p:=(a_ w.heap.size 0)) (by have:=kw.size;simp at this ⊢;omega)).trans v7;have x8:=(ze.cell (p:=(a_ w4.heap.size 0)) (by have:=kw.size;simp at this ⊢;omega)).trans x7))
 have EB:b_ w6 w8:=by
  have h1:b_ w6 w6.drew:=r_.drew;exact(h1.trans kw).trans (ze.mono kw.size)
 have L8:=H6.out.next EB;have s8:=EB.size;have Ik:=af (Le.out.keep (B:=w4.heap.size) (EB.mono (by omega)) (fun b h=>h.2));have R8:=af (R6.out.below (by omega) EB);have g8:=(EB.cell (p:=(a_ w5.heap.size 0)) (by show w5.heap.size<w6.heap.size;omega)).trans g6;have SO8:Hid (lP w8 (jk (hi+1) w4)):=fun b hb=>⟨by have:=hb.2;omega,fun o=>by
  rw[EB.frozen (p:=(a_ b o)) (by have:=hb.2;show b<w6.heap.size;omega)];exact WV.out b hb o⟩
 have H8:=af L8;have s8b:w4.heap.size<w8.heap.size:=by omega
 clear L8 EB kw ze Wq v7 x7 TU EU CL R6 Le H6 x6 v6 WV g6;have hmf:Hid (1+(aS aM l:Int)<=1000000000):=by have:=oP l;show _<=_;omega
 have aP:l.length<=aI l:=by unfold aI;omega
 have MU:Hid (c_ 9 #[.agg #[.slice a4 l.length c4],i_ 1] w8 fun e w'=>e=.returned (i_ (1+aS aM l))/\Mk (jk (hi+1) w4) w8 w'):=
  yp a4 l c4 1 _ w8 (Cd Ik.out) SO8.out (by omega) hmf.out (by omega)
 go_wp2_with fail
 refine(aa MU).mono ?_;rintro e w9 ⟨rfl,m9⟩;have L9:=H8.out.marked m9 (fun b hb=>by have:=hb.1;omega);have R9:=af (R8.out.marked (by omega) m9 (fun b h1 h2 h3=>by have:=h3.2;omega));have g9:w9.cell? (a_ w5.heap.size 0)=some (.slice ag l'.length cg):=(World.cell?_of_block (a:=(a_ w5.heap.size 0)) (m9.block _ (by show w5.heap.size<w8.heap.size;omega) (fun h=>by have:w5.heap.size<w4.heap.size:=h.2;omega))).trans g8;have s9:=m9.size;have wb9:=L9.wbox;have H9:=af L9;have sN:¬(1+(aS aM l:Int)<0):=by omega
 have s9a:hi<w9.heap.size:=L9.hh;have s9b:w5.heap.size<w9.heap.size:=by omega
 clear L9 m9 H8 R8 Ik SO8 MU x8 v8 g8;generalize 1+(aS aM l:Int)=kk at *;go_wp2_with fail
 refine(tU _ _ _ R9.out H9.out.row (by omega) (by omega)).mono ?_;rintro e QX ⟨rfl,wl⟩;have H10:=af (H9.out.next wl);have R10:=af (R9.out.below (by omega) wl);have g10:=(wl.cell (p:=(a_ w5.heap.size 0)) s9b).trans g9;have s10:=wl.size;have ZO:w5.heap.size<QX.heap.size:=by omega
 clear wl H9 R9 g9 wb9;go_wp2_with fail
 refine(aa MS ag _ _ cg QX (R10.out.own trivial) (by omega)).mono ?_;rintro e zi ⟨rfl,Vi,Yf⟩;have H11:=af (H10.out.marked Yf (fun b hb=>by have:=hb.1;omega));have Zj:=af Vi;have g11:zi.cell? (a_ w5.heap.size 0)=some (.slice ag l'.length cg):=(World.cell?_of_block (a:=(a_ w5.heap.size 0)) (Yf.block _ ZO (fun h=>by have:w5.heap.size<w5.heap.size:=h.2;omega))).trans g10;have s11:=Yf.size;have aaM:w5.heap.size<zi.heap.size:=by omega
 clear Vi Yf H10 R10 g10;go_wp2_with fail
 refine(aa HE ag _ _ cg zi Zj.out).mono ?_;rintro e zl ⟨rfl,wj⟩;have XS:=af (H11.out.next wj);have R12:=af (Zj.out.below (by omega) wj);have v12:=XS.out.box;have g12:=(wj.cell (p:=(a_ w5.heap.size 0)) aaM).trans g11;have s12:=wj.size;have s12a:w.heap.size<zl.heap.size:=by omega
 have ei:(mm != mm)=false:=by simp
 have kN:¬(mm<0):=by omega
 clear wj H11 Zj g11;go_wp2_with fail
 refine(qW w _ (aa HS) (aa HB) hl XS.out.old).mono ?_;rintro e w13 ⟨a13,c13,rfl,VE,qy⟩;have Zv:=af (XS.out.next qy);have R13:=af (R12.out.below (by omega) qy);have g13:=(qy.cell (p:=(a_ w5.heap.size 0)) (by show w5.heap.size<zl.heap.size;omega)).trans g12;have UI:=af VE;have s13:=qy.size;clear qy VE XS R12 v12 g12;go_wp2_with fail
 refine(aa HIM hl a13 c13 _ _ (HGG.out _ Zv.out.old) UI.out (fun b h=>h.2)).mono ?_;rintro e Rx ⟨ah,ch,rfl,Xu,yO⟩;have Vu:=af (Zv.out.next yO);have R14:=af (R13.out.below (by omega) yO);have g14:=(yO.cell (p:=(a_ w5.heap.size 0)) (by show w5.heap.size<w13.heap.size;omega)).trans g13;have Q14:=af Xu;have s14:=yO.size;have ZC:=Vu.out.wbox;have s14a:hi<Rx.heap.size:=Vu.out.hh;have ab9:w5.heap.size<Rx.heap.size:=by omega
 have Id:Hid (∀ o,b_ Rx (Rx.alloc o)):=fun o=>r_.alloc n_ o;clear yO Xu Zv R13 UI g13;go_wp2_with fail
 refine(tU _ _ _ (Q14.out.below n_ (Id.out _)) (Vu.out.next (Id.out _)).row (by simp) (by simp;omega)).mono ?_;rintro e Ze ⟨rfl,Ez⟩;have vd:b_ Rx Ze:=(Id.out _).trans (Ez.mono (by simp));have H15:=af (Vu.out.next vd);have R15:=af (R14.out.below (by omega) vd);have g15:=(vd.cell (p:=(a_ w5.heap.size 0)) ab9).trans g14;have s15:=vd.size;have s15b:w5.heap.size<Ze.heap.size:=by omega
 clear Ez vd Vu R14 Q14 g14 ZC Id;go_wp2_with fail
 refine(aa HE ag _ _ cg Ze R15.out).mono ?_;rintro e w16 ⟨rfl,Va⟩;have H16:=af (H15.out.next Va);clear Va;go_wp2_with fail
 go_ret;exact⟨rfl,H16.out.old⟩
open Classical in
theorem om (x:ak):∃ y,gY x y:=⟨oD x (fun i=>decide (LH x i)),_,fun i _=>by simp,rfl⟩
open Classical in
theorem z9 (l:List ak):∃ l',iE l l':=by
 by_cases h:dO l 0 0 0
 ·refine⟨l.map (fun x=>Classical.choose (om x)),.inl ⟨h,List.length_map _,fun p hp=>?_⟩⟩;have e:am (l.map (fun x=>Classical.choose (om x))) p=Classical.choose (om (am l p)):=by
   unfold am;rw[List.getElem?_map,g_ hp];rfl
  rw[e];exact Classical.choose_spec (om (am l p))
 ·exact⟨[],.inr ⟨h,rfl⟩⟩
theorem nz {l l':List ak}(h:iE l l')(hl:aI l<=1048576):1+(aS aM l':Int)<=1000000000/\l'.length<=1000000000:=by
 have py:l.length<=1048576:=by unfold aI at hl;omega
 have hm:=oP l;rcases h with⟨_,e,h⟩ | ⟨_,rfl⟩
 ·have key:∀ k,k<=l.length->bw aM l' k<=bw aM l k:=fun k=>by
   induction k with
   | zero=>intro _;rw[fi,fi];exact n_
   | succ k ih=>
    intro hk;have h1:=dJ aM l k ak.z (by omega);have h2:=dJ aM l' k ak.z (by omega);have ht:=h k (by omega);have hf:=kg ht;have hk':=kA ht;have h3:aM (am l' k)<=aM (am l k):=by
     unfold aM;rw[hk'.ups,hk'.consts,hf.2];omega
    have h4:=ih (by omega);have e1:l[k]?.getD ak.z=am l k:=rfl;have e2:l'[k]?.getD ak.z=am l' k:=rfl;rw[h1,h2,e1,e2];omega
  have h1:=key l.length n_;rw[fI]at h1;rw[<-e,fI]at h1;refine⟨?_,by omega⟩;omega
 ·exact⟨by simp[aS],by simp⟩
theorem Hi {l l':List ak}(h:iE l l')(hl:aI l<=1048576):AZ l l':=fun a c S w hs hB=>by
 refine(vx a l c S w hs hB hl).mono ?_;rintro e w' ⟨a',c',l2,rfl,h2,hp,hb⟩;obtain rfl:=sJ h h2;exact⟨a',c',rfl,⟨hp,fun h=>h.elim⟩,hb⟩
def Au:Prop:=∀ l l':List ak,iE l l'->aI l<=1048576->AC gh l l'
theorem A6 (him:Au)(a:o_)(l:List ak)(c:Nat)(S:Nat->Prop)(w:World)(g0:gh w)(hs:ao w S a l)(hB:∀ b,S b->b<w.heap.size) :
  c_ 3 #[.agg #[.slice a l.length c]] w fun e w'=>e=.returned (.bool true)/\b_ w w':=by
 obtain⟨l',Pv⟩:=z9 l;by_cases q:aI l<=1048576
 ·exact zO gh (fun w W g hW=>g.keep hW g.pos) a l c l' (nz Pv q).1 (nz Pv q).2 (fun h=>Hi Pv h) (fun h=>him l l' Pv h) S w g0 hs hB
 ·exact zO gh (fun w W g hW=>g.keep hW g.pos) a l c [] (by simp[aS]) (by simp) (fun h=>absurd h q) (fun h=>absurd h q) S w g0 hs hB
end Go.Proofs.YtcjfjflljdojlaaGreatDoor
