import Derived.Test.YtmjcpapdncfkpaaGreatDoorPart10
import Derived.Deep.LoopGhost
set_option linter.unusedSimpArgs false
set_option linter.unusedVariables false
set_option maxHeartbeats 16000000
set_option maxRecDepth 100000
namespace Go.Proofs.YtmjcpapdncfkpaaGreatDoor
open Go.RowKit
attribute [local go_sem] run_store_float
def insLen (x:ProtoD):Nat:=x.ins.length
def sizeBadC (l:List ProtoD):Prop:=l.length=0∨200<l.length∨6000<sumAll insLen l
def FirstC (l:List ProtoD)(len:Nat→Nat)(bad:Nat→Nat→Bool)(f p:Nat):Prop:=
 f<l.length∧p<len f∧bad f p=true∧∀ f' p',f'<l.length→p'<len f'→(f'<f∨f'=f∧p'<p)→bad f' p'=false
def NoC (l:List ProtoD)(len:Nat→Nat)(bad:Nat→Nat→Bool):Prop:=∀ f p,f<l.length→p<len f→bad f p=false
def len3 (l:List ProtoD)(f:Nat):Nat:=(prD l f).consts.length
def len4 (l:List ProtoD)(f:Nat):Nat:=(prD l f).named.length
def len5 (l:List ProtoD)(f:Nat):Nat:=if(prD l f).ins.length=0 then 1 else(prD l f).ins.length
def bad3 (l:List ProtoD)(f i:Nat):Bool:=!sConst ((prD l f).consts[i]?.getD ValD.z)
def bad4 (l:List ProtoD)(f i:Nat):Bool:=!sNamed (prD l f).regs (prD l f).ins.length ((prD l f).named[i]?.getD NamD.z) i
def bad5 (l:List ProtoD)(f i:Nat):Bool:=if(prD l f).ins.length=0 then true else !sInsOk (prD l f) l.length i
def HeadsC (l:List ProtoD):Prop:=∀ g,g<l.length→sHeadC (prD l g) g=true
def PartsSaid (l:List ProtoD)(c f n:Int):Prop:=
 (sizeBadC l∧c=1∧f=0∧n=0) ∨
 (¬sizeBadC l∧c=2∧n=0∧∃ F:Nat,f=F∧F<l.length∧sHeadC (prD l F) F=false∧∀ g,g<F→sHeadC (prD l g) g=true) ∨
 (¬sizeBadC l∧HeadsC l∧c=3∧∃ F P:Nat,f=F∧n=P∧FirstC l (len3 l) (bad3 l) F P) ∨
 (¬sizeBadC l∧HeadsC l∧NoC l (len3 l) (bad3 l)∧c=4∧∃ F P:Nat,f=F∧n=P∧FirstC l (len4 l) (bad4 l) F P) ∨
 (¬sizeBadC l∧HeadsC l∧NoC l (len3 l) (bad3 l)∧NoC l (len4 l) (bad4 l)∧c=5∧∃ F P:Nat,f=F∧n=P∧FirstC l (len5 l) (bad5 l) F P) ∨
 (¬sizeBadC l∧HeadsC l∧NoC l (len3 l) (bad3 l)∧NoC l (len4 l) (bad4 l)∧NoC l (len5 l) (bad5 l)∧c=0∧f=0∧n=0)
theorem head_regs {n:ProtoD}{p:Nat}(h:sHeadC n p=true):0≤n.regs∧n.regs≤250:=by
 unfold sHeadC at h
 simp only[Bool.and_eq_true]at h
 exact sIn_true h.1.1.1.1.2
theorem rows_next {l:List ProtoD}{len:Nat→Nat}{bad:Nat→Nat→Bool}{f:Nat}(h:∀ f' p',f'<f→p'<len f'→bad f' p'=false)(h2:∀ p,p<len f→bad f p=false):∀ f' p',f'<f+1→p'<len f'→bad f' p'=false:=fun f' p' h1 h3=>by
 by_cases e:f'=f
 ·subst e;exact h2 p' h3
 ·exact h f' p' (by omega) h3
theorem rows_first {l:List ProtoD}{len:Nat→Nat}{bad:Nat→Nat→Bool}{f p:Nat}(hf:f<l.length)(hp:p<len f)(hb:bad f p=true)(h:∀ f' p',f'<f→p'<len f'→bad f' p'=false)(h2:∀ q,q<p→bad f q=false):FirstC l len bad f p:=
 ⟨hf,hp,hb,fun f' p' _ g2 g3=>by
  rcases g3 with g3 | ⟨rfl,g3⟩
  ·exact h f' p' g3 g2
  ·exact h2 p' g3⟩
theorem upto_next {q:Nat→Bool}{k:Nat}(h:∀ j,j<k→q j=false)(hk:q k=false):∀ j,j<k+1→q j=false:=fun j hj=>by
 by_cases e:j=k
 ·subst e;exact hk
 ·exact h j (by omega)
def box2 (w:World)(a:Option Addr)(n c:Nat):World:=(w.alloc (.cells #[.slice a n c] 31)).alloc (.cells #[.int .i64 0,.int .i64 0,.int .i64 0] 27)
theorem box2_below (w:World)(a:Option Addr)(n c:Nat):Below w.heap.size w (box2 w a n c):=((Below.refl _ _).alloc (Nat.le_refl _) _).alloc (by simp) _
theorem box2_size (w:World)(a:Option Addr)(n c:Nat):(box2 w a n c).heap.size=w.heap.size+2:=by simp[box2]
structure Box2 (w:World)(a:Option Addr)(n c:Nat)(wr:World):Prop where
 below:Below (w.heap.size+2) (box2 w a n c) wr
theorem Box2.start (w:World)(a:Option Addr)(n c:Nat):Box2 w a n c (box2 w a n c):=⟨Below.refl _ _⟩
theorem Box2.old {w:World}{a:Option Addr}{n c:Nat}{wr:World}(h:Box2 w a n c wr):Below w.heap.size w wr:=(box2_below w a n c).trans (h.below.mono (by omega))
theorem Box2.size {w:World}{a:Option Addr}{n c:Nat}{wr:World}(h:Box2 w a n c wr):w.heap.size+2≤wr.heap.size:=by have:=h.below.size;rw[box2_size]at this;exact this
theorem Box2.below' {w:World}{a:Option Addr}{n c:Nat}{wr w2:World}(h:Box2 w a n c wr)(hb:Below wr.heap.size wr w2):Box2 w a n c w2:=⟨h.below.trans (hb.mono h.size)⟩
theorem Box2.alloc {w:World}{a:Option Addr}{n c:Nat}{wr:World}(h:Box2 w a n c wr)(o:Obj):Box2 w a n c (wr.alloc o):=⟨h.below.alloc h.size o⟩
theorem Box2.drew {w:World}{a:Option Addr}{n c:Nat}{wr:World}(h:Box2 w a n c wr):Box2 w a n c wr.drew:=⟨h.below.drew⟩
theorem Box2.unit {w:World}{a:Option Addr}{n c:Nat}{wr:World}(h:Box2 w a n c wr):wr.cell? ⟨w.heap.size,0,none⟩=some (.slice a n c):=by
 rw[h.below.cell (p:=⟨w.heap.size,0,none⟩) (by simp)];simp[box2,go_sem]
theorem Box2.res {w:World}{a:Option Addr}{n c:Nat}{wr:World}(h:Box2 w a n c wr)(j:Nat)(hj:j<3):wr.cell? ⟨w.heap.size+1,j,none⟩=some (.int .i64 0):=by
 rw[h.below.cell (p:=⟨w.heap.size+1,j,none⟩) (by simp)]
 have:j=0∨j=1∨j=2:=by omega
 rcases this with rfl | rfl | rfl<;>simp[box2,go_sem]
theorem Box2.frozen {w:World}{a:Option Addr}{n c:Nat}{wr:World}(h:Box2 w a n c wr)(j:Nat):wr.frozen? ⟨w.heap.size+1,j,none⟩=false:=by
 rw[h.below.frozen (p:=⟨w.heap.size+1,j,none⟩) (by simp)];simp[box2,go_sem]
theorem box2_set3 {w:World}{a:Option Addr}{n c:Nat}{wr:World}(h:Box2 w a n c wr)(v0 v1 v2:Value):Below w.heap.size w (((wr.setCell ⟨w.heap.size+1,0,none⟩ v0).setCell ⟨w.heap.size+1,1,none⟩ v1).setCell ⟨w.heap.size+1,2,none⟩ v2):=
 ((h.old.setCell (Nat.le_succ _) _).setCell (Nat.le_succ _) _).setCell (Nat.le_succ _) _
theorem l6parts_any (a:Option Addr)(l:List ProtoD)(c:Nat)(S:Nat→Prop)(w:World)(hs:ProtosAt w S a l)(hB:∀ b,S b→b<w.heap.size)(hl:tProtos l≤1048576) :
  Calls Tryz.prog 19 #[.agg #[.slice a l.length c]] w fun e w'=>∃ x f n,e=.returned (.agg #[.int .i64 x,.int .i64 f,.int .i64 n])∧PartsSaid l x f n∧Below w.heap.size w w':=by
 have hn:=hs.1
 have hll:l.length≤1048576:=by unfold tProtos at hl;omega
 have HT:Hid (∀ k,sumTo insLen l k≤1048576):=fun k=>by
  have h1:=sumTo_le insLen l k
  have h2:sumAll insLen l≤sumAll tProto l:=by
   clear h1 hl hs hn hll
   unfold sumAll
   induction l with
   | nil=>simp
   | cons x r ih=>
    simp only[List.map_cons,List.sum_cons]
    have:insLen x≤tProto x:=by unfold insLen tProto;omega
    omega
  unfold tProtos at hl;omega
 clear hl
 have HS:=hide hs
 have HB:=hide hB
 have X0:Hid (Box2 w a l.length c (box2 w a l.length c)):=Box2.start w a l.length c
 clear hs hB
 go_enter Tryz.func19,Tryz.ntmps19
 go_wp2_with fail
 go_loopg [3,20] l.length (fun g t i wr=>∃(k:Nat),k+g=l.length∧i=.int .i64 k∧t=.int .i64 (sumTo insLen l k:Nat)∧Box2 w a l.length c wr)
 case atStart=>exact⟨0,by omega,rfl,by rw[sumTo_zero];rfl,X0.out⟩
 case round=>
  clear X0
  obtain⟨k,hk,rfl,rfl,hx⟩:=hrel
  have u0:=hx.unit
  by_cases hlt:k<l.length
  ·obtain⟨b,off,rfl,hb,hcc⟩:=((unhide HS).keep hx.old (unhide HB)).2 (by omega)
   have N:ProtoCells wr S b (off+k * 9) (prD l k):=hcc k hlt
   have HSU:Hid (sumTo insLen l (k+1)=sumTo insLen l k+(prD l k).ins.length):=sumTo_succ insLen l k ProtoD.z hlt
   have t1:=unhide HT k;have t2:=unhide HT (k+1)
   have hadd:sumTo insLen l k+(prD l k).ins.length≤1048576:=by have:=HSU.out;omega
   clear hcc
   generalize prD l k=x at *
   obtain⟨a5,c5,h5,H5⟩:=N.ups
   obtain⟨a6,c6,h6,H6⟩:=N.consts
   obtain⟨a7,c7,h7,H7⟩:=N.ins
   obtain⟨a8,c8,h8,H8⟩:=N.named
   have c0:=N.name;have c1:=N.line;have c2:=N.params;have c3:=N.rest;have c4:=N.regs
   clear N H5 H6 H7 H8
   generalize sumTo insLen l k=T at *
   go_wp2_with fail
   go_roundg (l.length-(k+1))
   case measure=>omega
   case rel=>
    have h1:=unhide HSU
    exact⟨k+1,by omega,by go_num,by rw[h1];go_num,hx.alloc _⟩
  ·have HK:Hid (k=l.length):=by show _=_;omega
   have hkl:=HK.out
   subst hkl
   rw[sumTo_len]at *
   clear HK hk hlt
   by_cases hbad:sizeBadC l
   ·have HBAD:=hide hbad
    by_cases b1:l.length=0
    ·have e1:((l.length:Int)==0)=true:=by simp[b1]
     clear b1 hbad
     go_wp2_with fail
     refine(l6fault_any _ _ _ _).mono ?_
     rintro e w2 ⟨rfl,hb2⟩
     have hx2:=hx.below' hb2
     have r0:=hx2.res 0 (by omega);have r1:=hx2.res 1 (by omega);have r2:=hx2.res 2 (by omega)
     have z0:=hx2.frozen 0;have z1:=hx2.frozen 1;have z2:=hx2.frozen 2
     have BB:Hid (∀ v0 v1 v2,Below w.heap.size w (((w2.setCell ⟨w.heap.size+1,0,none⟩ v0).setCell ⟨w.heap.size+1,1,none⟩ v1).setCell ⟨w.heap.size+1,2,none⟩ v2)):=fun v0 v1 v2=>box2_set3 hx2 v0 v1 v2
     go_wp2_with fail
     refine bodyPost_ret (v:=.agg #[.int .i64 1,.int .i64 0,.int .i64 0]) (by simp[results,Tryz.results19,go_sem,r0,r1,r2]) rfl ⟨1,0,0,rfl,?_,BB.out _ _ _⟩
     exact .inl ⟨unhide HBAD,rfl,rfl,rfl⟩
    by_cases b2:200<l.length
    ·have e1:((l.length:Int)==0)=false:=beq_eq_false_iff_ne.2 (by omega)
     have e2:decide ((200:Int)<l.length)=true:=decide_eq_true (by omega)
     clear b1 hbad
     go_wp2_with fail
     refine(l6fault_any _ _ _ _).mono ?_
     rintro e w2 ⟨rfl,hb2⟩
     have hx2:=hx.below' hb2
     have r0:=hx2.res 0 (by omega);have r1:=hx2.res 1 (by omega);have r2:=hx2.res 2 (by omega)
     have z0:=hx2.frozen 0;have z1:=hx2.frozen 1;have z2:=hx2.frozen 2
     have BB:Hid (∀ v0 v1 v2,Below w.heap.size w (((w2.setCell ⟨w.heap.size+1,0,none⟩ v0).setCell ⟨w.heap.size+1,1,none⟩ v1).setCell ⟨w.heap.size+1,2,none⟩ v2)):=fun v0 v1 v2=>box2_set3 hx2 v0 v1 v2
     go_wp2_with fail
     refine bodyPost_ret (v:=.agg #[.int .i64 1,.int .i64 0,.int .i64 0]) (by simp[results,Tryz.results19,go_sem,r0,r1,r2]) rfl ⟨1,0,0,rfl,?_,BB.out _ _ _⟩
     exact .inl ⟨unhide HBAD,rfl,rfl,rfl⟩
    have b3:6000<sumAll insLen l:=by rcases hbad with h | h | h<;>first | omega | exact absurd h b1
    have e1:((l.length:Int)==0)=false:=beq_eq_false_iff_ne.2 (by omega)
    have e2:decide ((200:Int)<l.length)=false:=decide_eq_false (by omega)
    have e3:decide ((6000:Int)<(sumAll insLen l:Nat))=true:=decide_eq_true (by omega)
    clear b1 b2 hbad
    generalize sumAll insLen l=T at *
    go_wp2_with fail
    refine(l6fault_any _ _ _ _).mono ?_
    rintro e w2 ⟨rfl,hb2⟩
    have hx2:=hx.below' hb2
    have r0:=hx2.res 0 (by omega);have r1:=hx2.res 1 (by omega);have r2:=hx2.res 2 (by omega)
    have z0:=hx2.frozen 0;have z1:=hx2.frozen 1;have z2:=hx2.frozen 2
    have BB:Hid (∀ v0 v1 v2,Below w.heap.size w (((w2.setCell ⟨w.heap.size+1,0,none⟩ v0).setCell ⟨w.heap.size+1,1,none⟩ v1).setCell ⟨w.heap.size+1,2,none⟩ v2)):=fun v0 v1 v2=>box2_set3 hx2 v0 v1 v2
    go_wp2_with fail
    refine bodyPost_ret (v:=.agg #[.int .i64 1,.int .i64 0,.int .i64 0]) (by simp[results,Tryz.results19,go_sem,r0,r1,r2]) rfl ⟨1,0,0,rfl,?_,BB.out _ _ _⟩
    exact .inl ⟨unhide HBAD,rfl,rfl,rfl⟩
   have HG:=hide hbad
   have g1:l.length≠0:=fun h=>hbad (.inl h)
   have g2:¬200<l.length:=fun h=>hbad (.inr (.inl h))
   have g3:¬6000<sumAll insLen l:=fun h=>hbad (.inr (.inr h))
   have e1:((l.length:Int)==0)=false:=beq_eq_false_iff_ne.2 (by omega)
   have e2:decide ((200:Int)<l.length)=false:=decide_eq_false (by omega)
   have e3:decide ((6000:Int)<(sumAll insLen l:Nat))=false:=decide_eq_false (by omega)
   clear hbad g1 g3
   generalize sumAll insLen l=T at *
   go_wp2_with fail
   clear e1 e2 e3
   have HX:=hide hx
   clear hx u0
   go_loopg [48] l.length (fun g i wr=>∃(k:Nat),k+g=l.length∧i=.int .i64 k∧Box2 w a l.length c wr∧Hid (∀ j,j<k→sHeadC (prD l j) j=true))
   case atStart=>exact⟨0,by omega,rfl,unhide HX,fun j h=>absurd h (Nat.not_lt_zero _)⟩
   case round=>
    clear HX
    obtain⟨k,hk,rfl,hx,hok⟩:=hrel
    have u0:=hx.unit
    by_cases hlt:k<l.length
    ·have HC:=hide (l6headOk_any a l c k S wr ((unhide HS).keep hx.old (unhide HB)) (fun b h=>Nat.lt_of_lt_of_le (unhide HB b h) hx.old.size) hlt)
     cases hq:sHeadC (prD l k) k
     ·rw[hq]at HC
      have HQ:=hide hq
      clear hq
      go_wp2_with fail
      refine(unhide HC).mono ?_
      rintro e w3 ⟨rfl,hb3⟩
      have hx3:=hx.below' hb3
      clear hb3
      go_wp2_with fail
      refine(l6fault_any _ _ _ _).mono ?_
      rintro e w2 ⟨rfl,hb2⟩
      have hx2:=hx3.below' hb2
      have r0:=hx2.res 0 (by omega);have r1:=hx2.res 1 (by omega);have r2:=hx2.res 2 (by omega)
      have z0:=hx2.frozen 0;have z1:=hx2.frozen 1;have z2:=hx2.frozen 2
      have BB:Hid (∀ v0 v1 v2,Below w.heap.size w (((w2.setCell ⟨w.heap.size+1,0,none⟩ v0).setCell ⟨w.heap.size+1,1,none⟩ v1).setCell ⟨w.heap.size+1,2,none⟩ v2)):=fun v0 v1 v2=>box2_set3 hx2 v0 v1 v2
      go_wp2_with fail
      refine bodyPost_ret (v:=.agg #[.int .i64 2,.int .i64 k,.int .i64 0]) (by simp[results,Tryz.results19,go_sem,r0,r1,r2]) rfl ⟨2,k,0,rfl,?_,BB.out _ _ _⟩
      exact .inr (.inl ⟨unhide HG,rfl,rfl,k,rfl,hlt,unhide HQ,hok.out⟩)
     ·rw[hq]at HC
      have HQ:=hide hq
      clear hq
      go_wp2_with fail
      refine(unhide HC).mono ?_
      rintro e w3 ⟨rfl,hb3⟩
      have hx3:=hx.below' hb3
      clear hb3
      go_wp2_with fail
      go_roundg (l.length-(k+1))
      case measure=>omega
      case rel=>
       refine⟨k+1,by omega,by go_num,hx3,fun j hj=>?_⟩
       by_cases e:j=k
       ·subst e;exact unhide HQ
       ·exact hok.out j (by omega)
    ·have HEADS:Hid (HeadsC l):=fun g hg=>hok.out g (by omega)
     have HX:=hide hx
     clear hx hok
     go_wp2_with fail
     clear u0 hk hlt
     go_loopg [61] l.length (fun g i wr=>∃(k:Nat),k+g=l.length∧i=.int .i64 k∧Box2 w a l.length c wr∧Hid (∀ f' p',f'<k→p'<len3 l f'→bad3 l f' p'=false))
     case atStart=>exact⟨0,by omega,rfl,unhide HX,fun _ _ h=>absurd h (Nat.not_lt_zero _)⟩
     case round=>
      clear HX
      obtain⟨f,hk,rfl,hx,hgood⟩:=hrel
      have u0:=hx.unit
      by_cases hlt:f<l.length
      ·obtain⟨b,off,rfl,hb,hcc⟩:=((unhide HS).keep hx.old (unhide HB)).2 (by omega)
       have N:ProtoCells wr S b (off+f * 9) (prD l f):=hcc f hlt
       have HBr:Hid (∀ b,S b→b<wr.heap.size):=fun b h=>Nat.lt_of_lt_of_le (unhide HB b h) hx.old.size
       clear hcc
       have BAD:Hid (∀ q,bad3 l f q=!sConst ((prD l f).consts[q]?.getD ValD.z)):=fun _=>rfl
       have LEN:Hid (len3 l f=(prD l f).consts.length):=rfl
       obtain⟨x,hxe⟩:∃ x,x=prD l f:=⟨_,rfl⟩
       rw[←hxe]at N BAD LEN
       clear hxe
       obtain⟨a5,c5,h5,H5⟩:=N.ups
       obtain⟨a6,c6,h6,H6⟩:=N.consts
       obtain⟨a7,c7,h7,H7⟩:=N.ins
       obtain⟨a8,c8,h8,H8⟩:=N.named
       have c0:=N.name;have c1:=N.line;have c2:=N.params;have c3:=N.rest;have c4:=N.regs
       have VV:=hide H6
       have hvl:=H6.1
       clear N H5 H6 H7 H8
       obtain⟨nm,ln,pr,rs,rg,us,cs,is,ns⟩:=x
       simp only at *
       obtain⟨wo,rfl⟩:∃ wo,wo=wr:=⟨wr,rfl⟩
       have HX:=hide hx
       clear hx
       go_wp2_with fail
       clear h5 h6 h7 h8 c0 c1 c2 c3 c4 u0
       go_loopg [69] cs.length (fun g i wr=>∃(k:Nat),k+g=cs.length∧i=.int .i64 k∧Below wo.heap.size wo wr∧Hid (∀ q,q<k→bad3 l f q=false))
       case atStart=>exact⟨0,by omega,rfl,(Below.refl _ _).alloc (Nat.le_refl _) _,fun _ h=>absurd h (Nat.not_lt_zero _)⟩
       case round=>
        obtain⟨q,hq,rfl,hbo,hok⟩:=hrel
        by_cases hql:q<cs.length
        ·obtain⟨bv,offv,rfl,hbv,hcv⟩:=((unhide VV).keep hbo (unhide HBr)).2 (by omega)
         have M:=hcv q hql
         clear hcv
         have BQ:=unhide BAD q
         obtain⟨y,hye⟩:∃ y,y=cs[q]?.getD ValD.z:=⟨_,rfl⟩
         rw[←hye]at M BQ
         have HBQ:=hide BQ
         clear hye BQ
         have d0:=M.kind;have d1:=M.num;have d2:=M.flt;have d3:=M.str;have d4:=M.ref
         have CO:Hid (∀ W:World,Calls Tryz.prog 51 #[.agg #[.int .i64 y.kind,.int .i64 y.num,.float .f64 y.flt,.string y.str,.int .i64 y.ref]] W fun e w'=>e=.returned (.bool (sConst y))∧Below W.heap.size W w'):=fun W=>l6constOk_any y W M.strs
         have hsl:=M.strs
         clear M
         have HBO:=hide hbo
         have hbs:=hbo.size
         generalize sConst y=res at *
         obtain⟨ykind,ynum,yflt,ystr,yref⟩:=y
         simp only at *
         clear hbo
         cases res
         ·have FI:Hid (FirstC l (len3 l) (bad3 l) f q):=rows_first hlt (by rw[LEN.out];exact hql) (unhide HBQ) hgood.out hok.out
          go_wp2_with fail
          refine(unhide CO _).mono ?_
          rintro e w3 ⟨rfl,hb3⟩
          have hx3:=(unhide HX).below' (((unhide HBO).alloc hbs _).trans (hb3.mono (by simp;omega)))
          clear hb3
          go_wp2_with fail
          refine(l6fault_any _ _ _ _).mono ?_
          rintro e w2 ⟨rfl,hb2⟩
          have hx2:=hx3.below' hb2
          have r0:=hx2.res 0 (by omega);have r1:=hx2.res 1 (by omega);have r2:=hx2.res 2 (by omega)
          have z0:=hx2.frozen 0;have z1:=hx2.frozen 1;have z2:=hx2.frozen 2
          have BB:Hid (∀ v0 v1 v2,Below w.heap.size w (((w2.setCell ⟨w.heap.size+1,0,none⟩ v0).setCell ⟨w.heap.size+1,1,none⟩ v1).setCell ⟨w.heap.size+1,2,none⟩ v2)):=fun v0 v1 v2=>box2_set3 hx2 v0 v1 v2
          go_wp2_with fail
          refine bodyPost_ret (v:=.agg #[.int .i64 3,.int .i64 f,.int .i64 q]) (by simp[results,Tryz.results19,go_sem,r0,r1,r2]) rfl ⟨3,f,q,rfl,?_,BB.out _ _ _⟩
          exact .inr (.inr (.inl ⟨unhide HG,unhide HEADS,rfl,f,q,rfl,rfl,unhide FI⟩))
         ·have NX:Hid (∀ j,j<q+1→bad3 l f j=false):=upto_next hok.out (unhide HBQ)
          go_wp2_with fail
          refine(unhide CO _).mono ?_
          rintro e w3 ⟨rfl,hb3⟩
          have HB3:=hide (((unhide HBO).alloc hbs _).trans (hb3.mono (by simp;omega)))
          clear hb3
          go_wp2_with fail
          go_roundg (cs.length-(q+1))
          case measure=>omega
          case rel=>exact⟨q+1,by omega,by go_num,unhide HB3,NX⟩
        ·have NXF:Hid (∀ f' p',f'<f+1→p'<len3 l f'→bad3 l f' p'=false):=rows_next (l:=l) hgood.out (fun p hp=>hok.out p (by rw[LEN.out]at hp;have hp:p<cs.length:=hp;omega))
         have HX2:=hide ((unhide HX).below' hbo)
         clear hbo
         go_wp2_with fail
         go_roundg (l.length-(f+1))
         case measure=>omega
         case rel=>exact⟨f+1,by omega,by go_num,unhide HX2,NXF⟩
      ·have NO3:Hid (NoC l (len3 l) (bad3 l)):=fun f' p' h1 h2=>hgood.out f' p' (by omega) h2
       have HX:=hide hx
       clear hx hgood
       go_wp2_with fail
       clear u0 hk hlt
       go_loopg [85] l.length (fun g i wr=>∃(k:Nat),k+g=l.length∧i=.int .i64 k∧Box2 w a l.length c wr∧Hid (∀ f' p',f'<k→p'<len4 l f'→bad4 l f' p'=false))
       case atStart=>exact⟨0,by omega,rfl,unhide HX,fun _ _ h=>absurd h (Nat.not_lt_zero _)⟩
       case round=>
        clear HX
        obtain⟨f,hk,rfl,hx,hgood⟩:=hrel
        have u0:=hx.unit
        by_cases hlt:f<l.length
        ·obtain⟨b,off,rfl,hb,hcc⟩:=((unhide HS).keep hx.old (unhide HB)).2 (by omega)
         have N:ProtoCells wr S b (off+f * 9) (prD l f):=hcc f hlt
         have HBr:Hid (∀ b,S b→b<wr.heap.size):=fun b h=>Nat.lt_of_lt_of_le (unhide HB b h) hx.old.size
         have HRG:=hide (head_regs (unhide HEADS f hlt))
         clear hcc
         have BAD:Hid (∀ q,bad4 l f q=!sNamed (prD l f).regs (prD l f).ins.length ((prD l f).named[q]?.getD NamD.z) q):=fun _=>rfl
         have LEN:Hid (len4 l f=(prD l f).named.length):=rfl
         obtain⟨x,hxe⟩:∃ x,x=prD l f:=⟨_,rfl⟩
         rw[←hxe]at N BAD LEN HRG
         clear hxe
         obtain⟨a5,c5,h5,H5⟩:=N.ups
         obtain⟨a6,c6,h6,H6⟩:=N.consts
         obtain⟨a7,c7,h7,H7⟩:=N.ins
         obtain⟨a8,c8,h8,H8⟩:=N.named
         have c0:=N.name;have c1:=N.line;have c2:=N.params;have c3:=N.rest;have c4:=N.regs
         have VV:=hide H8
         have hvl:=H8.1
         have HIL:=hide H7.1
         clear N H5 H6 H7 H8
         obtain⟨nm,ln,pr,rs,rg,us,cs,is,ns⟩:=x
         simp only at *
         obtain⟨wo,rfl⟩:∃ wo,wo=wr:=⟨wr,rfl⟩
         have P0:Hid (∀ W,Below (wo.heap.size+1) (wo.alloc (.cells #[.string nm,.int .i64 ln,.int .i64 pr,.bool rs,.int .i64 rg,.slice a5 us.length c5,.slice a6 cs.length c6,.slice a7 is.length c7,.slice a8 ns.length c8] 58)) W→(W.cell? ⟨wo.heap.size,0,none⟩=some (.string nm)∧W.cell? ⟨wo.heap.size,1,none⟩=some (.int .i64 ln)∧W.cell? ⟨wo.heap.size,2,none⟩=some (.int .i64 pr)∧W.cell? ⟨wo.heap.size,3,none⟩=some (.bool rs)∧W.cell? ⟨wo.heap.size,4,none⟩=some (.int .i64 rg)∧W.cell? ⟨wo.heap.size,5,none⟩=some (.slice a5 us.length c5)∧W.cell? ⟨wo.heap.size,6,none⟩=some (.slice a6 cs.length c6)∧W.cell? ⟨wo.heap.size,7,none⟩=some (.slice a7 is.length c7)∧W.cell? ⟨wo.heap.size,8,none⟩=some (.slice a8 ns.length c8))∧Below wo.heap.size wo W):=fun W hW=>
          ⟨⟨by rw[hW.cell (p:=⟨wo.heap.size,0,none⟩) (by simp)];simp[go_sem],by rw[hW.cell (p:=⟨wo.heap.size,1,none⟩) (by simp)];simp[go_sem],by rw[hW.cell (p:=⟨wo.heap.size,2,none⟩) (by simp)];simp[go_sem],by rw[hW.cell (p:=⟨wo.heap.size,3,none⟩) (by simp)];simp[go_sem],by rw[hW.cell (p:=⟨wo.heap.size,4,none⟩) (by simp)];simp[go_sem],by rw[hW.cell (p:=⟨wo.heap.size,5,none⟩) (by simp)];simp[go_sem],by rw[hW.cell (p:=⟨wo.heap.size,6,none⟩) (by simp)];simp[go_sem],by rw[hW.cell (p:=⟨wo.heap.size,7,none⟩) (by simp)];simp[go_sem],by rw[hW.cell (p:=⟨wo.heap.size,8,none⟩) (by simp)];simp[go_sem]⟩,((Below.refl _ _).alloc (Nat.le_refl _) _).trans (hW.mono (by omega))⟩
         have HX:=hide hx
         clear hx
         go_wp2_with fail
         clear h5 h6 h7 h8 c0 c1 c2 c3 c4 u0
         go_loopg [93] ns.length (fun g i wr=>∃(k:Nat),k+g=ns.length∧i=.int .i64 k∧Below (wo.heap.size+1) (wo.alloc (.cells #[.string nm,.int .i64 ln,.int .i64 pr,.bool rs,.int .i64 rg,.slice a5 us.length c5,.slice a6 cs.length c6,.slice a7 is.length c7,.slice a8 ns.length c8] 58)) wr∧Hid (∀ q,q<k→bad4 l f q=false))
         case atStart=>exact⟨0,by omega,rfl,Below.refl _ _,fun _ h=>absurd h (Nat.not_lt_zero _)⟩
         case round=>
          obtain⟨q,hq,rfl,hW,hok⟩:=hrel
          obtain⟨⟨b0,b1,b2,b3,b4,b5,b6,b7,b8⟩,hbo⟩:=unhide P0 wr hW
          by_cases hql:q<ns.length
          ·have HBQ:=hide (unhide BAD q)
           have CO:=hide (l6namedOk_any nm ln pr rs rg us cs is ns a5 a6 a7 a8 c5 c6 c7 c8 q S wr ((unhide VV).keep hbo (unhide HBr)) (fun b h=>Nat.lt_of_lt_of_le (unhide HBr b h) hbo.size) hql (unhide HRG) (unhide HIL))
           have HBO:=hide hbo
           have HWW:=hide hW
           have hws:=hW.size
           generalize sNamed rg is.length (ns[q]?.getD NamD.z) q=res at *
           clear hbo hW
           cases res
           ·have FI:Hid (FirstC l (len4 l) (bad4 l) f q):=rows_first hlt (by rw[LEN.out];exact hql) (unhide HBQ) hgood.out hok.out
            go_wp2_with fail
            refine(unhide CO).mono ?_
            rintro e w3 ⟨rfl,hb3⟩
            have hx3:=(unhide HX).below' ((unhide HBO).trans (hb3.mono (unhide HBO).size))
            clear hb3
            go_wp2_with fail
            refine(l6fault_any _ _ _ _).mono ?_
            rintro e w2 ⟨rfl,hb2⟩
            have hx2:=hx3.below' hb2
            have r0:=hx2.res 0 (by omega);have r1:=hx2.res 1 (by omega);have r2:=hx2.res 2 (by omega)
            have z0:=hx2.frozen 0;have z1:=hx2.frozen 1;have z2:=hx2.frozen 2
            have BB:Hid (∀ v0 v1 v2,Below w.heap.size w (((w2.setCell ⟨w.heap.size+1,0,none⟩ v0).setCell ⟨w.heap.size+1,1,none⟩ v1).setCell ⟨w.heap.size+1,2,none⟩ v2)):=fun v0 v1 v2=>box2_set3 hx2 v0 v1 v2
            go_wp2_with fail
            refine bodyPost_ret (v:=.agg #[.int .i64 4,.int .i64 f,.int .i64 q]) (by simp[results,Tryz.results19,go_sem,r0,r1,r2]) rfl ⟨4,f,q,rfl,?_,BB.out _ _ _⟩
            exact .inr (.inr (.inr (.inl ⟨unhide HG,unhide HEADS,unhide NO3,rfl,f,q,rfl,rfl,unhide FI⟩)))
           ·have NX:Hid (∀ j,j<q+1→bad4 l f j=false):=upto_next hok.out (unhide HBQ)
            go_wp2_with fail
            refine(unhide CO).mono ?_
            rintro e w3 ⟨rfl,hb3⟩
            have HB3:=hide ((unhide HWW).trans (hb3.mono (by simp at hws;omega)))
            clear hb3
            go_wp2_with fail
            go_roundg (ns.length-(q+1))
            case measure=>omega
            case rel=>exact⟨q+1,by omega,by go_num,unhide HB3,NX⟩
          ·have NXF:Hid (∀ f' p',f'<f+1→p'<len4 l f'→bad4 l f' p'=false):=rows_next (l:=l) hgood.out (fun p hp=>hok.out p (by rw[LEN.out]at hp;have hp:p<ns.length:=hp;omega))
           have HX2:=hide ((unhide HX).below' hbo)
           clear hbo hW
           go_wp2_with fail
           go_roundg (l.length-(f+1))
           case measure=>omega
           case rel=>exact⟨f+1,by omega,by go_num,unhide HX2,NXF⟩
        ·have NO4:Hid (NoC l (len4 l) (bad4 l)):=fun f' p' h1 h2=>hgood.out f' p' (by omega) h2
         have HX:=hide hx
         clear hx hgood
         go_wp2_with fail
         clear u0 hk hlt
         go_loopg [108] l.length (fun g i wr=>∃(k:Nat),k+g=l.length∧i=.int .i64 k∧Box2 w a l.length c wr∧Hid (∀ f' p',f'<k→p'<len5 l f'→bad5 l f' p'=false))
         case atStart=>exact⟨0,by omega,rfl,unhide HX,fun _ _ h=>absurd h (Nat.not_lt_zero _)⟩
         case round=>
          clear HX
          obtain⟨f,hk,rfl,hx,hgood⟩:=hrel
          have u0:=hx.unit
          by_cases hlt:f<l.length
          ·have HRG:=hide (head_regs (unhide HEADS f hlt))
           have LEN:Hid (len5 l f=if(prD l f).ins.length=0 then 1 else(prD l f).ins.length):=rfl
           have BAD:Hid (∀ q,bad5 l f q=if(prD l f).ins.length=0 then true else !sInsOk (prD l f) l.length q):=fun _=>rfl
           have CI:Hid (∀(W:World) (q:Nat),Below w.heap.size w W→q<(prD l f).ins.length→Calls Tryz.prog 53 #[.agg #[.slice a l.length c],.int .i64 f,.int .i64 q] W fun e w'=>e=.returned (.bool (sInsOk (prD l f) l.length q))∧Below W.heap.size W w'):=fun W q hW hq=>
            l6insOk_any a l c f q S W ((unhide HS).keep hW (unhide HB)) (fun b h=>Nat.lt_of_lt_of_le (unhide HB b h) hW.size) hlt hq (unhide HRG)
           obtain⟨b,off,rfl,hb,hcc⟩:=((unhide HS).keep hx.old (unhide HB)).2 (by omega)
           have N:ProtoCells wr S b (off+f * 9) (prD l f):=hcc f hlt
           clear hcc
           obtain⟨a5,c5,h5,H5⟩:=N.ups
           obtain⟨a6,c6,h6,H6⟩:=N.consts
           obtain⟨a7,c7,h7,H7⟩:=N.ins
           obtain⟨a8,c8,h8,H8⟩:=N.named
           have c0:=N.name;have c1:=N.line;have c2:=N.params;have c3:=N.rest;have c4:=N.regs
           have hil:=H7.1
           clear N H5 H6 H7 H8
           obtain⟨ni,hni⟩:∃ ni,ni=(prD l f).ins.length:=⟨_,rfl⟩
           rw[←hni]at h7 hil LEN BAD CI
           clear hni
           obtain⟨so,hso⟩:∃ so:Nat→Bool,so=fun q=>sInsOk (prD l f) l.length q:=⟨_,rfl⟩
           have hsq:∀ q,sInsOk (prD l f) l.length q=so q:=fun q=>by rw[hso]
           simp only[hsq]at BAD CI
           clear hso hsq
           generalize prD l f=x at *
           obtain⟨nm,ln,pr,rs,rg,us,cs,is,ns⟩:=x
           simp only at *
           by_cases hz:ni=0
           ·have hzb:((ni:Int)==0)=true:=by rw[hz];rfl
            have FI:Hid (FirstC l (len5 l) (bad5 l) f 0):=rows_first hlt (by rw[LEN.out,if_pos hz];omega) (by rw[unhide BAD 0,if_pos hz]) hgood.out (fun _ h=>absurd h (Nat.not_lt_zero _))
            have hx1:=hx.alloc (.cells #[.string nm,.int .i64 ln,.int .i64 pr,.bool rs,.int .i64 rg,.slice a5 us.length c5,.slice a6 cs.length c6,.slice a7 ni c7,.slice a8 ns.length c8] 58)
            clear hz hx
            go_wp2_with fail
            refine(l6fault_any _ _ _ _).mono ?_
            rintro e w2 ⟨rfl,hb2⟩
            have hx2:=hx1.below' hb2
            have r0:=hx2.res 0 (by omega);have r1:=hx2.res 1 (by omega);have r2:=hx2.res 2 (by omega)
            have z0:=hx2.frozen 0;have z1:=hx2.frozen 1;have z2:=hx2.frozen 2
            have BB:Hid (∀ v0 v1 v2,Below w.heap.size w (((w2.setCell ⟨w.heap.size+1,0,none⟩ v0).setCell ⟨w.heap.size+1,1,none⟩ v1).setCell ⟨w.heap.size+1,2,none⟩ v2)):=fun v0 v1 v2=>box2_set3 hx2 v0 v1 v2
            go_wp2_with fail
            refine bodyPost_ret (v:=.agg #[.int .i64 5,.int .i64 f,.int .i64 0]) (by simp[results,Tryz.results19,go_sem,r0,r1,r2]) rfl ⟨5,f,0,rfl,?_,BB.out _ _ _⟩
            exact .inr (.inr (.inr (.inr (.inl ⟨unhide HG,unhide HEADS,unhide NO3,unhide NO4,rfl,f,0,rfl,rfl,unhide FI⟩))))
           have hzb:((ni:Int)==0)=false:=beq_eq_false_iff_ne.2 (by omega)
           have BAD2:Hid (∀ q,bad5 l f q=!so q):=fun q=>by rw[unhide BAD q,if_neg hz]
           have LEN2:Hid (len5 l f=ni):=by show _=_;rw[LEN.out,if_neg hz]
           have hx1:=hx.alloc (.cells #[.string nm,.int .i64 ln,.int .i64 pr,.bool rs,.int .i64 rg,.slice a5 us.length c5,.slice a6 cs.length c6,.slice a7 ni c7,.slice a8 ns.length c8] 58)
           have HX1:=hide hx1
           clear hz hx hx1 BAD LEN
           go_wp2_with fail
           clear h5 h6 h7 h8 c0 c1 c2 c3 c4 u0
           go_loopg [122] ni (fun g i wr=>∃(k:Nat),k+g=ni∧i=.int .i64 k∧Box2 w (some ⟨b,off,none⟩) l.length c wr∧Hid (∀ q,q<k→bad5 l f q=false))
           case atStart=>exact⟨0,by omega,rfl,unhide HX1,fun _ h=>absurd h (Nat.not_lt_zero _)⟩
           case round=>
            clear HX1
            obtain⟨q,hq,rfl,hx,hok⟩:=hrel
            have u0:=hx.unit
            by_cases hql:q<ni
            ·have HBQ:=hide (unhide BAD2 q)
             have CO:=hide (unhide CI wr q hx.old hql)
             generalize so q=res at *
             cases res
             ·have FI:Hid (FirstC l (len5 l) (bad5 l) f q):=rows_first hlt (by rw[LEN2.out];exact hql) (unhide HBQ) hgood.out hok.out
              go_wp2_with fail
              refine(unhide CO).mono ?_
              rintro e w3 ⟨rfl,hb3⟩
              have hx3:=hx.below' hb3
              clear hb3
              go_wp2_with fail
              refine(l6fault_any _ _ _ _).mono ?_
              rintro e w2 ⟨rfl,hb2⟩
              have hx2:=hx3.below' hb2
              have r0:=hx2.res 0 (by omega);have r1:=hx2.res 1 (by omega);have r2:=hx2.res 2 (by omega)
              have z0:=hx2.frozen 0;have z1:=hx2.frozen 1;have z2:=hx2.frozen 2
              have BB:Hid (∀ v0 v1 v2,Below w.heap.size w (((w2.setCell ⟨w.heap.size+1,0,none⟩ v0).setCell ⟨w.heap.size+1,1,none⟩ v1).setCell ⟨w.heap.size+1,2,none⟩ v2)):=fun v0 v1 v2=>box2_set3 hx2 v0 v1 v2
              go_wp2_with fail
              refine bodyPost_ret (v:=.agg #[.int .i64 5,.int .i64 f,.int .i64 q]) (by simp[results,Tryz.results19,go_sem,r0,r1,r2]) rfl ⟨5,f,q,rfl,?_,BB.out _ _ _⟩
              exact .inr (.inr (.inr (.inr (.inl ⟨unhide HG,unhide HEADS,unhide NO3,unhide NO4,rfl,f,q,rfl,rfl,unhide FI⟩))))
             ·have NX:Hid (∀ j,j<q+1→bad5 l f j=false):=upto_next hok.out (unhide HBQ)
              go_wp2_with fail
              refine(unhide CO).mono ?_
              rintro e w3 ⟨rfl,hb3⟩
              have HX3:=hide (hx.below' hb3)
              clear hb3
              go_wp2_with fail
              go_roundg (ni-(q+1))
              case measure=>omega
              case rel=>exact⟨q+1,by omega,by go_num,unhide HX3,NX⟩
            ·have NXF:Hid (∀ f' p',f'<f+1→p'<len5 l f'→bad5 l f' p'=false):=rows_next (l:=l) hgood.out (fun p hp=>hok.out p (by rw[LEN2.out]at hp;omega))
             have HX2:=hide hx
             go_wp2_with fail
             go_roundg (l.length-(f+1))
             case measure=>omega
             case rel=>exact⟨f+1,by omega,by go_num,unhide HX2,NXF⟩
          ·have NO5:Hid (NoC l (len5 l) (bad5 l)):=fun f' p' h1 h2=>hgood.out f' p' (by omega) h2
           have r0:=hx.res 0 (by omega);have r1:=hx.res 1 (by omega);have r2:=hx.res 2 (by omega)
           have z0:=hx.frozen 0;have z1:=hx.frozen 1;have z2:=hx.frozen 2
           have BB:Hid (∀ v0 v1 v2,Below w.heap.size w (((wr.setCell ⟨w.heap.size+1,0,none⟩ v0).setCell ⟨w.heap.size+1,1,none⟩ v1).setCell ⟨w.heap.size+1,2,none⟩ v2)):=fun v0 v1 v2=>box2_set3 hx v0 v1 v2
           clear hgood
           go_wp2_with fail
           refine bodyPost_ret (v:=.agg #[.int .i64 0,.int .i64 0,.int .i64 0]) (by simp[results,Tryz.results19,go_sem,r0,r1,r2]) rfl ⟨0,0,0,rfl,?_,BB.out _ _ _⟩
           exact .inr (.inr (.inr (.inr (.inr ⟨unhide HG,unhide HEADS,unhide NO3,unhide NO4,unhide NO5,rfl,rfl,rfl⟩))))
end Go.Proofs.YtmjcpapdncfkpaaGreatDoor
