import Derived.Test.YtofcbekoaghikaaGreatDoorPart09
import Derived.Deep.LoopGhost
set_option linter.unusedSimpArgs false
set_option linter.unusedVariables false
set_option maxHeartbeats 4000000
set_option maxRecDepth 100000
namespace Go.Proofs.YtofcbekoaghikaaGreatDoor
open Go.RowKit
def nodesLen (x:FnD):Nat:=x.nodes.length
def sizeBad (l:List FnD):Prop:=l.length=0\/300<l.length\/3000<sumAll nodesLen l
def First (l:List FnD)(bad:Nat->Nat->Bool)(f p:Nat):Prop:=
 f<l.length/\p<(fnD l f).nodes.length/\bad f p=true/\∀ f' p',f'<l.length->p'<(fnD l f').nodes.length->(f'<f\/f'=f/\p'<p)->bad f' p'=false
def NoBad (l:List FnD)(bad:Nat->Nat->Bool):Prop:=∀ f p,f<l.length->p<(fnD l f).nodes.length->bad f p=false
def shapeBad (l:List FnD)(f p:Nat):Bool:=!sShape (fnD l f).nodes p
def HeadsOk (l:List FnD):Prop:=∀ g,g<l.length->sHead l g=true
def Fault13 (l:List FnD)(c f n:Int):Prop:=
 (sizeBad l/\c=1/\f=0/\n=0) \/
 (¬sizeBad l/\c=2/\n=0/\∃ F:Nat,f=F/\F<l.length/\sHead l F=false/\∀ g,g<F->sHead l g=true) \/
 (¬sizeBad l/\HeadsOk l/\c=3/\∃ F P:Nat,f=F/\n=P/\First l (shapeBad l) F P) \/
 (¬sizeBad l/\HeadsOk l/\c=0/\f=0/\n=0/\NoBad l (shapeBad l))
theorem l3head_from {a:Option Addr}{l:List FnD}{c f:Nat}{S:Nat->Prop}(w W:World)(hs:FnsAt w S a l)(hB:∀ b,S b->b<w.heap.size)(hf:f<l.length)(hW:Below w.heap.size w W) :
  Calls Tryz.prog 38 #[.agg #[.slice a l.length c],.int .i64 f] W fun e w'=>e=.returned (.bool (sHead l f))/\Below W.heap.size W w':=
 l3head_any a l c f S W (hs.keep hW hB) (fun b h=>Nat.lt_of_lt_of_le (hB b h) hW.size) hf
theorem l3shape_from {a:Option Addr}{ns:List NodeD}{c p:Nat}{S:Nat->Prop}(w W:World)(hs:NodesAt w S a ns)(hB:∀ b,S b->b<w.heap.size)(hp:p<ns.length)(hW:Below w.heap.size w W) :
  Calls Tryz.prog 39 #[.slice a ns.length c,.int .i64 p] W fun e w'=>e=.returned (.bool (sShape ns p))/\Below W.heap.size W w':=
 l3shape_any a ns c p S W (hs.keep hW hB) (fun b h=>Nat.lt_of_lt_of_le (hB b h) hW.size) hp
def box2 (w:World)(a:Option Addr)(n c:Nat):World:=(w.alloc (.cells #[.slice a n c] 30)).alloc (.cells #[.int .i64 0,.int .i64 0,.int .i64 0] 39)
theorem box2_below (w:World)(a:Option Addr)(n c:Nat):Below w.heap.size w (box2 w a n c):=((Below.refl _ _).alloc (Nat.le_refl _) _).alloc (by simp) _
theorem box2_size (w:World)(a:Option Addr)(n c:Nat):(box2 w a n c).heap.size=w.heap.size+2:=by simp[box2]
structure Box2 (w:World)(a:Option Addr)(n c:Nat)(wr:World):Prop where
 below:Below (w.heap.size+2) (box2 w a n c) wr
theorem Box2.start (w:World)(a:Option Addr)(n c:Nat):Box2 w a n c (box2 w a n c):=⟨Below.refl _ _⟩
theorem Box2.old {w:World}{a:Option Addr}{n c:Nat}{wr:World}(h:Box2 w a n c wr):Below w.heap.size w wr:=(box2_below w a n c).trans (h.below.mono (by omega))
theorem Box2.size {w:World}{a:Option Addr}{n c:Nat}{wr:World}(h:Box2 w a n c wr):w.heap.size+2<=wr.heap.size:=by have:=h.below.size;rw[box2_size]at this;exact this
theorem Box2.below' {w:World}{a:Option Addr}{n c:Nat}{wr w2:World}(h:Box2 w a n c wr)(hb:Below wr.heap.size wr w2):Box2 w a n c w2:=⟨h.below.trans (hb.mono h.size)⟩
theorem Box2.alloc {w:World}{a:Option Addr}{n c:Nat}{wr:World}(h:Box2 w a n c wr)(o:Obj):Box2 w a n c (wr.alloc o):=⟨h.below.alloc h.size o⟩
theorem Box2.drew {w:World}{a:Option Addr}{n c:Nat}{wr:World}(h:Box2 w a n c wr):Box2 w a n c wr.drew:=⟨h.below.drew⟩
theorem Box2.unit {w:World}{a:Option Addr}{n c:Nat}{wr:World}(h:Box2 w a n c wr):wr.cell? ⟨w.heap.size,0,none⟩=some (.slice a n c):=by
 rw[h.below.cell (p:=⟨w.heap.size,0,none⟩) (by simp)];simp[box2,go_sem]
theorem Box2.res {w:World}{a:Option Addr}{n c:Nat}{wr:World}(h:Box2 w a n c wr)(j:Nat)(hj:j<3):wr.cell? ⟨w.heap.size+1,j,none⟩=some (.int .i64 0):=by
 rw[h.below.cell (p:=⟨w.heap.size+1,j,none⟩) (by simp)];have:j=0\/j=1\/j=2:=by omega
 rcases this with rfl | rfl | rfl<;>simp[box2,go_sem]
theorem Box2.frozen {w:World}{a:Option Addr}{n c:Nat}{wr:World}(h:Box2 w a n c wr)(j:Nat):wr.frozen? ⟨w.heap.size+1,j,none⟩=false:=by
 rw[h.below.frozen (p:=⟨w.heap.size+1,j,none⟩) (by simp)];simp[box2,go_sem]
theorem l3first_any (a:Option Addr)(l:List FnD)(c:Nat)(S:Nat->Prop)(w:World)(hs:FnsAt w S a l)(hB:∀ b,S b->b<w.heap.size)(hl:tFns l<=1048576) :
  Calls Tryz.prog 22 #[.agg #[.slice a l.length c]] w fun e w'=>∃ x f n,e=.returned (.agg #[.int .i64 x,.int .i64 f,.int .i64 n])/\Fault13 l x f n/\Below w.heap.size w w':=by
 have hn:=hs.1;have hll:l.length<=1048576:=by unfold tFns at hl;omega
 have htot:∀ k,sumTo nodesLen l k<=1048576:=fun k=>by
  have h1:=sumTo_le nodesLen l k;have h2:sumAll nodesLen l<=sumAll tFn l:=by
   clear h1 hl hs hn hll;unfold sumAll
   induction l with
   | nil=>simp
   | cons x r ih=>
    simp only[List.map_cons,List.sum_cons];have:nodesLen x<=tFn x:=by unfold nodesLen tFn tNodes;omega
    omega
  unfold tFns at hl;omega
 have HT:=hide htot;clear htot hl;have HS:=hide hs;have HB:=hide hB;have X0:Hid (Box2 w a l.length c (box2 w a l.length c)):=Box2.start w a l.length c;go_enter Tryz.func22,Tryz.ntmps22;go_wp2_with fail
 go_loopg [3,12] l.length (fun g t i wr=>∃(k:Nat),k+g=l.length/\i=.int .i64 k/\t=.int .i64 (sumTo nodesLen l k:Nat)/\Box2 w a l.length c wr)
 case atStart=>exact⟨0,by omega,rfl,by rw[sumTo_zero];rfl,X0.out⟩
 case round=>
  obtain⟨k,hk,rfl,rfl,hx⟩:=hrel;have u0:=hx.unit;by_cases hlt:k<l.length
  ·obtain⟨b,off,rfl,hb,hcc⟩:=((unhide HS).keep hx.old (unhide HB)).2 (by omega);have N:FnCells wr S b (off+k * 7) (fnD l k):=hcc k hlt;have hsu:=sumTo_succ nodesLen l k FnD.z hlt;have hsu:sumTo nodesLen l (k+1)=sumTo nodesLen l k+(fnD l k).nodes.length:=hsu;have t1:=unhide HT k;have t2:=unhide HT (k+1);have HSU:=hide hsu;have hadd:sumTo nodesLen l k+(fnD l k).nodes.length<=1048576:=by omega
   clear hcc hsu;generalize fnD l k=x at *;obtain⟨va,vc,hv,hvI⟩:=N.vars;obtain⟨ua,uc,hu,huI⟩:=N.ups;obtain⟨na,nc,hno,hnI⟩:=N.nodes;have c0:=N.name;have c1:=N.line;have c2:=N.params;have c3:=N.rest;clear N hvI huI hnI;generalize sumTo nodesLen l k=T at *;go_wp2_with fail
   go_roundg (l.length-(k+1))
   case measure=>omega
   case rel=>
    have h1:=unhide HSU;exact⟨k+1,by omega,by go_num,by rw[h1];go_num,hx.alloc _⟩
  ·have HK:Hid (k=l.length):=by show _=_;omega
   have hkl:=HK.out;subst hkl;rw[sumTo_len]at *;clear HK hk;by_cases hbad:sizeBad l
   ·have HBAD:=hide hbad;by_cases b1:l.length=0
    ·have e1:((l.length:Int)==0)=true:=by simp[b1]
     clear b1 hbad;go_wp2_with fail
     refine(l3fault_any _ _ _ _).mono ?_;rintro e w2 ⟨rfl,hb2⟩;have hx2:=hx.below' hb2;have r0:=hx2.res 0 (by omega);have r1:=hx2.res 1 (by omega);have r2:=hx2.res 2 (by omega);have z0:=hx2.frozen 0;have z1:=hx2.frozen 1;have z2:=hx2.frozen 2;have BB:Hid (∀ v0 v1 v2,Below w.heap.size w (((w2.setCell ⟨w.heap.size+1,0,none⟩ v0).setCell ⟨w.heap.size+1,1,none⟩ v1).setCell ⟨w.heap.size+1,2,none⟩ v2)):=fun v0 v1 v2=>((hx2.old.setCell (Nat.le_succ _) _).setCell (Nat.le_succ _) _).setCell (Nat.le_succ _) _;go_wp2_with fail
     refine bodyPost_ret (v:=.agg #[.int .i64 1,.int .i64 0,.int .i64 0]) (by simp[results,Tryz.results22,go_sem,r0,r1,r2]) rfl ⟨1,0,0,rfl,?_,BB.out _ _ _⟩;exact .inl ⟨unhide HBAD,rfl,rfl,rfl⟩
    by_cases b2:300<l.length
    ·have e1:((l.length:Int)==0)=false:=beq_eq_false_iff_ne.2 (by omega);have e2:decide ((300:Int)<l.length)=true:=decide_eq_true (by omega);clear b1 hbad;go_wp2_with fail
     refine(l3fault_any _ _ _ _).mono ?_;rintro e w2 ⟨rfl,hb2⟩;have hx2:=hx.below' hb2;have r0:=hx2.res 0 (by omega);have r1:=hx2.res 1 (by omega);have r2:=hx2.res 2 (by omega);have z0:=hx2.frozen 0;have z1:=hx2.frozen 1;have z2:=hx2.frozen 2;have BB:Hid (∀ v0 v1 v2,Below w.heap.size w (((w2.setCell ⟨w.heap.size+1,0,none⟩ v0).setCell ⟨w.heap.size+1,1,none⟩ v1).setCell ⟨w.heap.size+1,2,none⟩ v2)):=fun v0 v1 v2=>((hx2.old.setCell (Nat.le_succ _) _).setCell (Nat.le_succ _) _).setCell (Nat.le_succ _) _;go_wp2_with fail
     refine bodyPost_ret (v:=.agg #[.int .i64 1,.int .i64 0,.int .i64 0]) (by simp[results,Tryz.results22,go_sem,r0,r1,r2]) rfl ⟨1,0,0,rfl,?_,BB.out _ _ _⟩;exact .inl ⟨unhide HBAD,rfl,rfl,rfl⟩
    have b3:3000<sumAll nodesLen l:=by rcases hbad with h | h | h<;>first | omega | exact absurd h b1
    have e1:((l.length:Int)==0)=false:=beq_eq_false_iff_ne.2 (by omega);have e2:decide ((300:Int)<l.length)=false:=decide_eq_false (by omega);have e3:decide ((3000:Int)<(sumAll nodesLen l:Nat))=true:=decide_eq_true (by omega);clear b1 b2 hbad;generalize sumAll nodesLen l=T at *;go_wp2_with fail
    refine(l3fault_any _ _ _ _).mono ?_;rintro e w2 ⟨rfl,hb2⟩;have hx2:=hx.below' hb2;have r0:=hx2.res 0 (by omega);have r1:=hx2.res 1 (by omega);have r2:=hx2.res 2 (by omega);have z0:=hx2.frozen 0;have z1:=hx2.frozen 1;have z2:=hx2.frozen 2;have BB:Hid (∀ v0 v1 v2,Below w.heap.size w (((w2.setCell ⟨w.heap.size+1,0,none⟩ v0).setCell ⟨w.heap.size+1,1,none⟩ v1).setCell ⟨w.heap.size+1,2,none⟩ v2)):=fun v0 v1 v2=>((hx2.old.setCell (Nat.le_succ _) _).setCell (Nat.le_succ _) _).setCell (Nat.le_succ _) _;go_wp2_with fail
    refine bodyPost_ret (v:=.agg #[.int .i64 1,.int .i64 0,.int .i64 0]) (by simp[results,Tryz.results22,go_sem,r0,r1,r2]) rfl ⟨1,0,0,rfl,?_,BB.out _ _ _⟩;exact .inl ⟨unhide HBAD,rfl,rfl,rfl⟩
   have HG:=hide hbad;have g1:l.length≠0:=fun h=>hbad (.inl h);have g2:¬300<l.length:=fun h=>hbad (.inr (.inl h));have g3:¬3000<sumAll nodesLen l:=fun h=>hbad (.inr (.inr h));have e1:((l.length:Int)==0)=false:=beq_eq_false_iff_ne.2 (by omega);have e2:decide ((300:Int)<l.length)=false:=decide_eq_false (by omega);have e3:decide ((3000:Int)<(sumAll nodesLen l:Nat))=false:=decide_eq_false (by omega);clear hbad g1 g3;generalize sumAll nodesLen l=T at *;go_wp2_with fail
   go_loopg [40] l.length (fun g i wr=>∃(k:Nat),k+g=l.length/\i=.int .i64 k/\Box2 w a l.length c wr/\Hid (∀ j,j<k->sHead l j=true))
   case atStart=>exact⟨0,by omega,rfl,hx,fun j h=>absurd h (Nat.not_lt_zero _)⟩
   case round=>
    clear hx u0;obtain⟨k,hk,rfl,hx,hheads⟩:=hrel;have u0:=hx.unit;by_cases hlt:k<l.length
    ·cases hq:sHead l k
     ·have HQ:=hide hq;clear hq;go_wp2_with fail
      refine(l3head_from w _ (unhide HS) (unhide HB) hlt hx.old).mono ?_;rintro e w1 ⟨rfl,hb1⟩;rw[unhide HQ];have hx1:=hx.below' hb1;go_wp2_with fail
      refine(l3fault_any _ _ _ _).mono ?_;rintro e w2 ⟨rfl,hb2⟩;have hx2:=hx1.below' hb2;have r0:=hx2.res 0 (by omega);have r1:=hx2.res 1 (by omega);have r2:=hx2.res 2 (by omega);have z0:=hx2.frozen 0;have z1:=hx2.frozen 1;have z2:=hx2.frozen 2;have BB:Hid (∀ v0 v1 v2,Below w.heap.size w (((w2.setCell ⟨w.heap.size+1,0,none⟩ v0).setCell ⟨w.heap.size+1,1,none⟩ v1).setCell ⟨w.heap.size+1,2,none⟩ v2)):=fun v0 v1 v2=>((hx2.old.setCell (Nat.le_succ _) _).setCell (Nat.le_succ _) _).setCell (Nat.le_succ _) _;go_wp2_with fail
      refine bodyPost_ret (v:=.agg #[.int .i64 2,.int .i64 k,.int .i64 0]) (by simp[results,Tryz.results22,go_sem,r0,r1,r2]) rfl ⟨2,k,0,rfl,?_,BB.out _ _ _⟩;exact .inr (.inl ⟨unhide HG,rfl,rfl,k,rfl,hlt,unhide HQ,hheads.out⟩)
     ·have HQ:=hide hq;clear hq;go_wp2_with fail
      refine(l3head_from w _ (unhide HS) (unhide HB) hlt hx.old).mono ?_;rintro e w1 ⟨rfl,hb1⟩;rw[unhide HQ];have hx1:=hx.below' hb1;go_wp2_with fail
      go_roundg (l.length-(k+1))
      case measure=>omega
      case rel=>
       refine⟨k+1,by omega,by go_num,hx1,fun j h=>?_⟩;by_cases e:j=k
       ·subst e;exact unhide HQ
       ·exact hheads.out j (by omega)
    ·have HH:Hid (HeadsOk l):=fun g hg=>hheads.out g (by omega);clear hheads;go_wp2_with fail
     go_loopg [53] l.length (fun g i wr=>∃(k:Nat),k+g=l.length/\i=.int .i64 k/\Box2 w a l.length c wr/\Hid (∀ f' p',f'<k->p'<(fnD l f').nodes.length->shapeBad l f' p'=false))
     case atStart=>exact⟨0,by omega,rfl,hx,fun f' p' h=>absurd h (Nat.not_lt_zero _)⟩
     case round=>
      clear hx u0 hlt hk;obtain⟨f,hk,rfl,hx,hshapes⟩:=hrel;have u0:=hx.unit;by_cases hlt:f<l.length
      ·obtain⟨b,off,rfl,hb,hcc⟩:=(unhide HS).2 (by omega);have N0:FnCells w S b (off+f * 7) (fnD l f):=hcc f hlt;clear hcc;obtain⟨na,nc,hno0,hnI⟩:=N0.nodes;have hlenb:=hnI.1;have hbs:b<w.heap.size:=unhide HB b hb;have hno:wr.cell? ⟨b,off+f * 7+6,none⟩=some (.slice na (fnD l f).nodes.length nc):=(hx.old.cell (p:=⟨b,off+f * 7+6,none⟩) hbs).trans hno0;have NN:Hid (NodesAt w S na (fnD l f).nodes):=hnI;have HNO:=hide hno0;clear hnI N0 hno0;go_wp2_with fail
       go_loopg [63] (fnD l f).nodes.length (fun g i wr=>∃(k:Nat),k+g=(fnD l f).nodes.length/\i=.int .i64 k/\Box2 w (some ⟨b,off,none⟩) l.length c wr/\Hid (∀ p',p'<k->shapeBad l f p'=false))
       case atStart=>exact⟨0,by omega,rfl,hx,fun p' h=>absurd h (Nat.not_lt_zero _)⟩
       case round=>
        clear hx u0 hno;rename_i gk1 wr1 _;obtain⟨p,hp,rfl,hx,hok⟩:=hrel;have u0:=hx.unit;have hno:=(hx.old.cell (p:=⟨b,off+f * 7+6,none⟩) hbs).trans HNO.out;by_cases hpl:p<(fnD l f).nodes.length
        ·cases hq:sShape (fnD l f).nodes p
         ·have HQ:=hide hq;clear hq;go_wp2_with fail
          refine(l3shape_from w _ (unhide NN) (unhide HB) hpl hx.old).mono ?_;rintro e w1 ⟨rfl,hb1⟩;rw[unhide HQ];have hx1:=hx.below' hb1;go_wp2_with fail
          refine(l3fault_any _ _ _ _).mono ?_;rintro e w2 ⟨rfl,hb2⟩;have hx2:=hx1.below' hb2;have r0:=hx2.res 0 (by omega);have r1:=hx2.res 1 (by omega);have r2:=hx2.res 2 (by omega);have z0:=hx2.frozen 0;have z1:=hx2.frozen 1;have z2:=hx2.frozen 2;have BB:Hid (∀ v0 v1 v2,Below w.heap.size w (((w2.setCell ⟨w.heap.size+1,0,none⟩ v0).setCell ⟨w.heap.size+1,1,none⟩ v1).setCell ⟨w.heap.size+1,2,none⟩ v2)):=fun v0 v1 v2=>((hx2.old.setCell (Nat.le_succ _) _).setCell (Nat.le_succ _) _).setCell (Nat.le_succ _) _;go_wp2_with fail
          refine bodyPost_ret (v:=.agg #[.int .i64 3,.int .i64 f,.int .i64 p]) (by simp[results,Tryz.results22,go_sem,r0,r1,r2]) rfl ⟨3,f,p,rfl,?_,BB.out _ _ _⟩;refine .inr (.inr (.inl ⟨unhide HG,unhide HH,rfl,f,p,rfl,rfl,hlt,hpl,by simp[shapeBad,unhide HQ],fun f' p' h1 h2 h3=>?_⟩));rcases h3 with h3 | ⟨rfl,h3⟩
          ·exact hshapes.out f' p' h3 h2
          ·exact hok.out p' h3
         ·have HQ:=hide hq;clear hq;go_wp2_with fail
          refine(l3shape_from w _ (unhide NN) (unhide HB) hpl hx.old).mono ?_;rintro e w1 ⟨rfl,hb1⟩;rw[unhide HQ];have hx1:=hx.below' hb1;go_wp2_with fail
          go_roundg ((fnD l f).nodes.length-(p+1))
          case measure=>omega
          case rel=>
           refine⟨p+1,by omega,by go_num,hx1,fun j h=>?_⟩;by_cases e:j=p
           ·subst e;simp[shapeBad,unhide HQ]
           ·exact hok.out j (by omega)
        ·go_wp2_with fail
         go_roundg (l.length-(f+1))
         case measure=>omega
         case rel=>
          refine⟨f+1,by omega,by go_num,hx,fun f' p' h1 h2=>?_⟩;by_cases e:f'=f
          ·subst e;exact hok.out p' (by omega)
          ·exact hshapes.out f' p' (by omega) h2
      ·have HF:Hid (NoBad l (shapeBad l)):=fun f' p' h1 h2=>hshapes.out f' p' (by omega) h2;clear hshapes;have r0:=hx.res 0 (by omega);have r1:=hx.res 1 (by omega);have r2:=hx.res 2 (by omega);have z0:=hx.frozen 0;have z1:=hx.frozen 1;have z2:=hx.frozen 2;have BB:Hid (∀ v0 v1 v2,Below w.heap.size w (((wr.setCell ⟨w.heap.size+1,0,none⟩ v0).setCell ⟨w.heap.size+1,1,none⟩ v1).setCell ⟨w.heap.size+1,2,none⟩ v2)):=fun v0 v1 v2=>((hx.old.setCell (Nat.le_succ _) _).setCell (Nat.le_succ _) _).setCell (Nat.le_succ _) _;go_wp2_with fail
       refine bodyPost_ret (v:=.agg #[.int .i64 0,.int .i64 0,.int .i64 0]) (by simp[results,Tryz.results22,go_sem,r0,r1,r2]) rfl ⟨0,0,0,rfl,?_,BB.out _ _ _⟩;exact .inr (.inr (.inr ⟨unhide HG,unhide HH,rfl,rfl,rfl,unhide HF⟩))
end Go.Proofs.YtofcbekoaghikaaGreatDoor
