import Derived.Test.YtcjfjflljdojlaaGreatDoorPart10
import Derived.Deep.LoopGhost
set_option linter.unusedSimpArgs false
set_option linter.unusedVariables false
set_option maxHeartbeats 16000000
set_option maxRecDepth 100000
namespace Go.Proofs.YtcjfjflljdojlaaGreatDoor
open Go.RowKit
attribute [local go_sem] cp
def cd (x:ak):Nat:=x.ins.length
def eE (l:List ak):Prop:=l.length=0\/200<l.length\/6000<aS cd l
def fl (l:List ak)(len:Nat->Nat)(bad:Nat->Nat->Bool)(f p:Nat):Prop:=
 f<l.length/\p<len f/\bad f p=true/\∀ f' p',f'<l.length->p'<len f'->(f'<f\/f'=f/\p'<p)->bad f' p'=false
def rk (l:List ak)(len:Nat->Nat)(bad:Nat->Nat->Bool):Prop:=∀ f p,f<l.length->p<len f->bad f p=false
def oK (l:List ak)(f:Nat):Nat:=(am l f).consts.length
def oU (l:List ak)(f:Nat):Nat:=(am l f).named.length
def j9 (l:List ak)(f:Nat):Nat:=if(am l f).ins.length=0 then 1 else(am l f).ins.length
def ku (l:List ak)(f i:Nat):Bool:=!dv ((am l f).consts[i]?.getD cS.z)
def jY (l:List ak)(f i:Nat):Bool:=!kJ (am l f).regs (am l f).ins.length ((am l f).named[i]?.getD bE.z) i
def hZ (l:List ak)(f i:Nat):Bool:=if(am l f).ins.length=0 then true else !dr (am l f) l.length i
def km (l:List ak):Prop:=∀ g,g<l.length->ee (am l g) g=true
def eO (l:List ak)(c f n:Int):Prop:=
 (eE l/\c=1/\f=0/\n=0) \/
 (¬eE l/\c=2/\n=0/\∃ F:Nat,f=F/\F<l.length/\ee (am l F) F=false/\∀ g,g<F->ee (am l g) g=true) \/
 (¬eE l/\km l/\c=3/\∃ F P:Nat,f=F/\n=P/\fl l (oK l) (ku l) F P) \/
 (¬eE l/\km l/\rk l (oK l) (ku l)/\c=4/\∃ F P:Nat,f=F/\n=P/\fl l (oU l) (jY l) F P) \/
 (¬eE l/\km l/\rk l (oK l) (ku l)/\rk l (oU l) (jY l)/\c=5/\∃ F P:Nat,f=F/\n=P/\fl l (j9 l) (hZ l) F P) \/
 (¬eE l/\km l/\rk l (oK l) (ku l)/\rk l (oU l) (jY l)/\rk l (j9 l) (hZ l)/\c=0/\f=0/\n=0)
theorem jR {n:ak}{p:Nat}(h:ee n p=true):0<=n.regs/\n.regs<=250:=by
 unfold ee at h;simp only[Bool.and_eq_true]at h;exact aV h.1.1.1.1.2
theorem ii {l:List ak}{len:Nat->Nat}{bad:Nat->Nat->Bool}{f:Nat}(h:∀ f' p',f'<f->p'<len f'->bad f' p'=false)(h2:∀ p,p<len f->bad f p=false):∀ f' p',f'<f+1->p'<len f'->bad f' p'=false:=fun f' p' h1 h3=>by
 by_cases e:f'=f
 ·aj e;exact h2 p' h3
 ·exact h f' p' (by omega) h3
theorem eg {l:List ak}{len:Nat->Nat}{bad:Nat->Nat->Bool}{f p:Nat}(hf:f<l.length)(hp:p<len f)(hb:bad f p=true)(h:∀ f' p',f'<f->p'<len f'->bad f' p'=false)(h2:∀ q,q<p->bad f q=false):fl l len bad f p:=
 ⟨hf,hp,hb,fun f' p' _ g2 g3=>by
  rcases g3 with g3 | ⟨rfl,g3⟩
  ·exact h f' p' g3 g2
  ·exact h2 p' g3⟩
theorem gH {q:Nat->Bool}{k:Nat}(h:∀ j,j<k->q j=false)(hk:q k=false):∀ j,j<k+1->q j=false:=fun j hj=>by
 by_cases e:j=k
 ·aj e;exact hk
 ·exact h j (by omega)
def kd (w:World)(a:o_)(n c:Nat):World:=(w.alloc (.cells #[.slice a n c] 28)).alloc (.cells #[i_ 0,i_ 0,i_ 0] 36)
theorem oW (w:World)(a:o_)(n c:Nat):b_ w (kd w a n c):=(r_.alloc n_ _).alloc (by simp) _
theorem nS (w:World)(a:o_)(n c:Nat):(kd w a n c).heap.size=w.heap.size+2:=by simp[kd]
structure dP (w:World)(a:o_)(n c:Nat)(wr:World):Prop where
 below:Below (w.heap.size+2) (kd w a n c) wr
theorem dP.start (w:World)(a:o_)(n c:Nat):dP w a n c (kd w a n c):=⟨r_⟩
theorem dP.old {w:World}{a:o_}{n c:Nat}{wr:World}(h:dP w a n c wr):b_ w wr:=(oW w a n c).trans (h.below.mono (by omega))
theorem dP.size {w:World}{a:o_}{n c:Nat}{wr:World}(h:dP w a n c wr):w.heap.size+2<=wr.heap.size:=by have:=h.below.size;rw[nS]at this;exact this
theorem dP.below' {w:World}{a:o_}{n c:Nat}{wr w2:World}(h:dP w a n c wr)(hb:b_ wr w2):dP w a n c w2:=⟨h.below.trans (hb.mono h.size)⟩
theorem dP.alloc {w:World}{a:o_}{n c:Nat}{wr:World}(h:dP w a n c wr)(o:Obj):dP w a n c (wr.alloc o):=⟨h.below.alloc h.size o⟩
theorem dP.drew {w:World}{a:o_}{n c:Nat}{wr:World}(h:dP w a n c wr):dP w a n c wr.drew:=⟨h.below.drew⟩
theorem dP.unit {w:World}{a:o_}{n c:Nat}{wr:World}(h:dP w a n c wr):wr.cell? (a_ w.heap.size 0)=some (.slice a n c):=by
 rw[h.below.cell (p:=(a_ w.heap.size 0)) (by simp)];simp[kd,go_sem]
theorem dP.res {w:World}{a:o_}{n c:Nat}{wr:World}(h:dP w a n c wr)(j:Nat)(hj:j<3):wr.cell? (a_ (w.heap.size+1) j)=some (i_ 0):=by
 rw[h.below.cell (p:=(a_ (w.heap.size+1) j)) (by simp)];have:j=0\/j=1\/j=2:=by omega
 rcases this with rfl | rfl | rfl<;>simp[kd,go_sem]
theorem dP.frozen {w:World}{a:o_}{n c:Nat}{wr:World}(h:dP w a n c wr)(j:Nat):wr.frozen? (a_ (w.heap.size+1) j)=false:=by
 rw[h.below.frozen (p:=(a_ (w.heap.size+1) j)) (by simp)];simp[kd,go_sem]
theorem aK {w:World}{a:o_}{n c:Nat}{wr:World}(h:dP w a n c wr)(v0 v1 v2:Value):b_ w (((wr.setCell (a_ (w.heap.size+1) 0) v0).setCell (a_ (w.heap.size+1) 1) v1).setCell (a_ (w.heap.size+1) 2) v2):=
 ((h.old.setCell (Nat.le_succ _) _).setCell (Nat.le_succ _) _).setCell (Nat.le_succ _) _
theorem zp (a:o_)(l:List ak)(c:Nat)(S:Nat->Prop)(w:World)(hs:ao w S a l)(hB:∀ b,S b->b<w.heap.size)(hl:aI l<=1048576) :
  c_ 53 #[.agg #[.slice a l.length c]] w fun e w'=>∃ x f n,e=.returned (.agg #[i_ x,i_ f,i_ n])/\eO l x f n/\b_ w w':=by
 have hn:=hs.1;have py:l.length<=1048576:=by unfold aI at hl;omega
 have HT:Hid (∀ k,bw cd l k<=1048576):=fun k=>by
  have h1:=gw cd l k;have h2:aS cd l<=aS dx l:=by
   clear h1 hl hs hn py;unfold aS
   induction l with
   | nil=>simp
   | cons x r ih=>
    simp only[List.map_cons,List.sum_cons];have:cd x<=dx x:=by unfold cd dx;omega
    omega
  unfold aI at hl;omega
 clear hl;have HS:=af hs;have HB:=af hB;have X0:Hid (dP w a l.length c (kd w a l.length c)):=dP.start w a l.length c;clear hs hB;go_enter Tryz.func53,Tryz.ntmps53;go_wp2_with fail
 go_loopg [3,20] l.length (fun g t i wr=>∃(k:Nat),k+g=l.length/\i=i_ k/\t=i_ (bw cd l k:Nat)/\dP w a l.length c wr)
 case atStart=>exact⟨0,by omega,rfl,by rw[fi];rfl,X0.out⟩
 case round=>
  clear X0;obtain⟨k,hk,rfl,rfl,hx⟩:=hrel;have u0:=hx.unit;by_cases ax:k<l.length
  ·obtain⟨b,off,rfl,hb,aE⟩:=((aa HS).keep hx.old (aa HB)).2 (by omega);have N:aU wr S b (off+k * 9) (am l k):=aE k ax;have UV:Hid (bw cd l (k+1)=bw cd l k+(am l k).ins.length):=dJ cd l k ak.z ax;have t1:=aa HT k;have t2:=aa HT (k+1);have aa8:bw cd l k+(am l k).ins.length<=1048576:=by have:=UV.out;omega
   clear aE;generalize am l k=x at *;obtain⟨a5,c5,h5,H5⟩:=N.ups;obtain⟨a6,c6,h6,H6⟩:=N.consts;obtain⟨a7,c7,h7,H7⟩:=N.ins;obtain⟨a8,c8,h8,H8⟩:=N.named;have c0:=N.name;have c1:=N.line;have c2:=N.params;have c3:=N.rest;have c4:=N.regs;clear N H5 H6 H7 H8;generalize bw cd l k=T at *;go_wp2_with fail
   go_roundg (l.length-(k+1))
   case measure=>omega
   case rel=>
    have h1:=aa UV;exact⟨k+1,by omega,by go_num,by rw[h1];go_num,hx.alloc _⟩
  ·have HK:Hid (k=l.length):=by show _=_;omega
   have iK:=HK.out
   aj iK
   rw[fI]at *;clear HK hk ax;by_cases hbad:eE l
   ·have EA:=af hbad;by_cases b1:l.length=0
    ·have e1:((l.length:Int)==0)=true:=by simp[b1]
     clear b1 hbad;go_wp2_with fail
     refine(cV _ _ _ _).mono ?_;rintro e w2 ⟨rfl,bo⟩;have aO:=hx.below' bo;have r0:=aO.res 0 (by omega);have r1:=aO.res 1 (by omega);have r2:=aO.res 2 (by omega);have z0:=aO.frozen 0;have z1:=aO.frozen 1;have z2:=aO.frozen 2;have BB:Hid (∀ v0 v1 v2,b_ w (((w2.setCell (a_ (w.heap.size+1) 0) v0).setCell (a_ (w.heap.size+1) 1) v1).setCell (a_ (w.heap.size+1) 2) v2)):=fun v0 v1 v2=>aK aO v0 v1 v2;go_wp2_with fail
     refine bodyPost_ret (v:=.agg #[i_ 1,i_ 0,i_ 0]) (by simp[results,Tryz.results53,go_sem,r0,r1,r2]) rfl ⟨1,0,0,rfl,?_,BB.out _ _ _⟩;exact .inl ⟨aa EA,rfl,rfl,rfl⟩
    by_cases b2:200<l.length
    ·have e1:((l.length:Int)==0)=false:=beq_eq_false_iff_ne.2 (by omega);have e2:decide ((200:Int)<l.length)=true:=decide_eq_true (by omega);clear b1 hbad;go_wp2_with fail
     refine(cV _ _ _ _).mono ?_;rintro e w2 ⟨rfl,bo⟩;have aO:=hx.below' bo;have r0:=aO.res 0 (by omega);have r1:=aO.res 1 (by omega);have r2:=aO.res 2 (by omega);have z0:=aO.frozen 0;have z1:=aO.frozen 1;have z2:=aO.frozen 2;have BB:Hid (∀ v0 v1 v2,b_ w (((w2.setCell (a_ (w.heap.size+1) 0) v0).setCell (a_ (w.heap.size+1) 1) v1).setCell (a_ (w.heap.size+1) 2) v2)):=fun v0 v1 v2=>aK aO v0 v1 v2;go_wp2_with fail
     refine bodyPost_ret (v:=.agg #[i_ 1,i_ 0,i_ 0]) (by simp[results,Tryz.results53,go_sem,r0,r1,r2]) rfl ⟨1,0,0,rfl,?_,BB.out _ _ _⟩;exact .inl ⟨aa EA,rfl,rfl,rfl⟩
    have b3:6000<aS cd l:=by rcases hbad with h | h | h<;>first | omega | exact absurd h b1
    have e1:((l.length:Int)==0)=false:=beq_eq_false_iff_ne.2 (by omega);have e2:decide ((200:Int)<l.length)=false:=decide_eq_false (by omega);have e3:decide ((6000:Int)<(aS cd l:Nat))=true:=decide_eq_true (by omega);clear b1 b2 hbad;generalize aS cd l=T at *;go_wp2_with fail
    refine(cV _ _ _ _).mono ?_;rintro e w2 ⟨rfl,bo⟩;have aO:=hx.below' bo;have r0:=aO.res 0 (by omega);have r1:=aO.res 1 (by omega);have r2:=aO.res 2 (by omega);have z0:=aO.frozen 0;have z1:=aO.frozen 1;have z2:=aO.frozen 2;have BB:Hid (∀ v0 v1 v2,b_ w (((w2.setCell (a_ (w.heap.size+1) 0) v0).setCell (a_ (w.heap.size+1) 1) v1).setCell (a_ (w.heap.size+1) 2) v2)):=fun v0 v1 v2=>aK aO v0 v1 v2;go_wp2_with fail
    refine bodyPost_ret (v:=.agg #[i_ 1,i_ 0,i_ 0]) (by simp[results,Tryz.results53,go_sem,r0,r1,r2]) rfl ⟨1,0,0,rfl,?_,BB.out _ _ _⟩;exact .inl ⟨aa EA,rfl,rfl,rfl⟩
   have HG:=af hbad;have g1:l.length≠0:=fun h=>hbad (.inl h);have g2:¬200<l.length:=fun h=>hbad (.inr (.inl h));have g3:¬6000<aS cd l:=fun h=>hbad (.inr (.inr h));have e1:((l.length:Int)==0)=false:=beq_eq_false_iff_ne.2 (by omega);have e2:decide ((200:Int)<l.length)=false:=decide_eq_false (by omega);have e3:decide ((6000:Int)<(aS cd l:Nat))=false:=decide_eq_false (by omega);clear hbad g1 g3;generalize aS cd l=T at *;go_wp2_with fail
   clear e1 e2 e3;have HX:=af hx;clear hx u0;go_loopg [48] l.length (fun g i wr=>∃(k:Nat),k+g=l.length/\i=i_ k/\dP w a l.length c wr/\Hid (∀ j,j<k->ee (am l j) j=true))
   case atStart=>exact⟨0,by omega,rfl,aa HX,fun j h=>absurd h (Nat.not_lt_zero _)⟩
   case round=>
    clear HX;obtain⟨k,hk,rfl,hx,dZ⟩:=hrel;have u0:=hx.unit;by_cases ax:k<l.length
    ·have HC:=af (yl a l c k S wr ((aa HS).keep hx.old (aa HB)) (fun b h=>l_ (aa HB b h) hx.old.size) ax);cases hq:ee (am l k) k
     ·rw[hq]at HC;have HQ:=af hq;clear hq;go_wp2_with fail
      refine(aa HC).mono ?_;rintro e w3 ⟨rfl,bY⟩;have xf:=hx.below' bY;clear bY;go_wp2_with fail
      refine(cV _ _ _ _).mono ?_;rintro e w2 ⟨rfl,bo⟩;have aO:=xf.below' bo;have r0:=aO.res 0 (by omega);have r1:=aO.res 1 (by omega);have r2:=aO.res 2 (by omega);have z0:=aO.frozen 0;have z1:=aO.frozen 1;have z2:=aO.frozen 2;have BB:Hid (∀ v0 v1 v2,b_ w (((w2.setCell (a_ (w.heap.size+1) 0) v0).setCell (a_ (w.heap.size+1) 1) v1).setCell (a_ (w.heap.size+1) 2) v2)):=fun v0 v1 v2=>aK aO v0 v1 v2;go_wp2_with fail
      refine bodyPost_ret (v:=.agg #[i_ 2,i_ k,i_ 0]) (by simp[results,Tryz.results53,go_sem,r0,r1,r2]) rfl ⟨2,k,0,rfl,?_,BB.out _ _ _⟩;exact .inr (.inl ⟨aa HG,rfl,rfl,k,rfl,ax,aa HQ,dZ.out⟩)
     ·rw[hq]at HC;have HQ:=af hq;clear hq;go_wp2_with fail
      refine(aa HC).mono ?_;rintro e w3 ⟨rfl,bY⟩;have xf:=hx.below' bY;clear bY;go_wp2_with fail
      go_roundg (l.length-(k+1))
      case measure=>omega
      case rel=>
       refine⟨k+1,by omega,by go_num,xf,fun j hj=>?_⟩;by_cases e:j=k
       ·aj e;exact aa HQ
       ·exact dZ.out j (by omega)
    ·have kn:Hid (km l):=fun g hg=>dZ.out g (by omega);have HX:=af hx;clear hx dZ;go_wp2_with fail
     clear u0 hk ax;go_loopg [61] l.length (fun g i wr=>∃(k:Nat),k+g=l.length/\i=i_ k/\dP w a l.length c wr/\Hid (∀ f' p',f'<k->p'<oK l f'->ku l f' p'=false))
     case atStart=>exact⟨0,by omega,rfl,aa HX,fun _ _ h=>absurd h (Nat.not_lt_zero _)⟩
     case round=>
      clear HX;obtain⟨f,hk,rfl,hx,dD⟩:=hrel;have u0:=hx.unit;by_cases ax:f<l.length
      ·obtain⟨b,off,rfl,hb,aE⟩:=((aa HS).keep hx.old (aa HB)).2 (by omega);have N:aU wr S b (off+f * 9) (am l f):=aE f ax;have LZ:Hid (∀ b,S b->b<wr.heap.size):=fun b h=>l_ (aa HB b h) hx.old.size;clear aE;have mK:Hid (∀ q,ku l f q=!dv ((am l f).consts[q]?.getD cS.z)):=fun _=>rfl;have ox:Hid (oK l f=(am l f).consts.length):=rfl;obtain⟨x,mi⟩:∃ x,x=am l f:=⟨_,rfl⟩;rw[<-mi]at N mK ox;clear mi;obtain⟨a5,c5,h5,H5⟩:=N.ups;obtain⟨a6,c6,h6,H6⟩:=N.consts;obtain⟨a7,c7,h7,H7⟩:=N.ins;obtain⟨a8,c8,h8,H8⟩:=N.named;have c0:=N.name;have c1:=N.line;have c2:=N.params;have c3:=N.rest;have c4:=N.regs;have VV:=af H6;have YE:=H6.1;clear N H5 H6 H7 H8;obtain⟨nm,ln,pr,rs,rg,us,cs,is,ns⟩:=x;simp only at *;obtain⟨wo,rfl⟩:∃ wo,wo=wr:=⟨wr,rfl⟩;have HX:=af hx;clear hx;go_wp2_with fail
       clear h5 h6 h7 h8 c0 c1 c2 c3 c4 u0;go_loopg [69] cs.length (fun g i wr=>∃(k:Nat),k+g=cs.length/\i=i_ k/\b_ wo wr/\Hid (∀ q,q<k->ku l f q=false))
       case atStart=>exact⟨0,by omega,rfl,r_.alloc n_ _,fun _ h=>absurd h (Nat.not_lt_zero _)⟩
       case round=>
        obtain⟨q,hq,rfl,ir,dZ⟩:=hrel;by_cases fw:q<cs.length
        ·obtain⟨bv,yT,rfl,Hn,Ea⟩:=((aa VV).keep ir (aa LZ)).2 (by omega);have M:=Ea q fw;clear Ea;have BQ:=aa mK q;obtain⟨y,uZ⟩:∃ y,y=cs[q]?.getD cS.z:=⟨_,rfl⟩;rw[<-uZ]at M BQ;have qI:=af BQ;clear uZ BQ;have d0:=M.kind;have d1:=M.num;have d2:=M.flt;have d3:=M.str;have d4:=M.ref;have CO:Hid (∀ W:World,c_ 98 #[.agg #[i_ y.kind,i_ y.num,.float .f64 y.flt,.string y.str,i_ y.ref]] W fun e w'=>e=.returned (.bool (dv y))/\b_ W w'):=fun W=>vN y W M.strs;have wn:=M.strs;clear M;have xq:=af ir;have kO:=ir.size;generalize dv y=res at *;obtain⟨Wf,Zz,aau,aaO,aaV⟩:=y;simp only at *;clear ir;cases res
         ·have FI:Hid (fl l (oK l) (ku l) f q):=eg ax (by rw[ox.out];exact fw) (aa qI) dD.out dZ.out;go_wp2_with fail
          refine(aa CO _).mono ?_;rintro e w3 ⟨rfl,bY⟩;have xf:=(aa HX).below' (((aa xq).alloc kO _).trans (bY.mono (by simp;omega)));clear bY;go_wp2_with fail
          refine(cV _ _ _ _).mono ?_;rintro e w2 ⟨rfl,bo⟩;have aO:=xf.below' bo;have r0:=aO.res 0 (by omega);have r1:=aO.res 1 (by omega);have r2:=aO.res 2 (by omega);have z0:=aO.frozen 0;have z1:=aO.frozen 1;have z2:=aO.frozen 2;have BB:Hid (∀ v0 v1 v2,b_ w (((w2.setCell (a_ (w.heap.size+1) 0) v0).setCell (a_ (w.heap.size+1) 1) v1).setCell (a_ (w.heap.size+1) 2) v2)):=fun v0 v1 v2=>aK aO v0 v1 v2;go_wp2_with fail
          refine bodyPost_ret (v:=.agg #[i_ 3,i_ f,i_ q]) (by simp[results,Tryz.results53,go_sem,r0,r1,r2]) rfl ⟨3,f,q,rfl,?_,BB.out _ _ _⟩;exact .inr (.inr (.inl ⟨aa HG,aa kn,rfl,f,q,rfl,rfl,aa FI⟩))
         ·have NX:Hid (∀ j,j<q+1->ku l f j=false):=gH dZ.out (aa qI);go_wp2_with fail
          refine(aa CO _).mono ?_;rintro e w3 ⟨rfl,bY⟩;have jg:=af (((aa xq).alloc kO _).trans (bY.mono (by simp;omega)));clear bY;go_wp2_with fail
          go_roundg (cs.length-(q+1))
          case measure=>omega
          case rel=>exact⟨q+1,by omega,by go_num,aa jg,NX⟩
        ·have Ey:Hid (∀ f' p',f'<f+1->p'<oK l f'->ku l f' p'=false):=ii (l:=l) dD.out (fun p hp=>dZ.out p (by rw[ox.out]at hp;have hp:p<cs.length:=hp;omega));have BI:=af ((aa HX).below' ir);clear ir;go_wp2_with fail
         go_roundg (l.length-(f+1))
         case measure=>omega
         case rel=>exact⟨f+1,by omega,by go_num,aa BI,Ey⟩
      ·have Yd:Hid (rk l (oK l) (ku l)):=fun f' p' h1 h2=>dD.out f' p' (by omega) h2;have HX:=af hx;clear hx dD;go_wp2_with fail
       clear u0 hk ax;go_loopg [85] l.length (fun g i wr=>∃(k:Nat),k+g=l.length/\i=i_ k/\dP w a l.length c wr/\Hid (∀ f' p',f'<k->p'<oU l f'->jY l f' p'=false))
       case atStart=>exact⟨0,by omega,rfl,aa HX,fun _ _ h=>absurd h (Nat.not_lt_zero _)⟩
       case round=>
        clear HX;obtain⟨f,hk,rfl,hx,dD⟩:=hrel;have u0:=hx.unit;by_cases ax:f<l.length
        ·obtain⟨b,off,rfl,hb,aE⟩:=((aa HS).keep hx.old (aa HB)).2 (by omega);have N:aU wr S b (off+f * 9) (am l f):=aE f ax;have LZ:Hid (∀ b,S b->b<wr.heap.size):=fun b h=>l_ (aa HB b h) hx.old.size;have xm:=af (jR (aa kn f ax));clear aE;have mK:Hid (∀ q,jY l f q=!kJ (am l f).regs (am l f).ins.length ((am l f).named[q]?.getD bE.z) q):=fun _=>rfl;have ox:Hid (oU l f=(am l f).named.length):=rfl;obtain⟨x,mi⟩:∃ x,x=am l f:=⟨_,rfl⟩;rw[<-mi]at N mK ox xm;clear mi;obtain⟨a5,c5,h5,H5⟩:=N.ups;obtain⟨a6,c6,h6,H6⟩:=N.consts;obtain⟨a7,c7,h7,H7⟩:=N.ins;obtain⟨a8,c8,h8,H8⟩:=N.named;have c0:=N.name;have c1:=N.line;have c2:=N.params;have c3:=N.rest;have c4:=N.regs;have VV:=af H8;have YE:=H8.1;have HIL:=af H7.1;clear N H5 H6 H7 H8;obtain⟨nm,ln,pr,rs,rg,us,cs,is,ns⟩:=x;simp only at *;obtain⟨wo,rfl⟩:∃ wo,wo=wr:=⟨wr,rfl⟩;have P0:Hid (∀ W,Below (wo.heap.size+1) (wo.alloc (.cells #[.string nm,i_ ln,i_ pr,.bool rs,i_ rg,.slice a5 us.length c5,.slice a6 cs.length c6,.slice a7 is.length c7,.slice a8 ns.length c8] 43)) W->(W.cell? (a_ wo.heap.size 0)=some (.string nm)/\W.cell? (a_ wo.heap.size 1)=some (i_ ln)/\W.cell? (a_ wo.heap.size 2)=some (i_ pr)/\W.cell? (a_ wo.heap.size 3)=some (.bool rs)/\W.cell? (a_ wo.heap.size 4)=some (i_ rg)/\W.cell? (a_ wo.heap.size 5)=some (.slice a5 us.length c5)/\W.cell? (a_ wo.heap.size 6)=some (.slice a6 cs.length c6)/\W.cell? (a_ wo.heap.size 7)=some (.slice a7 is.length c7)/\W.cell? (a_ wo.heap.size 8)=some (.slice a8 ns.length c8))/\b_ wo W):=fun W hW=>
          ⟨⟨by rw[hW.cell (p:=(a_ wo.heap.size 0)) (by simp)];simp[go_sem],by rw[hW.cell (p:=(a_ wo.heap.size 1)) (by simp)];simp[go_sem],by rw[hW.cell (p:=(a_ wo.heap.size 2)) (by simp)];simp[go_sem],by rw[hW.cell (p:=(a_ wo.heap.size 3)) (by simp)];simp[go_sem],by rw[hW.cell (p:=(a_ wo.heap.size 4)) (by simp)];simp[go_sem],by rw[hW.cell (p:=(a_ wo.heap.size 5)) (by simp)];simp[go_sem],by rw[hW.cell (p:=(a_ wo.heap.size 6)) (by simp)];simp[go_sem],by rw[hW.cell (p:=(a_ wo.heap.size 7)) (by simp)];simp[go_sem],by rw[hW.cell (p:=(a_ wo.heap.size 8)) (by simp)];simp[go_sem]⟩,(r_.alloc n_ _).trans (hW.mono (by omega))⟩
         have HX:=af hx;clear hx;go_wp2_with fail
         clear h5 h6 h7 h8 c0 c1 c2 c3 c4 u0;go_loopg [93] ns.length (fun g i wr=>∃(k:Nat),k+g=ns.length/\i=i_ k/\Below (wo.heap.size+1) (wo.alloc (.cells #[.string nm,i_ ln,i_ pr,.bool rs,i_ rg,.slice a5 us.length c5,.slice a6 cs.length c6,.slice a7 is.length c7,.slice a8 ns.length c8] 43)) wr/\Hid (∀ q,q<k->jY l f q=false))
         case atStart=>exact⟨0,by omega,rfl,r_,fun _ h=>absurd h (Nat.not_lt_zero _)⟩
         case round=>
          obtain⟨q,hq,rfl,hW,dZ⟩:=hrel;obtain⟨⟨b0,b1,b2,b3,b4,b5,b6,b7,b8⟩,ir⟩:=aa P0 wr hW;by_cases fw:q<ns.length
          ·have qI:=af (aa mK q);have CO:=af (vr nm ln pr rs rg us cs is ns a5 a6 a7 a8 c5 c6 c7 c8 q S wr ((aa VV).keep ir (aa LZ)) (fun b h=>l_ (aa LZ b h) ir.size) fw (aa xm) (aa HIL));have xq:=af ir;have LW:=af hW;have En:=hW.size;generalize kJ rg is.length (ns[q]?.getD bE.z) q=res at *;clear ir hW;cases res
           ·have FI:Hid (fl l (oU l) (jY l) f q):=eg ax (by rw[ox.out];exact fw) (aa qI) dD.out dZ.out;go_wp2_with fail
            refine(aa CO).mono ?_;rintro e w3 ⟨rfl,bY⟩;have xf:=(aa HX).below' ((aa xq).trans (bY.mono (aa xq).size));clear bY;go_wp2_with fail
            refine(cV _ _ _ _).mono ?_;rintro e w2 ⟨rfl,bo⟩;have aO:=xf.below' bo;have r0:=aO.res 0 (by omega);have r1:=aO.res 1 (by omega);have r2:=aO.res 2 (by omega);have z0:=aO.frozen 0;have z1:=aO.frozen 1;have z2:=aO.frozen 2;have BB:Hid (∀ v0 v1 v2,b_ w (((w2.setCell (a_ (w.heap.size+1) 0) v0).setCell (a_ (w.heap.size+1) 1) v1).setCell (a_ (w.heap.size+1) 2) v2)):=fun v0 v1 v2=>aK aO v0 v1 v2;go_wp2_with fail
            refine bodyPost_ret (v:=.agg #[i_ 4,i_ f,i_ q]) (by simp[results,Tryz.results53,go_sem,r0,r1,r2]) rfl ⟨4,f,q,rfl,?_,BB.out _ _ _⟩;exact .inr (.inr (.inr (.inl ⟨aa HG,aa kn,aa Yd,rfl,f,q,rfl,rfl,aa FI⟩)))
           ·have NX:Hid (∀ j,j<q+1->jY l f j=false):=gH dZ.out (aa qI);go_wp2_with fail
            refine(aa CO).mono ?_;rintro e w3 ⟨rfl,bY⟩;have jg:=af ((aa LW).trans (bY.mono (by simp at En;omega)));clear bY;go_wp2_with fail
            go_roundg (ns.length-(q+1))
            case measure=>omega
            case rel=>exact⟨q+1,by omega,by go_num,aa jg,NX⟩
          ·have Ey:Hid (∀ f' p',f'<f+1->p'<oU l f'->jY l f' p'=false):=ii (l:=l) dD.out (fun p hp=>dZ.out p (by rw[ox.out]at hp;have hp:p<ns.length:=hp;omega));have BI:=af ((aa HX).below' ir);clear ir hW;go_wp2_with fail
           go_roundg (l.length-(f+1))
           case measure=>omega
           case rel=>exact⟨f+1,by omega,by go_num,aa BI,Ey⟩
        ·have NO4:Hid (rk l (oU l) (jY l)):=fun f' p' h1 h2=>dD.out f' p' (by omega) h2;have HX:=af hx;clear hx dD;go_wp2_with fail
         clear u0 hk ax;go_loopg [108] l.length (fun g i wr=>∃(k:Nat),k+g=l.length/\i=i_ k/\dP w a l.length c wr/\Hid (∀ f' p',f'<k->p'<j9 l f'->hZ l f' p'=false))
         case atStart=>exact⟨0,by omega,rfl,aa HX,fun _ _ h=>absurd h (Nat.not_lt_zero _)⟩
         case round=>
          clear HX;obtain⟨f,hk,rfl,hx,dD⟩:=hrel;have u0:=hx.unit;by_cases ax:f<l.length
          ·have xm:=af (jR (aa kn f ax));have ox:Hid (j9 l f=if(am l f).ins.length=0 then 1 else(am l f).ins.length):=rfl;have mK:Hid (∀ q,hZ l f q=if(am l f).ins.length=0 then true else !dr (am l f) l.length q):=fun _=>rfl;have CI:Hid (∀(W:World) (q:Nat),b_ w W->q<(am l f).ins.length->c_ 100 #[.agg #[.slice a l.length c],i_ f,i_ q] W fun e w'=>e=.returned (.bool (dr (am l f) l.length q))/\b_ W w'):=fun W q hW hq=>
            zW a l c f q S W ((aa HS).keep hW (aa HB)) (fun b h=>l_ (aa HB b h) hW.size) ax hq (aa xm)
           obtain⟨b,off,rfl,hb,aE⟩:=((aa HS).keep hx.old (aa HB)).2 (by omega);have N:aU wr S b (off+f * 9) (am l f):=aE f ax;clear aE;obtain⟨a5,c5,h5,H5⟩:=N.ups;obtain⟨a6,c6,h6,H6⟩:=N.consts;obtain⟨a7,c7,h7,H7⟩:=N.ins;obtain⟨a8,c8,h8,H8⟩:=N.named;have c0:=N.name;have c1:=N.line;have c2:=N.params;have c3:=N.rest;have c4:=N.regs;have jn:=H7.1;clear N H5 H6 H7 H8;obtain⟨ni,kp⟩:∃ ni,ni=(am l f).ins.length:=⟨_,rfl⟩;rw[<-kp]at h7 jn ox mK CI;clear kp;obtain⟨so,hso⟩:∃ so:Nat->Bool,so=fun q=>dr (am l f) l.length q:=⟨_,rfl⟩;have hsq:∀ q,dr (am l f) l.length q=so q:=fun q=>by rw[hso]
           simp only[hsq]at mK CI;clear hso hsq;generalize am l f=x at *;obtain⟨nm,ln,pr,rs,rg,us,cs,is,ns⟩:=x;simp only at *;by_cases hz:ni=0
           ·have hzb:((ni:Int)==0)=true:=by rw[hz];rfl
            have FI:Hid (fl l (j9 l) (hZ l) f 0):=eg ax (by rw[ox.out,if_pos hz];omega) (by rw[aa mK 0,if_pos hz]) dD.out (fun _ h=>absurd h (Nat.not_lt_zero _));have oy:=hx.alloc (.cells #[.string nm,i_ ln,i_ pr,.bool rs,i_ rg,.slice a5 us.length c5,.slice a6 cs.length c6,.slice a7 ni c7,.slice a8 ns.length c8] 43);clear hz hx;go_wp2_with fail
            refine(cV _ _ _ _).mono ?_;rintro e w2 ⟨rfl,bo⟩;have aO:=oy.below' bo;have r0:=aO.res 0 (by omega);have r1:=aO.res 1 (by omega);have r2:=aO.res 2 (by omega);have z0:=aO.frozen 0;have z1:=aO.frozen 1;have z2:=aO.frozen 2;have BB:Hid (∀ v0 v1 v2,b_ w (((w2.setCell (a_ (w.heap.size+1) 0) v0).setCell (a_ (w.heap.size+1) 1) v1).setCell (a_ (w.heap.size+1) 2) v2)):=fun v0 v1 v2=>aK aO v0 v1 v2;go_wp2_with fail
            refine bodyPost_ret (v:=.agg #[i_ 5,i_ f,i_ 0]) (by simp[results,Tryz.results53,go_sem,r0,r1,r2]) rfl ⟨5,f,0,rfl,?_,BB.out _ _ _⟩;exact .inr (.inr (.inr (.inr (.inl ⟨aa HG,aa kn,aa Yd,aa NO4,rfl,f,0,rfl,rfl,aa FI⟩))))
           have hzb:((ni:Int)==0)=false:=beq_eq_false_iff_ne.2 (by omega);have Z6:Hid (∀ q,hZ l f q=!so q):=fun q=>by rw[aa mK q,if_neg hz]
           have VN:Hid (j9 l f=ni):=by show _=_;rw[ox.out,if_neg hz]
           have oy:=hx.alloc (.cells #[.string nm,i_ ln,i_ pr,.bool rs,i_ rg,.slice a5 us.length c5,.slice a6 cs.length c6,.slice a7 ni c7,.slice a8 ns.length c8] 43);have Mc:=af oy;clear hz hx oy mK ox;go_wp2_with fail
           clear h5 h6 h7 h8 c0 c1 c2 c3 c4 u0;go_loopg [122] ni (fun g i wr=>∃(k:Nat),k+g=ni/\i=i_ k/\dP w (some (a_ b off)) l.length c wr/\Hid (∀ q,q<k->hZ l f q=false))
           case atStart=>exact⟨0,by omega,rfl,aa Mc,fun _ h=>absurd h (Nat.not_lt_zero _)⟩
           case round=>
            clear Mc;obtain⟨q,hq,rfl,hx,dZ⟩:=hrel;have u0:=hx.unit;by_cases fw:q<ni
            ·have qI:=af (aa Z6 q);have CO:=af (aa CI wr q hx.old fw);generalize so q=res at *;cases res
             ·have FI:Hid (fl l (j9 l) (hZ l) f q):=eg ax (by rw[VN.out];exact fw) (aa qI) dD.out dZ.out;go_wp2_with fail
              refine(aa CO).mono ?_;rintro e w3 ⟨rfl,bY⟩;have xf:=hx.below' bY;clear bY;go_wp2_with fail
              refine(cV _ _ _ _).mono ?_;rintro e w2 ⟨rfl,bo⟩;have aO:=xf.below' bo;have r0:=aO.res 0 (by omega);have r1:=aO.res 1 (by omega);have r2:=aO.res 2 (by omega);have z0:=aO.frozen 0;have z1:=aO.frozen 1;have z2:=aO.frozen 2;have BB:Hid (∀ v0 v1 v2,b_ w (((w2.setCell (a_ (w.heap.size+1) 0) v0).setCell (a_ (w.heap.size+1) 1) v1).setCell (a_ (w.heap.size+1) 2) v2)):=fun v0 v1 v2=>aK aO v0 v1 v2;go_wp2_with fail
              refine bodyPost_ret (v:=.agg #[i_ 5,i_ f,i_ q]) (by simp[results,Tryz.results53,go_sem,r0,r1,r2]) rfl ⟨5,f,q,rfl,?_,BB.out _ _ _⟩;exact .inr (.inr (.inr (.inr (.inl ⟨aa HG,aa kn,aa Yd,aa NO4,rfl,f,q,rfl,rfl,aa FI⟩))))
             ·have NX:Hid (∀ j,j<q+1->hZ l f j=false):=gH dZ.out (aa qI);go_wp2_with fail
              refine(aa CO).mono ?_;rintro e w3 ⟨rfl,bY⟩;have X6:=af (hx.below' bY);clear bY;go_wp2_with fail
              go_roundg (ni-(q+1))
              case measure=>omega
              case rel=>exact⟨q+1,by omega,by go_num,aa X6,NX⟩
            ·have Ey:Hid (∀ f' p',f'<f+1->p'<j9 l f'->hZ l f' p'=false):=ii (l:=l) dD.out (fun p hp=>dZ.out p (by rw[VN.out]at hp;omega));have BI:=af hx;go_wp2_with fail
             go_roundg (l.length-(f+1))
             case measure=>omega
             case rel=>exact⟨f+1,by omega,by go_num,aa BI,Ey⟩
          ·have SB:Hid (rk l (j9 l) (hZ l)):=fun f' p' h1 h2=>dD.out f' p' (by omega) h2;have r0:=hx.res 0 (by omega);have r1:=hx.res 1 (by omega);have r2:=hx.res 2 (by omega);have z0:=hx.frozen 0;have z1:=hx.frozen 1;have z2:=hx.frozen 2;have BB:Hid (∀ v0 v1 v2,b_ w (((wr.setCell (a_ (w.heap.size+1) 0) v0).setCell (a_ (w.heap.size+1) 1) v1).setCell (a_ (w.heap.size+1) 2) v2)):=fun v0 v1 v2=>aK hx v0 v1 v2;clear dD;go_wp2_with fail
           refine bodyPost_ret (v:=.agg #[i_ 0,i_ 0,i_ 0]) (by simp[results,Tryz.results53,go_sem,r0,r1,r2]) rfl ⟨0,0,0,rfl,?_,BB.out _ _ _⟩;exact .inr (.inr (.inr (.inr (.inr ⟨aa HG,aa kn,aa Yd,aa NO4,aa SB,rfl,rfl,rfl⟩))))
end Go.Proofs.YtcjfjflljdojlaaGreatDoor
