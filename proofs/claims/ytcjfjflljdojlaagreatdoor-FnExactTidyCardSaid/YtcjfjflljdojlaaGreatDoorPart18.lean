import Derived.Test.YtcjfjflljdojlaaGreatDoorPart17
import Derived.Deep.LoopGhost
set_option linter.unusedSimpArgs false
set_option linter.unusedVariables false
set_option maxHeartbeats 8000000
set_option maxRecDepth 100000
namespace Go.Proofs.YtcjfjflljdojlaaGreatDoor
open Go.RowKit
attribute [local go_sem] cp
def mb (l:List ak)(c f n:Int):Prop:=
 (c=3/\∃ F P:Nat,f=F/\n=P/\fl l (oK l) (ku l) F P)\/(rk l (oK l) (ku l)/\c=0/\f=0/\n=0)
theorem sE (a:o_)(l:List ak)(c:Nat)(S:Nat->Prop)(w:World)(hs:ao w S a l)(hB:∀ b,S b->b<w.heap.size)(hl:aI l<=1048576) :
  c_ 72 #[.agg #[.slice a l.length c]] w fun e w'=>∃ x f n,e=.returned (.agg #[i_ x,i_ f,i_ n])/\mb l x f n/\b_ w w':=by
 have hn:=hs.1;have HS:=af hs;have HB:=af hB;have X0:Hid (dP w a l.length c (kd w a l.length c)):=dP.start w a l.length c;clear hs hB hl;go_enter Tryz.func72,Tryz.ntmps72;go_wp2_with fail
 go_loopg [10] l.length (fun g i wr=>∃(k:Nat),k+g=l.length/\i=i_ k/\dP w a l.length c wr/\Hid (∀ f' p',f'<k->p'<oK l f'->ku l f' p'=false))
 case atStart=>exact⟨0,by omega,rfl,X0.out,fun _ _ h=>absurd h (Nat.not_lt_zero _)⟩
 case round=>
  clear X0;obtain⟨f,hk,rfl,hx,dD⟩:=hrel;have u0:=hx.unit;by_cases ax:f<l.length
  ·obtain⟨b,off,rfl,hb,aE⟩:=((aa HS).keep hx.old (aa HB)).2 (by omega);have N:aU wr S b (off+f * 9) (am l f):=aE f ax;have LZ:Hid (∀ b,S b->b<wr.heap.size):=fun b h=>l_ (aa HB b h) hx.old.size;clear aE;obtain⟨x,mi⟩:∃ x,x=am l f:=⟨_,rfl⟩;have mK:Hid (∀ q,ku l f q=!dv ((am l f).consts[q]?.getD cS.z)):=fun _=>rfl;have ox:Hid (oK l f=(am l f).consts.length):=rfl;rw[<-mi]at N mK ox;clear mi;obtain⟨a5,c5,h5,H5⟩:=N.ups;obtain⟨a6,c6,h6,H6⟩:=N.consts;obtain⟨a7,c7,h7,H7⟩:=N.ins;obtain⟨a8,c8,h8,H8⟩:=N.named;have c0:=N.name;have c1:=N.line;have c2:=N.params;have c3:=N.rest;have c4:=N.regs;have VV:=af H6;have YE:=H6.1;have hu:=H5.1;have qJ:=H6.1;have jn:=H7.1;clear N H5 H6 H7 H8;obtain⟨nm,ln,pr,rs,rg,us,cs,is,ns⟩:=x;simp only at *;obtain⟨wo,rfl⟩:∃ wo,wo=wr:=⟨wr,rfl⟩;have P0:Hid (∀ W,Below (wo.heap.size+1) (wo.alloc (.cells #[.string nm,i_ ln,i_ pr,.bool rs,i_ rg,.slice a5 us.length c5,.slice a6 cs.length c6,.slice a7 is.length c7,.slice a8 ns.length c8] 43)) W->gN W wo.heap.size nm ln pr rs rg (.slice a5 us.length c5) (.slice a6 cs.length c6) (.slice a7 is.length c7) (.slice a8 ns.length c8)/\b_ wo W):=fun W hW=>
    ⟨gN.keep (by refine⟨?_,?_,?_,?_,?_,?_,?_,?_,?_⟩<;>simp[go_sem]) hW (by omega),(r_.alloc n_ _).trans (hW.mono (by omega))⟩
   have HX:=af hx;clear hx;go_wp2_with fail
   clear h5 h6 h7 h8 c0 c1 c2 c3 c4 u0;go_loopg [18] cs.length (fun g i wr=>∃(k:Nat),k+g=cs.length/\i=i_ k/\Below (wo.heap.size+1) (wo.alloc (.cells #[.string nm,i_ ln,i_ pr,.bool rs,i_ rg,.slice a5 us.length c5,.slice a6 cs.length c6,.slice a7 is.length c7,.slice a8 ns.length c8] 43)) wr/\Hid (∀ q,q<k->ku l f q=false))
   case atStart=>exact⟨0,by omega,rfl,r_,fun _ h=>absurd h (Nat.not_lt_zero _)⟩
   case round=>
    obtain⟨q,hq,rfl,hW,dZ⟩:=hrel;obtain⟨⟨b0,b1,b2,b3,b4,b5,b6,b7,b8⟩,ir⟩:=aa P0 wr hW;by_cases fw:q<cs.length
    ·have LW:=af hW;have xq:=af ir;have En:wo.heap.size+1<=wr.heap.size:=by have:=hW.size;simpa using this
     have kO:wo.heap.size<wr.heap.size:=by omega
     have FI:Hid (ku l f q=true->mb l 3 f q):=fun h=>.inl ⟨rfl,f,q,rfl,rfl,eg ax (by rw[ox.out];exact fw) h dD.out dZ.out⟩;have NX:Hid (ku l f q=false->∀ j,j<q+1->ku l f j=false):=fun h=>gH dZ.out h;have uu:=(aa HX).unit;have uu2:wr.cell? (a_ w.heap.size 0)=some (.slice (some (a_ b off)) l.length c):=(ir.cell (p:=(a_ w.heap.size 0)) (by have:=(aa HX).size;show w.heap.size<wo.heap.size;omega)).trans uu;have huw:w.heap.size<wr.heap.size:=by have:=(aa HX).size;omega
     clear ir hW uu;obtain⟨bv,yT,rfl,Hn,Ea⟩:=((aa VV).keep (aa xq) (aa LZ)).2 (by omega);have M:=Ea q fw;clear Ea;have BQ:=aa mK q;obtain⟨y,uZ⟩:∃ y,y=cs[q]?.getD cS.z:=⟨_,rfl⟩;rw[<-uZ]at M BQ;have qI:=af BQ;clear uZ BQ;have d0:=M.kind;have d1:=M.num;have d2:=M.flt;have d3:=M.str;have d4:=M.ref;have CO:Hid (∀ W:World,c_ 113 #[.agg #[i_ y.kind,i_ y.num,.float .f64 y.flt,.string y.str,i_ y.ref]] W fun e w'=>e=.returned (.bool (dv y))/\b_ W w'):=fun W=>vF y W M.strs;have wn:=M.strs;clear M;generalize dv y=res at *;obtain⟨Wf,Zz,aau,aaO,aaV⟩:=y;simp only at *;cases res
     ·have RR:Hid (mb l 3 f q):=aa FI qI.out;clear FI NX;go_wp2_with fail
      refine(aa CO _).mono ?_;rintro e w2 ⟨rfl,bo⟩;have aO:=(aa HX).below' (((aa xq).alloc (by omega) _).trans (bo.mono (by simp;omega)));clear bo;have r0:=aO.res 0 (by omega);have r1:=aO.res 1 (by omega);have r2:=aO.res 2 (by omega);have z0:=aO.frozen 0;have z1:=aO.frozen 1;have z2:=aO.frozen 2;have BB:Hid (∀ v0 v1 v2,b_ w (((w2.setCell (a_ (w.heap.size+1) 0) v0).setCell (a_ (w.heap.size+1) 1) v1).setCell (a_ (w.heap.size+1) 2) v2)):=fun v0 v1 v2=>aK aO v0 v1 v2;go_wp2_with fail
      exact bodyPost_ret (v:=.agg #[i_ 3,i_ f,i_ q]) (by simp[results,Tryz.results72,go_sem,r0,r1,r2]) rfl ⟨3,f,q,rfl,aa RR,BB.out _ _ _⟩
     ·have RR:Hid (∀ j,j<q+1->ku l f j=false):=aa NX qI.out;clear FI NX;go_wp2_with fail
      refine(aa CO _).mono ?_;rintro e w2 ⟨rfl,bo⟩;have jg:=af (((aa LW).alloc (by omega) _).trans (bo.mono (by simp;omega)));clear bo;go_wp2_with fail
      go_roundg (cs.length-(q+1))
      case measure=>omega
      case rel=>exact⟨q+1,by omega,by go_num,aa jg,RR⟩
    ·have Ey:Hid (∀ f' p',f'<f+1->p'<oK l f'->ku l f' p'=false):=ii (l:=l) dD.out (fun p hp=>dZ.out p (by rw[ox.out]at hp;have hp:p<cs.length:=hp;omega));have BI:=af ((aa HX).below' ir);clear ir hW;go_wp2_with fail
     go_roundg (l.length-(f+1))
     case measure=>omega
     case rel=>exact⟨f+1,by omega,by go_num,aa BI,Ey⟩
  ·have NO:Hid (mb l 0 0 0):=.inr ⟨fun f' p' h1 h2=>dD.out f' p' (by omega) h2,rfl,rfl,rfl⟩;obtain⟨w2,rfl⟩:∃ w2,w2=wr:=⟨wr,rfl⟩;have aO:=hx;clear hx dD;have r0:=aO.res 0 (by omega);have r1:=aO.res 1 (by omega);have r2:=aO.res 2 (by omega);have z0:=aO.frozen 0;have z1:=aO.frozen 1;have z2:=aO.frozen 2;have BB:Hid (∀ v0 v1 v2,b_ w (((w2.setCell (a_ (w.heap.size+1) 0) v0).setCell (a_ (w.heap.size+1) 1) v1).setCell (a_ (w.heap.size+1) 2) v2)):=fun v0 v1 v2=>aK aO v0 v1 v2;go_wp2_with fail
   exact bodyPost_ret (v:=.agg #[i_ 0,i_ 0,i_ 0]) (by simp[results,Tryz.results72,go_sem,r0,r1,r2]) rfl ⟨0,0,0,rfl,aa NO,BB.out _ _ _⟩
def ll (l:List ak)(c f n:Int):Prop:=
 (c=4/\∃ F P:Nat,f=F/\n=P/\fl l (oU l) (jY l) F P)\/(rk l (oU l) (jY l)/\c=0/\f=0/\n=0)
theorem tC (a:o_)(l:List ak)(c:Nat)(S:Nat->Prop)(w:World)(hs:ao w S a l)(hB:∀ b,S b->b<w.heap.size)(hl:aI l<=1048576)(heads:km l) :
  c_ 73 #[.agg #[.slice a l.length c]] w fun e w'=>∃ x f n,e=.returned (.agg #[i_ x,i_ f,i_ n])/\ll l x f n/\b_ w w':=by
 have hn:=hs.1;have HS:=af hs;have HB:=af hB;have kn:=af heads;clear heads;have X0:Hid (dP w a l.length c (kd w a l.length c)):=dP.start w a l.length c;clear hs hB hl;go_enter Tryz.func73,Tryz.ntmps73;go_wp2_with fail
 go_loopg [10] l.length (fun g i wr=>∃(k:Nat),k+g=l.length/\i=i_ k/\dP w a l.length c wr/\Hid (∀ f' p',f'<k->p'<oU l f'->jY l f' p'=false))
 case atStart=>exact⟨0,by omega,rfl,X0.out,fun _ _ h=>absurd h (Nat.not_lt_zero _)⟩
 case round=>
  clear X0;obtain⟨f,hk,rfl,hx,dD⟩:=hrel;have u0:=hx.unit;by_cases ax:f<l.length
  ·obtain⟨b,off,rfl,hb,aE⟩:=((aa HS).keep hx.old (aa HB)).2 (by omega);have N:aU wr S b (off+f * 9) (am l f):=aE f ax;have LZ:Hid (∀ b,S b->b<wr.heap.size):=fun b h=>l_ (aa HB b h) hx.old.size;have xm:=af (jR (aa kn f ax));clear aE;obtain⟨x,mi⟩:∃ x,x=am l f:=⟨_,rfl⟩;have mK:Hid (∀ q,jY l f q=!kJ (am l f).regs (am l f).ins.length ((am l f).named[q]?.getD bE.z) q):=fun _=>rfl;have ox:Hid (oU l f=(am l f).named.length):=rfl;rw[<-mi]at N mK ox xm;clear mi;obtain⟨a5,c5,h5,H5⟩:=N.ups;obtain⟨a6,c6,h6,H6⟩:=N.consts;obtain⟨a7,c7,h7,H7⟩:=N.ins;obtain⟨a8,c8,h8,H8⟩:=N.named;have c0:=N.name;have c1:=N.line;have c2:=N.params;have c3:=N.rest;have c4:=N.regs;have VV:=af H8;have YE:=H8.1;have hu:=H5.1;have qJ:=H6.1;have jn:=H7.1;clear N H5 H6 H7 H8;obtain⟨nm,ln,pr,rs,rg,us,cs,is,ns⟩:=x;simp only at *;obtain⟨wo,rfl⟩:∃ wo,wo=wr:=⟨wr,rfl⟩;have P0:Hid (∀ W,Below (wo.heap.size+1) (wo.alloc (.cells #[.string nm,i_ ln,i_ pr,.bool rs,i_ rg,.slice a5 us.length c5,.slice a6 cs.length c6,.slice a7 is.length c7,.slice a8 ns.length c8] 43)) W->gN W wo.heap.size nm ln pr rs rg (.slice a5 us.length c5) (.slice a6 cs.length c6) (.slice a7 is.length c7) (.slice a8 ns.length c8)/\b_ wo W):=fun W hW=>
    ⟨gN.keep (by refine⟨?_,?_,?_,?_,?_,?_,?_,?_,?_⟩<;>simp[go_sem]) hW (by omega),(r_.alloc n_ _).trans (hW.mono (by omega))⟩
   have HX:=af hx;clear hx;go_wp2_with fail
   clear h5 h6 h7 h8 c0 c1 c2 c3 c4 u0;go_loopg [18] ns.length (fun g i wr=>∃(k:Nat),k+g=ns.length/\i=i_ k/\Below (wo.heap.size+1) (wo.alloc (.cells #[.string nm,i_ ln,i_ pr,.bool rs,i_ rg,.slice a5 us.length c5,.slice a6 cs.length c6,.slice a7 is.length c7,.slice a8 ns.length c8] 43)) wr/\Hid (∀ q,q<k->jY l f q=false))
   case atStart=>exact⟨0,by omega,rfl,r_,fun _ h=>absurd h (Nat.not_lt_zero _)⟩
   case round=>
    obtain⟨q,hq,rfl,hW,dZ⟩:=hrel;obtain⟨⟨b0,b1,b2,b3,b4,b5,b6,b7,b8⟩,ir⟩:=aa P0 wr hW;by_cases fw:q<ns.length
    ·have LW:=af hW;have xq:=af ir;have En:wo.heap.size+1<=wr.heap.size:=by have:=hW.size;simpa using this
     have kO:wo.heap.size<wr.heap.size:=by omega
     have FI:Hid (jY l f q=true->ll l 4 f q):=fun h=>.inl ⟨rfl,f,q,rfl,rfl,eg ax (by rw[ox.out];exact fw) h dD.out dZ.out⟩;have NX:Hid (jY l f q=false->∀ j,j<q+1->jY l f j=false):=fun h=>gH dZ.out h;have uu:=(aa HX).unit;have uu2:wr.cell? (a_ w.heap.size 0)=some (.slice (some (a_ b off)) l.length c):=(ir.cell (p:=(a_ w.heap.size 0)) (by have:=(aa HX).size;show w.heap.size<wo.heap.size;omega)).trans uu;have huw:w.heap.size<wr.heap.size:=by have:=(aa HX).size;omega
     clear ir hW uu;obtain⟨bv,yT,rfl,Hn,Ea⟩:=((aa VV).keep (aa xq) (aa LZ)).2 (by omega);have M:=Ea q fw;clear Ea;have BQ:=aa mK q;obtain⟨y,uZ⟩:∃ y,y=ns[q]?.getD bE.z:=⟨_,rfl⟩;rw[<-uZ]at M BQ;have qI:=af BQ;clear uZ BQ;have d0:=M.name;have d1:=M.reg;have d2:=M.fro;have d3:=M.til;have wn:=M.names;clear M;by_cases hq5:q=500
     ·have RR:Hid (ll l 4 f q):=aa FI (by rw[qI.out,rt];simp[hq5]);have e5:((q:Int)==500)=true:=by simp;omega
      clear FI NX hq5;have pp:=(aa HX).below' (aa xq);have r0:=pp.res 0 (by omega);have r1:=pp.res 1 (by omega);have r2:=pp.res 2 (by omega);have z0:=pp.frozen 0;have z1:=pp.frozen 1;have z2:=pp.frozen 2;have yU:w.heap.size+1<wr.heap.size:=by have:=pp.size;omega
      have BB:Hid (∀ o v0 v1 v2,b_ w ((((wr.alloc o).setCell (a_ (w.heap.size+1) 0) v0).setCell (a_ (w.heap.size+1) 1) v1).setCell (a_ (w.heap.size+1) 2) v2)):=fun o v0 v1 v2=>aK (pp.alloc o) v0 v1 v2;have Rq:Hid (∀ o v0 v1 v2,b_ w ((((wr.setCell (a_ (w.heap.size+1) 0) v0).setCell (a_ (w.heap.size+1) 1) v1).setCell (a_ (w.heap.size+1) 2) v2).alloc o)):=fun o v0 v1 v2=>(aK pp v0 v1 v2).alloc (by simp;omega) o;clear pp;go_wp2_with fail
      refine bodyPost_ret (v:=.agg #[i_ 4,i_ f,i_ q]) (by simp[results,Tryz.results73,go_sem,r0,r1,r2,yU]) rfl ⟨4,f,q,rfl,aa RR,?_⟩
      first | exact BB.out _ _ _ _ | exact Rq.out _ _ _ _
     have hq6:q<500:=by
      by_cases h:q<500
      ·exact h
      ·have h1:=dZ.out 500 (by omega);rw[aa mK 500,rt]at h1;simp at h1
     have e5:((q:Int)==500)=false:=beq_eq_false_iff_ne.2 (by omega);have CO:Hid (∀ W:World,c_ 114 #[.agg #[.string y.name,i_ y.reg,i_ y.fro,i_ y.til],.agg #[.string nm,i_ ln,i_ pr,.bool rs,i_ rg,.slice a5 us.length c5,.slice a6 cs.length c6,.slice a7 is.length c7,.slice (some (a_ bv yT)) ns.length c8]] W fun e w'=>e=.returned (.bool (uf rg is.length y))/\b_ W w'):=fun W=>vz y.name y.reg y.fro y.til nm ln pr rs rg us cs is ns a5 a6 a7 (some (a_ bv yT)) c5 c6 c7 c8 W wn jn (aa xm);rw[rt,decide_eq_true (by omega:(q:Int)<500),Bool.true_and]at qI;clear hq5 hq6;generalize uf rg is.length y=res at *;obtain⟨yname,yreg,yfro,ytil⟩:=y;simp only at *;cases res
     ·have RR:Hid (ll l 4 f q):=aa FI qI.out;clear FI NX;go_wp2_with fail
      refine(aa CO _).mono ?_;rintro e w2 ⟨rfl,bo⟩;have aO:=(aa HX).below' (((aa xq).alloc (by omega) _).trans (bo.mono (by simp;omega)));clear bo;have r0:=aO.res 0 (by omega);have r1:=aO.res 1 (by omega);have r2:=aO.res 2 (by omega);have z0:=aO.frozen 0;have z1:=aO.frozen 1;have z2:=aO.frozen 2;have BB:Hid (∀ v0 v1 v2,b_ w (((w2.setCell (a_ (w.heap.size+1) 0) v0).setCell (a_ (w.heap.size+1) 1) v1).setCell (a_ (w.heap.size+1) 2) v2)):=fun v0 v1 v2=>aK aO v0 v1 v2;go_wp2_with fail
      exact bodyPost_ret (v:=.agg #[i_ 4,i_ f,i_ q]) (by simp[results,Tryz.results73,go_sem,r0,r1,r2]) rfl ⟨4,f,q,rfl,aa RR,BB.out _ _ _⟩
     ·have RR:Hid (∀ j,j<q+1->jY l f j=false):=aa NX qI.out;clear FI NX;go_wp2_with fail
      refine(aa CO _).mono ?_;rintro e w2 ⟨rfl,bo⟩;have jg:=af (((aa LW).alloc (by omega) _).trans (bo.mono (by simp;omega)));clear bo;go_wp2_with fail
      go_roundg (ns.length-(q+1))
      case measure=>omega
      case rel=>exact⟨q+1,by omega,by go_num,aa jg,RR⟩
    ·have Ey:Hid (∀ f' p',f'<f+1->p'<oU l f'->jY l f' p'=false):=ii (l:=l) dD.out (fun p hp=>dZ.out p (by rw[ox.out]at hp;have hp:p<ns.length:=hp;omega));have BI:=af ((aa HX).below' ir);clear ir hW;go_wp2_with fail
     go_roundg (l.length-(f+1))
     case measure=>omega
     case rel=>exact⟨f+1,by omega,by go_num,aa BI,Ey⟩
  ·have NO:Hid (ll l 0 0 0):=.inr ⟨fun f' p' h1 h2=>dD.out f' p' (by omega) h2,rfl,rfl,rfl⟩;obtain⟨w2,rfl⟩:∃ w2,w2=wr:=⟨wr,rfl⟩;have aO:=hx;clear hx dD;have r0:=aO.res 0 (by omega);have r1:=aO.res 1 (by omega);have r2:=aO.res 2 (by omega);have z0:=aO.frozen 0;have z1:=aO.frozen 1;have z2:=aO.frozen 2;have BB:Hid (∀ v0 v1 v2,b_ w (((w2.setCell (a_ (w.heap.size+1) 0) v0).setCell (a_ (w.heap.size+1) 1) v1).setCell (a_ (w.heap.size+1) 2) v2)):=fun v0 v1 v2=>aK aO v0 v1 v2;go_wp2_with fail
   exact bodyPost_ret (v:=.agg #[i_ 0,i_ 0,i_ 0]) (by simp[results,Tryz.results73,go_sem,r0,r1,r2]) rfl ⟨0,0,0,rfl,aa NO,BB.out _ _ _⟩
end Go.Proofs.YtcjfjflljdojlaaGreatDoor
