import Derived.Test.YtcjfjflljdojlaaGreatDoorPart18
import Derived.Deep.LoopGhost
set_option linter.unusedSimpArgs false
set_option linter.unusedVariables false
set_option maxHeartbeats 8000000
set_option maxRecDepth 100000
namespace Go.Proofs.YtcjfjflljdojlaaGreatDoor
open Go.RowKit
attribute [local go_sem] cp
def nN (l:List ak)(c f n:Int):Prop:=
 (c=5/\∃ F P:Nat,f=F/\n=P/\fl l (j9 l) (hZ l) F P)\/(rk l (j9 l) (hZ l)/\c=0/\f=0/\n=0)
theorem xL (a:Option Addr)(l:List ak)(c:Nat)(S:Nat->Prop)(w:World)(hs:ao w S a l)(hB:∀ b,S b->b<w.heap.size)(hl:aI l<=1048576)(heads:km l)(hG:gh w) :
  Calls Tryz.prog 74 #[.agg #[.slice a l.length c]] w fun e w'=>∃ x f n,e=.returned (.agg #[.int .i64 x,.int .i64 f,.int .i64 n])/\nN l x f n/\Below w.heap.size w w':=by
 have hn:=hs.1;have HS:=af hs;have HB:=af hB;have kn:=af heads;have HG:=af hG;clear heads hG;have X0:Hid (dP w a l.length c (kd w a l.length c)):=dP.start w a l.length c;clear hs hB hl;go_enter Tryz.func74,Tryz.ntmps74;go_wp2_with fail
 go_loopg [10] l.length (fun g i wr=>∃(k:Nat),k+g=l.length/\i=.int .i64 k/\dP w a l.length c wr/\Hid (∀ f' p',f'<k->p'<j9 l f'->hZ l f' p'=false))
 case atStart=>exact⟨0,by omega,rfl,X0.out,fun _ _ h=>absurd h (Nat.not_lt_zero _)⟩
 case round=>
  clear X0;obtain⟨f,hk,rfl,hx,dD⟩:=hrel;have u0:=hx.unit;by_cases ax:f<l.length
  ·obtain⟨b,off,rfl,hb,aE⟩:=((aa HS).keep hx.old (aa HB)).2 (by omega);have N:aU wr S b (off+f * 9) (am l f):=aE f ax;have LZ:Hid (∀ b,S b->b<wr.heap.size):=fun b h=>Nat.lt_of_lt_of_le (aa HB b h) hx.old.size;have xm:=af (jR (aa kn f ax));clear aE;obtain⟨x,mi⟩:∃ x,x=am l f:=⟨_,rfl⟩;have mK:Hid (∀ q,hZ l f q=if(am l f).ins.length=0 then true else !dr (am l f) l.length q):=fun _=>rfl;have Ll:Hid (j9 l f=if(am l f).ins.length=0 then 1 else(am l f).ins.length):=rfl;rw[<-mi]at N mK Ll xm;clear mi;obtain⟨a5,c5,h5,H5⟩:=N.ups;obtain⟨a6,c6,h6,H6⟩:=N.consts;obtain⟨a7,c7,h7,H7⟩:=N.ins;obtain⟨a8,c8,h8,H8⟩:=N.named;have c0:=N.name;have c1:=N.line;have c2:=N.params;have c3:=N.rest;have c4:=N.regs;have VV:=af H7;have YE:=H7.1;have hu:=H5.1;have qJ:=H6.1;have jn:=H7.1;clear N H5 H6 H7 H8;obtain⟨nm,ln,pr,rs,rg,us,cs,is,ns⟩:=x;simp only at *;obtain⟨wo,rfl⟩:∃ wo,wo=wr:=⟨wr,rfl⟩;have P0:Hid (∀ W,Below (wo.heap.size+1) (wo.alloc (.cells #[.string nm,.int .i64 ln,.int .i64 pr,.bool rs,.int .i64 rg,.slice a5 us.length c5,.slice a6 cs.length c6,.slice a7 is.length c7,.slice a8 ns.length c8] 43)) W->gN W wo.heap.size nm ln pr rs rg (.slice a5 us.length c5) (.slice a6 cs.length c6) (.slice a7 is.length c7) (.slice a8 ns.length c8)/\Below wo.heap.size wo W):=fun W hW=>
    ⟨gN.keep (by refine⟨?_,?_,?_,?_,?_,?_,?_,?_,?_⟩<;>simp[go_sem]) hW (by omega),((Below.refl _ _).alloc (Nat.le_refl _) _).trans (hW.mono (by omega))⟩
   have HX:=af hx;clear hx;by_cases h0:is.length=0
   ·have RR:Hid (nN l 5 f 0):=.inl ⟨rfl,f,0,rfl,rfl,eg ax (by rw[Ll.out,if_pos h0];omega) (by rw[aa mK 0,if_pos h0]) dD.out (fun _ h=>absurd h (Nat.not_lt_zero _))⟩;have e0:((is.length:Int)==0)=true:=by rw[h0];rfl
    have pp:=aa HX;clear h0 mK Ll;have r0:=pp.res 0 (by omega);have r1:=pp.res 1 (by omega);have r2:=pp.res 2 (by omega);have z0:=pp.frozen 0;have z1:=pp.frozen 1;have z2:=pp.frozen 2;have yU:w.heap.size+1<wo.heap.size:=by have:=pp.size;omega
    have BB:Hid (∀ o v0 v1 v2,Below w.heap.size w ((((wo.alloc o).setCell ⟨w.heap.size+1,0,none⟩ v0).setCell ⟨w.heap.size+1,1,none⟩ v1).setCell ⟨w.heap.size+1,2,none⟩ v2)):=fun o v0 v1 v2=>aK (pp.alloc o) v0 v1 v2;have Rq:Hid (∀ o v0 v1 v2,Below w.heap.size w ((((wo.setCell ⟨w.heap.size+1,0,none⟩ v0).setCell ⟨w.heap.size+1,1,none⟩ v1).setCell ⟨w.heap.size+1,2,none⟩ v2).alloc o)):=fun o v0 v1 v2=>(aK pp v0 v1 v2).alloc (by simp;omega) o;clear pp;go_wp2_with fail
    refine bodyPost_ret (v:=.agg #[.int .i64 5,.int .i64 f,.int .i64 0]) (by simp[results,Tryz.results74,go_sem,r0,r1,r2,yU]) rfl ⟨5,f,0,rfl,aa RR,?_⟩
    first | exact BB.out _ _ _ _ | exact Rq.out _ _ _ _
   have ox:Hid (j9 l f=is.length):=by show _=_;rw[Ll.out,if_neg h0]
   have e0:((is.length:Int)==0)=false:=beq_eq_false_iff_ne.2 (by omega);clear Ll;go_wp2_with fail
   clear e0;clear h5 h6 h7 h8 c0 c1 c2 c3 c4 u0;go_loopg [24] is.length (fun g i wr=>∃(k:Nat),k+g=is.length/\i=.int .i64 k/\Below (wo.heap.size+1) (wo.alloc (.cells #[.string nm,.int .i64 ln,.int .i64 pr,.bool rs,.int .i64 rg,.slice a5 us.length c5,.slice a6 cs.length c6,.slice a7 is.length c7,.slice a8 ns.length c8] 43)) wr/\Hid (∀ q,q<k->hZ l f q=false))
   case atStart=>exact⟨0,by omega,rfl,Below.refl _ _,fun _ h=>absurd h (Nat.not_lt_zero _)⟩
   case round=>
    obtain⟨q,hq,rfl,hW,dZ⟩:=hrel;obtain⟨⟨b0,b1,b2,b3,b4,b5,b6,b7,b8⟩,ir⟩:=aa P0 wr hW;by_cases fw:q<is.length
    ·have LW:=af hW;have xq:=af ir;have En:wo.heap.size+1<=wr.heap.size:=by have:=hW.size;simpa using this
     have kO:wo.heap.size<wr.heap.size:=by omega
     have FI:Hid (hZ l f q=true->nN l 5 f q):=fun h=>.inl ⟨rfl,f,q,rfl,rfl,eg ax (by rw[ox.out];exact fw) h dD.out dZ.out⟩;have NX:Hid (hZ l f q=false->∀ j,j<q+1->hZ l f j=false):=fun h=>gH dZ.out h;have uu:=(aa HX).unit;have uu2:wr.cell? ⟨w.heap.size,0,none⟩=some (.slice (some ⟨b,off,none⟩) l.length c):=(ir.cell (p:=⟨w.heap.size,0,none⟩) (by have:=(aa HX).size;show w.heap.size<wo.heap.size;omega)).trans uu;have huw:w.heap.size<wr.heap.size:=by have:=(aa HX).size;omega
     clear ir hW uu;obtain⟨bv,yT,rfl,Hn,Ea⟩:=((aa VV).keep (aa xq) (aa LZ)).2 (by omega);have M:=Ea q fw;clear Ea;have BQ:=aa mK q;obtain⟨y,uZ⟩:∃ y,y=is[q]?.getD aA.z:=⟨_,rfl⟩;rw[if_neg (by omega),Gj]at BQ;simp only at BQ;rw[<-uZ]at M BQ;have qI:=af BQ;clear uZ BQ;have d0:=M.op;have d1:=M.fa;have d2:=M.fb;have d3:=M.fc;have d4:=M.fd;clear M;have RT:=af ((aa HG).keep ((aa HX).old.trans ((aa xq).mono (aa HX).old.size)) (aa HG).pos);have CO:Hid (∀ W:World,Below wr.heap.size wr W->Calls Tryz.prog 115 #[.agg #[.int .i64 y.op,.int .i64 y.fa,.int .i64 y.fb,.int .i64 y.fc,.int .i64 y.fd],.agg #[.string nm,.int .i64 ln,.int .i64 pr,.bool rs,.int .i64 rg,.slice a5 us.length c5,.slice a6 cs.length c6,.slice (some ⟨bv,yT,none⟩) is.length c7,.slice a8 ns.length c8],.int .i64 l.length] W fun e w'=>e=.returned (.bool (si ⟨nm,ln,pr,rs,rg,us,cs,is,ns⟩ l.length y))/\Below W.heap.size W w'):=fun W hW=>Ar y.op y.fa y.fb y.fc y.fd l.length nm ln pr rs rg us cs is ns a5 a6 (some ⟨bv,yT,none⟩) a8 c5 c6 c7 c8 W ((aa RT).keep hW (aa RT).pos) hu qJ jn hn (aa xm);have GO:Hid (∀ W:World,Calls Tryz.prog 116 #[.agg #[.int .i64 y.op,.int .i64 y.fa,.int .i64 y.fb,.int .i64 y.fc,.int .i64 y.fd]] W fun e w'=>e=.returned (.bool (eF y.op))/\Below W.heap.size W w'):=fun W=>me y.op y.fa y.fb y.fc y.fd W;generalize si ⟨nm,ln,pr,rs,rg,us,cs,is,ns⟩ l.length y=res at *;generalize eF y.op=Iq at *;obtain⟨sS,Tj,Tq,TE,Tw⟩:=y;simp only at *;have hA:∀ o,Below wr.heap.size wr (wr.alloc o):=fun o=>(Below.refl _ _).alloc (Nat.le_refl _) o;cases res
     ·have RR:Hid (nN l 5 f q):=aa FI (by rw[qI.out];rfl);clear FI NX;go_wp2_with fail
      refine(aa CO _ (hA _)).mono ?_;rintro e w2 ⟨rfl,bo⟩;have aO:=(aa HX).below' (((aa xq).alloc (by omega) _).trans (bo.mono (by simp;omega)));clear bo;have r0:=aO.res 0 (by omega);have r1:=aO.res 1 (by omega);have r2:=aO.res 2 (by omega);have z0:=aO.frozen 0;have z1:=aO.frozen 1;have z2:=aO.frozen 2;have BB:Hid (∀ v0 v1 v2,Below w.heap.size w (((w2.setCell ⟨w.heap.size+1,0,none⟩ v0).setCell ⟨w.heap.size+1,1,none⟩ v1).setCell ⟨w.heap.size+1,2,none⟩ v2)):=fun v0 v1 v2=>aK aO v0 v1 v2;go_wp2_with fail
      exact bodyPost_ret (v:=.agg #[.int .i64 5,.int .i64 f,.int .i64 q]) (by simp[results,Tryz.results74,go_sem,r0,r1,r2]) rfl ⟨5,f,q,rfl,aa RR,BB.out _ _ _⟩
     by_cases hlast:q+1=is.length
     ·have e7:((q:Int)==(is.length:Int)-1)=true:=by simp;omega
      have VG:Hid (hZ l f q=Iq):=by show _=_;rw[qI.out,decide_eq_true hlast];simp
      have PC:Hid (∀ w2,Below (wr.heap.size+1) (wr.alloc (.cells #[.int .i64 sS,.int .i64 Tj,.int .i64 Tq,.int .i64 TE,.int .i64 Tw] 51)) w2->(w2.cell? ⟨wr.heap.size,0,none⟩=some (.int .i64 sS)/\w2.cell? ⟨wr.heap.size,1,none⟩=some (.int .i64 Tj)/\w2.cell? ⟨wr.heap.size,2,none⟩=some (.int .i64 Tq)/\w2.cell? ⟨wr.heap.size,3,none⟩=some (.int .i64 TE)/\w2.cell? ⟨wr.heap.size,4,none⟩=some (.int .i64 Tw))/\w2.cell? ⟨wo.heap.size,7,none⟩=some (.slice (some ⟨bv,yT,none⟩) is.length c7)/\wr.heap.size<w2.heap.size/\wo.heap.size<w2.heap.size):=fun w2 h2=>by
       have h3:=h2.size;simp at h3;refine⟨⟨?_,?_,?_,?_,?_⟩,?_,by omega,by omega⟩
       ·rw[h2.cell (p:=⟨wr.heap.size,0,none⟩) (by simp)];simp[go_sem]
       ·rw[h2.cell (p:=⟨wr.heap.size,1,none⟩) (by simp)];simp[go_sem]
       ·rw[h2.cell (p:=⟨wr.heap.size,2,none⟩) (by simp)];simp[go_sem]
       ·rw[h2.cell (p:=⟨wr.heap.size,3,none⟩) (by simp)];simp[go_sem]
       ·rw[h2.cell (p:=⟨wr.heap.size,4,none⟩) (by simp)];simp[go_sem]
       ·rw[h2.cell (p:=⟨wo.heap.size,7,none⟩) (by show wo.heap.size<wr.heap.size+1;omega),Below.cell (B:=wr.heap.size) ((Below.refl _ _).alloc (Nat.le_refl _) _) (p:=⟨wo.heap.size,7,none⟩) kO];exact b7
      clear qI hlast;cases Iq
      ·have RR:Hid (∀ j,j<q+1->hZ l f j=false):=aa NX VG.out;clear FI NX;go_wp2_with fail
       refine(aa CO _ (hA _)).mono ?_;rintro e w2 ⟨rfl,bo⟩;have bo:Below (wr.heap.size+1) (wr.alloc (.cells #[.int .i64 sS,.int .i64 Tj,.int .i64 Tq,.int .i64 TE,.int .i64 Tw] 51)) w2:=by simpa using bo
       obtain⟨⟨y0,y1,y2,y3,y4⟩,g7,gs1,gs2⟩:=aa PC w2 bo;go_wp2_with fail
       refine(aa GO _).mono ?_;rintro e w3 ⟨rfl,bY⟩;have jg:=af ((((aa LW).alloc (by omega) _).trans (bo.mono (by omega))).trans (bY.mono (by omega)));clear bo bY;go_wp2_with fail
       go_roundg (is.length-(q+1))
       case measure=>omega
       case rel=>exact⟨q+1,by omega,by go_num,aa jg,RR⟩
      ·have RR:Hid (nN l 5 f q):=aa FI VG.out;clear FI NX;go_wp2_with fail
       refine(aa CO _ (hA _)).mono ?_;rintro e w3 ⟨rfl,bY⟩;have bY:Below (wr.heap.size+1) (wr.alloc (.cells #[.int .i64 sS,.int .i64 Tj,.int .i64 Tq,.int .i64 TE,.int .i64 Tw] 51)) w3:=by simpa using bY
       obtain⟨⟨y0,y1,y2,y3,y4⟩,g7,gs1,gs2⟩:=aa PC w3 bY;go_wp2_with fail
       refine(aa GO _).mono ?_;rintro e w2 ⟨rfl,bo⟩;have aO:=(aa HX).below' ((((aa xq).alloc (by omega) _).trans (bY.mono (by omega))).trans (bo.mono (by omega)));clear bo bY;have r0:=aO.res 0 (by omega);have r1:=aO.res 1 (by omega);have r2:=aO.res 2 (by omega);have z0:=aO.frozen 0;have z1:=aO.frozen 1;have z2:=aO.frozen 2;have BB:Hid (∀ v0 v1 v2,Below w.heap.size w (((w2.setCell ⟨w.heap.size+1,0,none⟩ v0).setCell ⟨w.heap.size+1,1,none⟩ v1).setCell ⟨w.heap.size+1,2,none⟩ v2)):=fun v0 v1 v2=>aK aO v0 v1 v2;go_wp2_with fail
       exact bodyPost_ret (v:=.agg #[.int .i64 5,.int .i64 f,.int .i64 q]) (by simp[results,Tryz.results74,go_sem,r0,r1,r2]) rfl ⟨5,f,q,rfl,aa RR,BB.out _ _ _⟩
     ·have e7:((q:Int)==(is.length:Int)-1)=false:=beq_eq_false_iff_ne.2 (by omega);have RR:Hid (∀ j,j<q+1->hZ l f j=false):=aa NX (by rw[qI.out,decide_eq_false hlast];rfl);have PC:Hid (∀ w2,Below (wr.heap.size+1) (wr.alloc (.cells #[.int .i64 sS,.int .i64 Tj,.int .i64 Tq,.int .i64 TE,.int .i64 Tw] 51)) w2->w2.cell? ⟨wo.heap.size,7,none⟩=some (.slice (some ⟨bv,yT,none⟩) is.length c7)/\wr.heap.size<w2.heap.size/\wo.heap.size<w2.heap.size):=fun w2 h2=>by
       have h3:=h2.size;simp at h3;refine⟨?_,by omega,by omega⟩;rw[h2.cell (p:=⟨wo.heap.size,7,none⟩) (by show wo.heap.size<wr.heap.size+1;omega),Below.cell (B:=wr.heap.size) ((Below.refl _ _).alloc (Nat.le_refl _) _) (p:=⟨wo.heap.size,7,none⟩) kO];exact b7
      clear FI NX qI hlast;go_wp2_with fail
      refine(aa CO _ (hA _)).mono ?_;rintro e w2 ⟨rfl,bo⟩;have bo:Below (wr.heap.size+1) (wr.alloc (.cells #[.int .i64 sS,.int .i64 Tj,.int .i64 Tq,.int .i64 TE,.int .i64 Tw] 51)) w2:=by simpa using bo
      obtain⟨g7,gs1,gs2⟩:=aa PC w2 bo;have jg:=af (((aa LW).alloc (by omega) _).trans (bo.mono (by omega)));clear bo;go_wp2_with fail
      go_roundg (is.length-(q+1))
      case measure=>omega
      case rel=>exact⟨q+1,by omega,by go_num,aa jg,RR⟩
    ·have Ey:Hid (∀ f' p',f'<f+1->p'<j9 l f'->hZ l f' p'=false):=ii (l:=l) dD.out (fun p hp=>dZ.out p (by rw[ox.out]at hp;have hp:p<is.length:=hp;omega));have BI:=af ((aa HX).below' ir);clear ir hW;go_wp2_with fail
     go_roundg (l.length-(f+1))
     case measure=>omega
     case rel=>exact⟨f+1,by omega,by go_num,aa BI,Ey⟩
  ·have NO:Hid (nN l 0 0 0):=.inr ⟨fun f' p' h1 h2=>dD.out f' p' (by omega) h2,rfl,rfl,rfl⟩;obtain⟨w2,rfl⟩:∃ w2,w2=wr:=⟨wr,rfl⟩;have aO:=hx;clear hx dD;have r0:=aO.res 0 (by omega);have r1:=aO.res 1 (by omega);have r2:=aO.res 2 (by omega);have z0:=aO.frozen 0;have z1:=aO.frozen 1;have z2:=aO.frozen 2;have BB:Hid (∀ v0 v1 v2,Below w.heap.size w (((w2.setCell ⟨w.heap.size+1,0,none⟩ v0).setCell ⟨w.heap.size+1,1,none⟩ v1).setCell ⟨w.heap.size+1,2,none⟩ v2)):=fun v0 v1 v2=>aK aO v0 v1 v2;go_wp2_with fail
   exact bodyPost_ret (v:=.agg #[.int .i64 0,.int .i64 0,.int .i64 0]) (by simp[results,Tryz.results74,go_sem,r0,r1,r2]) rfl ⟨0,0,0,rfl,aa NO,BB.out _ _ _⟩
theorem yq (av:o_)(vs:List (Bool×Int))(cv:Nat)(nm:ByteArray)(ln pr:Int)(rs:Bool)(rg:Int)(us:List (Bool×Int))(cs:List cS)(is:List aA)(ns:List bE)(a5 a6 a7 a8:o_)(c5 c6 c7 c8:Nat)(S:Nat->Prop)(w:World)(hs:dH w S av vs)(hB:∀ b,S b->b<w.heap.size)(hu:us.length<=9223372036854775807)(ko:0<=rg/\rg<=250) :
  c_ 117 #[.slice av vs.length cv,.agg #[.string nm,i_ ln,i_ pr,.bool rs,i_ rg,.slice a5 us.length c5,.slice a6 cs.length c6,.slice a7 is.length c7,.slice a8 ns.length c8]] w fun e w'=>e=.returned (.bool (kz ⟨nm,ln,pr,rs,rg,us,cs,is,ns⟩ vs))/\b_ w w':=by
 have hn:=hs.1;have HS:=af hs;have HB:=af hB;have E:Hid (∀ u,nE ⟨nm,ln,pr,rs,rg,us,cs,is,ns⟩ u=if u.1 then dw u.2 0 (rg-1)else dw u.2 0 ((us.length:Int)-1)):=fun _=>rfl;have ET:Hid ((∀ j,j<vs.length->nE ⟨nm,ln,pr,rs,rg,us,cs,is,ns⟩ (vs[j]?.getD (false,0))=true)->kz ⟨nm,ln,pr,rs,rg,us,cs,is,ns⟩ vs=true):=fun h=>pz (fun j _ h2=>h j h2);have EF:Hid (∀ k,k<vs.length->nE ⟨nm,ln,pr,rs,rg,us,cs,is,ns⟩ (vs[k]?.getD (false,0))=false->kz ⟨nm,ln,pr,rs,rg,us,cs,is,ns⟩ vs=false):=fun k h1 h2=>oE (Nat.zero_le _) h1 h2;generalize kz ⟨nm,ln,pr,rs,rg,us,cs,is,ns⟩ vs=res at *;generalize nE ⟨nm,ln,pr,rs,rg,us,cs,is,ns⟩=UO at *;obtain⟨qK,vj⟩:=ko;have P0:Hid (∀ W,Below (w.heap.size+1) (w.alloc (.cells #[.string nm,i_ ln,i_ pr,.bool rs,i_ rg,.slice a5 us.length c5,.slice a6 cs.length c6,.slice a7 is.length c7,.slice a8 ns.length c8] 43)) W->gN W w.heap.size nm ln pr rs rg (.slice a5 us.length c5) (.slice a6 cs.length c6) (.slice a7 is.length c7) (.slice a8 ns.length c8)/\b_ w W):=fun W hW=>
  ⟨gN.keep (by refine⟨?_,?_,?_,?_,?_,?_,?_,?_,?_⟩<;>simp[go_sem]) hW (by omega),(r_.alloc n_ _).trans (hW.mono (by omega))⟩
 clear hs hB;go_enter Tryz.func117,Tryz.ntmps117;go_wp2_with fail
 go_loopg [10] vs.length (fun g i wr=>∃(k:Nat),k+g=vs.length/\i=i_ k/\Below (w.heap.size+1) (w.alloc (.cells #[.string nm,i_ ln,i_ pr,.bool rs,i_ rg,.slice a5 us.length c5,.slice a6 cs.length c6,.slice a7 is.length c7,.slice a8 ns.length c8] 43)) wr/\Hid (∀ j,j<k->UO (vs[j]?.getD (false,0))=true))
 case atStart=>exact⟨0,by omega,rfl,r_,fun j h=>absurd h (Nat.not_lt_zero _)⟩
 case round=>
  obtain⟨k,hk,rfl,hW,bN⟩:=hrel;obtain⟨⟨p0,p1,p2,p3,p4,p5,p6,p7,p8⟩,au⟩:=aa P0 wr hW;by_cases ax:k<vs.length
  ·obtain⟨bu,Zi,rfl,hbu,aE⟩:=((aa HS).keep au (aa HB)).2 (by omega);obtain⟨u0,u1⟩:=aE k ax;clear aE;have hcw:w.heap.size<wr.heap.size:=by have:=hW.size;simp at this;omega
   have eo:bu<wr.heap.size:=l_ (aa HB bu hbu) au.size;have NX:Hid (UO (vs[k]?.getD (false,0))=true->∀ j,j<k+1->UO (vs[j]?.getD (false,0))=true):=fun h j hj=>by
    by_cases e:j=k
    ·aj e;exact h
    ·exact bN.out j (by omega)
   have NF:=af (aa EF k ax);have EQ:=aa E (vs[k]?.getD (false,0));generalize vs[k]?.getD (false,0)=u at *;have XJ:=af EQ;have dR:Hid (∀ o,Below (w.heap.size+1) (w.alloc (.cells #[.string nm,i_ ln,i_ pr,.bool rs,i_ rg,.slice a5 us.length c5,.slice a6 cs.length c6,.slice a7 is.length c7,.slice a8 ns.length c8] 43)) (wr.alloc o)):=fun o=>hW.alloc (by omega) o;have dM:Hid (∀ o,b_ w (wr.alloc o)):=fun o=>au.alloc (by omega) o;clear EQ bN hW au;obtain⟨BN,ix⟩:=u;simp only at *;cases BN
   ·have Oe:Hid (UO (false,ix)=dw ix 0 ((us.length:Int)-1)):=by show _=_;rw[XJ.out];rfl
    clear XJ;cases hq:dw ix 0 ((us.length:Int)-1)
    ·have RR:Hid (res=false):=aa NF (by rw[Oe.out,hq]);have HQ:=af hq;clear hq Oe NX NF;go_wp2_with fail
     refine(az _ _ _ _).mono ?_;rintro e w' ⟨rfl,rfl⟩;rw[HQ.out];go_wp2_with fail
     go_ret;exact⟨al RR.out.symm,aa dM _⟩
    ·have RR:Hid (∀ j,j<k+1->UO (vs[j]?.getD (false,0))=true):=aa NX (by rw[Oe.out,hq]);have HQ:=af hq;clear hq Oe NX NF;go_wp2_with fail
     refine(az _ _ _ _).mono ?_;rintro e w' ⟨rfl,rfl⟩;rw[HQ.out];go_wp2_with fail
     go_roundg (vs.length-(k+1))
     case measure=>omega
     case rel=>exact⟨k+1,by omega,by go_num,aa dR _,RR⟩
   ·have Oe:Hid (UO (true,ix)=dw ix 0 (rg-1)):=by show _=_;rw[XJ.out];rfl
    clear XJ;cases hq:dw ix 0 (rg-1)
    ·have RR:Hid (res=false):=aa NF (by rw[Oe.out,hq]);have HQ:=af hq;clear hq Oe NX NF;go_wp2_with fail
     refine(az _ _ _ _).mono ?_;rintro e w' ⟨rfl,rfl⟩;rw[HQ.out];go_wp2_with fail
     go_ret;exact⟨al RR.out.symm,aa dM _⟩
    ·have RR:Hid (∀ j,j<k+1->UO (vs[j]?.getD (false,0))=true):=aa NX (by rw[Oe.out,hq]);have HQ:=af hq;clear hq Oe NX NF;go_wp2_with fail
     refine(az _ _ _ _).mono ?_;rintro e w' ⟨rfl,rfl⟩;rw[HQ.out];go_wp2_with fail
     go_roundg (vs.length-(k+1))
     case measure=>omega
     case rel=>exact⟨k+1,by omega,by go_num,aa dR _,RR⟩
  ·have RR:Hid (res=true):=aa ET (fun j hj=>bN.out j (by omega));go_wp2_with fail
   go_ret;exact⟨al RR.out.symm,au⟩
end Go.Proofs.YtcjfjflljdojlaaGreatDoor
