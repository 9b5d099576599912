import Derived.Test.YtcjfjflljdojlaaGreatDoorPart19
import Derived.Deep.LoopGhost
import Derived.Deep.CutRange
set_option linter.unusedSimpArgs false
set_option linter.unusedVariables false
set_option maxHeartbeats 16000000
set_option maxRecDepth 100000
namespace Go.Proofs.YtcjfjflljdojlaaGreatDoor
open Go.RowKit
attribute [local go_sem] cp
theorem dP.drewN {w:World}{a:o_}{n c:Nat}{wr:World}(h:dP w a n c wr)(k:Nat):dP w a n c (wr.drewN k):=⟨h.below.trans (ay _ _ _)⟩
structure oY (w:World)(a:o_)(nl c D:Nat)(m:Nat->Nat)(wr:World):Prop where
 box:dP w a nl c wr
 row:wr.rowIs D 3 nl (fun j=>i_ (m j:Nat))
 n0:w.heap.size+2<=D
section
variable {w:World} {a:o_} {nl c D:Nat} {m m':Nat->Nat} {wr w2:World}
theorem oY.below (h:oY w a nl c D m wr)(hb:b_ wr w2):oY w a nl c D m w2:=⟨h.box.below' hb,h.row.of_block (hb.block _ h.row.lt),h.n0⟩
theorem oY.alloc (h:oY w a nl c D m wr)(o:Obj):oY w a nl c D m (wr.alloc o):=h.below (r_.alloc n_ o)
theorem oY.congr (h:oY w a nl c D m wr)(hm:∀ i,i<nl->m' i=m i):oY w a nl c D m' wr:=⟨h.box,h.row.congr fun i hi=>by rw[hm i hi],h.n0⟩
theorem oY.set (h:oY w a nl c D m wr)(j:Nat)(v:Int)(hm:∀ i,i<nl->(m' i:Int)=if i=j then v else(m i:Int)):oY w a nl c D m' (wr.setCell (a_ D j) (i_ v)) where
 box:=⟨h.box.below.setCell h.n0 _⟩
 row:=(h.row.set j _).congr fun i hi=>by
  rw[hm i hi];by_cases e:i=j
  ·rw[if_pos e,if_pos e]
  ·rw[if_neg e,if_neg e]
 n0:=h.n0
end
theorem gN.setOther {W:World}{b D j:Nat}{nm:ByteArray}{ln pr:Int}{rs:Bool}{rg:Int}{s5 s6 s7 s8:Value}(h:gN W b nm ln pr rs rg s5 s6 s7 s8)(ei:D≠b)(v:Value):gN (W.setCell (a_ D j) v) b nm ln pr rs rg s5 s6 s7 s8:=by
 obtain⟨h0,h1,h2,h3,h4,h5,h6,h7,h8⟩:=h;have e:∀ o,(W.setCell (a_ D j) v).cell? (a_ b o)=W.cell? (a_ b o):=fun o=>by
  have abe:¬b=D:=fun h=>ei h.symm;simp[go_sem,ei,abe]
 exact⟨(e 0).trans h0,(e 1).trans h1,(e 2).trans h2,(e 3).trans h3,(e 4).trans h4,(e 5).trans h5,(e 6).trans h6,(e 7).trans h7,(e 8).trans h8⟩
def nQ (l:List ak)(c f n:Int):Prop:=
 (c=6/\∃ F P:Nat,f=F/\n=P/\fl l (mO l) (iB l) F P)\/(rk l (mO l) (iB l)/\c=0/\f=0/\n=0)
theorem xJ (a:o_)(l:List ak)(c:Nat)(S:Nat->Prop)(w:World)(hs:ao w S a l)(hB:∀ b,S b->b<w.heap.size)(hl:aI l<=1048576)(heads:km l)(no5:rk l (j9 l) (hZ l)) :
  c_ 75 #[.agg #[.slice a l.length c]] w fun e w'=>∃ x f n,e=.returned (.agg #[i_ x,i_ f,i_ n])/\nQ l x f n/\b_ w w':=by
 have hn:=hs.1;have py:l.length<=1048576:=by unfold aI at hl;omega
 have HS:=af hs;have HB:=af hB;have kn:=af heads;have SB:=af no5;have kH:=run_make_row' (P:=Tryz.prog) 70 3 (i_ 0) 8 Tryz.underlying70 (by kernel_rfl) rfl .i64 .i64 l.length (by omega) hn;have W0:Hid (oY w a l.length c (w.heap.size+1+1) (fun _=>0) ((kd w a l.length c).alloc (.cells (madeCells #[i_ 0] l.length) 3))):=
  ⟨(dP.start w a l.length c).alloc _,by
   have h:=World.rowIs_made (kd w a l.length c) (i_ 0) l.length 3;rw[nS]at h;exact h,by omega⟩
 clear hs hB hl heads no5;go_enter Tryz.func75,Tryz.ntmps75;go_wp2_with fail
 clear kH;go_loopg [15] l.length (fun g i wr=>∃(k:Nat),k+g=l.length/\i=i_ k/\oY w a l.length c (w.heap.size+1+1) (fun g=>(bm l k g).toNat) wr/\Hid (∀ f' p',f'<k->p'<mO l f'->iB l f' p'=false))
 case atStart=>exact⟨0,by omega,rfl,aa W0,fun _ _ h=>absurd h (Nat.not_lt_zero _)⟩
 case round=>
  clear W0;obtain⟨f,hk,rfl,hW,dD⟩:=hrel;have u0:=hW.box.unit;by_cases ax:f<l.length
  ·have xm:=af (jR (aa kn f ax));have Pt:Hid (∀ p,(aT (am l f) p).op≠11->∀ g,fS (am l f) (bm l f) (p+1) g=fS (am l f) (bm l f) p g):=fun p hp g=>by
    show(if _ then _ else _:Nat->Bool) g=_;rw[if_neg hp]
   have Pq:Hid (∀ p,(aT (am l f) p).op=11->∀ g:Nat,fS (am l f) (bm l f) (p+1) g=(fS (am l f) (bm l f) p g||decide ((aT (am l f) p).fb=(g:Int)))):=fun p hp g=>by
    show(if _ then _ else _:Nat->Bool) g=_;rw[if_pos hp]
   have E4:Hid (bm l (f+1)=fS (am l f) (bm l f) (am l f).ins.length):=rfl;have ox:Hid (mO l f=(am l f).ins.length):=rfl;have mK:Hid (∀ p,iB l f p=((aT (am l f) p).op==11&&(decide ((aT (am l f) p).fb<=f)||fS (am l f) (bm l f) p (aT (am l f) p).fb.toNat || !kz (am l f) (am l (aT (am l f) p).fb.toNat).ups))):=fun _=>rfl;have FB:Hid (∀ p,p<(am l f).ins.length->(aT (am l f) p).op=11->0<=(aT (am l f) p).fb/\(aT (am l f) p).fb<l.length):=fun p h1 h2=>Df (aa SB) ax h1 h2;have hW:oY w a l.length c (w.heap.size+1+1) (fun g=>(fS (am l f) (bm l f) 0 g).toNat) wr:=hW;obtain⟨b,off,rfl,hb,aE⟩:=((aa HS).keep hW.box.old (aa HB)).2 (by omega);have N:aU wr S b (off+f * 9) (am l f):=aE f ax;clear aE;obtain⟨x,mi⟩:∃ x,x=am l f:=⟨_,rfl⟩;rw[<-mi]at N mK ox FB E4 Pt Pq hW xm;clear mi;generalize fS x (bm l f)=MK at *;obtain⟨a5,c5,h5,H5⟩:=N.ups;obtain⟨a6,c6,h6,H6⟩:=N.consts;obtain⟨a7,c7,h7,H7⟩:=N.ins;obtain⟨a8,c8,h8,H8⟩:=N.named;have c0:=N.name;have c1:=N.line;have c2:=N.params;have c3:=N.rest;have c4:=N.regs;have VV:=af H7;have jn:=H7.1;have sT:=H5.1;clear N H5 H6 H7 H8;obtain⟨nm,ln,pr,rs,rg,us,cs,is,ns⟩:=x;simp only at *;obtain⟨Py,Eh⟩:∃ U:Nat->Bool,∀ g,kz ⟨nm,ln,pr,rs,rg,us,cs,is,ns⟩ (am l g).ups=U g:=⟨fun g=>kz ⟨nm,ln,pr,rs,rg,us,cs,is,ns⟩ (am l g).ups,fun _=>rfl⟩;have CU:Hid (∀(W:World) (g:Nat),b_ w W->g<l.length->∃ ag ng cg,W.cell? (a_ b (off+g * 9+5))=some (.slice ag ng cg)/\b<W.heap.size/\∀(W2:World) (ai:o_),b_ w W2->c_ 117 #[.slice ag ng cg,.agg #[.string nm,i_ ln,i_ pr,.bool rs,i_ rg,.slice a5 us.length c5,.slice a6 cs.length c6,.slice ai is.length c7,.slice a8 ns.length c8]] W2 fun e w'=>e=.returned (.bool (Py g))/\b_ W2 w'):=fun W g hWb hg=>by
    obtain⟨b',jM,he,dW,aE⟩:=((aa HS).keep hWb (aa HB)).2 (by omega);obtain⟨rfl,rfl⟩:b'=b/\jM=off:=by injection he with h;injection h with h1 h2;exact⟨h1.symm,h2.symm⟩
    have NG:aU W S b' (jM+g * 9) (am l g):=aE g hg;obtain⟨ag,cg,XO,HG⟩:=NG.ups;refine⟨ag,(am l g).ups.length,cg,XO,l_ (aa HB b' dW) hWb.size,fun W2 ai hW2=>?_⟩;rw[<-Eh g];have NG2:aU W2 S b' (jM+g * 9) (am l g):=by
     obtain⟨b2,Eo,he2,_,aab⟩:=((aa HS).keep hW2 (aa HB)).2 (by omega);obtain⟨rfl,rfl⟩:b2=b'/\Eo=jM:=by injection he2 with h;injection h with h1 h2;exact⟨h1.symm,h2.symm⟩
     exact aab g hg
    obtain⟨ag2,cg2,aaS,HG2⟩:=NG2.ups;have e1:=hWb.cell (p:=(a_ b' (jM+g * 9+5))) (aa HB b' dW);have e2:=hW2.cell (p:=(a_ b' (jM+g * 9+5))) (aa HB b' dW);rw[XO]at e1;rw[aaS,<-e1]at e2;obtain⟨rfl,_⟩:ag2=ag/\cg2=cg:=by simpa using e2
    exact yq ag2 (am l g).ups cg nm ln pr rs rg us cs is ns a5 a6 ai a8 c5 c6 c7 c8 S W2 HG2 (fun b h=>l_ (aa HB b h) hW2.size) sT (aa xm)
   simp only[Eh]at mK;clear Eh;obtain⟨wo,rfl⟩:∃ wo,wo=wr:=⟨wr,rfl⟩;have sM:=af (hW.alloc (.cells #[.string nm,i_ ln,i_ pr,.bool rs,i_ rg,.slice a5 us.length c5,.slice a6 cs.length c6,.slice a7 is.length c7,.slice a8 ns.length c8] 43));have P0:Hid (∀ W,Below (wo.heap.size+1) (wo.alloc (.cells #[.string nm,i_ ln,i_ pr,.bool rs,i_ rg,.slice a5 us.length c5,.slice a6 cs.length c6,.slice a7 is.length c7,.slice a8 ns.length c8] 43)) W->gN W wo.heap.size nm ln pr rs rg (.slice a5 us.length c5) (.slice a6 cs.length c6) (.slice a7 is.length c7) (.slice a8 ns.length c8)):=fun W hW=>
    gN.keep (by refine⟨?_,?_,?_,?_,?_,?_,?_,?_,?_⟩<;>simp[go_sem]) hW (by omega)
   have Bf:=hW.box.old.size;have tq:=hW.box.size;have HD:=af hW.row.lt;have PC0:=af (aa P0 _ r_);clear hW;go_wp2_with fail
   clear h5 h6 h7 h8 c0 c1 c2 c3 c4 u0;go_loopg [23] is.length (fun g i wr=>∃(k:Nat),k+g=is.length/\i=i_ k/\oY w (some (a_ b off)) l.length c (w.heap.size+1+1) (fun g=>(MK k g).toNat) wr/\Below w.heap.size wo wr/\Hid (gN wr wo.heap.size nm ln pr rs rg (.slice a5 us.length c5) (.slice a6 cs.length c6) (.slice a7 is.length c7) (.slice a8 ns.length c8)/\wo.heap.size<wr.heap.size)/\Hid (∀ q,q<k->iB l f q=false))
   case atStart=>exact⟨0,by omega,rfl,aa sM,r_.alloc Bf _,⟨aa PC0,by simp⟩,fun _ h=>absurd h (Nat.not_lt_zero _)⟩
   case round=>
    clear sM PC0;obtain⟨q,hq,rfl,hW,ir,vf,dZ⟩:=hrel;obtain⟨PCW,abF⟩:=vf.out;have Vc:=af PCW;by_cases fw:q<is.length
    ·obtain⟨bi,KI,rfl,YB,y6⟩:=((aa VV).keep ir (fun b h=>aa HB b h)).2 (by omega);have M:=y6 q fw;clear y6;have BQ:=aa mK q;have NQ:=aa Pt q;have SQ:=aa Pq q;have FQ:=aa FB q fw;obtain⟨y,uZ⟩:∃ y,y=is[q]?.getD aA.z:=⟨_,rfl⟩;have Po:aT ⟨nm,ln,pr,rs,rg,us,cs,is,ns⟩ q=y:=by rw[uZ];rfl
     rw[Po]at BQ NQ SQ FQ;rw[<-uZ]at M;clear uZ Po;have d0:=M.op;have d1:=M.fa;have d2:=M.fb;have d3:=M.fc;have d4:=M.fd;clear M;have qI:=af BQ;have WC:=af NQ;have Xv:=af SQ;have Ws:=af FQ;clear BQ NQ SQ FQ;obtain⟨sS,ya,yb,yc,yd⟩:=y;simp only at *;have hW1:=hW.alloc (.cells #[i_ sS,i_ ya,i_ yb,i_ yc,i_ yd] 51);have Eb:=af (ir.alloc (Nat.le_trans Bf ir.size) (.cells #[i_ sS,i_ ya,i_ yb,i_ yc,i_ yd] 51));have V4:Hid (gN (wr.alloc (.cells #[i_ sS,i_ ya,i_ yb,i_ yc,i_ yd] 51)) wo.heap.size nm ln pr rs rg (.slice a5 us.length c5) (.slice a6 cs.length c6) (.slice (some (a_ bi KI)) is.length c7) (.slice a8 ns.length c8)):=(aa Vc).keep (B:=wr.heap.size) (r_.alloc n_ _) abF;have lz:=af hW1;have u0:=hW.box.unit;have kq:=hW.box.size;have Nz:w.heap.size<wr.heap.size:=by omega
     have PM:Hid (iB l f q=true->nQ l 6 f q):=fun h=>.inl ⟨rfl,f,q,rfl,rfl,eg ax (by rw[ox.out];exact fw) h dD.out dZ.out⟩;have qL:Hid (iB l f q=false->∀ j,j<q+1->iB l f j=false):=fun h=>gH dZ.out h;by_cases fo:sS=11
     ·aj fo
      obtain⟨rB,fJ⟩:=aa Ws rfl;obtain⟨g,rfl⟩:=Int.eq_ofNat_of_zero_le rB;have fm:g<l.length:=by omega
      have Bb:iB l f q=(decide ((g:Int)<=f)||MK q g || !Py g):=aa qI;have ck:=hW.row.cell (i:=g) fm;have zk:=hW.row.frozen g;have Sl:=hW.row.lt;obtain⟨ag,ng,cg,cgu,eo,Pr⟩:=aa CU wr g hW.box.old fm;have Vh:=af Pr;clear Pr;obtain⟨p0,p1,p2,p3,p4,p5,p6,p7,p8⟩:=aa Vc;by_cases pw:(g:Int)<=f
      ·have RR:Hid (nQ l 6 f q):=aa PM (by rw[Bb,decide_eq_true pw];rfl);have Z1:decide (g<=f)=true:=decide_eq_true (by omega);have aP:g<=f:=by omega
       clear Bb hW hW1 ir PM qL;go_wp2_with fail
       go_quiet (fail)
       generalize BK:(wr.alloc (.cells #[i_ 11,i_ ya,i_ (g:Nat),i_ yc,i_ yd] 51)).drewN nq=w2 at *;have aO:dP w (some (a_ b off)) l.length c w2:=by rw[<-BK];exact(aa lz).box.drewN nq
       clear BK;have r0:=aO.res 0 (by omega);have r1:=aO.res 1 (by omega);have r2:=aO.res 2 (by omega);have z0:=aO.frozen 0;have z1:=aO.frozen 1;have z2:=aO.frozen 2;have BB:Hid (∀ v0 v1 v2,b_ w (((w2.setCell (a_ (w.heap.size+1) 0) v0).setCell (a_ (w.heap.size+1) 1) v1).setCell (a_ (w.heap.size+1) 2) v2)):=fun v0 v1 v2=>aK aO v0 v1 v2;go_wp2_with fail
       exact bodyPost_ret (v:=.agg #[i_ 6,i_ f,i_ q]) (by simp[results,Tryz.results75,go_sem,r0,r1,r2]) rfl ⟨6,f,q,rfl,aa RR,BB.out _ _ _⟩
      have Z1:decide (g<=f)=false:=decide_eq_false (by omega);have aP:¬g<=f:=by omega
      cases hm:MK q g
      case true=>
       have RR:Hid (nQ l 6 f q):=aa PM (by rw[Bb,hm];simp);have ck2:wr.cell? (a_ (w.heap.size+1+1) g)=some (i_ 1):=by rw[ck,hm];rfl
       clear ck Bb hW hW1 ir hm PM qL;go_wp2_with fail
       go_quiet (fail)
       generalize BK:(wr.alloc (.cells #[i_ 11,i_ ya,i_ (g:Nat),i_ yc,i_ yd] 51)).drewN nq=w2 at *;have aO:dP w (some (a_ b off)) l.length c w2:=by rw[<-BK];exact(aa lz).box.drewN nq
       clear BK;have r0:=aO.res 0 (by omega);have r1:=aO.res 1 (by omega);have r2:=aO.res 2 (by omega);have z0:=aO.frozen 0;have z1:=aO.frozen 1;have z2:=aO.frozen 2;have BB:Hid (∀ v0 v1 v2,b_ w (((w2.setCell (a_ (w.heap.size+1) 0) v0).setCell (a_ (w.heap.size+1) 1) v1).setCell (a_ (w.heap.size+1) 2) v2)):=fun v0 v1 v2=>aK aO v0 v1 v2;go_wp2_with fail
       exact bodyPost_ret (v:=.agg #[i_ 6,i_ f,i_ q]) (by simp[results,Tryz.results75,go_sem,r0,r1,r2]) rfl ⟨6,f,q,rfl,aa RR,BB.out _ _ _⟩
      have ck2:wr.cell? (a_ (w.heap.size+1+1) g)=some (i_ 0):=by rw[ck,hm];rfl
      have CO:Hid (∀ W:World,b_ wr W->c_ 117 #[.slice ag ng cg,.agg #[.string nm,i_ ln,i_ pr,.bool rs,i_ rg,.slice a5 us.length c5,.slice a6 cs.length c6,.slice (some (a_ bi KI)) is.length c7,.slice a8 ns.length c8]] W fun e w'=>e=.returned (.bool (Py g))/\b_ W w'):=fun W St=>aa Vh W _ (hW.box.old.trans (St.mono hW.box.old.size));have hA:∀ o,b_ wr (wr.alloc o):=fun o=>r_.alloc n_ o;cases hu:Py g
      ·have RR:Hid (nQ l 6 f q):=aa PM (by rw[Bb,hu];simp);rw[hu]at CO;clear ck Bb hW hW1 ir hm hu PM qL
       go_upto_region 9 with fail
       go_cut [54]from 24 to 65 (fun s wc=>s=.bool true/\Below (wr.alloc (.cells #[i_ 11,i_ ya,i_ (g:Nat),i_ yc,i_ yd] 51)).heap.size (wr.alloc (.cells #[i_ 11,i_ ya,i_ (g:Nat),i_ yc,i_ yd] 51)) wc)
       case first=>
        go_region_with (go_at_call 117;refine(aa CO _ (by exact(hA _).trans (r_.drew))).mono ?_;rintro e w2 ⟨rfl,bo⟩)
        all_goals (go_wp2_with fail)
        all_goals go_meet
        all_goals (case rel=>exact⟨rfl,r_.drew.trans bo⟩)
       case rest=>
        obtain⟨rfl,bo⟩:=hcut;have aO:=(aa lz).box.below' bo;have r0:=aO.res 0 (by omega);have r1:=aO.res 1 (by omega);have r2:=aO.res 2 (by omega);have z0:=aO.frozen 0;have z1:=aO.frozen 1;have z2:=aO.frozen 2;have BB:Hid (∀ v0 v1 v2,b_ w (((wc.setCell (a_ (w.heap.size+1) 0) v0).setCell (a_ (w.heap.size+1) 1) v1).setCell (a_ (w.heap.size+1) 2) v2)):=fun v0 v1 v2=>aK aO v0 v1 v2;go_wp2_with fail
        exact bodyPost_ret (v:=.agg #[i_ 6,i_ f,i_ q]) (by simp[results,Tryz.results75,go_sem,r0,r1,r2]) rfl ⟨6,f,q,rfl,aa RR,BB.out _ _ _⟩
      ·have RR:Hid (∀ j,j<q+1->iB l f j=false):=aa qL (by rw[Bb,hm,hu,decide_eq_false pw];rfl);have HMQ:Hid (MK q g=false):=hm;rw[hu]at CO;clear ck Bb hW hW1 ir hm hu PM qL
       go_upto_region 9 with fail
       go_cut [54]from 24 to 65 (fun s wc=>s=.bool false/\Below (wr.alloc (.cells #[i_ 11,i_ ya,i_ (g:Nat),i_ yc,i_ yd] 51)).heap.size (wr.alloc (.cells #[i_ 11,i_ ya,i_ (g:Nat),i_ yc,i_ yd] 51)) wc)
       case first=>
        go_region_with (go_at_call 117;refine(aa CO _ (by exact(hA _).trans (r_.drew))).mono ?_;rintro e w2 ⟨rfl,bo⟩)
        all_goals (go_wp2_with fail)
        all_goals go_meet
        all_goals (case rel=>exact⟨rfl,r_.drew.trans bo⟩)
       case rest=>
        obtain⟨rfl,ly⟩:=hcut;have hW3:=(aa lz).below ly;have QF:=af ((aa Eb).trans (ly.mono (by simp;omega)));have ZB:=af ((aa V4).keep ly (by simp;omega));have Iv:wr.heap.size<wc.heap.size:=by have:=ly.size;simp at this;omega
        have i2:wc.cell? (a_ wr.heap.size 2)=some (i_ (g:Int)):=by rw[ly.cell (p:=(a_ wr.heap.size 2)) (by simp)];simp[go_sem]
        have ck3:wc.cell? (a_ (w.heap.size+1+1) g)=some (i_ 0):=by have h:=hW3.row.cell (i:=g) fm;rw[HMQ.out]at h;exact h
        have zk3:=hW3.row.frozen g;have hD:=aa HD;have oo:=af hW3;clear ly hW3 ck2 zk;go_wp2_with fail
        go_roundg (is.length-(q+1))
        case measure=>omega
        case rel=>exact⟨q+1,by omega,by go_num,(aa oo).set g 1 (fun i hi=>by
          rw[aa Xv (by first | rfl | trivial) i];by_cases e:i=g
          ·aj e;rw[if_pos rfl,HMQ.out];simp
          ·rw[if_neg e,decide_eq_false (by omega)];simp),(aa QF).setCell (show w.heap.size<=w.heap.size+1+1 by omega) _,⟨(aa ZB).setOther (show w.heap.size+1+1≠wo.heap.size by omega) _,by simp;omega⟩,RR⟩
     ·have UX:(sS != 11)=true:=by simpa using fo
      have RR:Hid (∀ j,j<q+1->iB l f j=false):=aa qL (by rw[aa qI,beq_eq_false_iff_ne.2 fo];rfl);have jm:Hid (oY w (some (a_ b off)) l.length c (w.heap.size+1+1) (fun g=>(MK (q+1) g).toNat) (wr.alloc (.cells #[i_ sS,i_ ya,i_ yb,i_ yc,i_ yd] 51))):=hW1.congr fun i _=>by rw[aa WC fo i]
      clear hW hW1 ir fo PM qL;go_wp2_with fail
      go_roundg (is.length-(q+1))
      case measure=>omega
      case rel=>exact⟨q+1,by omega,by go_num,aa jm,aa Eb,⟨aa V4,by simp;omega⟩,RR⟩
    ·have Ey:Hid (∀ f' p',f'<f+1->p'<mO l f'->iB l f' p'=false):=ii (l:=l) dD.out (fun p hp=>dZ.out p (by rw[ox.out]at hp;have hp:p<is.length:=hp;omega));have mz:q=is.length:=by omega
     have lD:Hid (oY w (some (a_ b off)) l.length c (w.heap.size+1+1) (fun g=>(bm l (f+1) g).toNat) wr):=by
      show oY _ _ _ _ _ _ _;rw[E4.out];show oY _ _ _ _ _ (fun g=>(MK is.length g).toNat) _;rw[<-mz];exact hW
     clear hW ir mz vf Vc PCW;go_wp2_with fail
     go_roundg (l.length-(f+1))
     case measure=>omega
     case rel=>exact⟨f+1,by omega,by go_num,aa lD,Ey⟩
  ·have NO:Hid (nQ l 0 0 0):=.inr ⟨fun f' p' h1 h2=>dD.out f' p' (by omega) h2,rfl,rfl,rfl⟩;obtain⟨w2,rfl⟩:∃ w2,w2=wr:=⟨wr,rfl⟩;have aO:=hW.box;clear hW dD;have r0:=aO.res 0 (by omega);have r1:=aO.res 1 (by omega);have r2:=aO.res 2 (by omega);have z0:=aO.frozen 0;have z1:=aO.frozen 1;have z2:=aO.frozen 2;have BB:Hid (∀ v0 v1 v2,b_ w (((w2.setCell (a_ (w.heap.size+1) 0) v0).setCell (a_ (w.heap.size+1) 1) v1).setCell (a_ (w.heap.size+1) 2) v2)):=fun v0 v1 v2=>aK aO v0 v1 v2;go_wp2_with fail
   exact bodyPost_ret (v:=.agg #[i_ 0,i_ 0,i_ 0]) (by simp[results,Tryz.results75,go_sem,r0,r1,r2]) rfl ⟨0,0,0,rfl,aa NO,BB.out _ _ _⟩
end Go.Proofs.YtcjfjflljdojlaaGreatDoor
