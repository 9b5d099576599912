import Derived.Test.YtcjfjflljdojlaaGreatDoorPart11
set_option linter.unusedSimpArgs false
set_option linter.unusedVariables false
set_option maxHeartbeats 16000000
set_option maxRecDepth 100000
namespace Go.Proofs.YtcjfjflljdojlaaGreatDoor
open Go.RowKit
def aT (x:ak)(p:Nat):aA:=x.ins[p]?.getD aA.z
def fS (x:ak)(m:Nat->Bool):Nat->Nat->Bool
 | 0=>m
 | p+1=>if(aT x p).op=11 then(fun g=>fS x m p g||decide ((aT x p).fb=(g:Int)))else fS x m p
def bm (l:List ak):Nat->Nat->Bool
 | 0=>fun _=>false
 | f+1=>fS (am l f) (bm l f) (am l f).ins.length
def mO (l:List ak)(f:Nat):Nat:=(am l f).ins.length
def iB (l:List ak)(f p:Nat):Bool:=
 (aT (am l f) p).op==11&&(decide ((aT (am l f) p).fb<=f)||fS (am l f) (bm l f) p (aT (am l f) p).fb.toNat || !kz (am l f) (am l (aT (am l f) p).fb.toNat).ups)
def da (l:List ak)(c f n:Int):Prop:=
 (eO l c f n/\c≠0) \/
 (eO l 0 0 0/\c=6/\∃ F P:Nat,f=F/\n=P/\fl l (mO l) (iB l) F P) \/
 (eO l 0 0 0/\rk l (mO l) (iB l)/\c=7/\n=0/\∃ F:Nat,f=F/\1<=F/\F<l.length/\bm l l.length F=false/\∀ g,1<=g->g<F->bm l l.length g=true) \/
 (eO l 0 0 0/\rk l (mO l) (iB l)/\c=0/\f=0/\n=0/\∀ g,1<=g->g<l.length->bm l l.length g=true)
theorem uh {l:List ak}{f n:Int}(h:eO l 0 f n):¬eE l/\km l/\rk l (j9 l) (hZ l)/\f=0/\n=0:=by
 rcases h with⟨_,h,_⟩ | ⟨_,h,_⟩ | ⟨_,_,h,_⟩ | ⟨_,_,_,h,_⟩ | ⟨_,_,_,_,h,_⟩ | ⟨h1,h2,_,_,h5,_,hf,hn⟩
 ·exact absurd h (by decide)
 ·exact absurd h (by decide)
 ·exact absurd h (by decide)
 ·exact absurd h (by decide)
 ·exact absurd h (by decide)
 ·exact⟨h1,h2,h5,hf,hn⟩
theorem Df {l:List ak}(h:rk l (j9 l) (hZ l)){f p:Nat}(hf:f<l.length)(hp:p<(am l f).ins.length)(fo:(aT (am l f) p).op=11):0<=(aT (am l f) p).fb/\(aT (am l f) p).fb<l.length:=by
 have h1:=h f p hf (by unfold j9;rw[if_neg (by omega)];exact hp);unfold hZ at h1;rw[if_neg (by omega),Bool.not_eq_false']at h1;unfold dr at h1;have e:((am l f).ins[p]?.getD aA.z).op=11:=fo;rw[e,show bj 11=some [1,9,0,0]from by decide]at h1;simp only[Bool.and_eq_true]at h1;have h2:dw (aT (am l f) p).fb 0 ((l.length:Int)-1)=true:=h1.1.1.1.2;have:=aV h2;omega
structure wI (w:World)(a:o_)(nl c D:Nat)(m:Nat->Bool)(wr:World):Prop where
 box:dP w a nl c wr
 row:wr.rowIs D 4 nl (fun j=>.bool (m j))
 n0:w.heap.size+2<=D
section
variable {w:World} {a:o_} {nl c D:Nat} {m m':Nat->Bool} {wr w2:World}
theorem wI.below (h:wI w a nl c D m wr)(hb:b_ wr w2):wI w a nl c D m w2:=⟨h.box.below' hb,h.row.of_block (hb.block _ h.row.lt),h.n0⟩
theorem wI.alloc (h:wI w a nl c D m wr)(o:Obj):wI w a nl c D m (wr.alloc o):=h.below (r_.alloc n_ o)
theorem wI.set (h:wI w a nl c D m wr)(j:Nat)(hm:∀ i,i<nl->m' i=(m i||decide (i=j))):wI w a nl c D m' (wr.setCell (a_ D j) (.bool true)) where
 box:=⟨h.box.below.setCell h.n0 _⟩
 row:=(h.row.set j _).congr fun i hi=>by
  rw[hm i hi];by_cases e:i=j
  ·rw[if_pos e];simp[e]
  ·rw[if_neg e];simp[e]
 n0:=h.n0
end
theorem sA (a:o_)(l:List ak)(c:Nat)(S:Nat->Prop)(w:World)(hs:ao w S a l)(hB:∀ b,S b->b<w.heap.size)(hl:aI l<=1048576) :
  c_ 21 #[.agg #[.slice a l.length c]] w fun e w'=>∃ x f n,e=.returned (.agg #[i_ x,i_ f,i_ n])/\da l x f n/\b_ w w':=by
 have hn:=hs.1;have py:l.length<=1048576:=by unfold aI at hl;omega
 have HS:=af hs;have HB:=af hB;have X0:Hid (dP w a l.length c (kd w a l.length c)):=dP.start w a l.length c;have PA:=af (zp a l c S (kd w a l.length c) (hs.keep (oW w a l.length c) hB) (fun b h=>l_ (hB b h) (oW w a l.length c).size) hl);have kH:=run_make_row' (P:=Tryz.prog) 68 4 (.bool false) 1 Tryz.underlying68 (by kernel_rfl) rfl .i64 .i64 l.length (by omega) hn;clear hs hB hl;go_enter Tryz.func21,Tryz.ntmps21;go_wp2_with fail
 refine(aa PA).mono ?_;rintro e w1 ⟨x,f,n,rfl,fX,au⟩;have oy:=(aa X0).below' au;have Mc:=af (oy.alloc (.cells #[i_ x,i_ f,i_ n] 36));have jf:=oy.size;clear au PA X0;by_cases h0:x=0
 case neg=>
  have h0b:(x != 0)=true:=by simpa using h0
  have SD:Hid (da l x f n):=.inl ⟨fX,h0⟩;have aO:=aa Mc;have r0:=aO.res 0 (by omega);have r1:=aO.res 1 (by omega);have r2:=aO.res 2 (by omega);have z0:=aO.frozen 0;have z1:=aO.frozen 1;have z2:=aO.frozen 2;have s0:=oy.res 0 (by omega);have s1:=oy.res 1 (by omega);have s2:=oy.res 2 (by omega);have y0:=oy.frozen 0;have y1:=oy.frozen 1;have y2:=oy.frozen 2;have yU:w.heap.size+1<w1.heap.size:=by omega
  have BK:w.heap.size+1<w1.heap.size+1:=by omega
  have BB:Hid (∀ v0 v1 v2,b_ w ((((w1.alloc (.cells #[i_ x,i_ f,i_ n] 36)).setCell (a_ (w.heap.size+1) 0) v0).setCell (a_ (w.heap.size+1) 1) v1).setCell (a_ (w.heap.size+1) 2) v2)):=fun v0 v1 v2=>aK aO v0 v1 v2;have Rq:Hid (∀ o v0 v1 v2,b_ w ((((w1.setCell (a_ (w.heap.size+1) 0) v0).setCell (a_ (w.heap.size+1) 1) v1).setCell (a_ (w.heap.size+1) 2) v2).alloc o)):=fun o v0 v1 v2=>(aK oy v0 v1 v2).alloc (by simp;omega) o;clear fX h0 aO oy Mc;go_wp2_with fail
  refine bodyPost_ret (v:=.agg #[i_ x,i_ f,i_ n]) (by simp[results,Tryz.results21,go_sem,r0,r1,r2,s0,s1,s2,yU,BK]) rfl ⟨x,f,n,rfl,SD.out,?_⟩
  first | exact BB.out _ _ _ | exact Rq.out _ _ _ _
 aj h0
 obtain⟨xg,wq,Hl,rB,Fm⟩:=uh fX
 aj rB Fm
 have PS:=af fX;have kn:=af wq;have SB:=af Hl;have Lx:1<=l.length:=Nat.pos_of_ne_zero (fun h=>xg (.inl h));have u1:=(aa Mc).unit;have hcw:w.heap.size<w1.heap.size:=by omega
 have uw:=oy.unit;have W0:Hid (wI w a l.length c (w1.heap.size+1) (fun _=>false) ((w1.alloc (.cells #[i_ 0,i_ 0,i_ 0] 36)).alloc (.cells (madeCells #[.bool false] l.length) 4))):=
  ⟨(aa Mc).alloc _,by
   have h:=World.rowIs_made (w1.alloc (.cells #[i_ 0,i_ 0,i_ 0] 36)) (.bool false) l.length 4;simpa using h,by omega⟩
 clear fX xg wq Hl oy;go_wp2_with fail
 clear u1 uw kH;go_loopg [23] l.length (fun g i wr=>∃(k:Nat),k+g=l.length/\i=i_ k/\wI w a l.length c (w1.heap.size+1) (bm l k) wr/\Hid (∀ f' p',f'<k->p'<mO l f'->iB l f' p'=false))
 case atStart=>exact⟨0,by omega,rfl,aa W0,fun _ _ h=>absurd h (Nat.not_lt_zero _)⟩
 case round=>
  clear W0 Mc;obtain⟨f,hk,rfl,hW,dD⟩:=hrel;have u0:=hW.box.unit;by_cases ax:f<l.length
  ·have xm:=af (jR (aa kn f ax));have Pt:Hid (∀ p,(aT (am l f) p).op≠11->∀ g,fS (am l f) (bm l f) (p+1) g=fS (am l f) (bm l f) p g):=fun p hp g=>by
    show(if _ then _ else _:Nat->Bool) g=_;rw[if_neg hp]
   have Pq:Hid (∀ p,(aT (am l f) p).op=11->∀ g:Nat,fS (am l f) (bm l f) (p+1) g=(fS (am l f) (bm l f) p g||decide ((aT (am l f) p).fb=(g:Int)))):=fun p hp g=>by
    show(if _ then _ else _:Nat->Bool) g=_;rw[if_pos hp]
   have E4:Hid (bm l (f+1)=fS (am l f) (bm l f) (am l f).ins.length):=rfl;have ox:Hid (mO l f=(am l f).ins.length):=rfl;have mK:Hid (∀ p,iB l f p=((aT (am l f) p).op==11&&(decide ((aT (am l f) p).fb<=f)||fS (am l f) (bm l f) p (aT (am l f) p).fb.toNat || !kz (am l f) (am l (aT (am l f) p).fb.toNat).ups))):=fun _=>rfl;have FB:Hid (∀ p,p<(am l f).ins.length->(aT (am l f) p).op=11->0<=(aT (am l f) p).fb/\(aT (am l f) p).fb<l.length):=fun p h1 h2=>Df (aa SB) ax h1 h2;obtain⟨Py,Eh⟩:∃ U:Nat->Bool,∀ g,kz (am l f) (am l g).ups=U g:=⟨fun g=>kz (am l f) (am l g).ups,fun _=>rfl⟩;have CU:Hid (∀(W:World) (g:Nat),b_ w W->g<l.length->c_ 54 #[.agg #[.slice a l.length c],i_ f,i_ g] W fun e w'=>e=.returned (.bool (Py g))/\b_ W w'):=fun W g hW2 hg=>by
    rw[<-Eh g];exact zN a l c f g S W ((aa HS).keep hW2 (aa HB)) (fun b h=>l_ (aa HB b h) hW2.size) ax hg (aa xm)
   simp only[Eh]at mK;clear Eh;have hW:wI w a l.length c (w1.heap.size+1) (fS (am l f) (bm l f) 0) wr:=hW;obtain⟨b,off,rfl,hb,aE⟩:=((aa HS).keep hW.box.old (aa HB)).2 (by omega);have N:aU wr S b (off+f * 9) (am l f):=aE f ax;clear aE;obtain⟨x,mi⟩:∃ x,x=am l f:=⟨_,rfl⟩;rw[<-mi]at N mK ox FB E4 Pt Pq hW;clear mi xm;generalize fS x (bm l f)=MK at *;obtain⟨a5,c5,h5,H5⟩:=N.ups;obtain⟨a6,c6,h6,H6⟩:=N.consts;obtain⟨a7,c7,h7,H7⟩:=N.ins;obtain⟨a8,c8,h8,H8⟩:=N.named;have c0:=N.name;have c1:=N.line;have c2:=N.params;have c3:=N.rest;have c4:=N.regs;have VV:=af H7;have jn:=H7.1;clear N H5 H6 H7 H8;have INE:Hid (∀ q,aT x q=x.ins[q]?.getD aA.z):=fun _=>rfl;obtain⟨nm,ln,pr,rs,rg,us,cs,is,ns⟩:=x;simp only at *;obtain⟨wo,rfl⟩:∃ wo,wo=wr:=⟨wr,rfl⟩;have sM:=af (hW.alloc (.cells #[.string nm,i_ ln,i_ pr,.bool rs,i_ rg,.slice a5 us.length c5,.slice a6 cs.length c6,.slice a7 is.length c7,.slice a8 ns.length c8] 43));have Bf:=hW.box.old.size;have HWO:=af hW.box.old;clear hW;go_wp2_with fail
   clear h5 h6 h7 h8 c0 c1 c2 c3 c4 u0;go_loopg [31] is.length (fun g i wr=>∃(k:Nat),k+g=is.length/\i=i_ k/\wI w (some (a_ b off)) l.length c (w1.heap.size+1) (MK k) wr/\Below w.heap.size wo wr/\Hid (∀ q,q<k->iB l f q=false))
   case atStart=>exact⟨0,by omega,rfl,aa sM,r_.alloc Bf _,fun _ h=>absurd h (Nat.not_lt_zero _)⟩
   case round=>
    clear sM;obtain⟨q,hq,rfl,hW,ir,dZ⟩:=hrel;by_cases fw:q<is.length
    ·obtain⟨bi,KI,rfl,YB,y6⟩:=((aa VV).keep ir (aa HB)).2 (by omega);have M:=y6 q fw;clear y6;have BQ:=aa mK q;have NQ:=aa Pt q;have SQ:=aa Pq q;have FQ:=aa FB q fw;obtain⟨y,uZ⟩:∃ y,y=is[q]?.getD aA.z:=⟨_,rfl⟩;have Po:aT ⟨nm,ln,pr,rs,rg,us,cs,is,ns⟩ q=y:=by rw[uZ];rfl
     rw[Po]at BQ NQ SQ FQ;rw[<-uZ]at M;clear uZ Po;have d0:=M.op;have d1:=M.fa;have d2:=M.fb;have d3:=M.fc;have d4:=M.fd;clear M;have qI:=af BQ;have WC:=af NQ;have Xv:=af SQ;have Ws:=af FQ;clear BQ NQ SQ FQ;obtain⟨sS,ya,yb,yc,yd⟩:=y;simp only at *;have hW1:=hW.alloc (.cells #[i_ sS,i_ ya,i_ yb,i_ yc,i_ yd] 51);have Eb:=af (ir.alloc (Nat.le_trans Bf ir.size) (.cells #[i_ sS,i_ ya,i_ yb,i_ yc,i_ yd] 51));have lz:=af hW1;have u0:=hW.box.unit;have kq:=hW.box.size;have Nz:w.heap.size<wr.heap.size:=by omega
     by_cases fo:sS=11
     ·aj fo
      obtain⟨rB,fJ⟩:=aa Ws rfl;obtain⟨g,rfl⟩:=Int.eq_ofNat_of_zero_le rB;have fm:g<l.length:=by omega
      have Bb:iB l f q=(decide ((g:Int)<=f)||MK q g || !Py g):=aa qI;by_cases pw:(g:Int)<=f
      ·have FI:Hid (fl l (mO l) (iB l) f q):=eg ax (by rw[ox.out];exact fw) (by rw[Bb,decide_eq_true pw];rfl) dD.out dZ.out;clear Bb hW hW1 ir;go_wp2_with fail
       refine(cV _ _ _ _).mono ?_;rintro e w2 ⟨rfl,bo⟩;have aO:=(aa lz).box.below' bo;have r0:=aO.res 0 (by omega);have r1:=aO.res 1 (by omega);have r2:=aO.res 2 (by omega);have z0:=aO.frozen 0;have z1:=aO.frozen 1;have z2:=aO.frozen 2;have BB:Hid (∀ v0 v1 v2,b_ w (((w2.setCell (a_ (w.heap.size+1) 0) v0).setCell (a_ (w.heap.size+1) 1) v1).setCell (a_ (w.heap.size+1) 2) v2)):=fun v0 v1 v2=>aK aO v0 v1 v2;go_wp2_with fail
       refine bodyPost_ret (v:=.agg #[i_ 6,i_ f,i_ q]) (by simp[results,Tryz.results21,go_sem,r0,r1,r2]) rfl ⟨6,f,q,rfl,?_,BB.out _ _ _⟩;exact .inr (.inl ⟨aa PS,rfl,f,q,rfl,rfl,aa FI⟩)
      have ck:=hW.row.cell (i:=g) fm;have zk:=hW.row.frozen g;have Sl:=hW.row.lt;cases hm:MK q g
      case true=>
       have FI:Hid (fl l (mO l) (iB l) f q):=eg ax (by rw[ox.out];exact fw) (by rw[Bb,hm];simp) dD.out dZ.out;rw[hm]at ck;clear Bb hW hW1 ir hm;go_wp2_with fail
       refine(cV _ _ _ _).mono ?_;rintro e w2 ⟨rfl,bo⟩;have aO:=(aa lz).box.below' bo;have r0:=aO.res 0 (by omega);have r1:=aO.res 1 (by omega);have r2:=aO.res 2 (by omega);have z0:=aO.frozen 0;have z1:=aO.frozen 1;have z2:=aO.frozen 2;have BB:Hid (∀ v0 v1 v2,b_ w (((w2.setCell (a_ (w.heap.size+1) 0) v0).setCell (a_ (w.heap.size+1) 1) v1).setCell (a_ (w.heap.size+1) 2) v2)):=fun v0 v1 v2=>aK aO v0 v1 v2;go_wp2_with fail
       refine bodyPost_ret (v:=.agg #[i_ 6,i_ f,i_ q]) (by simp[results,Tryz.results21,go_sem,r0,r1,r2]) rfl ⟨6,f,q,rfl,?_,BB.out _ _ _⟩;exact .inr (.inl ⟨aa PS,rfl,f,q,rfl,rfl,aa FI⟩)
      rw[hm]at ck;have CO:=af (aa CU (wr.alloc (.cells #[i_ 11,i_ ya,i_ g,i_ yc,i_ yd] 51)) g hW1.box.old fm);cases hu:Py g
      ·have FI:Hid (fl l (mO l) (iB l) f q):=eg ax (by rw[ox.out];exact fw) (by rw[Bb,hu];simp) dD.out dZ.out;rw[hu]at CO;clear Bb hW hW1 ir hm hu;go_wp2_with fail
       refine(aa CO).mono ?_;rintro e w3 ⟨rfl,bY⟩;have xf:=((aa lz).below bY).box;clear bY;go_wp2_with fail
       refine(cV _ _ _ _).mono ?_;rintro e w2 ⟨rfl,bo⟩;have aO:=xf.below' bo;have r0:=aO.res 0 (by omega);have r1:=aO.res 1 (by omega);have r2:=aO.res 2 (by omega);have z0:=aO.frozen 0;have z1:=aO.frozen 1;have z2:=aO.frozen 2;have BB:Hid (∀ v0 v1 v2,b_ w (((w2.setCell (a_ (w.heap.size+1) 0) v0).setCell (a_ (w.heap.size+1) 1) v1).setCell (a_ (w.heap.size+1) 2) v2)):=fun v0 v1 v2=>aK aO v0 v1 v2;go_wp2_with fail
       refine bodyPost_ret (v:=.agg #[i_ 6,i_ f,i_ q]) (by simp[results,Tryz.results21,go_sem,r0,r1,r2]) rfl ⟨6,f,q,rfl,?_,BB.out _ _ _⟩;exact .inr (.inl ⟨aa PS,rfl,f,q,rfl,rfl,aa FI⟩)
      ·have NX:Hid (∀ j,j<q+1->iB l f j=false):=gH dZ.out (by rw[Bb,hm,hu,decide_eq_false pw];rfl);rw[hu]at CO;clear Bb hW hW1 ir hm hu;go_wp2_with fail
       refine(aa CO).mono ?_;rintro e w3 ⟨rfl,bY⟩;have hW3:=(aa lz).below bY;have QF:=af ((aa Eb).trans (bY.mono (by simp;omega)));have i2:w3.cell? (a_ wr.heap.size 2)=some (i_ (g:Int)):=by rw[bY.cell (p:=(a_ wr.heap.size 2)) (by simp)];simp[go_sem]
       have ck3:=hW3.row.cell (i:=g) fm;have zk3:=hW3.row.frozen g;have oo:=af hW3;clear bY hW3 ck zk;go_wp2_with fail
       go_roundg (is.length-(q+1))
       case measure=>omega
       case rel=>
        refine⟨q+1,by omega,by go_num,(aa oo).set g fun i hi=>?_,(aa QF).setCell (show w.heap.size<=w1.heap.size+1 by omega) _,NX⟩;rw[aa Xv (by first | rfl | trivial) i]
        congr 1
        rw[decide_eq_decide];omega
     ·have UX:(sS != 11)=true:=by simpa using fo
      have NX:Hid (∀ j,j<q+1->iB l f j=false):=gH dZ.out (by rw[aa qI,beq_eq_false_iff_ne.2 fo];rfl);have jm:Hid (wI w (some (a_ b off)) l.length c (w1.heap.size+1) (MK (q+1)) (wr.alloc (.cells #[i_ sS,i_ ya,i_ yb,i_ yc,i_ yd] 51))):=⟨hW1.box,hW1.row.congr fun i _=>by rw[aa WC fo i],hW1.n0⟩;clear hW hW1 ir fo;go_wp2_with fail
      go_roundg (is.length-(q+1))
      case measure=>omega
      case rel=>exact⟨q+1,by omega,by go_num,aa jm,aa Eb,NX⟩
    ·have Ey:Hid (∀ f' p',f'<f+1->p'<mO l f'->iB l f' p'=false):=ii (l:=l) dD.out (fun p hp=>dZ.out p (by rw[ox.out]at hp;have hp:p<is.length:=hp;omega));have mz:q=is.length:=by omega
     have lD:Hid (wI w (some (a_ b off)) l.length c (w1.heap.size+1) (bm l (f+1)) wr):=by
      show wI _ _ _ _ _ _ _;rw[E4.out];show wI _ _ _ _ _ (MK is.length) _;rw[<-mz];exact hW
     clear hW ir mz;go_wp2_with fail
     go_roundg (l.length-(f+1))
     case measure=>omega
     case rel=>exact⟨f+1,by omega,by go_num,aa lD,Ey⟩
  ·have NO6:Hid (rk l (mO l) (iB l)):=fun f' p' h1 h2=>dD.out f' p' (by omega) h2;have VQ:f=l.length:=by omega
   have Sw:Hid (wI w a l.length c (w1.heap.size+1) (bm l l.length) wr):=by
    have h2:bm l l.length=bm l f:=by rw[VQ]
    show wI _ _ _ _ _ _ _;rw[h2];exact hW
   clear hW dD VQ;go_wp2_with fail
   clear u0;go_loopg [9] l.length (fun g i wr=>∃(k:Nat),1<=k/\k+g=l.length+1/\i=i_ k/\wI w a l.length c (w1.heap.size+1) (bm l l.length) wr/\Hid (∀ q,1<=q->q<k->bm l l.length q=true))
   case atStart=>exact⟨1,by omega,by omega,rfl,aa Sw,fun q h1 h2=>by omega⟩
   case round=>
    clear Sw;obtain⟨k,kN,hkg,rfl,hW,dZ⟩:=hrel;have u0:=hW.box.unit;by_cases iK:k<l.length
    ·have mc:=hW.row.cell iK;cases kH:bm l l.length k
     ·rw[kH]at mc;have HK:=af kH;have hxx:=hW.box;clear kH;go_wp2_with fail
      refine(cV _ _ _ _).mono ?_;rintro e w2 ⟨rfl,bo⟩;have aO:=hxx.below' bo;have r0:=aO.res 0 (by omega);have r1:=aO.res 1 (by omega);have r2:=aO.res 2 (by omega);have z0:=aO.frozen 0;have z1:=aO.frozen 1;have z2:=aO.frozen 2;have BB:Hid (∀ v0 v1 v2,b_ w (((w2.setCell (a_ (w.heap.size+1) 0) v0).setCell (a_ (w.heap.size+1) 1) v1).setCell (a_ (w.heap.size+1) 2) v2)):=fun v0 v1 v2=>aK aO v0 v1 v2;go_wp2_with fail
      refine bodyPost_ret (v:=.agg #[i_ 7,i_ k,i_ 0]) (by simp[results,Tryz.results21,go_sem,r0,r1,r2]) rfl ⟨7,k,0,rfl,?_,BB.out _ _ _⟩;exact .inr (.inr (.inl ⟨aa PS,aa NO6,rfl,rfl,k,rfl,kN,iK,aa HK,dZ.out⟩))
     ·rw[kH]at mc;have HK:=af kH;clear kH;go_wp2_with fail
      go_roundg (l.length-k)
      case measure=>omega
      case rel=>
       refine⟨k+1,by omega,by omega,by go_num,hW,fun q h1 h2=>?_⟩;by_cases e:q=k
       ·aj e;exact aa HK
       ·exact dZ.out q h1 (by omega)
    ·have ZT:Hid (∀ g,1<=g->g<l.length->bm l l.length g=true):=fun g h1 h2=>dZ.out g h1 (by omega);have hx:=hW.box;have r0:=hx.res 0 (by omega);have r1:=hx.res 1 (by omega);have r2:=hx.res 2 (by omega);have z0:=hx.frozen 0;have z1:=hx.frozen 1;have z2:=hx.frozen 2;have BB:Hid (∀ v0 v1 v2,b_ w (((wr.setCell (a_ (w.heap.size+1) 0) v0).setCell (a_ (w.heap.size+1) 1) v1).setCell (a_ (w.heap.size+1) 2) v2)):=fun v0 v1 v2=>aK hx v0 v1 v2;go_wp2_with fail
     refine bodyPost_ret (v:=.agg #[i_ 0,i_ 0,i_ 0]) (by simp[results,Tryz.results21,go_sem,r0,r1,r2]) rfl ⟨0,0,0,rfl,?_,BB.out _ _ _⟩;exact .inr (.inr (.inr ⟨aa PS,aa NO6,rfl,rfl,rfl,aa ZT⟩))
end Go.Proofs.YtcjfjflljdojlaaGreatDoor
