import Derived.Test.YtcjfjflljdojlaaGreatDoorPart13
set_option linter.all false
set_option maxHeartbeats 16000000
set_option maxRecDepth 100000
namespace Go.Proofs.YtcjfjflljdojlaaGreatDoor
open Go.RowKit
attribute [local go_sem] cn
def ks (x:aj)(m:Nat->Nat):Nat->Nat->Nat
 | 0=>m
 | p+1=>if(aR x p).op=11 then(fun g=>ks x m p g+(if(aR x p).fb=(g:Int)then 1 else 0))else ks x m p
def eC (l:List aj):Nat->Nat->Nat
 | 0=>fun _=>0
 | f+1=>ks (al l f) (eC l f) (al l f).u.length
theorem xW (x:aj)(m:Nat->Nat)(g:Nat):∀ p,ks x m p g<=m g+p
 | 0=>n_
 | p+1=>by
  have h:=xW x m g p;by_cases e:(aR x p).op=11
  ·have h2:ks x m (p+1) g=ks x m p g+(if(aR x p).fb=(g:Int)then 1 else 0):=by
    show(if _ then _ else _:Nat->Nat) g=_;rw[zca e]
   rw[h2];split<;>omega
  ·have h2:ks x m (p+1) g=ks x m p g:=by
    show(if _ then _ else _:Nat->Nat) g=_;rw[zcb e]
   omega
theorem rm (l:List aj)(g:Nat):∀ f,f<=l.length->eC l f g<=bo bZ l f
 | 0,_=>Nat.zero_le _
 | f+1,h=>by
  have h1:=rm l g f (by omega);have h2:=xW (al l f) (eC l f) g (al l f).u.length;have h3:bo bZ l (f+1)=bo bZ l f+(al l f).u.length:=dI bZ l f aj.z (by omega);show ks (al l f) (eC l f) (al l f).u.length g<=_;omega
theorem wy (x:aj)(m:Nat->Nat)(m':Nat->Bool)(g:Nat)(h:m g=0↔m' g=false):∀ p,ks x m p g=0↔fR x m' p g=false
 | 0=>h
 | p+1=>by
  have ih:=wy x m m' g h p;by_cases e:(aR x p).op=11
  ·have h2:ks x m (p+1) g=ks x m p g+(if(aR x p).fb=(g:Int)then 1 else 0):=by
    show(if _ then _ else _:Nat->Nat) g=_;rw[zca e]
   have h3:fR x m' (p+1) g=(fR x m' p g||decide ((aR x p).fb=(g:Int))):=by
    show(if _ then _ else _:Nat->Bool) g=_;rw[zca e]
   rw[h2,h3,Bool.or_eq_false_iff,<-ih,decide_eq_false_iff_not];split<;>omega
  ·have h2:ks x m (p+1) g=ks x m p g:=by
    show(if _ then _ else _:Nat->Nat) g=_;rw[zcb e]
   have h3:fR x m' (p+1) g=fR x m' p g:=by
    show(if _ then _ else _:Nat->Bool) g=_;rw[zcb e]
   rw[h2,h3];exact ih
theorem sd (l:List aj)(g:Nat):∀ f,eC l f g=0↔bm l f g=false
 | 0=>⟨fun _=>rfl,fun _=>rfl⟩
 | f+1=>wy (al l f) (eC l f) (bm l f) g (sd l g f) (al l f).u.length
def ux (l:List aj)(c f n:Int):Prop:=
 (c=7/\n=0/\∃ F:Nat,f=F/\1<=F/\F<l.length/\bm l l.length F=false/\∀ g,1<=g->g<F->bm l l.length g=true) \/
 (c=0/\f=0/\n=0/\∀ g,1<=g->g<l.length->bm l l.length g=true)
theorem rk (a:o_)(l:List aj)(c:Nat)(S:Nat->Prop)(w:w_)(hs:am w S a l)(hB:∀ b,S b->b<w.heap.size)(hl:aH l<=1048576)(no5:rj l (j9 l) (gX l)) :
  c_ 76 #[.agg #[.slice a l.length c]] w fun e w'=>∃ x f n,e=.returned (.agg #[i_ x,i_ f,i_ n])/\ux l x f n/\b_ w w':=by
 have hn:=hs.1;have pt:l.length<=1048576:=by unfold aH at hl;omega
 have HT:H_ (∀ k,bo bZ l k<=1048576):=Jh l hl;have HS:=af hs;have HB:=af hB;have Sd:=af no5;have kE:=run_make_row' (P:=Tryz.prog) 70 3 (i_ 0) 8 Tryz.underlying70 (by kernel_rfl) rfl .i64 .i64 l.length (by omega) hn;have W0:H_ (oO w a l.length c (w.heap.size+1+1) (fun _=>0) ((jX w a l.length c).alloc (.cells (madeCells #[i_ 0] l.length) 3))):=
  ⟨(dO.start w a l.length c).alloc _,by
   have h:=World.rowIs_made (jX w a l.length c) (i_ 0) l.length 3;rw[ol]at h;exact h,by omega⟩
 clear hs hB hl no5;go_enter Tryz.func76,Tryz.ntmps76;go_wp2_with fail
 clear kE;go_loopg [16] l.length (fun g i wr=>∃(k:Nat),k+g=l.length/\i=i_ k/\oO w a l.length c (w.heap.size+1+1) (eC l k) wr);(case atStart=>exact⟨0,by omega,rfl,aa W0⟩);case round=>
  clear W0;obtain⟨f,hk,rfl,hW⟩:=hrel;have u0:=hW.box.unit;by_cases au:f<l.length
  ·have Pg:H_ (∀ p,(aR (al l f) p).op≠11->∀ g,ks (al l f) (eC l f) (p+1) g=ks (al l f) (eC l f) p g):=fun p hp g=>by{show(if _ then _ else _:Nat->Nat) g=_;rw[zcb hp]};have Pp:H_ (∀ p,(aR (al l f) p).op=11->∀ g:Nat,ks (al l f) (eC l f) (p+1) g=ks (al l f) (eC l f) p g+(if(aR (al l f) p).fb=(g:Int)then 1 else 0)):=fun p hp g=>by{show(if _ then _ else _:Nat->Nat) g=_;rw[zca hp]};have BND:H_ (∀ p g,p<=(al l f).u.length->ks (al l f) (eC l f) p g<=1048576):=fun p g hp=>by have h1:=xW (al l f) (eC l f) g p;have h2:=rm l g f (by omega);have h3:bo bZ l (f+1)=bo bZ l f+(al l f).u.length:=dI bZ l f aj.z au;have h4:=aa HT (f+1);omega
   have E4:H_ (eC l (f+1)=ks (al l f) (eC l f) (al l f).u.length):=rfl;have FB:H_ (∀ p,p<(al l f).u.length->(aR (al l f) p).op=11->0<=(aR (al l f) p).fb/\(aR (al l f) p).fb<l.length):=fun p h1 h2=>C3 (aa Sd) au h1 h2;have hW:oO w a l.length c (w.heap.size+1+1) (ks (al l f) (eC l f) 0) wr:=hW;obtain⟨b,off,rfl,hb,aC⟩:=((aa HS).keep hW.box.old (aa HB)).2 (by omega);have N:aT wr S b (off+f * 9) (al l f):=aC f au;clear aC;obtain⟨x,mn⟩:∃ x,x=al l f:=⟨_,rfl⟩;rw[<-mn]at N FB E4 Pg Pp hW BND;clear mn;generalize ks x (eC l f)=MK at *;obtain⟨a5,c5,h5,H5⟩:=N.s;obtain⟨a6,c6,h6,H6⟩:=N.k;obtain⟨a7,c7,h7,H7⟩:=N.u;obtain⟨a8,c8,h8,H8⟩:=N.g;have c0:=N.name;have c1:=N.f;have c2:=N.l;have c3:=N.e;have c4:=N.m;have VV:=af H7;have jl:=H7.1;clear N H5 H6 H7 H8;obtain⟨nm,ln,pr,rs,rg,us,cs,is,ns⟩:=x;simp only at *;obtain⟨wo,rfl⟩:∃ wo,wo=wr:=⟨wr,rfl⟩;have sR:=af (hW.alloc (.cells #[.string nm,i_ ln,i_ pr,.bool rs,i_ rg,.slice a5 us.length c5,.slice a6 cs.length c6,.slice a7 is.length c7,.slice a8 ns.length c8] 43));have Ba:=hW.box.old.size;clear hW;go_wp2_with fail
   clear h5 h6 h7 h8 c0 c1 c2 c3 c4 u0;go_loopg [23] is.length (fun g i wr=>∃(k:Nat),k+g=is.length/\i=i_ k/\oO w (some (a_ b off)) l.length c (w.heap.size+1+1) (MK k) wr/\Below w.heap.size wo wr);(case atStart=>exact⟨0,by omega,rfl,aa sR,r_.alloc Ba _⟩);case round=>
    clear sR;obtain⟨q,hq,rfl,hW,iq⟩:=hrel;by_cases fq:q<is.length
    ·obtain⟨bi,KO,rfl,XY,yK⟩:=((aa VV).keep iq (fun b h=>aa HB b h)).2 (by omega);have M:=yK q fq;clear yK;have NQ:=aa Pg q;have SQ:=aa Pp q;have FQ:=aa FB q fq;obtain⟨y,ve⟩:∃ y,y=is[q]?.getD az.z:=⟨_,rfl⟩;have Pz:aR ⟨nm,ln,pr,rs,rg,us,cs,is,ns⟩ q=y:=by rw[ve];rfl
     rw[Pz]at NQ SQ FQ;rw[<-ve]at M;clear ve Pz;have d0:=M.op;have d1:=M.fa;have d2:=M.fb;have d3:=M.fc;have d4:=M.fd;clear M;have WW:=af NQ;have Vw:=af SQ;have Vu:=af FQ;clear NQ SQ FQ;obtain⟨sM,ya,yb,yc,yd⟩:=y;simp only at *;have hW1:=hW.alloc (.cells #[i_ sM,i_ ya,i_ yb,i_ yc,i_ yd] 51);have Eh:=af (iq.alloc (zah Ba iq.size) (.cells #[i_ sM,i_ ya,i_ yb,i_ yc,i_ yd] 51));have lz:=af hW1;have km:=hW.box.size;by_cases fm:sM=11
     ·subst fm;obtain⟨rD,fI⟩:=aa Vu rfl;obtain⟨g,rfl⟩:=iV rD;have fl:g<l.length:=by omega
      have ck:=hW.row.cell (i:=g) fl;have zk:=hW.row.frozen g;have QL:=hW.row.lt;have Yc:=aa BND q g (by omega);obtain⟨V,hV⟩:∃ V,V=MK q g:=⟨_,rfl⟩;have HV:=af hV;have Wu:=af hW;have abC:=af iq;have Ei:=iq.size;rw[<-hV]at ck Yc;clear hW hW1 iq hV;go_wp2
      go_roundg (is.length-(q+1));case measure=>omega
      case rel=>exact⟨q+1,by omega,by go_num,((aa Wu).set (m':=MK (q+1)) g ((V:Int)+1) (fun i hi=>by
        rw[aa Vw (by first | rfl | trivial) i];by_cases e:i=g;{subst e;rw[zca rfl,zca rfl,HV.o];omega}
        ·rw[zcb e,zcb (by omega)];omega)).alloc _,((aa abC).setCell (show w.heap.size<=w.heap.size+1+1 by omega) _).alloc (by simp;omega) _⟩
     {have Vc:(sM==11)=false:=zag.2 fm;have jm:H_ (oO w (some (a_ b off)) l.length c (w.heap.size+1+1) (MK (q+1)) (wr.alloc (.cells #[i_ sM,i_ ya,i_ yb,i_ yc,i_ yd] 51))):=hW1.congr fun i _=>aa WW fm i;clear hW hW1 iq fm;go_wp2;go_roundg (is.length-(q+1));(case measure=>omega);case rel=>exact⟨q+1,by omega,by go_num,aa jm,aa Eh⟩}
    {have mx:q=is.length:=by{omega};have lD:H_ (oO w (some (a_ b off)) l.length c (w.heap.size+1+1) (eC l (f+1)) wr):=by{show oO _ _ _ _ _ _ _;rw[E4.o];show oO _ _ _ _ _ (MK is.length) _;rw[<-mx];exact hW};clear hW iq mx;go_wp2;go_roundg (l.length-(f+1));(case measure=>omega);case rel=>exact⟨f+1,by omega,by go_num,aa lD⟩}
  ·have WD:f=l.length:=by{omega};have SK:H_ (oO w a l.length c (w.heap.size+1+1) (eC l l.length) wr):=by{have h2:eC l l.length=eC l f:=by{rw[WD]};show oO _ _ _ _ _ _ _;rw[h2];exact hW};clear hW WD;go_wp2_with fail;clear u0;go_loopg [8] l.length (fun g i wr=>∃(k:Nat),1<=k/\k+g=l.length+1/\i=i_ k/\oO w a l.length c (w.heap.size+1+1) (eC l l.length) wr/\H_ (∀ q,1<=q->q<k->bm l l.length q=true));(case atStart=>exact⟨1,by omega,by omega,rfl,aa SK,fun q h1 h2=>by omega⟩);case round=>
    clear SK;obtain⟨k,kM,hkg,rfl,hW,dY⟩:=hrel;by_cases iJ:k<l.length
    ·have mc:=hW.row.cell iJ;have HZ:=af (sd l k l.length);have TY:=af (rm l k l.length n_);have Yc:=aa HT l.length;obtain⟨V,hV⟩:∃ V,V=eC l l.length k:=⟨_,rfl⟩;rw[<-hV]at mc HZ TY;clear hV;have QL:=hW.row.lt;by_cases Tk:V=0
     ·have RR:H_ (ux l 7 k 0):=.inl ⟨rfl,rfl,k,rfl,kM,iJ,HZ.o.1 Tk,dY.o⟩;have e0:((V:Int)==0)=true:=by simp;omega
      have aN:=hW.box;obtain⟨w2,rfl⟩:∃ w2,w2=wr:=⟨wr,rfl⟩;clear Tk HZ TY dY hW;have r0:=aN.res 0 (by omega);have r1:=aN.res 1 (by omega);have r2:=aN.res 2 (by omega);have z0:=aN.frozen 0;have z1:=aN.frozen 1;have z2:=aN.frozen 2;have BB:H_ (∀ v0 v1 v2,b_ w (((w2.setCell (a_ (w.heap.size+1) 0) v0).setCell (a_ (w.heap.size+1) 1) v1).setCell (a_ (w.heap.size+1) 2) v2)):=fun v0 v1 v2=>aJ aN v0 v1 v2;go_wp2_with fail
      exact zcd (v:=.agg #[i_ 7,i_ k,i_ 0]) (by simp[results,Tryz.results76,go_sem,r0,r1,r2]) rfl ⟨7,k,0,rfl,aa RR,BB.o _ _ _⟩
     {have RR:H_ (∀ q,1<=q->q<k+1->bm l l.length q=true):=fun q h1 h2=>by{by_cases e:q=k;{subst e;cases hm:bm l l.length q;{exact zcc (HZ.o.2 hm) Tk};{rfl}};{exact dY.o q h1 (by omega)}};have e0:((V:Int)==0)=false:=zag.2 (by omega);have L0:=af hW;clear Tk HZ TY dY hW;go_wp2;go_roundg (l.length-k);(case measure=>omega);case rel=>exact⟨k+1,by omega,by omega,by go_num,aa L0,RR⟩}
    ·have RR:H_ (ux l 0 0 0):=.inr ⟨rfl,rfl,rfl,fun g h1 h2=>dY.o g h1 (by omega)⟩;have aN:=hW.box;obtain⟨w2,rfl⟩:∃ w2,w2=wr:=⟨wr,rfl⟩;clear dY hW;have r0:=aN.res 0 (by omega);have r1:=aN.res 1 (by omega);have r2:=aN.res 2 (by omega);have z0:=aN.frozen 0;have z1:=aN.frozen 1;have z2:=aN.frozen 2;have BB:H_ (∀ v0 v1 v2,b_ w (((w2.setCell (a_ (w.heap.size+1) 0) v0).setCell (a_ (w.heap.size+1) 1) v1).setCell (a_ (w.heap.size+1) 2) v2)):=fun v0 v1 v2=>aJ aN v0 v1 v2;go_wp2_with fail
     exact zcd (v:=.agg #[i_ 0,i_ 0,i_ 0]) (by simp[results,Tryz.results76,go_sem,r0,r1,r2]) rfl ⟨0,0,0,rfl,aa RR,BB.o _ _ _⟩
structure gK (l:List aj)(k:Nat):Prop where
 size:1<=k->¬eD l
 heads:2<=k->jY l
 no3:3<=k->rj l (ph l) (kt l)
 no4:4<=k->rj l (oW l) (j8 l)
 no5:5<=k->rj l (j9 l) (gX l)
 no6:6<=k->rj l (mL l) (iE l)
 made:7<=k->∀ g,1<=g->g<l.length->bm l l.length g=true
theorem gK.begin (l:List aj):gK l 0:=⟨by omega,by omega,by omega,by omega,by omega,by omega,by omega⟩
theorem gK.parts {l:List aj}{k:Nat}(h:gK l k)(hk:5<=k):eO l 0 0 0:=.inr (.inr (.inr (.inr (.inr ⟨h.size (by omega),h.heads (by omega),h.no3 (by omega),h.no4 (by omega),h.no5 hk,rfl,rfl,rfl⟩))))
theorem gK.all {l:List aj}{k:Nat}(h:gK l k)(hk:7<=k):cZ l 0 0 0:=.inr (.inr (.inr ⟨h.parts (by omega),h.no6 (by omega),rfl,rfl,rfl,h.made hk⟩))
def o9 (l:List aj)(k:Nat)(w:w_)(e:Ending)(w':w_):Prop:=
 ∃ x f n:Int,e=.returned (.agg #[i_ x,i_ f,i_ n])/\((x≠0/\cZ l x f n)\/(x=0/\f=0/\n=0/\gK l (k+1)))/\b_ w w'
theorem Ut (a:o_)(l:List aj)(c:Nat)(S:Nat->Prop)(w:w_)(hs:am w S a l)(hB:∀ b,S b->b<w.heap.size)(hl:aH l<=1048576):c_ 70 #[.agg #[.slice a l.length c]] w (o9 l 0 w):=by
 refine(sD a l c S w hs hB hl).mono ?_;rintro e w' ⟨x,f,n,rfl,h,hb⟩;refine⟨x,f,n,rfl,?_,hb⟩;rcases h with⟨h,rfl,rfl,rfl⟩ | ⟨h,rfl,rfl,rfl⟩;{exact .inl ⟨by decide,.inl ⟨.inl ⟨h,rfl,rfl,rfl⟩,by decide⟩⟩};{exact .inr ⟨rfl,rfl,rfl,⟨fun _=>h,by omega,by omega,by omega,by omega,by omega,by omega⟩⟩}
theorem UD (a:o_)(l:List aj)(c:Nat)(S:Nat->Prop)(w:w_)(hs:am w S a l)(hB:∀ b,S b->b<w.heap.size)(hl:aH l<=1048576)(hP:gK l 1):c_ 71 #[.agg #[.slice a l.length c]] w (o9 l 1 w):=by
 refine(sE a l c S w hs hB hl).mono ?_;rintro e w' ⟨x,f,n,rfl,h,hb⟩;refine⟨x,f,n,rfl,?_,hb⟩;rcases h with⟨rfl,rfl,F,rfl,h⟩ | ⟨h,rfl,rfl,rfl⟩;{exact .inl ⟨by decide,.inl ⟨.inr (.inl ⟨hP.size (by omega),rfl,rfl,F,rfl,h⟩),by decide⟩⟩};{exact .inr ⟨rfl,rfl,rfl,⟨fun _=>hP.size (by omega),fun _=>h,by omega,by omega,by omega,by omega,by omega⟩⟩}
theorem UB (a:o_)(l:List aj)(c:Nat)(S:Nat->Prop)(w:w_)(hs:am w S a l)(hB:∀ b,S b->b<w.heap.size)(hl:aH l<=1048576)(hP:gK l 2):c_ 72 #[.agg #[.slice a l.length c]] w (o9 l 2 w):=by
 refine(sB a l c S w hs hB hl).mono ?_;rintro e w' ⟨x,f,n,rfl,h,hb⟩;refine⟨x,f,n,rfl,?_,hb⟩;rcases h with⟨rfl,F,P,rfl,rfl,h⟩ | ⟨h,rfl,rfl,rfl⟩;{exact .inl ⟨by decide,.inl ⟨.inr (.inr (.inl ⟨hP.size (by omega),hP.heads (by omega),rfl,F,P,rfl,rfl,h⟩)),by decide⟩⟩};{exact .inr ⟨rfl,rfl,rfl,⟨fun _=>hP.size (by omega),fun _=>hP.heads (by omega),fun _=>h,by omega,by omega,by omega,by omega⟩⟩}
theorem Uv (a:o_)(l:List aj)(c:Nat)(S:Nat->Prop)(w:w_)(hs:am w S a l)(hB:∀ b,S b->b<w.heap.size)(hl:aH l<=1048576)(hP:gK l 3):c_ 73 #[.agg #[.slice a l.length c]] w (o9 l 3 w):=by
 refine(t9 a l c S w hs hB hl (hP.heads (by omega))).mono ?_;rintro e w' ⟨x,f,n,rfl,h,hb⟩;refine⟨x,f,n,rfl,?_,hb⟩;rcases h with⟨rfl,F,P,rfl,rfl,h⟩ | ⟨h,rfl,rfl,rfl⟩;{exact .inl ⟨by decide,.inl ⟨.inr (.inr (.inr (.inl ⟨hP.size (by omega),hP.heads (by omega),hP.no3 (by omega),rfl,F,P,rfl,rfl,h⟩))),by decide⟩⟩};{exact .inr ⟨rfl,rfl,rfl,⟨fun _=>hP.size (by omega),fun _=>hP.heads (by omega),fun _=>hP.no3 (by omega),fun _=>h,by omega,by omega,by omega⟩⟩}
theorem Uu (a:o_)(l:List aj)(c:Nat)(S:Nat->Prop)(w:w_)(hs:am w S a l)(hB:∀ b,S b->b<w.heap.size)(hl:aH l<=1048576)(hG:gd w)(hP:gK l 4):c_ 74 #[.agg #[.slice a l.length c]] w (o9 l 4 w):=by
 refine(yz a l c S w hs hB hl (hP.heads (by omega)) hG).mono ?_;rintro e w' ⟨x,f,n,rfl,h,hb⟩;refine⟨x,f,n,rfl,?_,hb⟩;rcases h with⟨rfl,F,P,rfl,rfl,h⟩ | ⟨h,rfl,rfl,rfl⟩;{exact .inl ⟨by decide,.inl ⟨.inr (.inr (.inr (.inr (.inl ⟨hP.size (by omega),hP.heads (by omega),hP.no3 (by omega),hP.no4 (by omega),rfl,F,P,rfl,rfl,h⟩)))),by decide⟩⟩};{exact .inr ⟨rfl,rfl,rfl,⟨fun _=>hP.size (by omega),fun _=>hP.heads (by omega),fun _=>hP.no3 (by omega),fun _=>hP.no4 (by omega),fun _=>h,by omega,by omega⟩⟩}
theorem UC (a:o_)(l:List aj)(c:Nat)(S:Nat->Prop)(w:w_)(hs:am w S a l)(hB:∀ b,S b->b<w.heap.size)(hl:aH l<=1048576)(hP:gK l 5):c_ 75 #[.agg #[.slice a l.length c]] w (o9 l 5 w):=by
 refine(xS a l c S w hs hB hl (hP.heads (by omega)) (hP.no5 (by omega))).mono ?_;rintro e w' ⟨x,f,n,rfl,h,hb⟩;refine⟨x,f,n,rfl,?_,hb⟩;rcases h with⟨rfl,F,P,rfl,rfl,h⟩ | ⟨h,rfl,rfl,rfl⟩;{exact .inl ⟨by decide,.inr (.inl ⟨hP.parts (by omega),rfl,F,P,rfl,rfl,h⟩)⟩};{exact .inr ⟨rfl,rfl,rfl,⟨fun _=>hP.size (by omega),fun _=>hP.heads (by omega),fun _=>hP.no3 (by omega),fun _=>hP.no4 (by omega),fun _=>hP.no5 (by omega),fun _=>h,by omega⟩⟩}
theorem Ur (a:o_)(l:List aj)(c:Nat)(S:Nat->Prop)(w:w_)(hs:am w S a l)(hB:∀ b,S b->b<w.heap.size)(hl:aH l<=1048576)(hP:gK l 6):c_ 76 #[.agg #[.slice a l.length c]] w (o9 l 6 w):=by
 refine(rk a l c S w hs hB hl (hP.no5 (by omega))).mono ?_;rintro e w' ⟨x,f,n,rfl,h,hb⟩;refine⟨x,f,n,rfl,?_,hb⟩;rcases h with⟨rfl,rfl,F,rfl,h⟩ | ⟨rfl,rfl,rfl,h⟩;{exact .inl ⟨by decide,.inr (.inr (.inl ⟨hP.parts (by omega),hP.no6 (by omega),rfl,rfl,F,rfl,h⟩))⟩};{exact .inr ⟨rfl,rfl,rfl,⟨fun _=>hP.size (by omega),fun _=>hP.heads (by omega),fun _=>hP.no3 (by omega),fun _=>hP.no4 (by omega),fun _=>hP.no5 (by omega),fun _=>hP.no6 (by omega),fun _=>h⟩⟩}
def EK:Nat->Value
 | 0=>.func (.func 70) #[] #[]
 | 1=>.func (.func 71) #[] #[]
 | 2=>.func (.func 72) #[] #[]
 | 3=>.func (.func 73) #[] #[]
 | 4=>.func (.func 74) #[] #[]
 | 5=>.func (.func 75) #[] #[]
 | _=>.func (.func 76) #[] #[]
theorem tS:GA gd:=by
 intro a l c S w hG hs hB hl;have X0:H_ (dO w a l.length c (jX w a l.length c)):=dO.start w a l.length c;have BS:H_ (∀ W,b_ w W->∀ b,S b->b<W.heap.size):=fun W hW b h=>l_ (hB b h) hW.size;have CH0:H_ (∀ W,b_ w W->c_ 70 #[.agg #[.slice a l.length c]] W (o9 l 0 W)):=fun W hW=>Ut a l c S W (hs.keep hW hB) (aa BS W hW) hl;have CH1:H_ (∀ W,b_ w W->gK l 1->c_ 71 #[.agg #[.slice a l.length c]] W (o9 l 1 W)):=fun W hW hP=>UD a l c S W (hs.keep hW hB) (aa BS W hW) hl hP;have CH2:H_ (∀ W,b_ w W->gK l 2->c_ 72 #[.agg #[.slice a l.length c]] W (o9 l 2 W)):=fun W hW hP=>UB a l c S W (hs.keep hW hB) (aa BS W hW) hl hP;have CH3:H_ (∀ W,b_ w W->gK l 3->c_ 73 #[.agg #[.slice a l.length c]] W (o9 l 3 W)):=fun W hW hP=>Uv a l c S W (hs.keep hW hB) (aa BS W hW) hl hP;have CH4:H_ (∀ W,b_ w W->gK l 4->c_ 74 #[.agg #[.slice a l.length c]] W (o9 l 4 W)):=fun W hW hP=>Uu a l c S W (hs.keep hW hB) (aa BS W hW) hl (hG.keep hW hG.pos) hP;have CH5:H_ (∀ W,b_ w W->gK l 5->c_ 75 #[.agg #[.slice a l.length c]] W (o9 l 5 W)):=fun W hW hP=>UC a l c S W (hs.keep hW hB) (aa BS W hW) hl hP;have CH6:H_ (∀ W,b_ w W->gK l 6->c_ 76 #[.agg #[.slice a l.length c]] W (o9 l 6 W)):=fun W hW hP=>Ur a l c S W (hs.keep hW hB) (aa BS W hW) hl hP;have R0:H_ (((jX w a l.length c).alloc (.cells #[.func (.func 70) #[] #[],.func (.func 71) #[] #[],.func (.func 72) #[] #[],.func (.func 73) #[] #[],.func (.func 74) #[] #[],.func (.func 75) #[] #[],.func (.func 76) #[] #[]] 37)).rowIs (w.heap.size+2) 37 7 EK):=by
  have h:=World.rowIs_alloc (jX w a l.length c) #[.func (.func 70) #[] #[],.func (.func 71) #[] #[],.func (.func 72) #[] #[],.func (.func 73) #[] #[],.func (.func 74) #[] #[],.func (.func 75) #[] #[],.func (.func 76) #[] #[]] 37 EK (fun i hi=>by
   match i,hi with
   | 0,_=>rfl | 1,_=>rfl | 2,_=>rfl | 3,_=>rfl | 4,_=>rfl | 5,_=>rfl | 6,_=>rfl | n+7,h=>exact zcc h (by simp))
  rw[ol]at h;exact h
 clear hs hB hG hl BS;go_enter Tryz.func26,Tryz.ntmps26;go_wp2
 go_loopg [10] 7 (fun g i wr=>∃(k:Nat),k+g=7/\i=i_ k/\dO w a l.length c wr/\wr.rowIs (w.heap.size+2) 37 7 EK/\H_ (gK l k));(case atStart=>exact⟨0,by omega,rfl,(aa X0).alloc _,aa R0,gK.begin l⟩);case round=>
  clear X0 R0;obtain⟨k,hk,rfl,hx,hR,hP⟩:=hrel;have u0:=hx.unit;have km:=hx.size;have we:=hR.lt;by_cases au:k<7
  ·obtain⟨F,ck,qI,CC⟩:∃ F,wr.cell? (a_ (w.heap.size+2) k)=some (.func (.func F) #[] #[])/\(∀ W:w_,(callFunc F #[.agg #[.slice a l.length c]]).run Tryz.prog W=.ok (.enter F #[.agg #[.slice a l.length c]]) W)/\H_ (c_ F #[.agg #[.slice a l.length c]] wr (o9 l k wr)):=by
    have WB:k=0\/k=1\/k=2\/k=3\/k=4\/k=5\/k=6:=by{omega};rcases WB with rfl | rfl | rfl | rfl | rfl | rfl | rfl;{exact⟨_,hR.cell (i:=0) (by omega),fun W=>by simp[callFunc,Tryz.func70,Tryz.f70,go_sem],aa CH0 wr hx.old⟩};{exact⟨_,hR.cell (i:=1) (by omega),fun W=>by simp[callFunc,Tryz.func71,Tryz.f71,go_sem],aa CH1 wr hx.old hP.o⟩};{exact⟨_,hR.cell (i:=2) (by omega),fun W=>by simp[callFunc,Tryz.func72,Tryz.f72,go_sem],aa CH2 wr hx.old hP.o⟩};{exact⟨_,hR.cell (i:=3) (by omega),fun W=>by simp[callFunc,Tryz.func73,Tryz.f73,go_sem],aa CH3 wr hx.old hP.o⟩};{exact⟨_,hR.cell (i:=4) (by omega),fun W=>by simp[callFunc,Tryz.func74,Tryz.f74,go_sem],aa CH4 wr hx.old hP.o⟩};{exact⟨_,hR.cell (i:=5) (by omega),fun W=>by simp[callFunc,Tryz.func75,Tryz.f75,go_sem],aa CH5 wr hx.old hP.o⟩};{exact⟨_,hR.cell (i:=6) (by omega),fun W=>by simp[callFunc,Tryz.func76,Tryz.f76,go_sem],aa CH6 wr hx.old hP.o⟩}
   have HR:=af hR;have HX:=af hx;clear hR hx CH0 CH1 CH2 CH3 CH4 CH5 CH6;go_wp2_with fail;refine(aa CC).mono ?_;rintro e w2 ⟨x,f,n,rfl,hc,bj⟩;have aN:=(aa HX).below' bj;have TP:H_ (w2.rowIs (w.heap.size+2) 37 7 EK):=(aa HR).of_block (bj.block _ (aa HR).lt);by_cases h0:x=0;{have HP:f=0/\n=0/\gK l (k+1):=by{rcases hc with hc | hc;{exact zcc h0 hc.1};{exact hc.2}};obtain⟨rfl,rfl,hp2⟩:=HP;have HP:=af hp2;have BA:=af aN;subst h0;clear hc aN bj HX HR CC hp2;go_wp2;go_roundg (7-(k+1));(case measure=>omega);case rel=>exact⟨k+1,by omega,by go_num,(aa BA).alloc _,(aa TP).alloc _,HP⟩};{have HU:H_ (cZ l x f n):=by{rcases hc with hc | hc;{exact hc.2};{exact zcc hc.1 h0}};have h0':(x != 0)=true:=by{simpa using h0};have h0'':(x==0)=false:=zag.2 h0;have xl:=aN.alloc (.cells #[i_ x,i_ f,i_ n] 36);have r0:=xl.res 0 (by omega);have r1:=xl.res 1 (by omega);have r2:=xl.res 2 (by omega);have z0:=xl.frozen 0;have z1:=xl.frozen 1;have z2:=xl.frozen 2;have sn:=aN.size;have yP:w.heap.size+1<w2.heap.size:=by{omega};have BP:w.heap.size+1<w2.heap.size+1:=by{omega};have BB:H_ (∀ v0 v1 v2,b_ w ((((w2.alloc (.cells #[i_ x,i_ f,i_ n] 36)).setCell (a_ (w.heap.size+1) 0) v0).setCell (a_ (w.heap.size+1) 1) v1).setCell (a_ (w.heap.size+1) 2) v2)):=fun v0 v1 v2=>aJ xl v0 v1 v2;have RV:H_ (∀ o v0 v1 v2,b_ w ((((w2.setCell (a_ (w.heap.size+1) 0) v0).setCell (a_ (w.heap.size+1) 1) v1).setCell (a_ (w.heap.size+1) 2) v2).alloc o)):=fun o v0 v1 v2=>(aJ aN v0 v1 v2).alloc (by simp;omega) o;have s0:=aN.res 0 (by omega);have s1:=aN.res 1 (by omega);have s2:=aN.res 2 (by omega);have y0:=aN.frozen 0;have y1:=aN.frozen 1;have y2:=aN.frozen 2;clear hc xl aN bj HX HR CC TP;go_wp2_with fail;refine zcd (v:=.agg #[i_ x,i_ f,i_ n]) (by simp[results,Tryz.results26,go_sem,r0,r1,r2,s0,s1,s2,yP,BP]) rfl ⟨x,f,n,rfl,HU.o,?_⟩;first | exact BB.o _ _ _ | exact RV.o _ _ _ _}
  {obtain rfl:k=7:=by{omega};have HU:H_ (cZ l 0 0 0):=hP.o.all (by omega);have r0:=hx.res 0 (by omega);have r1:=hx.res 1 (by omega);have r2:=hx.res 2 (by omega);have z0:=hx.frozen 0;have z1:=hx.frozen 1;have z2:=hx.frozen 2;have BB:H_ (∀ v0 v1 v2,b_ w (((wr.setCell (a_ (w.heap.size+1) 0) v0).setCell (a_ (w.heap.size+1) 1) v1).setCell (a_ (w.heap.size+1) 2) v2)):=fun v0 v1 v2=>aJ hx v0 v1 v2;clear hR hP;go_wp2_with fail;refine zcd (v:=.agg #[i_ 0,i_ 0,i_ 0]) (by simp[results,Tryz.results26,go_sem,r0,r1,r2]) rfl ⟨0,0,0,rfl,HU.o,BB.o _ _ _⟩}
end Go.Proofs.YtcjfjflljdojlaaGreatDoor
