import Derived.Test.YtcjfjflljdojlaaGreatDoorPart20
set_option linter.unusedSimpArgs false
set_option linter.unusedVariables false
set_option maxHeartbeats 16000000
set_option maxRecDepth 100000
namespace Go.Proofs.YtcjfjflljdojlaaGreatDoor
open Go.RowKit
attribute [local go_sem] cp
def kt (x:ak)(m:Nat->Nat):Nat->Nat->Nat
 | 0=>m
 | p+1=>if(aT x p).op=11 then(fun g=>kt x m p g+(if(aT x p).fb=(g:Int)then 1 else 0))else kt x m p
def eB (l:List ak):Nat->Nat->Nat
 | 0=>fun _=>0
 | f+1=>kt (am l f) (eB l f) (am l f).ins.length
theorem yy (x:ak)(m:Nat->Nat)(g:Nat):∀ p,kt x m p g<=m g+p
 | 0=>n_
 | p+1=>by
  have h:=yy x m g p;by_cases e:(aT x p).op=11
  ·have h2:kt x m (p+1) g=kt x m p g+(if(aT x p).fb=(g:Int)then 1 else 0):=by
    show(if _ then _ else _:Nat->Nat) g=_;rw[if_pos e]
   rw[h2];split<;>omega
  ·have h2:kt x m (p+1) g=kt x m p g:=by
    show(if _ then _ else _:Nat->Nat) g=_;rw[if_neg e]
   omega
theorem ru (l:List ak)(g:Nat):∀ f,f<=l.length->eB l f g<=bw cd l f
 | 0,_=>Nat.zero_le _
 | f+1,h=>by
  have h1:=ru l g f (by omega);have h2:=yy (am l f) (eB l f) g (am l f).ins.length;have h3:bw cd l (f+1)=bw cd l f+(am l f).ins.length:=dJ cd l f ak.z (by omega);show kt (am l f) (eB l f) (am l f).ins.length g<=_;omega
theorem wY (x:ak)(m:Nat->Nat)(m':Nat->Bool)(g:Nat)(h:m g=0↔m' g=false):∀ p,kt x m p g=0↔fS x m' p g=false
 | 0=>h
 | p+1=>by
  have ih:=wY x m m' g h p;by_cases e:(aT x p).op=11
  ·have h2:kt x m (p+1) g=kt x m p g+(if(aT x p).fb=(g:Int)then 1 else 0):=by
    show(if _ then _ else _:Nat->Nat) g=_;rw[if_pos e]
   have h3:fS x m' (p+1) g=(fS x m' p g||decide ((aT x p).fb=(g:Int))):=by
    show(if _ then _ else _:Nat->Bool) g=_;rw[if_pos e]
   rw[h2,h3,Bool.or_eq_false_iff,<-ih,decide_eq_false_iff_not];split<;>omega
  ·have h2:kt x m (p+1) g=kt x m p g:=by
    show(if _ then _ else _:Nat->Nat) g=_;rw[if_neg e]
   have h3:fS x m' (p+1) g=fS x m' p g:=by
    show(if _ then _ else _:Nat->Bool) g=_;rw[if_neg e]
   rw[h2,h3];exact ih
theorem sj (l:List ak)(g:Nat):∀ f,eB l f g=0↔bm l f g=false
 | 0=>⟨fun _=>rfl,fun _=>rfl⟩
 | f+1=>wY (am l f) (eB l f) (bm l f) g (sj l g f) (am l f).ins.length
def uj (l:List ak)(c f n:Int):Prop:=
 (c=7/\n=0/\∃ F:Nat,f=F/\1<=F/\F<l.length/\bm l l.length F=false/\∀ g,1<=g->g<F->bm l l.length g=true) \/
 (c=0/\f=0/\n=0/\∀ g,1<=g->g<l.length->bm l l.length g=true)
theorem rd (a:o_)(l:List ak)(c:Nat)(S:Nat->Prop)(w:World)(hs:ao w S a l)(hB:∀ b,S b->b<w.heap.size)(hl:aI l<=1048576)(no5:rk l (j9 l) (hZ l)) :
  c_ 76 #[.agg #[.slice a l.length c]] w fun e w'=>∃ x f n,e=.returned (.agg #[i_ x,i_ f,i_ n])/\uj l x f n/\b_ w w':=by
 have hn:=hs.1;have py:l.length<=1048576:=by unfold aI at hl;omega
 have HT:Hid (∀ k,bw cd l k<=1048576):=Kc l hl;have HS:=af hs;have HB:=af hB;have SB:=af no5;have kH:=run_make_row' (P:=Tryz.prog) 70 3 (i_ 0) 8 Tryz.underlying70 (by kernel_rfl) rfl .i64 .i64 l.length (by omega) hn;have W0:Hid (oY w a l.length c (w.heap.size+1+1) (fun _=>0) ((kd w a l.length c).alloc (.cells (madeCells #[i_ 0] l.length) 3))):=
  ⟨(dP.start w a l.length c).alloc _,by
   have h:=World.rowIs_made (kd w a l.length c) (i_ 0) l.length 3;rw[nS]at h;exact h,by omega⟩
 clear hs hB hl no5;go_enter Tryz.func76,Tryz.ntmps76;go_wp2_with fail
 clear kH;go_loopg [16] l.length (fun g i wr=>∃(k:Nat),k+g=l.length/\i=i_ k/\oY w a l.length c (w.heap.size+1+1) (eB l k) wr)
 case atStart=>exact⟨0,by omega,rfl,aa W0⟩
 case round=>
  clear W0;obtain⟨f,hk,rfl,hW⟩:=hrel;have u0:=hW.box.unit;by_cases ax:f<l.length
  ·have Pt:Hid (∀ p,(aT (am l f) p).op≠11->∀ g,kt (am l f) (eB l f) (p+1) g=kt (am l f) (eB l f) p g):=fun p hp g=>by
    show(if _ then _ else _:Nat->Nat) g=_;rw[if_neg hp]
   have Pq:Hid (∀ p,(aT (am l f) p).op=11->∀ g:Nat,kt (am l f) (eB l f) (p+1) g=kt (am l f) (eB l f) p g+(if(aT (am l f) p).fb=(g:Int)then 1 else 0)):=fun p hp g=>by
    show(if _ then _ else _:Nat->Nat) g=_;rw[if_pos hp]
   have BND:Hid (∀ p g,p<=(am l f).ins.length->kt (am l f) (eB l f) p g<=1048576):=fun p g hp=>by
    have h1:=yy (am l f) (eB l f) g p;have h2:=ru l g f (by omega);have h3:bw cd l (f+1)=bw cd l f+(am l f).ins.length:=dJ cd l f ak.z ax;have h4:=aa HT (f+1);omega
   have E4:Hid (eB l (f+1)=kt (am l f) (eB l f) (am l f).ins.length):=rfl;have FB:Hid (∀ p,p<(am l f).ins.length->(aT (am l f) p).op=11->0<=(aT (am l f) p).fb/\(aT (am l f) p).fb<l.length):=fun p h1 h2=>Df (aa SB) ax h1 h2;have hW:oY w a l.length c (w.heap.size+1+1) (kt (am l f) (eB l f) 0) wr:=hW;obtain⟨b,off,rfl,hb,aE⟩:=((aa HS).keep hW.box.old (aa HB)).2 (by omega);have N:aU wr S b (off+f * 9) (am l f):=aE f ax;clear aE;obtain⟨x,mi⟩:∃ x,x=am l f:=⟨_,rfl⟩;rw[<-mi]at N FB E4 Pt Pq hW BND;clear mi;generalize kt x (eB l f)=MK at *;obtain⟨a5,c5,h5,H5⟩:=N.ups;obtain⟨a6,c6,h6,H6⟩:=N.consts;obtain⟨a7,c7,h7,H7⟩:=N.ins;obtain⟨a8,c8,h8,H8⟩:=N.named;have c0:=N.name;have c1:=N.line;have c2:=N.params;have c3:=N.rest;have c4:=N.regs;have VV:=af H7;have jn:=H7.1;clear N H5 H6 H7 H8;obtain⟨nm,ln,pr,rs,rg,us,cs,is,ns⟩:=x;simp only at *;obtain⟨wo,rfl⟩:∃ wo,wo=wr:=⟨wr,rfl⟩;have sM:=af (hW.alloc (.cells #[.string nm,i_ ln,i_ pr,.bool rs,i_ rg,.slice a5 us.length c5,.slice a6 cs.length c6,.slice a7 is.length c7,.slice a8 ns.length c8] 43));have Bf:=hW.box.old.size;clear hW;go_wp2_with fail
   clear h5 h6 h7 h8 c0 c1 c2 c3 c4 u0;go_loopg [23] is.length (fun g i wr=>∃(k:Nat),k+g=is.length/\i=i_ k/\oY w (some (a_ b off)) l.length c (w.heap.size+1+1) (MK k) wr/\Below w.heap.size wo wr)
   case atStart=>exact⟨0,by omega,rfl,aa sM,r_.alloc Bf _⟩
   case round=>
    clear sM;obtain⟨q,hq,rfl,hW,ir⟩:=hrel;by_cases fw:q<is.length
    ·obtain⟨bi,KI,rfl,YB,y6⟩:=((aa VV).keep ir (fun b h=>aa HB b h)).2 (by omega);have M:=y6 q fw;clear y6;have NQ:=aa Pt q;have SQ:=aa Pq q;have FQ:=aa FB q fw;obtain⟨y,uZ⟩:∃ y,y=is[q]?.getD aA.z:=⟨_,rfl⟩;have Po:aT ⟨nm,ln,pr,rs,rg,us,cs,is,ns⟩ q=y:=by rw[uZ];rfl
     rw[Po]at NQ SQ FQ;rw[<-uZ]at M;clear uZ Po;have d0:=M.op;have d1:=M.fa;have d2:=M.fb;have d3:=M.fc;have d4:=M.fd;clear M;have WC:=af NQ;have Xv:=af SQ;have Ws:=af FQ;clear NQ SQ FQ;obtain⟨sS,ya,yb,yc,yd⟩:=y;simp only at *;have hW1:=hW.alloc (.cells #[i_ sS,i_ ya,i_ yb,i_ yc,i_ yd] 51);have Eb:=af (ir.alloc (Nat.le_trans Bf ir.size) (.cells #[i_ sS,i_ ya,i_ yb,i_ yc,i_ yd] 51));have lz:=af hW1;have kq:=hW.box.size;by_cases fo:sS=11
     ·aj fo
      obtain⟨rB,fJ⟩:=aa Ws rfl;obtain⟨g,rfl⟩:=Int.eq_ofNat_of_zero_le rB;have fm:g<l.length:=by omega
      have ck:=hW.row.cell (i:=g) fm;have zk:=hW.row.frozen g;have Sl:=hW.row.lt;have XG:=aa BND q g (by omega);obtain⟨V,hV⟩:∃ V,V=MK q g:=⟨_,rfl⟩;have HV:=af hV;have Xp:=af hW;have aaf:=af ir;have En:=ir.size;rw[<-hV]at ck XG;clear hW hW1 ir hV;go_wp2_with fail
      go_roundg (is.length-(q+1))
      case measure=>omega
      case rel=>exact⟨q+1,by omega,by go_num,((aa Xp).set (m':=MK (q+1)) g ((V:Int)+1) (fun i hi=>by
        rw[aa Xv (by first | rfl | trivial) i];by_cases e:i=g
        ·aj e;rw[if_pos rfl,if_pos rfl,HV.out];omega
        ·rw[if_neg e,if_neg (by omega)];omega)).alloc _,((aa aaf).setCell (show w.heap.size<=w.heap.size+1+1 by omega) _).alloc (by simp;omega) _⟩
     ·have UX:(sS==11)=false:=beq_eq_false_iff_ne.2 fo;have jm:Hid (oY w (some (a_ b off)) l.length c (w.heap.size+1+1) (MK (q+1)) (wr.alloc (.cells #[i_ sS,i_ ya,i_ yb,i_ yc,i_ yd] 51))):=hW1.congr fun i _=>aa WC fo i;clear hW hW1 ir fo;go_wp2_with fail
      go_roundg (is.length-(q+1))
      case measure=>omega
      case rel=>exact⟨q+1,by omega,by go_num,aa jm,aa Eb⟩
    ·have mz:q=is.length:=by omega
     have lD:Hid (oY w (some (a_ b off)) l.length c (w.heap.size+1+1) (eB l (f+1)) wr):=by
      show oY _ _ _ _ _ _ _;rw[E4.out];show oY _ _ _ _ _ (MK is.length) _;rw[<-mz];exact hW
     clear hW ir mz;go_wp2_with fail
     go_roundg (l.length-(f+1))
     case measure=>omega
     case rel=>exact⟨f+1,by omega,by go_num,aa lD⟩
  ·have VQ:f=l.length:=by omega
   have Sw:Hid (oY w a l.length c (w.heap.size+1+1) (eB l l.length) wr):=by
    have h2:eB l l.length=eB l f:=by rw[VQ]
    show oY _ _ _ _ _ _ _;rw[h2];exact hW
   clear hW VQ;go_wp2_with fail
   clear u0;go_loopg [8] l.length (fun g i wr=>∃(k:Nat),1<=k/\k+g=l.length+1/\i=i_ k/\oY w a l.length c (w.heap.size+1+1) (eB l l.length) wr/\Hid (∀ q,1<=q->q<k->bm l l.length q=true))
   case atStart=>exact⟨1,by omega,by omega,rfl,aa Sw,fun q h1 h2=>by omega⟩
   case round=>
    clear Sw;obtain⟨k,kN,hkg,rfl,hW,dZ⟩:=hrel;by_cases iK:k<l.length
    ·have mc:=hW.row.cell iK;have HZ:=af (sj l k l.length);have To:=af (ru l k l.length n_);have XG:=aa HT l.length;obtain⟨V,hV⟩:∃ V,V=eB l l.length k:=⟨_,rfl⟩;rw[<-hV]at mc HZ To;clear hV;have Sl:=hW.row.lt;by_cases Tv:V=0
     ·have RR:Hid (uj l 7 k 0):=.inl ⟨rfl,rfl,k,rfl,kN,iK,HZ.out.1 Tv,dZ.out⟩;have e0:((V:Int)==0)=true:=by simp;omega
      have aO:=hW.box;obtain⟨w2,rfl⟩:∃ w2,w2=wr:=⟨wr,rfl⟩;clear Tv HZ To dZ hW;have r0:=aO.res 0 (by omega);have r1:=aO.res 1 (by omega);have r2:=aO.res 2 (by omega);have z0:=aO.frozen 0;have z1:=aO.frozen 1;have z2:=aO.frozen 2;have BB:Hid (∀ v0 v1 v2,b_ w (((w2.setCell (a_ (w.heap.size+1) 0) v0).setCell (a_ (w.heap.size+1) 1) v1).setCell (a_ (w.heap.size+1) 2) v2)):=fun v0 v1 v2=>aK aO v0 v1 v2;go_wp2_with fail
      exact bodyPost_ret (v:=.agg #[i_ 7,i_ k,i_ 0]) (by simp[results,Tryz.results76,go_sem,r0,r1,r2]) rfl ⟨7,k,0,rfl,aa RR,BB.out _ _ _⟩
     ·have RR:Hid (∀ q,1<=q->q<k+1->bm l l.length q=true):=fun q h1 h2=>by
       by_cases e:q=k
       ·aj e
        cases hm:bm l l.length q
        ·exact absurd (HZ.out.2 hm) Tv
        ·rfl
       ·exact dZ.out q h1 (by omega)
      have e0:((V:Int)==0)=false:=beq_eq_false_iff_ne.2 (by omega);have LW:=af hW;clear Tv HZ To dZ hW;go_wp2_with fail
      go_roundg (l.length-k)
      case measure=>omega
      case rel=>exact⟨k+1,by omega,by omega,by go_num,aa LW,RR⟩
    ·have RR:Hid (uj l 0 0 0):=.inr ⟨rfl,rfl,rfl,fun g h1 h2=>dZ.out g h1 (by omega)⟩;have aO:=hW.box;obtain⟨w2,rfl⟩:∃ w2,w2=wr:=⟨wr,rfl⟩;clear dZ hW;have r0:=aO.res 0 (by omega);have r1:=aO.res 1 (by omega);have r2:=aO.res 2 (by omega);have z0:=aO.frozen 0;have z1:=aO.frozen 1;have z2:=aO.frozen 2;have BB:Hid (∀ v0 v1 v2,b_ w (((w2.setCell (a_ (w.heap.size+1) 0) v0).setCell (a_ (w.heap.size+1) 1) v1).setCell (a_ (w.heap.size+1) 2) v2)):=fun v0 v1 v2=>aK aO v0 v1 v2;go_wp2_with fail
     exact bodyPost_ret (v:=.agg #[i_ 0,i_ 0,i_ 0]) (by simp[results,Tryz.results76,go_sem,r0,r1,r2]) rfl ⟨0,0,0,rfl,aa RR,BB.out _ _ _⟩
end Go.Proofs.YtcjfjflljdojlaaGreatDoor
