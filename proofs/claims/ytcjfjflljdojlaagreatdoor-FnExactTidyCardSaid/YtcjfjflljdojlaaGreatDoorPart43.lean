import Derived.Test.YtcjfjflljdojlaaGreatDoorPart42
set_option linter.all false
set_option maxHeartbeats 8000000
set_option maxRecDepth 100000
namespace Go.Proofs.YtcjfjflljdojlaaGreatDoor
open Go.RowKit
def iK (K:Nat->Bool)(y:Nat):Nat->Bool:=fun j=>if j=y then true else K j
def jw (K:Nat->Bool):Nat->Nat
 | 0=>0
 | m+1=>jw K m+if K m=true then 0 else 1
theorem xb {K K':Nat->Bool}:∀ m,(∀ j,j<m->K j=K' j)->jw K m=jw K' m
 | 0,_=>rfl
 | m+1,h=>by
  unfold jw;rw[xb m (fun j hj=>h j (by omega)),h m (by omega)]
theorem pZ {K:Nat->Bool}{y:Nat}(hK:K y=false):∀ m,y<m->jw (iK K y) m+1=jw K m
 | 0,h=>zcc h (bW _)
 | m+1,h=>by
  unfold jw;by_cases e:y=m
  ·subst e;rw[xb (K:=iK K y) (K':=K) y (fun j hj=>zcb (show ¬j=y by omega)),hK,zca (show iK K y y=true from zca rfl)];rfl
  ·have:=pZ hK m (by omega);rw[show iK K y m=K m from zcb (by omega)];omega
structure Bw (x:aj)(C k:Nat)(more:Bool)(K:Nat->Bool):Prop where
 zero:K 0=true
 rea:∀ i,i<x.u.length->K i=true->LB x i
 le:jw K x.u.length<=C
 lt:more=true->jw K x.u.length<C
 cls:more=false->∀ i,i<k->K i=true->∀ j,j∈eu (aX x i) i->K j=true
structure Fb (x:aj)(C k q:Nat)(ts:List Nat)(more:Bool)(K:Nat->Bool):Prop where
 i:Bw x C k more K
 here:K k=true
 done:more=false->∀ q',q'<q->K (ts[q']?.getD 0)=true
section
variable {x:aj} {C k q:Nat} {ts:List Nat} {more:Bool} {K:Nat->Bool}
theorem Bw.again (h:Bw x C k more K):Bw x (jw K x.u.length) 0 false K:=⟨h.zero,h.rea,n_,fun e=>Bool.noConfusion e,fun _ i hi=>zcc hi (bW _)⟩
theorem Bw.skip (h:Bw x C k more K)(hk:K k=false):Bw x C (k+1) more K:=⟨h.zero,h.rea,h.le,h.lt,fun e i hi hK=>by
 by_cases e':i=k
 ·subst e';rw[hk]at hK;cases hK
 ·exact h.cls e i (by omega) hK⟩
theorem Bw.fin (h:Bw x C x.u.length false K)(hf:jW x):rT x K:=EZ hf h.zero h.rea (h.cls rfl)
theorem Bw.j (h:Bw x C k more K)(hk:K k=true)(ts:List Nat):Fb x C k 0 ts more K:=⟨h,hk,fun _ q hq=>zcc hq (bW _)⟩
theorem Fb.o (h:Fb x C k ts.length ts more K)(e:ts=eu (aX x k) k):Bw x C (k+1) more K:=⟨h.i.zero,h.i.rea,h.i.le,h.i.lt,fun em i hi hK j hj=>by
 by_cases e':i=k
 ·subst e';rw[<-e]at hj;obtain⟨q,hq,rfl⟩:=zaf hj;have:=h.done em q hq
  rwa [g_ hq]at this
 ·exact h.i.cls em i (by omega) hK j hj⟩
theorem Fb.old (h:Fb x C k q ts more K)(hy:K (ts[q]?.getD 0)=true):Fb x C k (q+1) ts more K:=⟨h.i,h.here,fun em q' LY=>by
 by_cases e:q'=q
 ·subst e;exact hy
 ·exact h.done em q' (by omega)⟩
theorem Fb.new (h:Fb x C k q ts more K)(hf:jW x)(e:ts=eu (aX x k) k)(hk:k<x.u.length)(hq:q<ts.length)(hy:K (ts[q]?.getD 0)=false):Fb x C k (q+1) ts true (iK K (ts[q]?.getD 0)):=by
 have hm:ts[q]?.getD 0∈eu (aX x k) k:=by{rw[<-e,g_ hq];exact zab hq};have hl:=tf hf hk hm;have hc:=pZ hy _ hl;have px:=h.i.le;refine⟨⟨?_,fun i hi hK=>?_,by omega,fun _=>by omega,fun e=>Bool.noConfusion e⟩,?_,fun e=>Bool.noConfusion e⟩;{unfold iK;split;{rfl};{exact h.i.zero}};{unfold iK at hK;split at hK;{next e'=>rw[e'];exact .step (h.i.rea k hk h.here) hk hm};{exact h.i.rea i hi hK}};{unfold iK;split;{rfl};{exact h.here}}
end
def Bu (w:w_)(kb N:Nat)(K:Nat->Bool)(wr:w_):Prop:=wr.rowIs kb 4 N (fun j=>.bool (K j))/\b_ w wr/\w.heap.size<=kb
theorem Bu.upd {w wr:w_}{kb N y:Nat}{K:Nat->Bool}(h:Bu w kb N K wr):Bu w kb N (iK K y) (wr.setCell (a_ kb y) (.bool true)):=
 ⟨(h.1.set y _).congr (fun j _=>by unfold iK;split<;>rfl),h.2.1.setCell h.2.2 _,h.2.2⟩
theorem Bu.below {w wr w2:w_}{kb N:Nat}{K:Nat->Bool}(h:Bu w kb N K wr)(hb:b_ wr w2):Bu w kb N K w2:=
 ⟨h.1.of_block (hb.block _ h.1.lt),h.2.1.trans (hb.mono h.2.1.size),h.2.2⟩
def I9 (x:aj)(w:w_)(e:Ending)(w':w_):Prop:=∃ kb K,e=.returned (s_ kb 0 x.u.length x.u.length)/\rT x K/\Bu w kb x.u.length K w'
theorem Gk (w:w_):ao (w.alloc (.cells #[] 3)) w.heap.size (s_ w.heap.size 0 0 0) []:=⟨rfl,.inr ⟨w.heap.size,0,#[],rfl,n_,heap_alloc_new _ _,n_,Nat.zero_le _,rfl,rfl⟩⟩
theorem DA (x:aj)(b c:Nat)(w:w_)(hf:jW x)(cY:b<w.heap.size)(qy:∀ j,j<x.u.length->aK w b (j * 5) (aX x j)) :
  c_ 24 #[s_ b 0 x.u.length c] w (I9 x w):=by
 have hN:=hf.few;have Ih:=hf.some_;have HF:=af hf;have En:H_ (∀ W,b_ w W->∀ j,j<x.u.length->aK W b (j * 5) (aX x j)):=fun W hW a ha=>by
  have k:=qy a ha;have e:∀ o,W.cell? (a_ b o)=w.cell? (a_ b o):=fun o=>hW.cell (p:=(a_ b o)) cY;exact⟨(e _).trans k.op,(e _).trans k.fa,(e _).trans k.fb,(e _).trans k.fc,(e _).trans k.fd⟩
 obtain⟨i0,hi,dE,cS,dA⟩:=aM dR;have kG:H_ (∃ K,Bw x (jw K x.u.length+1) x.u.length true K/\Bu w w.heap.size x.u.length K (w.alloc (.cells ((madeCells #[.bool false] x.u.length).setIfInBounds 0 (.bool true)) 4))):=by have e:(w.alloc (.cells (madeCells #[.bool false] x.u.length) 4)).setCell (a_ w.heap.size 0) (.bool true)=w.alloc (.cells ((madeCells #[.bool false] x.u.length).setIfInBounds 0 (.bool true)) 4):=World.setCell_alloc_new _ _ _ _;rw[<-e];refine⟨iK (fun _=>false) 0,⟨zca rfl,fun i hi hK=>?_,Nat.le_succ _,fun _=>Nat.lt_succ_self _,fun e=>Bool.noConfusion e⟩,Bu.upd ⟨World.rowIs_made w (.bool false) x.u.length 4,r_.alloc n_ _,n_⟩⟩;unfold iK at hK;split at hK;{next e=>rw[e];exact .zero};{cases hK}
 have kE:=run_make_row' (P:=Tryz.prog) 68 4 (.bool false) 1 Tryz.underlying68 oe rfl .i64 .i64 x.u.length (by omega) (by omega);have hzr:((w.alloc (.cells (madeCells #[.bool false] x.u.length) 4)).frozen? (a_ w.heap.size 0))=false:=(World.rowIs_made w (.bool false) x.u.length 4).frozen 0;have XM:((w.alloc (.cells (madeCells #[.bool false] x.u.length) 4)).cell? (a_ w.heap.size 0))=some (.bool false):=(World.rowIs_made w (.bool false) x.u.length 4).cell (i:=0) Ih;clear hf qy;have HIR:H_ (∀ W (o:Obj),b_ w W->b_ w (W.alloc o)):=fun W o h=>h.alloc h.size o;go_enter Tryz.func24,Tryz.ntmps24;go_wp2_with fail
 obtain⟨K0,TJ,hW0⟩:=kG.o;have HI0:=af TJ;have sR:=af hW0;clear kE kG TJ hW0 hzr XM;generalize (w.alloc (.cells ((madeCells #[.bool false] x.u.length).setIfInBounds 0 (.bool true)) 4))=w0 at *;go_loopg [4] (jw K0 x.u.length+1) (fun gg v wr=>∃(C:Nat) (more:Bool) (K:Nat->Bool),v=.bool more/\gg=jw K x.u.length+(if more=true then 1 else 0)/\H_ (Bw x C x.u.length more K)/\H_ (Bu w w.heap.size x.u.length K wr));(case atStart=>exact⟨_,true,K0,rfl,rfl,HI0,sR⟩);case round=>
  obtain⟨C0,more,K,rfl,hgk,hI,hW⟩:=hrel;clear HI0 sR;cases more;{go_wp2;go_ret;exact⟨w.heap.size,K,rfl,hI.o.fin HF.o,hW.o⟩}
  ·have HI1:=af hI.o.again;clear hI;obtain⟨C,hC⟩:∃ C,C=jw K x.u.length:=⟨_,rfl⟩;rw[<-hC]at HI1 hgk;have hgk':gk=C+1:=hgk;clear hgk hC;go_wp2
   go_loopg [4,18] x.u.length (fun gg v i wr=>∃(k:Nat) (more:Bool) (K:Nat->Bool),k+gg=x.u.length/\i=i_ k/\v=.bool more/\H_ (Bw x C k more K)/\H_ (Bu w w.heap.size x.u.length K wr));(case atStart=>exact⟨0,false,K,by omega,rfl,rfl,HI1,hW⟩);case round=>
    clear HI1 hW;rename_i K0 _ _ _ _ _;obtain⟨k,more,K,hk,rfl,rfl,hI,hW⟩:=hrel;have bx:=hW.o.1;have Ii:=hW.o.2.1;have hkbl:=bx.lt;have hszK:w.heap.size<=wr.heap.size:=Ii.size;by_cases au:k<x.u.length
    ·have KI:(k:Int)<x.u.length:=by{omega};have M:=En.o wr Ii k au;have c0:=M.op;have c1:=M.fa;have c2:=M.fb;have c3:=M.fc;have c4:=M.fd;have ck:=bx.cell (i:=k) au;have bj:b<wr.heap.size:=by{omega};clear M;by_cases hK:K k=true
     ·rw[hK]at ck;have HJ:H_ (∀ ts,Fb x C k 0 ts more K):=fun ts=>hI.o.j hK ts;have Ze:H_ (∀ W,b_ wr W->Bu w w.heap.size x.u.length K W):=fun W h=>hW.o.below h;have Pn:=HF;have kM:dc (aX x k)=true->k+1<x.u.length:=fun e=>Pn.o.next k au (by unfold dc at *;rw[show(aX x k).op=(aR x k).op from qR x _]at e;exact e);have sK:=kd (i:=k) HF.o au;have vh:=jT (i:=k) HF.o au;obtain⟨n,hn⟩:∃ n,n=aX x k:=⟨_,rfl⟩;rw[<-hn]at c0 c1 c2 c3 c4 kM sK vh;have HN:=af hn;have NI:H_ (∀ o o',ao (((wr.alloc o).alloc (.cells #[] 3)).alloc o') (wr.heap.size+1) (s_ (wr.heap.size+1) 0 0 0) []):=fun o o'=>ao.alloc (by have:=Gk (wr.alloc o);rwa [show(wr.alloc o).heap.size=wr.heap.size+1 by simp]at this) o';have Ko:H_ (∀ o o',Below (wr.heap.size+1) (wr.alloc o) (((wr.alloc o).alloc (.cells #[] 3)).alloc o')):=fun o o'=>(r_.alloc (by simp) _).alloc (by simp) o';have Od:H_ (∀ o,b_ wr (wr.alloc o)):=fun o=>r_.alloc n_ o;have Pa:H_ (∀ o o',b_ wr ((wr.alloc o).alloc o')):=fun o o'=>(r_.alloc n_ o).alloc (by simp) o';clear bx Ii hI hW hK hn;obtain⟨op,fa,fb,fc,fd⟩:=n;dsimp only at c0 c1 c2 c3 c4 sK vh;by_cases v9:op=29\/op=30
      {have HT:H_ ([]=eu (aX x k) k):=by{show _=_;rw[<-HN.o];rcases v9 with rfl | rfl<;>rfl};have ZR:H_ (Bw x C (k+1) more K):=Fb.o (ts:=[]) (HJ.o []) HT.o;clear sK vh kM NI Ko Od HT HJ HN;rcases v9 with rfl | rfl;all_goals go_wp2;go_loopg [4,70] 0 (fun gg v i wr'=>v=.bool more/\i=i_ (0:Nat)/\H_ (Bu w w.heap.size x.u.length K wr'));(case atStart=>exact⟨rfl,rfl,Ze.o _ (Pa.o _ _)⟩);case round=>obtain⟨rfl,rfl,hW⟩:=hrel;go_wp2;go_roundg (x.u.length-(k+1));(case measure=>omega);case rel=>exact⟨k+1,more,K,by omega,by go_num,rfl,ZR,hW⟩};refine(Classical.em (op=19)).elim (fun ho=>?p1) (fun ho=>(Classical.em (op=31)).elim (fun Er=>?p2) (fun Er=>(Classical.em (dZ op=true)).elim (fun ml=>?p3) (fun ml=>?p5)));case' p1=>
       subst ho;obtain⟨f0,f1⟩:=sK (.inl rfl);obtain⟨A,hA⟩:=iV f0;subst hA;obtain⟨ts,yL⟩:∃ ts,ts=[A]:=⟨_,rfl⟩;have HT:H_ (ts=eu (aX x k) k):=by
        show _=_;rw[<-HN.o,yL];rfl
       clear sK vh f0 f1 kM v9;go_wp2_with (first
        | (at_builtin;refine zce _ rfl _ _ 70 rfl (wr.heap.size+1) 3 i0 (i_ 0) 1 8 Tryz.underlying70 hi dE cS dA rfl (by decide) (s_ (wr.heap.size+1) 0 0 0) 0 [] rfl (NI.o _ _) (a_ (wr.heap.size+1+1) 0) 1 1 [i_ (A:Nat)] rfl rfl ?c1 ?c2 ?c3 ?c4 ?c5 ?_)
        | go_in)
       (case c1=>intro j u hj;rcases j with _ | _<;>simp at hj<;>subst hj<;>simp[Addr.add,go_sem]);(case c2=>intro u hu;simp at hu;subst hu;rfl);(case c3=>unfold maxLen;omega);(case c4=>omega);(case c5=>first | (simp;done) | (simp;omega));intro v W bb hgrow _;have gQ:=af ((Ko.o _ _).grown hgrow (by simp) (fun j hj=>by cases hj;exact n_));have HO:H_ (ao W (wr.heap.size+1) v (aG ts)):=by{rw[yL];exact bb};have lv:H_ (b_ wr W):=(Od.o _).trans (gQ.o.mono (by omega));have wk:ts.length<=2:=by{rw[yL];simp};have hv:=HO.o.lenV;rw[aZ]at hv;obtain⟨va,vc,rfl⟩:=hv;clear bb hgrow NI Ko Od yL gQ;go_wp2_with fail
      case' p2=>
       subst Er;obtain⟨f0,f1⟩:=sK (.inr rfl);obtain⟨A,hA⟩:=iV f0;subst hA;have vi:=kM rfl;obtain⟨ts,yL⟩:∃ ts,ts=[k+1,A]:=⟨_,rfl⟩;have HT:H_ (ts=eu (aX x k) k):=by
        show _=_;rw[<-HN.o,yL];rfl
       clear sK vh f0 f1 kM v9 ho;go_wp2_with (first
        | (at_builtin;refine zce _ rfl _ _ 70 rfl (wr.heap.size+1) 3 i0 (i_ 0) 1 8 Tryz.underlying70 hi dE cS dA rfl (by decide) (s_ (wr.heap.size+1) 0 0 0) 0 [] rfl (NI.o _ _) (a_ (wr.heap.size+1+1) 0) 1 1 [i_ ((k:Int)+1)] rfl rfl ?c1 ?c2 ?c3 ?c4 ?c5 ?_)
        | go_in)
       (case c1=>intro j u hj;rcases j with _ | _<;>simp at hj<;>subst hj<;>simp[Addr.add,go_sem]);(case c2=>intro u hu;simp at hu;subst hu;rfl);(case c3=>unfold maxLen;omega);(case c4=>omega);(case c5=>first | (simp;done) | (simp;omega));intro v W bb hgrow _;have gQ:=af ((Ko.o _ _).grown hgrow (by simp) (fun j hj=>by cases hj;exact n_));have fQ:H_ (ao W (wr.heap.size+1) v (aG [k+1])):=by show ao _ _ _ _;unfold ao aG;simpa using bb
       have m:∀ j,W.cell? (a_ wr.heap.size j)=_:=fun j=>gQ.o.cell (p:=(a_ wr.heap.size j)) (Nat.lt_succ_self _);have m0:=m 0;have m1:=m 1;have m2:=m 2;have m3:=m 3;have m4:=m 4;simp[go_sem]at m0 m1 m2 m3 m4;have Pe:wr.heap.size+1<=W.heap.size:=by have:=gQ.o.size;simpa using this
       have SV:wr.heap.size<W.heap.size:=by omega
       have Ib:=fQ.o.lenV;obtain⟨Ow,T1,rfl⟩:=Ib;clear m bb hgrow NI Ko;go_wp2_with (first
        | (at_builtin;refine zce _ rfl _ _ 70 rfl (wr.heap.size+1) 3 i0 (i_ 0) 1 8 Tryz.underlying70 hi dE cS dA rfl (by decide) _ _ _ rfl (fQ.o.alloc _) (a_ W.heap.size 0) 1 1 [i_ (A:Nat)] rfl rfl ?c1 ?c2 ?c3 ?c4 ?c5 ?_)
        | go_in)
       (case c1=>intro j u hj;rcases j with _ | _<;>simp at hj<;>subst hj<;>simp[Addr.add,go_sem]);(case c2=>intro u hu;simp at hu;subst hu;rfl);(case c3=>show 2<=_;unfold maxLen;omega);(case c4=>show 2 * 8<=_;omega);(case c5=>simp;omega);intro v W' bb hgrow _;have Kw:=af ((gQ.o.alloc Pe _).grown hgrow (by simp;omega) (fun j hj=>(fQ.o.lt' j hj).1));clear gQ m0 m1 m2 m3 m4 Pe SV;have gQ:=Kw;have HO:H_ (ao W' (wr.heap.size+1) v (aG ts)):=by{show ao _ _ _ _;rw[yL];unfold ao aG at *;simpa using bb};have lv:H_ (b_ wr W'):=(Od.o _).trans (gQ.o.mono (by omega));have wk:ts.length<=2:=by{rw[yL];simp};have hv:=HO.o.lenV;rw[aZ]at hv;obtain⟨va,vc,rfl⟩:=hv;clear bb hgrow Od yL gQ Kw fQ;go_wp2_with fail
      case' p3=>
       obtain⟨f0,f1⟩:=vh ml;obtain⟨A,hA⟩:=iV f0;subst hA;have vi:=kM (by unfold dZ at ml;unfold dc;simp only[Bool.or_eq_true,beq_iff_eq]at ml;rcases ml with(((rfl | rfl) | rfl) | rfl) | rfl<;>rfl);obtain⟨ts,yL⟩:∃ ts,ts=[k+1,A]:=⟨_,rfl⟩;have HT:H_ (ts=eu (aX x k) k):=by
        show _=_;rw[<-HN.o,yL];unfold dZ at ml;simp only[Bool.or_eq_true,beq_iff_eq]at ml;rcases ml with(((rfl | rfl) | rfl) | rfl) | rfl<;>rfl
       clear sK vh f0 f1 kM v9 ho Er HN;unfold dZ at ml;simp only[Bool.or_eq_true,beq_iff_eq]at ml;rcases ml with(((rfl | rfl) | rfl) | rfl) | rfl;all_goals
        go_wp2_with (first
         | (at_builtin;refine zce _ rfl _ _ 70 rfl (wr.heap.size+1) 3 i0 (i_ 0) 1 8 Tryz.underlying70 hi dE cS dA rfl (by decide) (s_ (wr.heap.size+1) 0 0 0) 0 [] rfl (NI.o _ _) (a_ (wr.heap.size+1+1) 0) 1 1 [i_ ((k:Int)+1)] rfl rfl ?c1 ?c2 ?c3 ?c4 ?c5 ?_)
         | go_in)
        (case c1=>intro j u hj;rcases j with _ | _<;>simp at hj<;>subst hj<;>simp[Addr.add,go_sem]);(case c2=>intro u hu;simp at hu;subst hu;rfl);(case c3=>unfold maxLen;omega);(case c4=>omega);(case c5=>first | (simp;done) | (simp;omega));intro v W bb hgrow _;have gQ:=af ((Ko.o _ _).grown hgrow (by simp) (fun j hj=>by cases hj;exact n_));have fQ:H_ (ao W (wr.heap.size+1) v (aG [k+1])):=by show ao _ _ _ _;unfold ao aG;simpa using bb
        have m:∀ j,W.cell? (a_ wr.heap.size j)=_:=fun j=>gQ.o.cell (p:=(a_ wr.heap.size j)) (Nat.lt_succ_self _);have m0:=m 0;have m1:=m 1;have m2:=m 2;have m3:=m 3;have m4:=m 4;simp[go_sem]at m0 m1 m2 m3 m4;have Pe:wr.heap.size+1<=W.heap.size:=by have:=gQ.o.size;simpa using this
        have SV:wr.heap.size<W.heap.size:=by omega
        have Ib:=fQ.o.lenV;obtain⟨Ow,T1,rfl⟩:=Ib;clear m bb hgrow NI Ko;go_wp2_with (first
         | (at_builtin;refine zce _ rfl _ _ 70 rfl (wr.heap.size+1) 3 i0 (i_ 0) 1 8 Tryz.underlying70 hi dE cS dA rfl (by decide) _ _ _ rfl (fQ.o.alloc _) (a_ W.heap.size 0) 1 1 [i_ (A:Nat)] rfl rfl ?c1 ?c2 ?c3 ?c4 ?c5 ?_)
         | go_in)
        (case c1=>intro j u hj;rcases j with _ | _<;>simp at hj<;>subst hj<;>simp[Addr.add,go_sem]);(case c2=>intro u hu;simp at hu;subst hu;rfl);(case c3=>show 2<=_;unfold maxLen;omega);(case c4=>show 2 * 8<=_;omega);(case c5=>simp;omega);intro v W' bb hgrow _;have Kw:=af ((gQ.o.alloc Pe _).grown hgrow (by simp;omega) (fun j hj=>(fQ.o.lt' j hj).1));clear gQ m0 m1 m2 m3 m4 Pe SV;have gQ:=Kw;have HO:H_ (ao W' (wr.heap.size+1) v (aG ts)):=by{show ao _ _ _ _;rw[yL];unfold ao aG at *;simpa using bb};have lv:H_ (b_ wr W'):=(Od.o _).trans (gQ.o.mono (by omega));have wk:ts.length<=2:=by{rw[yL];simp};have hv:=HO.o.lenV;rw[aZ]at hv;obtain⟨va,vc,rfl⟩:=hv;clear bb hgrow Od yL gQ Kw fQ;go_wp2_with fail
      case' p5=>
       unfold dZ at ml;simp only[Bool.or_eq_true,beq_iff_eq,not_or]at ml v9;obtain⟨⟨⟨⟨Fp,Fn⟩,Fc⟩,Fd⟩,Fi⟩:=ml;have vi:=kM (by unfold dc;simp[ho,v9.1,v9.2]);obtain⟨ts,yL⟩:∃ ts,ts=[k+1]:=⟨_,rfl⟩;have HT:H_ (ts=eu (aX x k) k):=by
        show _=_;rw[<-HN.o,yL];unfold eu dc dZ;simp[ho,Er,v9.1,v9.2,Fp,Fn,Fc,Fd,Fi]
       have Rs:(op==19)=false:=by{simpa using ho};have q29:(op==29)=false:=by{simpa using v9.1};have q30:(op==30)=false:=by{simpa using v9.2};have q31:(op==31)=false:=by{simpa using Er};have Pj:(op==20)=false:=by{simpa using Fp};have q21:(op==21)=false:=by{simpa using Fn};have q38:(op==38)=false:=by{simpa using Fc};have q39:(op==39)=false:=by{simpa using Fd};have q41:(op==41)=false:=by{simpa using Fi};obtain⟨v9,RU⟩:=v9;have n19:(op != 19)=true:=by{simp[ho]};have n29:(op != 29)=true:=by{simp[v9]};have n30:(op != 30)=true:=by simp[RU]
       clear sK vh kM ho v9 RU Er Fp Fn Fc Fd Fi;go_wp2_with (first
        | (at_builtin;refine zce _ rfl _ _ 70 rfl (wr.heap.size+1) 3 i0 (i_ 0) 1 8 Tryz.underlying70 hi dE cS dA rfl (by decide) (s_ (wr.heap.size+1) 0 0 0) 0 [] rfl (NI.o _ _) (a_ (wr.heap.size+1+1) 0) 1 1 [i_ ((k:Int)+1)] rfl rfl ?c1 ?c2 ?c3 ?c4 ?c5 ?_)
        | go_in)
       (case c1=>intro j u hj;rcases j with _ | _<;>simp at hj<;>subst hj<;>simp[Addr.add,go_sem]);(case c2=>intro u hu;simp at hu;subst hu;rfl);(case c3=>unfold maxLen;omega);(case c4=>omega);(case c5=>first | (simp;done) | (simp;omega));intro v W bb hgrow _;have gQ:=af ((Ko.o _ _).grown hgrow (by simp) (fun j hj=>by cases hj;exact n_));have HO:H_ (ao W (wr.heap.size+1) v (aG ts)):=by show ao _ _ _ _;rw[yL];unfold ao aG;simpa using bb
       have m:∀ j,W.cell? (a_ wr.heap.size j)=_:=fun j=>gQ.o.cell (p:=(a_ wr.heap.size j)) (Nat.lt_succ_self _);have m0:=m 0;simp[go_sem]at m0;have Pe:wr.heap.size+1<=W.heap.size:=by have:=gQ.o.size;simpa using this
       have SV:wr.heap.size<W.heap.size:=by{omega};clear m;have lv:H_ (b_ wr W):=(Od.o _).trans (gQ.o.mono (by omega));have wk:ts.length<=2:=by{rw[yL];simp};have hv:=HO.o.lenV;rw[aZ]at hv;obtain⟨va,vc,rfl⟩:=hv;clear bb hgrow NI Ko Od yL gQ;go_wp2_with fail
      all_goals
       clear c0 c1 c2 c3 c4 ck;obtain⟨B,hB⟩:∃ B,B=wr.heap.size+1:=⟨_,rfl⟩;rw[<-hB]at HO;have mh:w.heap.size<B:=by omega
       have Xd:=af (Ze.o _ lv.o);clear Ze lv hB;have HJ1:=af (HJ.o ts);clear HJ;go_loopg [4,70] ts.length (fun gg v i wr'=>∃(q:Nat) (more:Bool) (K:Nat->Bool),q+gg=ts.length/\i=i_ q/\v=.bool more/\H_ (Fb x C k q ts more K)/\H_ (Bu w w.heap.size x.u.length K wr')/\H_ (ao wr' B (.slice va ts.length vc) (aG ts)));(case atStart=>exact⟨0,more,K,by omega,rfl,rfl,HJ1,Xd,HO⟩);case round=>clear HJ1 Xd HO;obtain⟨q,more,K,hq,rfl,rfl,hJ,hW,hO⟩:=hrel;by_cases fq:q<ts.length;{obtain⟨g,cap,xi,wq,Hx,PT⟩:=hO.o.at (by rw[aZ];omega);injection xi with e1 _ e3;subst e1;have cq:=PT q (by rw[aZ];exact fq);rw[gT]at cq;clear PT;have hm:ts[q]?.getD 0∈eu (aX x k) k:=by{rw[<-HT.o,g_ fq];exact zab fq};have hyl:ts[q]?.getD 0<x.u.length:=tf HF.o au hm;have Rz:(q:Int)<ts.length:=by{omega};have cy:=hW.o.1.cell hyl;have zy:=hW.o.1.frozen (ts[q]?.getD 0);have hkl2:=hW.o.1.lt;have OLD:H_ (K (ts[q]?.getD 0)=true->Fb x C k (q+1) ts more K):=fun h=>hJ.o.old h;have QB:H_ (K (ts[q]?.getD 0)=false->Fb x C k (q+1) ts true (iK K (ts[q]?.getD 0))):=fun h=>hJ.o.new HF.o HT.o au fq h;have om:=af (Bu.upd (y:=ts[q]?.getD 0) hW.o);have Ra:H_ (∀ u,ao (wr.setCell (a_ w.heap.size (ts[q]?.getD 0)) u) B (s_ g 0 ts.length vc) (aG ts)):=fun u=>hO.o.setOther mh;clear hm hJ;generalize ts[q]?.getD 0=y at *;have hyI:(y:Int)<x.u.length:=by{omega};by_cases hKy:K y=true;{rw[hKy]at cy;go_wp2;go_roundg (ts.length-(q+1));(case measure=>omega);case rel=>exact⟨q+1,more,K,by omega,by go_num,rfl,OLD.o hKy,hW,hO⟩};{have VB:K y=false:=by{simpa using hKy};rw[VB]at cy;go_wp2;go_roundg (ts.length-(q+1));(case measure=>omega);case rel=>exact⟨q+1,true,iK K y,by omega,by go_num,rfl,QB.o VB,om,Ra.o _⟩}};{have mx:q=ts.length:=by{omega};subst mx;have ZR:=af (hJ.o.o HT.o);have Rz:¬((ts.length:Int)<ts.length):=by{omega};go_wp2;go_roundg (x.u.length-(k+1));(case measure=>omega);case rel=>exact⟨k+1,more,K,by omega,by go_num,rfl,ZR,hW⟩}
     {have Oe:K k=false:=by{simpa using hK};rw[Oe]at ck;have HI2:=af (hI.o.skip Oe);have lD:H_ (∀ o,Bu w w.heap.size x.u.length K (wr.alloc o)):=fun o=>hW.o.below (r_.alloc n_ o);clear bx Ii hI hW hK Oe;generalize aX x k=n at *;go_wp2;go_roundg (x.u.length-(k+1));(case measure=>omega);case rel=>exact⟨k+1,more,K,by omega,by go_num,rfl,HI2,lD.o _⟩}
    {have iJ:k=x.u.length:=by{omega};subst iJ;have HL:H_ (more=true->jw K x.u.length<C):=hI.o.lt;have HE:H_ (jw K x.u.length<=C):=hI.o.le;clear bx Ii;go_wp2;go_roundg (jw K x.u.length+(if more=true then 1 else 0));(case measure=>have a:=HL.o;have b:=HE.o;cases more;{simp;omega};{have:=a rfl;simp;omega});case rel=>exact⟨C,more,K,rfl,rfl,hI,hW⟩}
end Go.Proofs.YtcjfjflljdojlaaGreatDoor
