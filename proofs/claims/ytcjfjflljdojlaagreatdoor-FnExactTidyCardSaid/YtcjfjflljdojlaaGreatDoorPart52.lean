import Derived.Test.YtcjfjflljdojlaaGreatDoorPart51
set_option linter.unusedSimpArgs false
set_option linter.unusedVariables false
set_option maxHeartbeats 8000000
set_option maxRecDepth 100000
namespace Go.Proofs.YtcjfjflljdojlaaGreatDoor
open Go.RowKit
def iL (K:Nat->Bool)(y:Nat):Nat->Bool:=fun j=>if j=y then true else K j
def jv (K:Nat->Bool):Nat->Nat
 | 0=>0
 | m+1=>jv K m+if K m=true then 0 else 1
theorem wz {K K':Nat->Bool}:∀ m,(∀ j,j<m->K j=K' j)->jv K m=jv K' m
 | 0,_=>rfl
 | m+1,h=>by
  unfold jv;rw[wz m (fun j hj=>h j (by omega)),h m (by omega)]
theorem pI {K:Nat->Bool}{y:Nat}(hK:K y=false):∀ m,y<m->jv (iL K y) m+1=jv K m
 | 0,h=>absurd h (Nat.not_lt_zero _)
 | m+1,h=>by
  unfold jv;by_cases e:y=m
  ·aj e
   rw[wz (K:=iL K y) (K':=K) y (fun j hj=>if_neg (show ¬j=y by omega)),hK,if_pos (show iL K y y=true from if_pos rfl)];rfl
  ·have:=pI hK m (by omega);rw[show iL K y m=K m from if_neg (by omega)];omega
structure Bx (x:ak)(C k:Nat)(more:Bool)(K:Nat->Bool):Prop where
 zero:K 0=true
 rea:∀ i,i<x.ins.length->K i=true->LH x i
 le:jv K x.ins.length<=C
 lt:more=true->jv K x.ins.length<C
 cls:more=false->∀ i,i<k->K i=true->∀ j,j∈eu (aY x i) i->K j=true
structure EK (x:ak)(C k q:Nat)(ts:List Nat)(more:Bool)(K:Nat->Bool):Prop where
 i:Bx x C k more K
 here:K k=true
 done:more=false->∀ q',q'<q->K (ts[q']?.getD 0)=true
section
variable {x:ak} {C k q:Nat} {ts:List Nat} {more:Bool} {K:Nat->Bool}
theorem Bx.again (h:Bx x C k more K):Bx x (jv K x.ins.length) 0 false K:=⟨h.zero,h.rea,n_,fun e=>Bool.noConfusion e,fun _ i hi=>absurd hi (Nat.not_lt_zero _)⟩
theorem Bx.skip (h:Bx x C k more K)(hk:K k=false):Bx x C (k+1) more K:=⟨h.zero,h.rea,h.le,h.lt,fun e i hi hK=>by
 by_cases e':i=k
 ·aj e';rw[hk]at hK;cases hK
 ·exact h.cls e i (by omega) hK⟩
theorem Bx.fin (h:Bx x C x.ins.length false K)(hf:j8 x):sd x K:=Fc hf h.zero h.rea (h.cls rfl)
theorem Bx.j (h:Bx x C k more K)(hk:K k=true)(ts:List Nat):EK x C k 0 ts more K:=⟨h,hk,fun _ q hq=>absurd hq (Nat.not_lt_zero _)⟩
theorem EK.out (h:EK x C k ts.length ts more K)(e:ts=eu (aY x k) k):Bx x C (k+1) more K:=⟨h.i.zero,h.i.rea,h.i.le,h.i.lt,fun em i hi hK j hj=>by
 by_cases e':i=k
 ·aj e'
  rw[<-e]at hj;obtain⟨q,hq,rfl⟩:=List.getElem_of_mem hj;have:=h.done em q hq
  rwa [g_ hq]at this
 ·exact h.i.cls em i (by omega) hK j hj⟩
theorem EK.old (h:EK x C k q ts more K)(hy:K (ts[q]?.getD 0)=true):EK x C k (q+1) ts more K:=⟨h.i,h.here,fun em q' LQ=>by
 by_cases e:q'=q
 ·aj e;exact hy
 ·exact h.done em q' (by omega)⟩
theorem EK.new (h:EK x C k q ts more K)(hf:j8 x)(e:ts=eu (aY x k) k)(hk:k<x.ins.length)(hq:q<ts.length)(hy:K (ts[q]?.getD 0)=false):EK x C k (q+1) ts true (iL K (ts[q]?.getD 0)):=by
 have hm:ts[q]?.getD 0∈eu (aY x k) k:=by rw[<-e,g_ hq];exact List.getElem_mem hq
 have hl:=tf hf hk hm;have hc:=pI hy _ hl;have pw:=h.i.le;refine⟨⟨?_,fun i hi hK=>?_,by omega,fun _=>by omega,fun e=>Bool.noConfusion e⟩,?_,fun e=>Bool.noConfusion e⟩
 ·unfold iL;split
  ·rfl
  ·exact h.i.zero
 ·unfold iL at hK;split at hK
  ·next e'=>rw[e'];exact .step (h.i.rea k hk h.here) hk hm
  ·exact h.i.rea i hi hK
 ·unfold iL;split
  ·rfl
  ·exact h.here
end
def Bv (w:World)(kb N:Nat)(K:Nat->Bool)(wr:World):Prop:=wr.rowIs kb 4 N (fun j=>.bool (K j))/\b_ w wr/\w.heap.size<=kb
theorem Bv.upd {w wr:World}{kb N y:Nat}{K:Nat->Bool}(h:Bv w kb N K wr):Bv w kb N (iL K y) (wr.setCell (a_ kb y) (.bool true)):=
 ⟨(h.1.set y _).congr (fun j _=>by unfold iL;split<;>rfl),h.2.1.setCell h.2.2 _,h.2.2⟩
theorem Bv.below {w wr w2:World}{kb N:Nat}{K:Nat->Bool}(h:Bv w kb N K wr)(hb:b_ wr w2):Bv w kb N K w2:=
 ⟨h.1.of_block (hb.block _ h.1.lt),h.2.1.trans (hb.mono h.2.1.size),h.2.2⟩
def I8 (x:ak)(w:World)(e:Ending)(w':World):Prop:=∃ kb K,e=.returned (.slice (some (a_ kb 0)) x.ins.length x.ins.length)/\sd x K/\Bv w kb x.ins.length K w'
theorem F8 (w:World):ar (w.alloc (.cells #[] 3)) w.heap.size (.slice (some (a_ w.heap.size 0)) 0 0) []:=⟨rfl,.inr ⟨w.heap.size,0,#[],rfl,n_,heap_alloc_new _ _,n_,Nat.zero_le _,rfl,rfl⟩⟩
theorem Cy (x:ak)(b c:Nat)(w:World)(hf:j8 x)(cZ:b<w.heap.size)(qA:∀ j,j<x.ins.length->aL w b (j * 5) (aY x j)) :
  c_ 24 #[.slice (some (a_ b 0)) x.ins.length c] w (I8 x w):=by
 have hN:=hf.few;have Iy:=hf.some_;have HF:=af hf;have Ep:Hid (∀ W,b_ w W->∀ j,j<x.ins.length->aL W b (j * 5) (aY x j)):=fun W hW a ha=>by
  have k:=qA a ha;have e:∀ o,W.cell? (a_ b o)=w.cell? (a_ b o):=fun o=>hW.cell (p:=(a_ b o)) cZ;exact⟨(e _).trans k.op,(e _).trans k.fa,(e _).trans k.fb,(e _).trans k.fc,(e _).trans k.fd⟩
 obtain⟨i0,hi,dE,cT,dB⟩:=aN dT;have kF:Hid (∃ K,Bx x (jv K x.ins.length+1) x.ins.length true K/\Bv w w.heap.size x.ins.length K (w.alloc (.cells ((madeCells #[.bool false] x.ins.length).setIfInBounds 0 (.bool true)) 4))):=by
  have e:(w.alloc (.cells (madeCells #[.bool false] x.ins.length) 4)).setCell (a_ w.heap.size 0) (.bool true)=w.alloc (.cells ((madeCells #[.bool false] x.ins.length).setIfInBounds 0 (.bool true)) 4):=World.setCell_alloc_new _ _ _ _;rw[<-e];refine⟨iL (fun _=>false) 0,⟨if_pos rfl,fun i hi hK=>?_,Nat.le_succ _,fun _=>Nat.lt_succ_self _,fun e=>Bool.noConfusion e⟩,Bv.upd ⟨World.rowIs_made w (.bool false) x.ins.length 4,r_.alloc n_ _,n_⟩⟩;unfold iL at hK;split at hK
  ·next e=>rw[e];exact .zero
  ·cases hK
 have kH:=run_make_row' (P:=Tryz.prog) 68 4 (.bool false) 1 Tryz.underlying68 oa rfl .i64 .i64 x.ins.length (by omega) (by omega);have hzr:((w.alloc (.cells (madeCells #[.bool false] x.ins.length) 4)).frozen? (a_ w.heap.size 0))=false:=(World.rowIs_made w (.bool false) x.ins.length 4).frozen 0;have Yg:((w.alloc (.cells (madeCells #[.bool false] x.ins.length) 4)).cell? (a_ w.heap.size 0))=some (.bool false):=(World.rowIs_made w (.bool false) x.ins.length 4).cell (i:=0) Iy;clear hf qA;have HIR:Hid (∀ W (o:Obj),b_ w W->b_ w (W.alloc o)):=fun W o h=>h.alloc h.size o;go_enter Tryz.func24,Tryz.ntmps24;go_wp2_with fail
 obtain⟨K0,T1,hW0⟩:=kF.out;have HI0:=af T1;have sM:=af hW0;clear kH kF T1 hW0 hzr Yg;generalize (w.alloc (.cells ((madeCells #[.bool false] x.ins.length).setIfInBounds 0 (.bool true)) 4))=w0 at *;go_loopg [4] (jv K0 x.ins.length+1) (fun gg v wr=>∃(C:Nat) (more:Bool) (K:Nat->Bool),v=.bool more/\gg=jv K x.ins.length+(if more=true then 1 else 0)/\Hid (Bx x C x.ins.length more K)/\Hid (Bv w w.heap.size x.ins.length K wr))
 case atStart=>exact⟨_,true,K0,rfl,rfl,HI0,sM⟩
 case round=>
  obtain⟨C0,more,K,rfl,hgk,hI,hW⟩:=hrel;clear HI0 sM;cases more
  ·go_wp2_with fail
   go_ret;exact⟨w.heap.size,K,rfl,hI.out.fin HF.out,hW.out⟩
  ·have HI1:=af hI.out.again;clear hI;obtain⟨C,hC⟩:∃ C,C=jv K x.ins.length:=⟨_,rfl⟩;rw[<-hC]at HI1 hgk;have hgk':gk=C+1:=hgk;clear hgk hC;go_wp2_with fail
   go_loopg [4,18] x.ins.length (fun gg v i wr=>∃(k:Nat) (more:Bool) (K:Nat->Bool),k+gg=x.ins.length/\i=i_ k/\v=.bool more/\Hid (Bx x C k more K)/\Hid (Bv w w.heap.size x.ins.length K wr))
   case atStart=>exact⟨0,false,K,by omega,rfl,rfl,HI1,hW⟩
   case round=>
    clear HI1 hW;rename_i K0 _ _ _ _ _;obtain⟨k,more,K,hk,rfl,rfl,hI,hW⟩:=hrel;have bz:=hW.out.1;have Ij:=hW.out.2.1;have hkbl:=bz.lt;have hszK:w.heap.size<=wr.heap.size:=Ij.size;by_cases ax:k<x.ins.length
    ·have Ku:(k:Int)<x.ins.length:=by omega
     have M:=Ep.out wr Ij k ax;have c0:=M.op;have c1:=M.fa;have c2:=M.fb;have c3:=M.fc;have c4:=M.fd;have ck:=bz.cell (i:=k) ax;have bo:b<wr.heap.size:=by omega
     clear M;by_cases hK:K k=true
     ·rw[hK]at ck;have HJ:Hid (∀ ts,EK x C k 0 ts more K):=fun ts=>hI.out.j hK ts;have HKW:Hid (∀ W,b_ wr W->Bv w w.heap.size x.ins.length K W):=fun W h=>hW.out.below h;have PG:=HF;have kN:de (aY x k)=true->k+1<x.ins.length:=fun e=>PG.out.next k ax (by unfold de at *;rw[show(aY x k).op=(aT x k).op from qQ x _]at e;exact e);have sR:=kh (i:=k) HF.out ax;have vh:=jX (i:=k) HF.out ax;obtain⟨n,hn⟩:∃ n,n=aY x k:=⟨_,rfl⟩;rw[<-hn]at c0 c1 c2 c3 c4 kN sR vh;have HN:=af hn;have On:Hid (∀ o o',ar (((wr.alloc o).alloc (.cells #[] 3)).alloc o') (wr.heap.size+1) (.slice (some (a_ (wr.heap.size+1) 0)) 0 0) []):=fun o o'=>ar.alloc (by have:=F8 (wr.alloc o);rwa [show(wr.alloc o).heap.size=wr.heap.size+1 by simp]at this) o';have Lj:Hid (∀ o o',Below (wr.heap.size+1) (wr.alloc o) (((wr.alloc o).alloc (.cells #[] 3)).alloc o')):=fun o o'=>(r_.alloc (by simp) _).alloc (by simp) o';have NT:Hid (∀ o,b_ wr (wr.alloc o)):=fun o=>r_.alloc n_ o;have PX:Hid (∀ o o',b_ wr ((wr.alloc o).alloc o')):=fun o o'=>(r_.alloc n_ o).alloc (by simp) o';clear bz Ij hI hW hK hn;obtain⟨op,fa,fb,fc,fd⟩:=n;dsimp only at c0 c1 c2 c3 c4 sR vh;by_cases wh:op=29\/op=30
      ·have HT:Hid ([]=eu (aY x k) k):=by
        show _=_;rw[<-HN.out];rcases wh with rfl | rfl<;>rfl
       have HI3:Hid (Bx x C (k+1) more K):=EK.out (ts:=[]) (HJ.out []) HT.out;clear sR vh kN On Lj NT HT HJ HN;rcases wh with rfl | rfl
       all_goals
        go_wp2_with fail
        go_loopg [4,70] 0 (fun gg v i wr'=>v=.bool more/\i=i_ (0:Nat)/\Hid (Bv w w.heap.size x.ins.length K wr'))
        case atStart=>exact⟨rfl,rfl,HKW.out _ (PX.out _ _)⟩
        case round=>
         obtain⟨rfl,rfl,hW⟩:=hrel;go_wp2_with fail
         go_roundg (x.ins.length-(k+1))
         case measure=>omega
         case rel=>exact⟨k+1,more,K,by omega,by go_num,rfl,HI3,hW⟩
      refine(Classical.em (op=19)).elim (fun ho=>?p1) (fun ho=>(Classical.em (op=31)).elim (fun Ec=>?p2) (fun Ec=>(Classical.em (ec op=true)).elim (fun mh=>?p3) (fun mh=>?p5)))
      case' p1=>
       aj ho
       obtain⟨f0,f1⟩:=sR (.inl rfl);obtain⟨A,hA⟩:=Int.eq_ofNat_of_zero_le f0
       aj hA
       obtain⟨ts,yV⟩:∃ ts,ts=[A]:=⟨_,rfl⟩;have HT:Hid (ts=eu (aY x k) k):=by
        show _=_;rw[<-HN.out,yV];rfl
       clear sR vh f0 f1 kN wh;go_wp2_with (first
        | (at_builtin;refine wpList_append_own _ rfl _ _ 70 rfl (wr.heap.size+1) 3 i0 (i_ 0) 1 8 Tryz.underlying70 hi dE cT dB rfl (by decide) (.slice (some (a_ (wr.heap.size+1) 0)) 0 0) 0 [] rfl (On.out _ _) (a_ (wr.heap.size+1+1) 0) 1 1 [i_ (A:Nat)] rfl rfl ?c1 ?c2 ?c3 ?c4 ?c5 ?_)
        | go_in)
       case c1=>intro j u hj;rcases j with _ | _<;>simp at hj<;>aj hj<;>simp[Addr.add,go_sem]
       case c2=>intro u hu;simp at hu;aj hu;rfl
       case c3=>unfold maxLen;omega
       case c4=>omega
       case c5=>first | (simp;done) | (simp;omega)
       intro v W bc hgrow _;have gR:=af ((Lj.out _ _).grown hgrow (by simp) (fun j hj=>by cases hj;exact n_));have HO:Hid (ar W (wr.heap.size+1) v (aH ts)):=by rw[yV];exact bc
       have lq:Hid (b_ wr W):=(NT.out _).trans (gR.out.mono (by omega));have ws:ts.length<=2:=by rw[yV];simp
       have hv:=HO.out.lenV;rw[ba]at hv;obtain⟨va,vc,rfl⟩:=hv;clear bc hgrow On Lj NT yV gR;go_wp2_with fail
      case' p2=>
       aj Ec
       obtain⟨f0,f1⟩:=sR (.inr rfl);obtain⟨A,hA⟩:=Int.eq_ofNat_of_zero_le f0
       aj hA
       have vm:=kN rfl;obtain⟨ts,yV⟩:∃ ts,ts=[k+1,A]:=⟨_,rfl⟩;have HT:Hid (ts=eu (aY x k) k):=by
        show _=_;rw[<-HN.out,yV];rfl
       clear sR vh f0 f1 kN wh ho;go_wp2_with (first
        | (at_builtin;refine wpList_append_own _ rfl _ _ 70 rfl (wr.heap.size+1) 3 i0 (i_ 0) 1 8 Tryz.underlying70 hi dE cT dB rfl (by decide) (.slice (some (a_ (wr.heap.size+1) 0)) 0 0) 0 [] rfl (On.out _ _) (a_ (wr.heap.size+1+1) 0) 1 1 [i_ ((k:Int)+1)] rfl rfl ?c1 ?c2 ?c3 ?c4 ?c5 ?_)
        | go_in)
       case c1=>intro j u hj;rcases j with _ | _<;>simp at hj<;>aj hj<;>simp[Addr.add,go_sem]
       case c2=>intro u hu;simp at hu;aj hu;rfl
       case c3=>unfold maxLen;omega
       case c4=>omega
       case c5=>first | (simp;done) | (simp;omega)
       intro v W bc hgrow _;have gR:=af ((Lj.out _ _).grown hgrow (by simp) (fun j hj=>by cases hj;exact n_));have fR:Hid (ar W (wr.heap.size+1) v (aH [k+1])):=by
        show ar _ _ _ _;unfold ar aH;simpa using bc
       have m:∀ j,W.cell? (a_ wr.heap.size j)=_:=fun j=>gR.out.cell (p:=(a_ wr.heap.size j)) (Nat.lt_succ_self _);have m0:=m 0;have m1:=m 1;have m2:=m 2;have m3:=m 3;have m4:=m 4;simp[go_sem]at m0 m1 m2 m3 m4;have Px:wr.heap.size+1<=W.heap.size:=by have:=gR.out.size;simpa using this
       have QO:wr.heap.size<W.heap.size:=by omega
       have Hp:=fR.out.lenV;obtain⟨OI,TZ,rfl⟩:=Hp;clear m bc hgrow On Lj;go_wp2_with (first
        | (at_builtin;refine wpList_append_own _ rfl _ _ 70 rfl (wr.heap.size+1) 3 i0 (i_ 0) 1 8 Tryz.underlying70 hi dE cT dB rfl (by decide) _ _ _ rfl (fR.out.alloc _) (a_ W.heap.size 0) 1 1 [i_ (A:Nat)] rfl rfl ?c1 ?c2 ?c3 ?c4 ?c5 ?_)
        | go_in)
       case c1=>intro j u hj;rcases j with _ | _<;>simp at hj<;>aj hj<;>simp[Addr.add,go_sem]
       case c2=>intro u hu;simp at hu;aj hu;rfl
       case c3=>show 2<=_;unfold maxLen;omega
       case c4=>show 2 * 8<=_;omega
       case c5=>simp;omega
       intro v W' bc hgrow _;have Lg:=af ((gR.out.alloc Px _).grown hgrow (by simp;omega) (fun j hj=>(fR.out.lt' j hj).1));clear gR m0 m1 m2 m3 m4 Px QO;have gR:=Lg;have HO:Hid (ar W' (wr.heap.size+1) v (aH ts)):=by
        show ar _ _ _ _;rw[yV];unfold ar aH at *;simpa using bc
       have lq:Hid (b_ wr W'):=(NT.out _).trans (gR.out.mono (by omega));have ws:ts.length<=2:=by rw[yV];simp
       have hv:=HO.out.lenV;rw[ba]at hv;obtain⟨va,vc,rfl⟩:=hv;clear bc hgrow NT yV gR Lg fR;go_wp2_with fail
      case' p3=>
       obtain⟨f0,f1⟩:=vh mh;obtain⟨A,hA⟩:=Int.eq_ofNat_of_zero_le f0
       aj hA
       have vm:=kN (by unfold ec at mh;unfold de;simp only[Bool.or_eq_true,beq_iff_eq]at mh;rcases mh with(((rfl | rfl) | rfl) | rfl) | rfl<;>rfl);obtain⟨ts,yV⟩:∃ ts,ts=[k+1,A]:=⟨_,rfl⟩;have HT:Hid (ts=eu (aY x k) k):=by
        show _=_;rw[<-HN.out,yV];unfold ec at mh;simp only[Bool.or_eq_true,beq_iff_eq]at mh;rcases mh with(((rfl | rfl) | rfl) | rfl) | rfl<;>rfl
       clear sR vh f0 f1 kN wh ho Ec HN;unfold ec at mh;simp only[Bool.or_eq_true,beq_iff_eq]at mh;rcases mh with(((rfl | rfl) | rfl) | rfl) | rfl
       all_goals
        go_wp2_with (first
         | (at_builtin;refine wpList_append_own _ rfl _ _ 70 rfl (wr.heap.size+1) 3 i0 (i_ 0) 1 8 Tryz.underlying70 hi dE cT dB rfl (by decide) (.slice (some (a_ (wr.heap.size+1) 0)) 0 0) 0 [] rfl (On.out _ _) (a_ (wr.heap.size+1+1) 0) 1 1 [i_ ((k:Int)+1)] rfl rfl ?c1 ?c2 ?c3 ?c4 ?c5 ?_)
         | go_in)
        case c1=>intro j u hj;rcases j with _ | _<;>simp at hj<;>aj hj<;>simp[Addr.add,go_sem]
        case c2=>intro u hu;simp at hu;aj hu;rfl
        case c3=>unfold maxLen;omega
        case c4=>omega
        case c5=>first | (simp;done) | (simp;omega)
        intro v W bc hgrow _;have gR:=af ((Lj.out _ _).grown hgrow (by simp) (fun j hj=>by cases hj;exact n_));have fR:Hid (ar W (wr.heap.size+1) v (aH [k+1])):=by
         show ar _ _ _ _;unfold ar aH;simpa using bc
        have m:∀ j,W.cell? (a_ wr.heap.size j)=_:=fun j=>gR.out.cell (p:=(a_ wr.heap.size j)) (Nat.lt_succ_self _);have m0:=m 0;have m1:=m 1;have m2:=m 2;have m3:=m 3;have m4:=m 4;simp[go_sem]at m0 m1 m2 m3 m4;have Px:wr.heap.size+1<=W.heap.size:=by have:=gR.out.size;simpa using this
        have QO:wr.heap.size<W.heap.size:=by omega
        have Hp:=fR.out.lenV;obtain⟨OI,TZ,rfl⟩:=Hp;clear m bc hgrow On Lj;go_wp2_with (first
         | (at_builtin;refine wpList_append_own _ rfl _ _ 70 rfl (wr.heap.size+1) 3 i0 (i_ 0) 1 8 Tryz.underlying70 hi dE cT dB rfl (by decide) _ _ _ rfl (fR.out.alloc _) (a_ W.heap.size 0) 1 1 [i_ (A:Nat)] rfl rfl ?c1 ?c2 ?c3 ?c4 ?c5 ?_)
         | go_in)
        case c1=>intro j u hj;rcases j with _ | _<;>simp at hj<;>aj hj<;>simp[Addr.add,go_sem]
        case c2=>intro u hu;simp at hu;aj hu;rfl
        case c3=>show 2<=_;unfold maxLen;omega
        case c4=>show 2 * 8<=_;omega
        case c5=>simp;omega
        intro v W' bc hgrow _;have Lg:=af ((gR.out.alloc Px _).grown hgrow (by simp;omega) (fun j hj=>(fR.out.lt' j hj).1));clear gR m0 m1 m2 m3 m4 Px QO;have gR:=Lg;have HO:Hid (ar W' (wr.heap.size+1) v (aH ts)):=by
         show ar _ _ _ _;rw[yV];unfold ar aH at *;simpa using bc
        have lq:Hid (b_ wr W'):=(NT.out _).trans (gR.out.mono (by omega));have ws:ts.length<=2:=by rw[yV];simp
        have hv:=HO.out.lenV;rw[ba]at hv;obtain⟨va,vc,rfl⟩:=hv;clear bc hgrow NT yV gR Lg fR;go_wp2_with fail
      case' p5=>
       unfold ec at mh;simp only[Bool.or_eq_true,beq_iff_eq,not_or]at mh wh;obtain⟨⟨⟨⟨Fo,Fl⟩,Fp⟩,Fk⟩,Ff⟩:=mh;have vm:=kN (by unfold de;simp[ho,wh.1,wh.2]);obtain⟨ts,yV⟩:∃ ts,ts=[k+1]:=⟨_,rfl⟩;have HT:Hid (ts=eu (aY x k) k):=by
        show _=_;rw[<-HN.out,yV];unfold eu de ec;simp[ho,Ec,wh.1,wh.2,Fo,Fl,Fp,Fk,Ff]
       have Ry:(op==19)=false:=by simpa using ho
       have q29:(op==29)=false:=by simpa using wh.1
       have q30:(op==30)=false:=by simpa using wh.2
       have q31:(op==31)=false:=by simpa using Ec
       have P7:(op==20)=false:=by simpa using Fo
       have q21:(op==21)=false:=by simpa using Fl
       have q38:(op==38)=false:=by simpa using Fp
       have q39:(op==39)=false:=by simpa using Fk
       have q41:(op==41)=false:=by simpa using Ff
       obtain⟨wh,Sf⟩:=wh;have n19:(op != 19)=true:=by simp[ho]
       have n29:(op != 29)=true:=by simp[wh]
       have n30:(op != 30)=true:=by simp[Sf]
       clear sR vh kN ho wh Sf Ec Fo Fl Fp Fk Ff;go_wp2_with (first
        | (at_builtin;refine wpList_append_own _ rfl _ _ 70 rfl (wr.heap.size+1) 3 i0 (i_ 0) 1 8 Tryz.underlying70 hi dE cT dB rfl (by decide) (.slice (some (a_ (wr.heap.size+1) 0)) 0 0) 0 [] rfl (On.out _ _) (a_ (wr.heap.size+1+1) 0) 1 1 [i_ ((k:Int)+1)] rfl rfl ?c1 ?c2 ?c3 ?c4 ?c5 ?_)
        | go_in)
       case c1=>intro j u hj;rcases j with _ | _<;>simp at hj<;>aj hj<;>simp[Addr.add,go_sem]
       case c2=>intro u hu;simp at hu;aj hu;rfl
       case c3=>unfold maxLen;omega
       case c4=>omega
       case c5=>first | (simp;done) | (simp;omega)
       intro v W bc hgrow _;have gR:=af ((Lj.out _ _).grown hgrow (by simp) (fun j hj=>by cases hj;exact n_));have HO:Hid (ar W (wr.heap.size+1) v (aH ts)):=by
        show ar _ _ _ _;rw[yV];unfold ar aH;simpa using bc
       have m:∀ j,W.cell? (a_ wr.heap.size j)=_:=fun j=>gR.out.cell (p:=(a_ wr.heap.size j)) (Nat.lt_succ_self _);have m0:=m 0;simp[go_sem]at m0;have Px:wr.heap.size+1<=W.heap.size:=by have:=gR.out.size;simpa using this
       have QO:wr.heap.size<W.heap.size:=by omega
       clear m;have lq:Hid (b_ wr W):=(NT.out _).trans (gR.out.mono (by omega));have ws:ts.length<=2:=by rw[yV];simp
       have hv:=HO.out.lenV;rw[ba]at hv;obtain⟨va,vc,rfl⟩:=hv;clear bc hgrow On Lj NT yV gR;go_wp2_with fail
      all_goals
       clear c0 c1 c2 c3 c4 ck;obtain⟨B,hB⟩:∃ B,B=wr.heap.size+1:=⟨_,rfl⟩;rw[<-hB]at HO;have mn:w.heap.size<B:=by omega
       have Vd:=af (HKW.out _ lq.out);clear HKW lq hB;have HJ1:=af (HJ.out ts);clear HJ;go_loopg [4,70] ts.length (fun gg v i wr'=>∃(q:Nat) (more:Bool) (K:Nat->Bool),q+gg=ts.length/\i=i_ q/\v=.bool more/\Hid (EK x C k q ts more K)/\Hid (Bv w w.heap.size x.ins.length K wr')/\Hid (ar wr' B (.slice va ts.length vc) (aH ts)))
       case atStart=>exact⟨0,more,K,by omega,rfl,rfl,HJ1,Vd,HO⟩
       case round=>
        clear HJ1 Vd HO;obtain⟨q,more,K,hq,rfl,rfl,hJ,hW,hO⟩:=hrel;by_cases fw:q<ts.length
        ·obtain⟨g,cap,xg,wq,Hl,PZ⟩:=hO.out.at (by rw[ba];omega);injection xg with e1 _ e3
         aj e1
         have cq:=PZ q (by rw[ba];exact fw);rw[gS]at cq;clear PZ;have hm:ts[q]?.getD 0∈eu (aY x k) k:=by rw[<-HT.out,g_ fw];exact List.getElem_mem fw
         have hyl:ts[q]?.getD 0<x.ins.length:=tf HF.out ax hm;have Rs:(q:Int)<ts.length:=by omega
         have cy:=hW.out.1.cell hyl;have zy:=hW.out.1.frozen (ts[q]?.getD 0);have hkl2:=hW.out.1.lt;have OLD:Hid (K (ts[q]?.getD 0)=true->EK x C k (q+1) ts more K):=fun h=>hJ.out.old h;have RY:Hid (K (ts[q]?.getD 0)=false->EK x C k (q+1) ts true (iL K (ts[q]?.getD 0))):=fun h=>hJ.out.new HF.out HT.out ax fw h;have oo:=af (Bv.upd (y:=ts[q]?.getD 0) hW.out);have RV:Hid (∀ u,ar (wr.setCell (a_ w.heap.size (ts[q]?.getD 0)) u) B (.slice (some (a_ g 0)) ts.length vc) (aH ts)):=fun u=>hO.out.setOther mn;clear hm hJ;generalize ts[q]?.getD 0=y at *;have ZH:(y:Int)<x.ins.length:=by omega
         by_cases hKy:K y=true
         ·rw[hKy]at cy;go_wp2_with fail
          go_roundg (ts.length-(q+1))
          case measure=>omega
          case rel=>exact⟨q+1,more,K,by omega,by go_num,rfl,OLD.out hKy,hW,hO⟩
         ·have Wx:K y=false:=by simpa using hKy
          rw[Wx]at cy;go_wp2_with fail
          go_roundg (ts.length-(q+1))
          case measure=>omega
          case rel=>exact⟨q+1,true,iL K y,by omega,by go_num,rfl,RY.out Wx,oo,RV.out _⟩
        ·have mz:q=ts.length:=by omega
         aj mz
         have HI3:=af (hJ.out.out HT.out);have Rs:¬((ts.length:Int)<ts.length):=by omega
         go_wp2_with fail
         go_roundg (x.ins.length-(k+1))
         case measure=>omega
         case rel=>exact⟨k+1,more,K,by omega,by go_num,rfl,HI3,hW⟩
     ·have N9:K k=false:=by simpa using hK
      rw[N9]at ck;have ZU:=af (hI.out.skip N9);have lD:Hid (∀ o,Bv w w.heap.size x.ins.length K (wr.alloc o)):=fun o=>hW.out.below (r_.alloc n_ o);clear bz Ij hI hW hK N9;generalize aY x k=n at *;go_wp2_with fail
      go_roundg (x.ins.length-(k+1))
      case measure=>omega
      case rel=>exact⟨k+1,more,K,by omega,by go_num,rfl,ZU,lD.out _⟩
    ·have iK:k=x.ins.length:=by omega
     aj iK
     have HL:Hid (more=true->jv K x.ins.length<C):=hI.out.lt;have HE:Hid (jv K x.ins.length<=C):=hI.out.le;clear bz Ij;go_wp2_with fail
     go_roundg (jv K x.ins.length+(if more=true then 1 else 0))
     case measure=>
      have a:=HL.out;have b:=HE.out;cases more
      ·simp;omega
      ·have:=a rfl;simp;omega
     case rel=>exact⟨C,more,K,rfl,rfl,hI,hW⟩
end Go.Proofs.YtcjfjflljdojlaaGreatDoor
