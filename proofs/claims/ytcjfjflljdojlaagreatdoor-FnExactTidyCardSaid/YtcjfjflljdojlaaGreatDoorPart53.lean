import Derived.Test.YtcjfjflljdojlaaGreatDoorPart52
set_option linter.unusedSimpArgs false
set_option linter.unusedVariables false
set_option maxHeartbeats 8000000
set_option maxRecDepth 100000
namespace Go.Proofs.YtcjfjflljdojlaaGreatDoor
open Go.RowKit
abbrev sx (w:World) (base:Nat) (v:Value) (t:List bE):Prop:=dt 53 4 dQ w base v t
def Qi (x:ak)(f:Value->Value->Value)(v7 v8:Value)(w:World)(e:Ending)(w':World):Prop:=∃ K,sd x K/\b_ w w'/\((eZ x K x.ins.length=true/\e=.returned (f v7 v8))\/(eZ x K x.ins.length=false/\∃ v7' v8',e=.returned (f v7' v8')/\gP w' w.heap.size v7' (fy x (aF x K) x.ins.length)/\sx w' w.heap.size v8' (x.named.map (kW (aF x K)))))
theorem ug {B g:Nat}{w wr:World}(h:Below B w wr)(hg:B<=g)(v0 v1 v2 v3 v4 v5 v6 v7 v8:Value):Below B w (((((((((wr.setCell (a_ g 0) v0).setCell (a_ g 1) v1).setCell (a_ g 2) v2).setCell (a_ g 3) v3).setCell (a_ g 4) v4).setCell (a_ g 5) v5).setCell (a_ g 6) v6).setCell (a_ g 7) v7).setCell (a_ g 8) v8):=((((((((h.setCell hg v0).setCell hg v1).setCell hg v2).setCell hg v3).setCell hg v4).setCell hg v5).setCell hg v6).setCell hg v7).setCell hg v8
theorem mw {g q:Nat}{wr:World}(h:q≠g)(v0 v1 v2 v3 v4 v5 v6 v7 v8:Value):(((((((((wr.setCell (a_ g 0) v0).setCell (a_ g 1) v1).setCell (a_ g 2) v2).setCell (a_ g 3) v3).setCell (a_ g 4) v4).setCell (a_ g 5) v5).setCell (a_ g 6) v6).setCell (a_ g 7) v7).setCell (a_ g 8) v8).heap[q]? = wr.heap[q]?:=by
 rw[heap_setCell_other _ (a_ g 8) q _ h,heap_setCell_other _ (a_ g 7) q _ h,heap_setCell_other _ (a_ g 6) q _ h,heap_setCell_other _ (a_ g 5) q _ h,heap_setCell_other _ (a_ g 4) q _ h,heap_setCell_other _ (a_ g 3) q _ h,heap_setCell_other _ (a_ g 2) q _ h,heap_setCell_other _ (a_ g 1) q _ h,heap_setCell_other _ (a_ g 0) q _ h]
def qr (x:ak)(P:Nat->Bool)(k:Nat):List bE:=(x.named.map (kW P)).take k
theorem Ai (x:ak)(P:Nat->Bool){k:Nat}(h:k<=x.named.length):(qr x P k).length=k:=by unfold qr;rw[List.length_take,List.length_map];omega
theorem GJ (x:ak)(P:Nat->Bool){k:Nat}(h:k<x.named.length):qr x P (k+1)=qr x P k++[kW P (x.named[k]?.getD bE.z)]:=by
 unfold qr;rw[List.take_add_one]
 congr 1
 rw[List.getElem?_map,g_ h];rfl
theorem Jr (x:ak)(P:Nat->Bool):qr x P x.named.length=x.named.map (kW P):=List.take_of_length_le (by rw[List.length_map];exact n_)
theorem ER {x:ak}{K:Nat->Bool}{m:Nat}(h:eZ x K m=true):∀ d,eZ x K (m+d)=true
 | 0=>h
 | d+1=>by
  show(eZ x K (m+d)||_)=true;rw[ER h d];rfl
theorem DL (x:ak)(nm:ByteArray)(ln pr:Int)(rs:Bool)(rg:Int)(a5 a6 a8:o_)(n5 c5 n6 c6 b off c7 c8:Nat)(w:World)(hf:j8 x)(cZ:b<w.heap.size)(qA:mv w b off x)(Nw:dc w (fun k=>k<w.heap.size) a8 x.named)(hn8:x.named.length<=1048576) :
  c_ 13 #[.agg #[.string nm,i_ ln,i_ pr,.bool rs,i_ rg,.slice a5 n5 c5,.slice a6 n6 c6,.slice (some (a_ b off)) x.ins.length c7,.slice a8 x.named.length c8]] w (Qi x (fun v7 v8=>.agg #[.string nm,i_ ln,i_ pr,.bool rs,i_ rg,.slice a5 n5 c5,.slice a6 n6 c6,v7,v8]) (.slice (some (a_ b off)) x.ins.length c7) (.slice a8 x.named.length c8) w):=by
 have hN:=hf.few;have Iy:=hf.some_;have HF:=af hf;have dF:∀ o o',b_ w ((w.alloc o).alloc o'):=fun o o'=>(r_.alloc n_ o).alloc (by simp) o';have FA:Hid (∀ o o',c_ 23 #[.agg #[.string nm,i_ ln,i_ pr,.bool rs,i_ rg,.slice a5 n5 c5,.slice a6 n6 c6,.slice (some (a_ b off)) x.ins.length c7,.slice a8 x.named.length c8]] ((w.alloc o).alloc o') fun e w'=>∃ v,e=.returned v/\gP w' ((w.alloc o).alloc o').heap.size v (iF x x.ins.length)/\Below ((w.alloc o).alloc o').heap.size ((w.alloc o).alloc o') w'):=fun o o'=>AW x nm ln pr rs rg _ _ _ b off c7 _ hf (by simp;omega) (qA.keep cZ (dF o o'));have FK:Hid (∀ ib c W,ib<W.heap.size->(∀ j,j<x.ins.length->aL W ib (j * 5) (aY x j))->c_ 24 #[.slice (some (a_ ib 0)) x.ins.length c] W (I8 x W)):=fun ib c W h1 h2=>Cy x ib c W hf h1 h2;have HNM:=af Nw;have dR:=af dF;clear hf qA Nw dF;go_enter Tryz.func13,Tryz.ntmps13;go_wp2_with fail
 refine(FA.out _ _).mono ?_;rintro e W1 ⟨v,rfl,bc,sO⟩;obtain⟨ib,ic,rfl,hib0,Rz,_,qJ⟩:=bc.at (fun _=>rfl) aA.z (by rw[qN];exact Iy);rw[qN]at qJ ⊢;have HCL:Hid (∀ W,b_ W1 W->∀ j,j<x.ins.length->aL W ib (j * 5) (aY x j)):=fun W hW j hj=>by
  have e:∀ i,i<5->W.cell? (a_ ib (j * 5+i))=(aW (aY x j))[i]?:=fun i hi=>by
   rw[hW.cell (p:=(a_ ib (j * 5+i))) Rz,qJ j hj i hi,F6 x hj]
  exact⟨e 0 (by omega),e 1 (by omega),e 2 (by omega),e 3 (by omega),e 4 (by omega)⟩
 have BX:Hid (∀ W,b_ W1 W->W.rowIs w.heap.size 43 9 (fun j=>(#[.string nm,i_ ln,i_ pr,.bool rs,i_ rg,.slice a5 n5 c5,.slice a6 n6 c6,.slice (some (a_ b off)) x.ins.length c7,.slice a8 x.named.length c8])[j]?.getD (.bool false))):=fun W hW=>by
  have r0:=World.rowIs_alloc w #[.string nm,i_ ln,i_ pr,.bool rs,i_ rg,.slice a5 n5 c5,.slice a6 n6 c6,.slice (some (a_ b off)) x.ins.length c7,.slice a8 x.named.length c8] 43 (fun j=>(#[.string nm,i_ ln,i_ pr,.bool rs,i_ rg,.slice a5 n5 c5,.slice a6 n6 c6,.slice (some (a_ b off)) x.ins.length c7,.slice a8 x.named.length c8])[j]?.getD (.bool false)) (fun i hi=>by rw[Array.getElem?_eq_getElem hi];rfl);exact((r0.alloc _).of_block (sO.block _ (by simp;omega))).of_block (hW.block _ (by have:=sO.size;simp at this;omega))
 have RX:Hid (∀ W,b_ W1 W->W.rowIs (w.heap.size+1) 43 9 (fun j=>(#[.string ByteArray.empty,i_ 0,i_ 0,.bool false,i_ 0,.slice none 0 0,.slice none 0 0,.slice none 0 0,.slice none 0 0])[j]?.getD (.bool false))):=fun W hW=>by
  have r0:=World.rowIs_alloc (w.alloc (.cells #[.string nm,i_ ln,i_ pr,.bool rs,i_ rg,.slice a5 n5 c5,.slice a6 n6 c6,.slice (some (a_ b off)) x.ins.length c7,.slice a8 x.named.length c8] 43)) #[.string ByteArray.empty,i_ 0,i_ 0,.bool false,i_ 0,.slice none 0 0,.slice none 0 0,.slice none 0 0,.slice none 0 0] 43 (fun j=>(#[.string ByteArray.empty,i_ 0,i_ 0,.bool false,i_ 0,.slice none 0 0,.slice none 0 0,.slice none 0 0,.slice none 0 0])[j]?.getD (.bool false)) (fun i hi=>by rw[Array.getElem?_eq_getElem hi];rfl);rw[show(w.alloc (.cells #[.string nm,i_ ln,i_ pr,.bool rs,i_ rg,.slice a5 n5 c5,.slice a6 n6 c6,.slice (some (a_ b off)) x.ins.length c7,.slice a8 x.named.length c8] 43)).heap.size=w.heap.size+1 by simp]at r0;exact(r0.of_block (sO.block _ (by simp))).of_block (hW.block _ (by have:=sO.size;simp at this;omega))
 have Hk:w.heap.size+2<=W1.heap.size:=by have:=sO.size;simpa using this
 have dM:Hid (b_ w W1):=(dR.out _ _).trans (sO.mono (by simp;omega));clear FA dR bc sO qJ;go_wp2_with fail
 refine(FK.out _ _ _ Rz (HCL.out _ r_)).mono ?_;rintro e W2 ⟨kb,K,rfl,hK,XP,bo,Y3⟩;have HK:=af hK;have WG:Hid (∀ W,b_ W2 W->W.rowIs kb 4 x.ins.length (fun j=>.bool (K j))):=fun W hW=>XP.of_block (hW.block _ XP.lt);have iK:kb<W2.heap.size:=XP.lt;have sr:W1.heap.size<=W2.heap.size:=bo.size;have Ox:Hid (∀ W,b_ W2 W->∀ j,j<x.ins.length->aL W ib (j * 5) (aY x j)):=fun W hW=>HCL.out W (bo.trans (hW.mono sr));have BX2:Hid (∀ W,b_ W2 W->W.rowIs w.heap.size 43 9 (fun j=>(#[.string nm,i_ ln,i_ pr,.bool rs,i_ rg,.slice a5 n5 c5,.slice a6 n6 c6,.slice (some (a_ b off)) x.ins.length c7,.slice a8 x.named.length c8])[j]?.getD (.bool false))):=fun W hW=>BX.out W (bo.trans (hW.mono sr));have RX2:Hid (∀ W,b_ W2 W->W.rowIs (w.heap.size+1) 43 9 (fun j=>(#[.string ByteArray.empty,i_ 0,i_ 0,.bool false,i_ 0,.slice none 0 0,.slice none 0 0,.slice none 0 0,.slice none 0 0])[j]?.getD (.bool false))):=fun W hW=>RX.out W (bo.trans (hW.mono sr));have fN:Hid (∀ W,b_ W2 W->b_ w W):=fun W hW=>(dM.out.trans (bo.mono (by omega))).trans (hW.mono (by omega));clear FK HCL BX RX dM hK XP bo;have hib2:ib<W2.heap.size:=by omega
 have BK:w.heap.size+2<=W2.heap.size:=by omega
 clear Rz Hk sr;go_wp2_with fail
 go_loopg [27] x.ins.length (fun gg i wr=>∃(k:Nat),k+gg=x.ins.length/\i=i_ k/\Hid (eZ x K k=false)/\Hid (b_ W2 wr))
 case atStart=>exact⟨0,by omega,rfl,rfl,r_⟩
 case round=>
  obtain⟨k,hk,rfl,hL,hB⟩:=hrel;have Iv:=hB.out.size;by_cases ax:k<x.ins.length
  ·have M:=Ox.out wr hB.out k ax;have c0:=M.op;have c1:=M.fa;have c2:=M.fb;have c3:=M.fc;have c4:=M.fd;have kr:=WG.out wr hB.out;have ck:=kr.cell (i:=k) ax;have Bi:kb<wr.heap.size:=by omega
   have Bc:ib<wr.heap.size:=by omega
   have LX:w.heap.size<wr.heap.size:=by omega
   have Zr:w.heap.size+1<wr.heap.size:=by omega
   have KL:Hid (∀ o,b_ W2 (wr.alloc o)):=fun o=>hB.out.alloc Iv o;have Hj:Hid (((aY x k).op==11 && !K k)=false->eZ x K (k+1)=false):=fun h=>by
    show(eZ x K k||_)=false;rw[hL.out,h];rfl
   have TI:Hid (((aY x k).op==11 && !K k)=true->eZ x K x.ins.length=true):=fun h=>by
    have:=ER (x:=x) (K:=K) (m:=k+1) (by show(eZ x K k||_)=true;rw[h];simp) (x.ins.length-(k+1))
    rwa [show k+1+(x.ins.length-(k+1))=x.ins.length by omega]at this
   clear M kr;generalize aY x k=n at *;obtain⟨op,fa,fb,fc,fd⟩:=n;dsimp only at c0 c1 c2 c3 c4 Hj TI;by_cases ho:op=11
   ·aj ho
    cases hKk:K k
    ·rw[hKk]at ck Hj TI;have RB:=RX2.out _ hB.out;have BB:=BX2.out _ hB.out;have b0:=BB.cell (i:=0) (by omega);have b1:=BB.cell (i:=1) (by omega);have b2:=BB.cell (i:=2) (by omega);have b3:=BB.cell (i:=3) (by omega);have b4:=BB.cell (i:=4) (by omega);have b5:=BB.cell (i:=5) (by omega);have b6:=BB.cell (i:=6) (by omega);have b7:=BB.cell (i:=7) (by omega);have b8:=BB.cell (i:=8) (by omega);have r0:=RB.cell (i:=0) (by omega);have r1:=RB.cell (i:=1) (by omega);have r2:=RB.cell (i:=2) (by omega);have r3:=RB.cell (i:=3) (by omega);have r4:=RB.cell (i:=4) (by omega);have r5:=RB.cell (i:=5) (by omega);have r6:=RB.cell (i:=6) (by omega);have r7:=RB.cell (i:=7) (by omega);have r8:=RB.cell (i:=8) (by omega);have z0:=RB.frozen 0;have z1:=RB.frozen 1;have z2:=RB.frozen 2;have z3:=RB.frozen 3;have z4:=RB.frozen 4;have z5:=RB.frozen 5;have z6:=RB.frozen 6;have z7:=RB.frozen 7;have z8:=RB.frozen 8;simp at b0 b1 b2 b3 b4 b5 b6 b7 b8 r0 r1 r2 r3 r4 r5 r6 r7 r8;have Lj:Hid (b_ w wr):=fN.out _ hB.out;have aaj:=af (TI.out rfl);clear RB BB Hj TI KL;go_wp2_with fail
     refine bodyPost_ret (v:=.agg #[.string nm,i_ ln,i_ pr,.bool rs,i_ rg,.slice a5 n5 c5,.slice a6 n6 c6,.slice (some (a_ b off)) x.ins.length c7,.slice a8 x.named.length c8]) (by simp[results,Tryz.results13,go_sem,r0,r1,r2,r3,r4,r5,r6,r7,r8,Zr]) rfl ⟨K,HK.out,?_,.inl ⟨aaj.out,rfl⟩⟩;exact(ug Lj.out (Nat.le_succ _) _ _ _ _ _ _ _ _ _).alloc (by simp;omega) _
    ·rw[hKk]at ck Hj TI;go_wp2_with fail
     go_roundg (x.ins.length-(k+1))
     case measure=>omega
     case rel=>exact⟨k+1,by omega,by go_num,Hj.out rfl,KL.out _⟩
   ·have q:(op==11)=false:=by simpa using ho
    have ab0:Hid (eZ x K (k+1)=false):=Hj.out (by rw[q];rfl);clear Hj TI;go_wp2_with fail
    go_roundg (x.ins.length-(k+1))
    case measure=>omega
    case rel=>exact⟨k+1,by omega,by go_num,ab0,KL.out _⟩
  ·have Hv:k=x.ins.length:=by omega
   aj Hv
   have kH:=run_make_row' (P:=Tryz.prog) 68 4 (.bool false) 1 Tryz.underlying68 oa rfl .i64 .i64 x.ins.length (by omega) (by omega);have HD0:Hid ((wr.alloc (.cells (madeCells #[.bool false] x.ins.length) 4)).rowIs wr.heap.size 4 x.ins.length (fun _=>.bool false)):=World.rowIs_made wr (.bool false) x.ins.length 4;have jg:Hid (∀ W,Below wr.heap.size (wr.alloc (.cells (madeCells #[.bool false] x.ins.length) 4)) W->b_ W2 W):=fun W hW=>(hB.out.alloc Iv _).trans (hW.mono Iv);have Yx:(wr.alloc (.cells (madeCells #[.bool false] x.ins.length) 4)).heap.size=wr.heap.size+1:=by simp
   go_wp2_with fail
   clear kH hB;generalize wr.alloc (.cells (madeCells #[.bool false] x.ins.length) 4)=W3 at *;generalize wr.heap.size=db at *;go_loopg [49] x.ins.length (fun gg i wr=>∃(k:Nat),k+gg=x.ins.length/\i=i_ k/\Hid (wr.rowIs db 4 x.ins.length (fun j=>.bool (decide (j<k)&&jt x K j)))/\Hid (Below db W3 wr))
   case atStart=>exact⟨0,by omega,rfl,HD0.out.congr (fun j hj=>by simp),r_⟩
   case round=>
    clear HD0;obtain⟨k,hk,rfl,hR,hB⟩:=hrel;have ss:=jg.out wr hB.out;have U2:=hB.out.size;have Sl:db<wr.heap.size:=hR.out.lt;have Bi:kb<wr.heap.size:=by omega
    have Bc:ib<wr.heap.size:=by omega
    by_cases ax:k<x.ins.length
    ·have M:=Ox.out wr ss k ax;have c0:=M.op;have c1:=M.fa;have c2:=M.fb;have c3:=M.fc;have c4:=M.fd;have zk:=hR.out.frozen k;have hdk:=hR.out.cell (i:=k) ax;have HKC:Hid (∀ m,m<x.ins.length->wr.cell? (a_ kb m)=some (.bool (K m))):=fun m hm=>(WG.out wr ss).cell hm;have ck:=HKC.out k ax;have rI:Hid (∀ o v,v=jt x K k->((wr.setCell (a_ db k) (.bool v)).alloc o).rowIs db 4 x.ins.length (fun j=>.bool (decide (j<k+1)&&jt x K j))/\Below db W3 ((wr.setCell (a_ db k) (.bool v)).alloc o)):=fun o v hv=>⟨((hR.out.set k _).congr (fun j hj=>by
       by_cases e:j=k
       ·aj e;simp[hv]
       ·have:(j<k+1)=(j<k):=by apply propext;omega
        simp[e,this])).alloc o,(hB.out.setCell n_ _).alloc (by simp;omega) o⟩
     obtain⟨nx,Rl⟩:∃ nx,Hid (iC K (x.ins.length-(k+1)) (k+1)=nx):=⟨_,rfl⟩;have ZF:Hid (jt x K k=(K k&&decide (0<k)&&((aY x k).op==19)&&decide ((aY x k).fa=(iC K (x.ins.length-(k+1)) (k+1):Nat)))):=rfl;rw[Rl.out]at ZF;generalize jt x K k=id0 at *;generalize aY x k=n at *;obtain⟨op,fa,fb,fc,fd⟩:=n;dsimp only at c0 c1 c2 c3 c4 ZF;clear M hR hB ss;go_wp2_with fail
     go_loopg [10] (x.ins.length-(k+1)) (fun gg v W=>∃ m:Nat,m+gg=x.ins.length/\v=i_ m/\k+1<=m/\Hid (iC K gg m=nx)/\W=wr.alloc (.cells #[i_ op,i_ fa,i_ fb,i_ fc,i_ fd] 51))
     case atStart=>exact⟨k+1,by omega,by go_num,n_,Rl,rfl⟩
     case round=>
      obtain⟨m,hm,rfl,hkm,WQ,rfl⟩:=hrel;have KZ:Hid (gk=0\/K m=true->m=nx):=fun h=>by
       have e:=WQ.out;rcases h with h | h
       ·rw[h]at e;exact e
       ·cases gk with
        | zero=>exact e
        | succ g=>rw[show iC K (g+1) m=m from if_pos h]at e;exact e
      have eN:Hid (∀ g,gk=g+1->K m=false->iC K g (m+1)=nx):=fun g hg h=>by
       have e:=WQ.out;rw[hg]at e
       rwa [show iC K (g+1) m=iC K g (m+1)from if_neg (by rw[h];decide)]at e
      clear WQ Rl;have KR:Hid (m=nx->(K k&&decide (0<k)&&(op==19)&&decide (fa=(m:Int)))=id0):=fun e=>by rw[ZF.out,e]
      by_cases hml:m<x.ins.length
      ·have cm:=HKC.out m hml;have hmI:(m:Int)<x.ins.length:=by omega
       cases hKm:K m
       ·rw[hKm]at cm;have ST:=af (eN.out (gk-1) (by omega) hKm);clear eN KZ KR;go_wp2_with fail
        go_roundg (gk-1)
        case measure=>omega
        case rel=>exact⟨m+1,by omega,by go_num,by omega,ST,rfl⟩
       ·rw[hKm]at cm;have DN:=af (KR.out (KZ.out (.inr hKm)));clear eN KZ KR;cases hKk:K k
        ·rw[hKk]at ck DN;have V:Hid (false=id0):=by show _=_;have:=DN.out;simpa using this
         clear DN;go_wp2_with fail
         go_roundg (x.ins.length-(k+1))
         case measure=>omega
         case rel=>exact⟨k+1,by omega,by go_num,(rI.out _ _ V.out).1,(rI.out _ _ V.out).2⟩
        ·rw[hKk]at ck DN;by_cases sN:0<k
         ·have acx:(0:Int)<k:=by omega
          by_cases ho:op=19
          ·aj ho
           by_cases hfa:fa=(m:Int)
           ·aj hfa
            have V:Hid (true=id0):=by show _=_;have:=DN.out;simpa[sN]using this
            clear DN;go_wp2_with fail
            go_roundg (x.ins.length-(k+1))
            case measure=>omega
            case rel=>exact⟨k+1,by omega,by go_num,(rI.out _ _ V.out).1,(rI.out _ _ V.out).2⟩
           ·have qf:(fa==(m:Int))=false:=by simpa using hfa
            have V:Hid (false=id0):=by show _=_;have:=DN.out;simpa[hfa]using this
            clear DN;go_wp2_with fail
            go_roundg (x.ins.length-(k+1))
            case measure=>omega
            case rel=>exact⟨k+1,by omega,by go_num,(rI.out _ _ V.out).1,(rI.out _ _ V.out).2⟩
          ·have q:(op==19)=false:=by simpa using ho
           have V:Hid (false=id0):=by show _=_;have:=DN.out;simpa[q]using this
           clear DN;go_wp2_with fail
           go_roundg (x.ins.length-(k+1))
           case measure=>omega
           case rel=>exact⟨k+1,by omega,by go_num,(rI.out _ _ V.out).1,(rI.out _ _ V.out).2⟩
         ·have Zn:¬((0:Int)<k):=by omega
          have V:Hid (false=id0):=by show _=_;have:=DN.out;simpa[sN]using this
          clear DN;go_wp2_with fail
          go_roundg (x.ins.length-(k+1))
          case measure=>omega
          case rel=>exact⟨k+1,by omega,by go_num,(rI.out _ _ V.out).1,(rI.out _ _ V.out).2⟩
      ·have hmI:¬((m:Int)<x.ins.length):=by omega
       have DN:=af (KR.out (KZ.out (.inl (by omega))));clear eN KZ KR;cases hKk:K k
       ·rw[hKk]at ck DN;have V:Hid (false=id0):=by show _=_;have:=DN.out;simpa using this
        clear DN;go_wp2_with fail
        go_roundg (x.ins.length-(k+1))
        case measure=>omega
        case rel=>exact⟨k+1,by omega,by go_num,(rI.out _ _ V.out).1,(rI.out _ _ V.out).2⟩
       ·rw[hKk]at ck DN;by_cases sN:0<k
        ·have acx:(0:Int)<k:=by omega
         by_cases ho:op=19
         ·aj ho
          by_cases hfa:fa=(m:Int)
          ·aj hfa
           have V:Hid (true=id0):=by show _=_;have:=DN.out;simpa[sN]using this
           clear DN;go_wp2_with fail
           go_roundg (x.ins.length-(k+1))
           case measure=>omega
           case rel=>exact⟨k+1,by omega,by go_num,(rI.out _ _ V.out).1,(rI.out _ _ V.out).2⟩
          ·have qf:(fa==(m:Int))=false:=by simpa using hfa
           have V:Hid (false=id0):=by show _=_;have:=DN.out;simpa[hfa]using this
           clear DN;go_wp2_with fail
           go_roundg (x.ins.length-(k+1))
           case measure=>omega
           case rel=>exact⟨k+1,by omega,by go_num,(rI.out _ _ V.out).1,(rI.out _ _ V.out).2⟩
         ·have q:(op==19)=false:=by simpa using ho
          have V:Hid (false=id0):=by show _=_;have:=DN.out;simpa[q]using this
          clear DN;go_wp2_with fail
          go_roundg (x.ins.length-(k+1))
          case measure=>omega
          case rel=>exact⟨k+1,by omega,by go_num,(rI.out _ _ V.out).1,(rI.out _ _ V.out).2⟩
        ·have Zn:¬((0:Int)<k):=by omega
         have V:Hid (false=id0):=by show _=_;have:=DN.out;simpa[sN]using this
         clear DN;go_wp2_with fail
         go_roundg (x.ins.length-(k+1))
         case measure=>omega
         case rel=>exact⟨k+1,by omega,by go_num,(rI.out _ _ V.out).1,(rI.out _ _ V.out).2⟩
    ·have Hv:k=x.ins.length:=by omega
     aj Hv
     have hR1:Hid (wr.rowIs db 4 x.ins.length (fun j=>.bool (jt x K j && !ed x K j 0))):=hR.out.congr (fun j hj=>by show Value.bool (_&&_)=Value.bool (_ && !false);simp[hj]);have hBo:=hB;clear hR;go_wp2_with fail
     go_loopg [94] x.ins.length (fun gg i W=>∃(k:Nat),k+gg=x.ins.length/\i=i_ k/\Hid (W.rowIs db 4 x.ins.length (fun j=>.bool (jt x K j && !ed x K j k)))/\Hid (Below db W3 W))
     case atStart=>exact⟨0,by omega,rfl,hR1,hBo⟩
     case round=>
      clear hR1 hBo Sl Bi Bc U2 ss hB hk ax;obtain⟨k,hk,rfl,hR,hB⟩:=hrel;have ss:=jg.out wr hB.out;have U2:=hB.out.size;have Sl:db<wr.heap.size:=hR.out.lt;have Bi:kb<wr.heap.size:=by omega
      have Bc:ib<wr.heap.size:=by omega
      by_cases ax:k<x.ins.length
      ·have M:=Ox.out wr ss k ax;have c0:=M.op;have c1:=M.fa;have c2:=M.fb;have c3:=M.fc;have c4:=M.fd;have ck:=(WG.out wr ss).cell (i:=k) ax;have sR:=kh (i:=k) HF.out ax;have NO:Hid ((K k&&((aY x k).op==31))=false->∀ o,(wr.alloc o).rowIs db 4 x.ins.length (fun j=>.bool (jt x K j && !ed x K j (k+1)))/\Below db W3 (wr.alloc o)):=fun h o=>⟨(hR.out.congr (fun j hj=>by
         have e:ed x K j (k+1)=ed x K j k:=by
          show(ed x K j k||(K k&&((aY x k).op==31)&&_))=_;rw[h];simp
         rw[e])).alloc o,hB.out.alloc (by omega) o⟩
       have Bt:Hid ((K k&&((aY x k).op==31))=true->∀ o,((wr.setCell (a_ db ((aY x k).fa.toNat)) (.bool false)).alloc o).rowIs db 4 x.ins.length (fun j=>.bool (jt x K j && !ed x K j (k+1)))/\Below db W3 ((wr.setCell (a_ db ((aY x k).fa.toNat)) (.bool false)).alloc o)):=fun h o=>⟨((hR.out.set _ _).congr (fun j hj=>by
         have e:ed x K j (k+1)=(ed x K j k||decide ((aY x k).fa.toNat=j)):=by
          show(ed x K j k||(K k&&((aY x k).op==31)&&_))=_;rw[h];simp
         rw[e];by_cases ej:j=(aY x k).fa.toNat
         ·simp[ej]
         ·simp[ej,Ne.symm ej])).alloc o,(hB.out.setCell n_ _).alloc (by simp;omega) o⟩
       have Yo:Hid (∀ m,m<x.ins.length->(wr.frozen? (a_ db m)=false/\∃ v,wr.cell? (a_ db m)=some (.bool v))):=fun m hm=>⟨hR.out.frozen m,_,hR.out.cell hm⟩;generalize aY x k=n at *;obtain⟨op,fa,fb,fc,fd⟩:=n;dsimp only at c0 c1 c2 c3 c4 NO Bt sR;clear M hR hB ss;cases hKk:K k
       ·rw[hKk]at ck NO;have V:=af (NO.out rfl);clear NO Bt Yo sR;go_wp2_with fail
        go_roundg (x.ins.length-(k+1))
        case measure=>omega
        case rel=>exact⟨k+1,by omega,by go_num,(V.out _).1,(V.out _).2⟩
       ·rw[hKk]at ck NO Bt;by_cases ho:op=31
        ·aj ho
         obtain⟨f0,f1⟩:=sR (.inr rfl);obtain⟨A,rfl⟩:=Int.eq_ofNat_of_zero_le f0;have V:=af (Bt.out rfl);have Kn:A<x.ins.length:=f1;have hAI:(A:Int)<x.ins.length:=by omega
         obtain⟨zA,vA,cA⟩:=Yo.out A Kn;clear NO Bt Yo sR f0 f1;go_wp2_with fail
         go_roundg (x.ins.length-(k+1))
         case measure=>omega
         case rel=>exact⟨k+1,by omega,by go_num,(V.out _).1,(V.out _).2⟩
        ·have q:(op==31)=false:=by simpa using ho
         have V:=af (NO.out (by rw[q];rfl));clear NO Bt Yo sR;go_wp2_with fail
         go_roundg (x.ins.length-(k+1))
         case measure=>omega
         case rel=>exact⟨k+1,by omega,by go_num,(V.out _).1,(V.out _).2⟩
      ·have Hv:k=x.ins.length:=by omega
       aj Hv
       have kH:=run_make_row' (P:=Tryz.prog) 70 3 (i_ 0) 8 Tryz.underlying70 dT rfl .i64 .i64 (x.ins.length+1) (by omega) (by omega);simp only[Int.natCast_add,Int.cast_ofNat_Int]at kH;have HN0:Hid ((wr.alloc (.cells (madeCells #[i_ 0] (x.ins.length+1)) 3)).rowIs wr.heap.size 3 (x.ins.length+1) (fun _=>i_ 0)):=World.rowIs_made wr (i_ 0) (x.ins.length+1) 3;have BG:Hid (∀ W,Below wr.heap.size (wr.alloc (.cells (madeCells #[i_ 0] (x.ins.length+1)) 3)) W->b_ W2 W):=fun W hW=>jg.out W ((hB.out.alloc (by omega) _).trans (hW.mono (by omega)));have HDR:Hid (∀ W,Below wr.heap.size (wr.alloc (.cells (madeCells #[i_ 0] (x.ins.length+1)) 3)) W->W.rowIs db 4 x.ins.length (fun j=>.bool (jt x K j && !ed x K j x.ins.length))):=fun W hW=>(hR.out.alloc _).of_block (hW.block _ Sl);have hs6:(wr.alloc (.cells (madeCells #[i_ 0] (x.ins.length+1)) 3)).heap.size=wr.heap.size+1:=by simp
       clear hR hB ss jg;go_wp2_with fail
       have hdnb:db<wr.heap.size:=by omega
       have hknb:kb<wr.heap.size:=by omega
       have hinb:ib<wr.heap.size:=by omega
       have hwnb:w.heap.size+1<wr.heap.size:=by omega
       clear kH Yx Iv U2;generalize wr.alloc (.cells (madeCells #[i_ 0] (x.ins.length+1)) 3)=W5 at *;generalize wr.heap.size=nb at *;go_loopg [14,119] x.ins.length (fun gg c i W=>∃(k:Nat),k+gg=x.ins.length/\i=i_ k/\c=i_ (dN (aF x K) k:Nat)/\Hid (W.rowIs nb 3 (x.ins.length+1) (fun j=>i_ (if j<k then(dN (aF x K) j:Nat)else 0)))/\Hid (Below nb W5 W))
       case atStart=>exact⟨0,by omega,rfl,rfl,HN0.out.congr (fun j hj=>by simp),r_⟩
       case round=>
        clear HN0 hk ax Bi Bc;obtain⟨k,hk,rfl,rfl,hR,hB⟩:=hrel;have ss:=BG.out wr hB.out;have hs7:=hB.out.size;have Bp:nb<wr.heap.size:=hR.out.lt;have Bi:kb<wr.heap.size:=by omega
        have Bc:ib<wr.heap.size:=by omega
        have QN:db<wr.heap.size:=by omega
        have abp:=lH (aF x K) k;by_cases ax:k<x.ins.length
        ·have Wi:(k:Int)<x.ins.length+1:=by omega
         have ck:=(WG.out wr ss).cell (i:=k) ax;have dk:=(HDR.out wr hB.out).cell (i:=k) ax;have zk:=hR.out.frozen k;have nk:=hR.out.cell (i:=k) (by omega);have hdn:db≠nb:=by omega
         have hkn:kb≠nb:=by omega
         have rI:Hid ((wr.setCell (a_ nb k) (i_ (dN (aF x K) k:Nat))).rowIs nb 3 (x.ins.length+1) (fun j=>i_ (if j<k+1 then(dN (aF x K) j:Nat)else 0))/\Below nb W5 (wr.setCell (a_ nb k) (i_ (dN (aF x K) k:Nat)))):=⟨(hR.out.set k _).congr (fun j hj=>by
           by_cases e:j=k
           ·aj e;simp
           ·have:(j<k+1)=(j<k):=by apply propext;omega
            simp[e,this]),hB.out.setCell n_ _⟩
         have UP:Hid (aF x K k=true->dN (aF x K) (k+1)=dN (aF x K) k+1):=fun h=>by show _+(if _ then 1 else 0)=_;rw[if_pos h]
         have ST:Hid (aF x K k=false->dN (aF x K) (k+1)=dN (aF x K) k):=fun h=>by show _+(if _ then 1 else 0)=_;rw[if_neg (by rw[h];decide)];rfl
         have xj:Hid (aF x K k=(K k && !(jt x K k && !ed x K k x.ins.length))):=rfl;generalize (jt x K k && !ed x K k x.ins.length)=idk at dk xj;generalize aF x K k=stk at *;generalize dN (aF x K) k=nk0 at *;clear hR hB ss;cases hKk:K k
         ·rw[hKk]at ck xj;have V:=af (ST.out (by rw[xj.out];rfl));clear UP ST xj;go_wp2_with fail
          go_roundg (x.ins.length-(k+1))
          case measure=>omega
          case rel=>exact⟨k+1,by omega,by go_num,by rw[V.out],rI.out.1,rI.out.2⟩
         ·rw[hKk]at ck xj;cases idk
          ·have V:=af (UP.out (by rw[xj.out];rfl));clear UP ST xj;go_wp2_with fail
           go_roundg (x.ins.length-(k+1))
           case measure=>omega
           case rel=>exact⟨k+1,by omega,by go_num,by rw[V.out];go_num,rI.out.1,rI.out.2⟩
          ·have V:=af (ST.out (by rw[xj.out];rfl));clear UP ST xj;go_wp2_with fail
           go_roundg (x.ins.length-(k+1))
           case measure=>omega
           case rel=>exact⟨k+1,by omega,by go_num,by rw[V.out],rI.out.1,rI.out.2⟩
        ·have Hv:k=x.ins.length:=by omega
         aj Hv
         have zk:=hR.out.frozen x.ins.length;have nk:=hR.out.cell (i:=x.ins.length) (by omega);have BB:=BX2.out _ ss;have b0:=BB.cell (i:=0) (by omega);have b1:=BB.cell (i:=1) (by omega);have b2:=BB.cell (i:=2) (by omega);have b3:=BB.cell (i:=3) (by omega);have b4:=BB.cell (i:=4) (by omega);have b5:=BB.cell (i:=5) (by omega);have b6:=BB.cell (i:=6) (by omega);have b7:=BB.cell (i:=7) (by omega);have b8:=BB.cell (i:=8) (by omega);simp at b0 b1 b2 b3 b4 b5 b6 b7 b8;have LX:w.heap.size<wr.heap.size:=by omega
         have hwn:w.heap.size≠nb:=by omega
         have abm:=BB;have To:Hid (∀ W,Below wr.heap.size ((wr.setCell (a_ nb x.ins.length) (i_ (dN (aF x K) x.ins.length:Nat))).alloc (.cells #[.string nm,i_ ln,i_ pr,.bool rs,i_ rg,.slice a5 n5 c5,.slice a6 n6 c6,.slice none 0 0,.slice none 0 0] 43)) W->Below nb W5 W):=fun W hW=>((hB.out.setCell n_ _).alloc (by simp;omega) _).trans (hW.mono (by omega));have HNR:Hid (∀ W,Below wr.heap.size ((wr.setCell (a_ nb x.ins.length) (i_ (dN (aF x K) x.ins.length:Nat))).alloc (.cells #[.string nm,i_ ln,i_ pr,.bool rs,i_ rg,.slice a5 n5 c5,.slice a6 n6 c6,.slice none 0 0,.slice none 0 0] 43)) W->W.rowIs nb 3 (x.ins.length+1) (fun j=>i_ (dN (aF x K) j:Nat))):=fun W hW=>(((hR.out.set x.ins.length _).congr (fun j hj=>by
           by_cases e:j=x.ins.length
           ·aj e;simp
           ·have:j<x.ins.length:=by omega
            simp[e,this])).alloc _).of_block (hW.block _ Bp)
         have KB:Hid (((wr.setCell (a_ nb x.ins.length) (i_ (dN (aF x K) x.ins.length:Nat))).alloc (.cells #[.string nm,i_ ln,i_ pr,.bool rs,i_ rg,.slice a5 n5 c5,.slice a6 n6 c6,.slice none 0 0,.slice none 0 0] 43)).rowIs wr.heap.size 43 9 (fun j=>(#[.string nm,i_ ln,i_ pr,.bool rs,i_ rg,.slice a5 n5 c5,.slice a6 n6 c6,.slice none 0 0,.slice none 0 0]:Array Value)[j]?.getD (.bool false))):=by
          have r0:=World.rowIs_alloc (wr.setCell (a_ nb x.ins.length) (i_ (dN (aF x K) x.ins.length:Nat))) #[.string nm,i_ ln,i_ pr,.bool rs,i_ rg,.slice a5 n5 c5,.slice a6 n6 c6,.slice none 0 0,.slice none 0 0] 43 (fun j=>(#[.string nm,i_ ln,i_ pr,.bool rs,i_ rg,.slice a5 n5 c5,.slice a6 n6 c6,.slice none 0 0,.slice none 0 0]:Array Value)[j]?.getD (.bool false)) (fun i hi=>by rw[Array.getElem?_eq_getElem hi];rfl);rw[World.size_setCell]at r0;exact r0
         have hs8:((wr.setCell (a_ nb x.ins.length) (i_ (dN (aF x K) x.ins.length:Nat))).alloc (.cells #[.string nm,i_ ln,i_ pr,.bool rs,i_ rg,.slice a5 n5 c5,.slice a6 n6 c6,.slice none 0 0,.slice none 0 0] 43)).heap.size=wr.heap.size+1:=by simp
         clear abm;clear BB ss;go_wp2_with fail
         have hbO:nb<wr.heap.size:=Bp;clear hR hB Bp zk nk b0 b1 b2 b3 b4 b5 b6 b7 b8 hs7 QN Bi Bc hwn LX;generalize ((wr.setCell (a_ nb x.ins.length) (i_ (dN (aF x K) x.ins.length:Nat))).alloc (.cells #[.string nm,i_ ln,i_ pr,.bool rs,i_ rg,.slice a5 n5 c5,.slice a6 n6 c6,.slice none 0 0,.slice none 0 0] 43))=W6 at *;generalize wr.heap.size=bO at *;obtain⟨i0,hi,dE,cT,dB⟩:=aN kP;go_loopg [150] x.ins.length (fun gg i W=>∃(k:Nat) (v7:Value),k+gg=x.ins.length/\i=i_ k/\Hid (W.rowIs bO 43 9 (fun j=>(#[.string nm,i_ ln,i_ pr,.bool rs,i_ rg,.slice a5 n5 c5,.slice a6 n6 c6,v7,.slice none 0 0]:Array Value)[j]?.getD (.bool false)))/\Hid (gP W (bO+1) v7 (fy x (aF x K) k))/\Hid (Below bO W6 W))
         case atStart=>exact⟨0,.slice none 0 0,by omega,rfl,KB,World.ownsRow_nil _ _ _ _,r_⟩
         case round=>
          clear KB hk ax abp;obtain⟨k,v7,hk,rfl,hR,hO,hB⟩:=hrel;have N7:=To.out wr hB.out;have ss:=BG.out wr N7;have aaP:bO<wr.heap.size:=hR.out.lt;have aa2:nb<wr.heap.size:=by omega
          have Bi:kb<wr.heap.size:=by omega
          have Bc:ib<wr.heap.size:=by omega
          have QN:db<wr.heap.size:=by omega
          by_cases ax:k<x.ins.length
          ·have M:=Ox.out wr ss k ax;have c0:=M.op;have c1:=M.fa;have c2:=M.fb;have c3:=M.fc;have c4:=M.fd;have ck:=(WG.out wr ss).cell (i:=k) ax;have dk:=(HDR.out wr N7).cell (i:=k) ax;have LB:Hid (∀ m,m<=x.ins.length->wr.cell? (a_ nb m)=some (i_ (dN (aF x K) m:Nat))):=fun m hm=>(HNR.out wr hB.out).cell (by omega);have bO7:=hR.out.cell (i:=7) (by omega);simp at bO7;have sR:=kh (i:=k) HF.out ax;have vh:=jX (i:=k) HF.out ax;have hOL:(fy x (aF x K) k).length<=k:=by rw[mS];exact lH _ _
           have OW:Hid (∀ o o',gP ((wr.alloc o).alloc o') (bO+1) v7 (fy x (aF x K) k)):=fun o o'=>World.ownsRow.alloc (World.ownsRow.alloc hO.out o) o';have BW:Hid (∀ o o',Below (bO+1) wr ((wr.alloc o).alloc o')):=fun o o'=>(r_.alloc (by omega) o).alloc (by simp;omega) o';have NO:Hid (aF x K k=false->∀ o,(wr.alloc o).rowIs bO 43 9 (fun j=>(#[.string nm,i_ ln,i_ pr,.bool rs,i_ rg,.slice a5 n5 c5,.slice a6 n6 c6,v7,.slice none 0 0]:Array Value)[j]?.getD (.bool false))/\gP (wr.alloc o) (bO+1) v7 (fy x (aF x K) (k+1))/\Below bO W6 (wr.alloc o)):=fun h o=>⟨hR.out.alloc o,by
            have e:fy x (aF x K) (k+1)=fy x (aF x K) k:=by show _++(if _ then _ else[])=_;rw[if_neg (by rw[h];decide),List.append_nil]
            rw[e];exact World.ownsRow.alloc hO.out o,hB.out.alloc (by omega) o⟩
           have PX:Hid (aF x K k=true->fy x (aF x K) (k+1)=fy x (aF x K) k++[kX (aF x K) (aY x k)]):=fun h=>by show _++(if _ then _ else[])=_;rw[if_pos h]
           have xj:Hid (aF x K k=(K k && !(jt x K k && !ed x K k x.ins.length))):=rfl;generalize (jt x K k && !ed x K k x.ins.length)=idk at dk xj;generalize aF x K k=stk at NO PX xj;obtain⟨n,hn⟩:∃ n,aY x k=n:=⟨_,rfl⟩;rw[hn]at c0 c1 c2 c3 c4 PX sR vh;clear M N7 ss hn;obtain⟨op,fa,fb,fc,fd⟩:=n;dsimp only at c0 c1 c2 c3 c4 sR vh;cases hKk:K k
           ·rw[hKk]at ck xj;have V:=af (NO.out xj.out);clear NO PX xj sR vh LB OW BW hOL hR hO hB;go_wp2_with fail
            go_roundg (x.ins.length-(k+1))
            case measure=>omega
            case rel=>exact⟨k+1,v7,by omega,by go_num,(V.out _).1,(V.out _).2.1,(V.out _).2.2⟩
           rw[hKk]at ck xj;cases idk
           case true=>
            have V:=af (NO.out xj.out);clear NO PX xj sR vh LB OW BW hOL hR hO hB;go_wp2_with fail
            go_roundg (x.ins.length-(k+1))
            case measure=>omega
            case rel=>exact⟨k+1,v7,by omega,by go_num,(V.out _).1,(V.out _).2.1,(V.out _).2.2⟩
           have HA:=af (PX.out xj.out);clear NO PX xj;obtain⟨o,Pp⟩:∃ o,o=op:=⟨_,rfl⟩;refine(Classical.em (op=19\/op=31)).elim (fun ho=>?p1) (fun ho=>(Classical.em (ec op=true)).elim (fun mh=>?p2) (fun mh=>?p3))
           case' p1=>
            obtain⟨f0,f1⟩:=sR ho;obtain⟨A,rfl⟩:=Int.eq_ofNat_of_zero_le f0;have Kn:A<x.ins.length:=f1;have hAI:(A:Int)<x.ins.length+1:=by omega
            have cA:=LB.out A (by omega);obtain⟨ra,Lu⟩:∃ r:Int,r=(dN (aF x K) A:Nat):=⟨_,rfl⟩;obtain⟨rb,BP⟩:∃ r:Int,r=fb:=⟨_,rfl⟩;have K4:Hid (kX (aF x K) ⟨op,(A:Nat),fb,fc,fd⟩=⟨o,ra,rb,fc,fd⟩):=by
             show _=_;unfold kX;rw[if_pos ho,Pp,Lu,BP];rfl
            rw[<-Lu]at cA;rw[<-BP]at c2 K4 HA;clear sR vh LB f0 f1 Lu BP;rcases ho with rfl | rfl
           case' p2=>
            obtain⟨f0,f1⟩:=vh mh;obtain⟨A,rfl⟩:=Int.eq_ofNat_of_zero_le f0;have Kn:A<x.ins.length:=f1;have hAI:(A:Int)<x.ins.length+1:=by omega
            have cA:=LB.out A (by omega);obtain⟨ra,Lu⟩:∃ r:Int,r=fa:=⟨_,rfl⟩;obtain⟨rb,BP⟩:∃ r:Int,r=(dN (aF x K) A:Nat):=⟨_,rfl⟩;have K4:Hid (kX (aF x K) ⟨op,fa,(A:Nat),fc,fd⟩=⟨o,ra,rb,fc,fd⟩):=by
             show _=_;unfold kX;rw[if_neg ho,if_pos mh,Pp,Lu,BP];rfl
            rw[<-BP]at cA;rw[<-Lu]at c1 K4 HA;unfold ec at mh;simp only[Bool.or_eq_true,beq_iff_eq]at mh;clear sR vh LB f0 f1 ho Lu BP;rcases mh with(((rfl | rfl) | rfl) | rfl) | rfl
           case' p3=>
            obtain⟨ra,Lu⟩:∃ r:Int,r=fa:=⟨_,rfl⟩;obtain⟨rb,BP⟩:∃ r:Int,r=fb:=⟨_,rfl⟩;have K4:Hid (kX (aF x K) ⟨op,fa,fb,fc,fd⟩=⟨o,ra,rb,fc,fd⟩):=by
             show _=_;unfold kX;rw[if_neg ho,if_neg mh,Pp,Lu,BP]
            rw[<-Lu]at c1 K4 HA;rw[<-BP]at c2 K4 HA;unfold ec at mh;simp only[Bool.or_eq_true,beq_iff_eq,not_or]at mh ho;obtain⟨⟨⟨⟨Fo,Fl⟩,Fp⟩,Fk⟩,Ff⟩:=mh;have Ry:(op==19)=false:=by simpa using ho.1
            have q31:(op==31)=false:=by simpa using ho.2
            have P7:(op==20)=false:=by simpa using Fo
            have q21:(op==21)=false:=by simpa using Fl
            have q38:(op==38)=false:=by simpa using Fp
            have q39:(op==39)=false:=by simpa using Fk
            have q41:(op==41)=false:=by simpa using Ff
            clear ho Fo Fl Fp Fk Ff sR vh LB Lu BP
           all_goals
            go_wp2_with (first
             | (at_builtin;refine wpList_append_own _ rfl _ _ 40 rfl (bO+1) 51 i0 (.agg #[i_ 0,i_ 0,i_ 0,i_ 0,i_ 0]) 5 40 Tryz.underlying40 hi dE cT dB rfl (by decide) _ _ _ rfl (OW.out _ _) (a_ (wr.heap.size+1) 0) 1 1 [i_ o,i_ ra,i_ rb,i_ fc,i_ fd] rfl rfl ?c1 ?c2 ?c3 ?c4 ?c5 ?_)
             | go_in)
            case c1=>intro j u hj;rcases j with _ | _ | _ | _ | _ | _<;>simp at hj<;>aj hj<;>simp[Addr.add,go_sem,Pp]
            case c2=>intro u hu;simp at hu;rcases hu with rfl | rfl | rfl | rfl | rfl<;>rfl
            case c3=>unfold maxLen;omega
            case c4=>omega
            case c5=>simp;omega
            intro v' w1 dj hgrow _
            aj Pp
            have R1:Hid (gP w1 (bO+1) v' (fy x (aF x K) (k+1))):=by
             show gP _ _ _ _;rw[HA.out,K4.out];exact dt.push dj
            have su:Hid (Below (bO+1) wr w1):=Below.grown (BW.out _ _) hgrow (by simp;omega) (fun j hj=>(dt.lt hO.out j hj).1);have yU:wr.heap.size<=w1.heap.size:=su.out.size;have rb:=hR.out.of_block (su.out.block _ (Nat.lt_succ_self _));have au:bO<w1.heap.size:=rb.lt;have r7:=rb.cell (i:=7) (by omega);have z7:=rb.frozen 7;simp at r7;have R2:Hid (∀ u,(w1.setCell (a_ bO 7) u).rowIs bO 43 9 (fun j=>(#[.string nm,i_ ln,i_ pr,.bool rs,i_ rg,.slice a5 n5 c5,.slice a6 n6 c6,u,.slice none 0 0]:Array Value)[j]?.getD (.bool false))):=fun u=>(rb.set 7 u).congr (fun j hj=>by
             have:j=0\/j=1\/j=2\/j=3\/j=4\/j=5\/j=6\/j=7\/j=8:=by omega
             rcases this with rfl | rfl | rfl | rfl | rfl | rfl | rfl | rfl | rfl<;>rfl)
            have R3:Hid (∀ u,gP (w1.setCell (a_ bO 7) u) (bO+1) v' (fy x (aF x K) (k+1))):=fun u=>R1.out.same (fun q e=>heap_setCell_other w1 (a_ bO 7) q u (by have:=(dt.lt R1.out q e).1;show q≠bO;omega));have R4:Hid (∀ u,Below bO W6 (w1.setCell (a_ bO 7) u)):=fun u=>(hB.out.trans (su.out.mono (by omega))).setCell n_ u;obtain⟨va',vc',jE⟩:=R1.out.lenV
            aj jE
            clear dj hgrow rb R1 su hO hR hB HA K4 OW BW hOL;go_wp2_with fail
            go_roundg (x.ins.length-(k+1))
            case measure=>omega
            case rel=>exact⟨k+1,_,by omega,by go_num,R2.out _,R3.out _,R4.out _⟩
          ·have Hv:k=x.ins.length:=by omega
           aj Hv
           have b8:=(BX2.out wr ss).cell (i:=8) (by omega);simp at b8;have LX:w.heap.size<wr.heap.size:=by omega
           have hbM:bO+1<=wr.heap.size:=by omega
           have Ie:Hid (∀ q,v7.ownBlock=some q->q<wr.heap.size):=fun q e=>(dt.lt hO.out q e).2;have HO7:=hO;have Td:=hB;have HR7:=hR;clear hR hO hB ss N7 hk ax QN Bc Bi;go_wp2_with fail
           clear b8;obtain⟨Wm,TF⟩:∃ Wm,Wm=wr:=⟨_,rfl⟩;rw[<-TF]at Ie hbM HO7 Td HR7;obtain⟨bM,QL⟩:∃ bM,bM=Wm.heap.size:=⟨_,rfl⟩;rw[<-QL]at Ie hbM;clear hi dE cT dB;obtain⟨i1,hi,dE,cT,dB⟩:=aN qj;go_loopg [199] x.named.length (fun gg i W=>∃(k:Nat) (v8:Value),k+gg=x.named.length/\i=i_ k/\Hid (W.rowIs bO 43 9 (fun j=>(#[.string nm,i_ ln,i_ pr,.bool rs,i_ rg,.slice a5 n5 c5,.slice a6 n6 c6,v7,v8]:Array Value)[j]?.getD (.bool false)))/\Hid (sx W bM v8 (qr x (aF x K) k))/\Hid (gP W (bO+1) v7 (fy x (aF x K) x.ins.length))/\Hid (Below bO W6 W)/\bM<=W.heap.size)
           case atStart=>exact⟨0,.slice none 0 0,by omega,rfl,by rw[<-TF];exact HR7,World.ownsRow_nil _ _ _ _,by rw[<-TF];exact HO7,by rw[<-TF];exact Td,by rw[QL,TF];exact n_⟩
           case round=>
            clear HO7 Td HR7 QL TF;obtain⟨k,v8,hk,rfl,hR,hM,hO,hB,hsM⟩:=hrel;have N7:=To.out wr hB.out;have ss:=BG.out wr N7;have mn:=fN.out wr ss;have aaP:bO<wr.heap.size:=hR.out.lt;have aa2:nb<wr.heap.size:=by omega
            have LX:w.heap.size<wr.heap.size:=by omega
            have Zr:w.heap.size+1<wr.heap.size:=by omega
            by_cases ax:k<x.named.length
            ·obtain⟨b8,o8,ha8,ze,hc8⟩:=HNM.out.2 (by omega)
             aj ha8
             have N:=hc8 k ax;have e8:∀ o,wr.cell? (a_ b8 o)=w.cell? (a_ b8 o):=fun o=>mn.cell (p:=(a_ b8 o)) ze;have c0:=(e8 _).trans N.name;have c1:=(e8 _).trans N.reg;have c2:=(e8 _).trans N.fro;have c3:=(e8 _).trans N.til;have hb83:b8<wr.heap.size:=by omega
             have Nw:=HF.out.named k ax;have LB:Hid (∀ m,m<=x.ins.length->wr.cell? (a_ nb m)=some (i_ (dN (aF x K) m:Nat))):=fun m hm=>(HNR.out wr hB.out).cell (by omega);have bO8:=hR.out.cell (i:=8) (by omega);simp at bO8;have HA:Hid (qr x (aF x K) (k+1)=qr x (aF x K) k++[kW (aF x K) (x.named[k]?.getD bE.z)]):=GJ x _ ax;have tp:=Ai x (aF x K) (Nat.le_of_lt ax);have Rf:=af tp;clear tp;have OW:Hid (∀ o o',sx ((wr.alloc o).alloc o') bM v8 (qr x (aF x K) k)):=fun o o'=>World.ownsRow.alloc (World.ownsRow.alloc hM.out o) o';have BW:Hid (∀ o o',Below bM wr ((wr.alloc o).alloc o')):=fun o o'=>(r_.alloc hsM o).alloc (by simp;omega) o';clear N e8 hc8 N7 ss mn;obtain⟨n,hn⟩:∃ n,x.named[k]?.getD bE.z=n:=⟨_,rfl⟩;rw[hn]at c0 c1 c2 c3 Nw HA;clear hn;obtain⟨nn,nr,nf,nt⟩:=n;dsimp only at c0 c1 c2 c3 Nw;obtain⟨f0,f1,t0,t1⟩:=Nw;obtain⟨F,rfl⟩:=Int.eq_ofNat_of_zero_le f0;obtain⟨G,rfl⟩:=Int.eq_ofNat_of_zero_le t0;have Ho:F<=x.ins.length:=f1;have hGl:G<=x.ins.length:=t1;have Z2:(F:Int)<x.ins.length+1:=by omega
             have hGI:(G:Int)<x.ins.length+1:=by omega
             have cF:=LB.out F Ho;have cG:=LB.out G hGl;have K4:Hid (kW (aF x K) ⟨nn,nr,(F:Nat),(G:Nat)⟩=⟨nn,nr,(dN (aF x K) F:Nat),(dN (aF x K) G:Nat)⟩):=rfl;clear f0 f1 t0 t1 LB;generalize dN (aF x K) F=nF at *;generalize dN (aF x K) G=nG at *;go_wp2_with (first
              | (at_builtin;refine wpList_append_own _ rfl _ _ 41 rfl bM 53 i1 (.agg #[.string ByteArray.empty,i_ 0,i_ 0,i_ 0]) 4 40 Tryz.underlying41 hi dE cT dB rfl (by decide) _ _ _ rfl (OW.out _ _) (a_ (wr.heap.size+1) 0) 1 1 [.string nn,i_ nr,i_ (nF:Nat),i_ (nG:Nat)] rfl rfl ?c1 ?c2 ?c3 ?c4 ?c5 ?_)
              | go_in)
             case c1=>intro j u hj;rcases j with _ | _ | _ | _ | _<;>simp at hj<;>aj hj<;>simp[Addr.add,go_sem]
             case c2=>intro u hu;simp at hu;rcases hu with rfl | rfl | rfl | rfl<;>rfl
             case c3=>rw[Rf.out];unfold maxLen;omega
             case c4=>rw[Rf.out];omega
             case c5=>simp;omega
             intro v' w1 dj hgrow _;have R1:Hid (sx w1 bM v' (qr x (aF x K) (k+1))):=by
              show sx _ _ _ _;rw[HA.out,K4.out];exact dt.push dj
             have su:Hid (Below bM wr w1):=Below.grown (BW.out _ _) hgrow (by simp;omega) (fun j hj=>(dt.lt hM.out j hj).1);have yU:wr.heap.size<=w1.heap.size:=su.out.size;have rb:=hR.out.of_block (su.out.block _ (by omega));have au:bO<w1.heap.size:=rb.lt;have r8:=rb.cell (i:=8) (by omega);have z8:=rb.frozen 8;simp at r8;have R2:Hid (∀ u,(w1.setCell (a_ bO 8) u).rowIs bO 43 9 (fun j=>(#[.string nm,i_ ln,i_ pr,.bool rs,i_ rg,.slice a5 n5 c5,.slice a6 n6 c6,v7,u]:Array Value)[j]?.getD (.bool false))):=fun u=>(rb.set 8 u).congr (fun j hj=>by
              have:j=0\/j=1\/j=2\/j=3\/j=4\/j=5\/j=6\/j=7\/j=8:=by omega
              rcases this with rfl | rfl | rfl | rfl | rfl | rfl | rfl | rfl | rfl<;>rfl)
             have R3:Hid (∀ u,sx (w1.setCell (a_ bO 8) u) bM v' (qr x (aF x K) (k+1))):=fun u=>R1.out.same (fun q e=>heap_setCell_other w1 (a_ bO 8) q u (by have:=(dt.lt R1.out q e).1;show q≠bO;omega));have R5:Hid (∀ u,gP (w1.setCell (a_ bO 8) u) (bO+1) v7 (fy x (aF x K) x.ins.length)):=fun u=>hO.out.same (fun q e=>(heap_setCell_other w1 (a_ bO 8) q u (by have:=(dt.lt hO.out q e).1;show q≠bO;omega)).trans (su.out.block q (Ie.out q e)));have R4:Hid (∀ u,Below bO W6 (w1.setCell (a_ bO 8) u)):=fun u=>(hB.out.trans (su.out.mono (by omega))).setCell n_ u;obtain⟨va',vc',jE⟩:=R1.out.lenV
             aj jE
             have hwM:bM<=w1.heap.size:=by omega
             clear dj hgrow rb R1 su hO hM hR hB HA K4 OW BW Rf;go_wp2_with fail
             go_roundg (x.named.length-(k+1))
             case measure=>omega
             case rel=>exact⟨k+1,_,by omega,by go_num,R2.out _,R3.out _,R5.out _,R4.out _,by simpa using hwM⟩
            ·have Hv:k=x.named.length:=by omega
             aj Hv
             have BB:=hR.out;have RB:=RX2.out wr ss;obtain⟨va7,vc7,hv7⟩:=hO.out.lenV;obtain⟨va8,vc8,hv8⟩:=hM.out.lenV
             aj hv7
             aj hv8
             have b0:=BB.cell (i:=0) (by omega);have b1:=BB.cell (i:=1) (by omega);have b2:=BB.cell (i:=2) (by omega);have b3:=BB.cell (i:=3) (by omega);have b4:=BB.cell (i:=4) (by omega);have b5:=BB.cell (i:=5) (by omega);have b6:=BB.cell (i:=6) (by omega);have b7:=BB.cell (i:=7) (by omega);have b8:=BB.cell (i:=8) (by omega);have r0:=RB.cell (i:=0) (by omega);have r1:=RB.cell (i:=1) (by omega);have r2:=RB.cell (i:=2) (by omega);have r3:=RB.cell (i:=3) (by omega);have r4:=RB.cell (i:=4) (by omega);have r5:=RB.cell (i:=5) (by omega);have r6:=RB.cell (i:=6) (by omega);have r7:=RB.cell (i:=7) (by omega);have r8:=RB.cell (i:=8) (by omega);have z0:=RB.frozen 0;have z1:=RB.frozen 1;have z2:=RB.frozen 2;have z3:=RB.frozen 3;have z4:=RB.frozen 4;have z5:=RB.frozen 5;have z6:=RB.frozen 6;have z7:=RB.frozen 7;have z8:=RB.frozen 8;simp at b0 b1 b2 b3 b4 b5 b6 b7 b8 r0 r1 r2 r3 r4 r5 r6 r7 r8;have EN:Hid (∀ v0 v1 v2 v3 v4 v5 v6 v7 v8,gP (((((((((wr.setCell (a_ (w.heap.size+1) 0) v0).setCell (a_ (w.heap.size+1) 1) v1).setCell (a_ (w.heap.size+1) 2) v2).setCell (a_ (w.heap.size+1) 3) v3).setCell (a_ (w.heap.size+1) 4) v4).setCell (a_ (w.heap.size+1) 5) v5).setCell (a_ (w.heap.size+1) 6) v6).setCell (a_ (w.heap.size+1) 7) v7).setCell (a_ (w.heap.size+1) 8) v8) w.heap.size (.slice va7 (fy x (aF x K) x.ins.length).length vc7) (fy x (aF x K) x.ins.length)):=fun v0 v1 v2 v3 v4 v5 v6 v7 v8=>(dt.base_le (base':=w.heap.size) hO.out (by omega)).same (fun q e=>mw (by have:=(dt.lt hO.out q e).1;omega) v0 v1 v2 v3 v4 v5 v6 v7 v8);have EM:Hid (∀ v0 v1 v2 v3 v4 v5 v6 v7 v8,sx (((((((((wr.setCell (a_ (w.heap.size+1) 0) v0).setCell (a_ (w.heap.size+1) 1) v1).setCell (a_ (w.heap.size+1) 2) v2).setCell (a_ (w.heap.size+1) 3) v3).setCell (a_ (w.heap.size+1) 4) v4).setCell (a_ (w.heap.size+1) 5) v5).setCell (a_ (w.heap.size+1) 6) v6).setCell (a_ (w.heap.size+1) 7) v7).setCell (a_ (w.heap.size+1) 8) v8) w.heap.size (.slice va8 (qr x (aF x K) x.named.length).length vc8) (qr x (aF x K) x.named.length)):=fun v0 v1 v2 v3 v4 v5 v6 v7 v8=>(dt.base_le (base':=w.heap.size) hM.out (by omega)).same (fun q e=>mw (by have:=(dt.lt hM.out q e).1;omega) v0 v1 v2 v3 v4 v5 v6 v7 v8);have BE:Hid (∀ v0 v1 v2 v3 v4 v5 v6 v7 v8,b_ w (((((((((wr.setCell (a_ (w.heap.size+1) 0) v0).setCell (a_ (w.heap.size+1) 1) v1).setCell (a_ (w.heap.size+1) 2) v2).setCell (a_ (w.heap.size+1) 3) v3).setCell (a_ (w.heap.size+1) 4) v4).setCell (a_ (w.heap.size+1) 5) v5).setCell (a_ (w.heap.size+1) 6) v6).setCell (a_ (w.heap.size+1) 7) v7).setCell (a_ (w.heap.size+1) 8) v8)):=fun v0 v1 v2 v3 v4 v5 v6 v7 v8=>ug mn (Nat.le_succ _) v0 v1 v2 v3 v4 v5 v6 v7 v8;have EL:=Ai x (aF x K) (Nat.le_refl x.named.length);rw[EL]at EM b8;rw[Jr]at EM;clear BB RB hR hO hM hB N7 ss mn;go_wp2_with fail
             refine bodyPost_ret (v:=.agg #[.string nm,i_ ln,i_ pr,.bool rs,i_ rg,.slice a5 n5 c5,.slice a6 n6 c6,.slice va7 (fy x (aF x K) x.ins.length).length vc7,.slice va8 x.named.length vc8]) (by simp[results,Tryz.results13,go_sem,r0,r1,r2,r3,r4,r5,r6,r7,r8,Zr]) rfl ⟨K,HK.out,BE.out _ _ _ _ _ _ _ _ _,.inr ⟨hL.out,_,_,rfl,EN.out _ _ _ _ _ _ _ _ _,EM.out _ _ _ _ _ _ _ _ _⟩⟩
