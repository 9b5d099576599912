import Derived.Test.YtcjfjflljdojlaaGreatDoorPart57
set_option linter.unusedSimpArgs false
set_option linter.unusedVariables false
set_option maxHeartbeats 8000000
set_option maxRecDepth 100000
namespace Go.Proofs.YtcjfjflljdojlaaGreatDoor
open Go.RowKit
structure C1 (W:World)(g n:Nat)(V:Nat->Value):Prop where
 cell:∀ j,j<n->W.cell? (a_ g j)=some (V j)
 soft:∀ o,W.frozen? (a_ g o)=false
 lt:g<W.heap.size
section
variable {W W':World} {g n:Nat} {V V':Nat->Value}
theorem C1.keep (h:C1 W g n V)(hb:b_ W W'):C1 W' g n V:=
 ⟨fun j hj=>(hb.cell (p:=(a_ g j)) h.lt).trans (h.cell j hj),fun o=>(World.frozen?_of_block (a:=(a_ g o)) (hb.block g h.lt)).trans (h.soft o),l_ h.lt hb.size⟩
theorem C1.congr (h:C1 W g n V)(e:∀ j,j<n->V j=V' j):C1 W g n V':=⟨fun j hj=>by rw[<-e j hj];exact h.cell j hj,h.soft,h.lt⟩
theorem C1.set (h:C1 W g n V)(k:Nat)(v:Value):C1 (W.setCell (a_ g k) v) g n (fun j=>if j=k then v else V j):=
 ⟨fun j hj=>by
  by_cases e:j=k
  ·aj e;rw[if_pos rfl];exact World.cell?_setCell_same' _ _ _ (by rw[h.cell j hj];rfl)
  ·rw[if_neg e,World.cell?_setCell_other _ (a_ g k) (a_ g j) v (fun k=>by injection k with _ k _;omega)];exact h.cell j hj,fun o=>(World.frozen?_setCell _ _ _ _).trans (h.soft o),by simpa using h.lt⟩
theorem C1.made (w:World)(z:Value)(n:Nat)(t:TypeId):C1 (w.alloc (.cells (madeCells #[z] n) t)) w.heap.size n (fun _=>z):=
 ⟨fun _ hj=>(World.rowIs_made w z n t).cell hj,fun o=>(World.rowIs_made w z n t).frozen o,by simp⟩
end
def nV (P:Nat->Bool)(j:Nat):Value:=.bool (P j)
theorem wD {x:ak}{K:Nat->Bool}{m:Nat}:∀ n,m<=n->eZ x K m=true->eZ x K n=true
 | 0,h,e=>by rw[Nat.le_zero.1 h]at e;exact e
 | n+1,h,e=>by
  by_cases q:m=n+1
  ·rw[<-q];exact e
  ·unfold eZ;rw[wD n (by omega) e];rfl
section
variable (x:ak) (K:Nat->Bool) (g c kb kc:Nat) (w:World)
theorem Ah (hN:x.ins.length<=6000)(hr:eC aW 5 w g x.ins.length (aY x))(hk:C1 w kb x.ins.length (nV K)) :
  c_ 35 #[.slice (some (a_ g 0)) x.ins.length c,.slice (some (a_ kb 0)) x.ins.length kc] w fun e w'=>e=.returned (.bool (eZ x K x.ins.length))/\b_ w w':=by
 have HR:Hid (∀ W,b_ w W->eC aW 5 W g x.ins.length (aY x)/\C1 W kb x.ins.length (nV K)):=fun W hW=>⟨hr.keep hW,hk.keep hW⟩;clear hr hk;go_enter Tryz.func35,Tryz.ntmps35;go_wp2_with fail
 go_loopg [9] x.ins.length (fun gg i wr=>∃ k:Nat,k+gg=x.ins.length/\i=i_ k/\Hid (eZ x K k=false)/\b_ w wr)
 case atStart=>exact⟨0,by omega,rfl,rfl,r_⟩
 case round=>
  obtain⟨k,hk,rfl,hL,hB⟩:=hrel;by_cases ax:k<x.ins.length
  ·have M:=(HR.out wr hB).1.ins ax;have ck:wr.cell? (a_ kb k)=some (.bool (K k)):=(HR.out wr hB).2.cell k ax;have fm:=(HR.out wr hB).1.lt;have iK:=(HR.out wr hB).2.lt;have c0:=M.op;have c1:=M.fa;have c2:=M.fb;have c3:=M.fc;have c4:=M.fd;have HA:Hid (∀ o,b_ w (wr.alloc o)):=fun o=>hB.alloc hB.size o;have NX:Hid (eZ x K (k+1)=((aY x k).op==11 && !K k)):=by show(_||_)=_;rw[hL.out];rfl
   have Bt:Hid (eZ x K (k+1)=true->eZ x K x.ins.length=true):=fun e=>wD _ ax e;clear M hL hB;generalize aY x k=n at *;obtain⟨op,fa,fb,fc,fd⟩:=n;dsimp only at c0 c1 c2 c3 c4 NX;generalize K k=kk at *;by_cases h11:op=11
   ·aj h11
    cases kk
    ·have RS:Hid (true=eZ x K x.ins.length):=(Bt.out NX.out).symm;go_wp2_with fail
     go_ret;exact⟨al RS.out,HA.out _⟩
    ·have NX':Hid (eZ x K (k+1)=false):=NX.out;go_wp2_with fail
     go_roundg (x.ins.length-(k+1))
     case measure=>omega
     case rel=>exact⟨k+1,by omega,by go_num,NX',HA.out _⟩
   ·have abB:(op==11)=false:=by simpa using h11
    have NX':Hid (eZ x K (k+1)=false):=by show _=_;rw[NX.out,abB];rfl
    go_wp2_with fail
    go_roundg (x.ins.length-(k+1))
    case measure=>omega
    case rel=>exact⟨k+1,by omega,by go_num,NX',HA.out _⟩
  ·have RS:Hid (false=eZ x K x.ins.length):=by show _=_;rw[<-hL.out,show k=x.ins.length by omega]
   go_wp2_with fail
   go_ret;exact⟨al RS.out,hB⟩
def Jo (n:Nat)(P:Nat->Bool)(w:World)(e:Ending)(w':World):Prop:=∃ b c,e=.returned (.slice (some (a_ b 0)) n c)/\w.heap.size<=b/\C1 w' b n (nV P)/\b_ w w'
theorem xK (hf:j8 x)(hr:eC aW 5 w g x.ins.length (aY x))(hk:C1 w kb x.ins.length (nV K)) :
  c_ 90 #[.slice (some (a_ g 0)) x.ins.length c,.slice (some (a_ kb 0)) x.ins.length kc] w (Jo x.ins.length (fun i=>ed x K i x.ins.length) w):=by
 have hN:=hf.few;have HF:=af hf;have HR:Hid (∀ W,b_ w W->eC aW 5 W g x.ins.length (aY x)/\C1 W kb x.ins.length (nV K)):=fun W hW=>⟨hr.keep hW,hk.keep hW⟩;have kH:=run_make_row' (P:=Tryz.prog) 68 4 (.bool false) 1 Tryz.underlying68 oa rfl .i64 .i64 x.ins.length (by omega) (by omega);have Fh:=hr.lt;have sN:=hk.lt;clear hr hk hf;go_enter Tryz.func90,Tryz.ntmps90;go_wp2_with fail
 clear kH;go_loopg [13] x.ins.length (fun gg i wr=>∃ k:Nat,k+gg=x.ins.length/\i=i_ k/\Hid (C1 wr w.heap.size x.ins.length (nV (fun i=>ed x K i k)))/\b_ w wr)
 case atStart=>exact⟨0,by omega,rfl,C1.made _ _ _ _,r_.alloc n_ _⟩
 case round=>
  obtain⟨k,hk,rfl,hC,hB⟩:=hrel;by_cases ax:k<x.ins.length
  ·have M:=(HR.out wr hB).1.ins ax;have ck:wr.cell? (a_ kb k)=some (.bool (K k)):=(HR.out wr hB).2.cell k ax;have fm:=(HR.out wr hB).1.lt;have iK:=(HR.out wr hB).2.lt;have qJ:=hC.out.lt;have c0:=M.op;have c1:=M.fa;have c2:=M.fb;have c3:=M.fc;have c4:=M.fd;have HA:Hid (∀ o,b_ w (wr.alloc o)):=fun o=>hB.alloc hB.size o;have NX:Hid (∀ i,ed x K i (k+1)=(ed x K i k||(K k&&((aY x k).op==31)&&decide ((aY x k).fa.toNat=i)))):=fun i=>rfl;have JM:=kh (i:=k) HF.out ax;have HB:=af hB;clear M hB;generalize aY x k=n at *;obtain⟨op,fa,fb,fc,fd⟩:=n;dsimp only at c0 c1 c2 c3 c4 NX JM;generalize K k=kk at *;by_cases Hz:op=31/\kk=true
   ·obtain⟨rfl,rfl⟩:=Hz;obtain⟨f0,f1⟩:=JM (.inr rfl);obtain⟨A,rfl⟩:=Int.eq_ofNat_of_zero_le f0;have hA:A<x.ins.length:=f1;have z:=hC.out.soft A;have q:=hC.out.cell A hA;have eM:Hid (∀ o,C1 ((wr.setCell (a_ w.heap.size A) (.bool true)).alloc o) w.heap.size x.ins.length (nV (fun i=>ed x K i (k+1)))/\b_ w ((wr.setCell (a_ w.heap.size A) (.bool true)).alloc o)):=fun o=>⟨C1.keep ((hC.out.set A (.bool true)).congr (fun j _=>by
     show _=Value.bool (ed x K j (k+1));rw[NX.out j];unfold nV;by_cases e:j=A
     ·aj e;rw[if_pos rfl];simp
     ·rw[if_neg e];simp;omega)) (r_.alloc n_ _),(HB.out.setCell n_ _).alloc (by simpa using HB.out.size) _⟩
    clear JM NX f0 f1;go_wp2_with fail
    go_roundg (x.ins.length-(k+1))
    case measure=>omega
    case rel=>exact⟨k+1,by omega,by go_num,(eM.out _).1,(eM.out _).2⟩
   ·have eM:Hid (∀ o,C1 (wr.alloc o) w.heap.size x.ins.length (nV (fun i=>ed x K i (k+1)))):=fun o=>C1.keep (hC.out.congr (fun j _=>by
     show _=Value.bool (ed x K j (k+1));rw[NX.out j];unfold nV;have:(kk&&(op==31))=false:=by
      cases kk
      ·rfl
      ·simpa using Hz
     rw[this];simp)) (r_.alloc n_ _)
    clear JM NX;by_cases h:op=31
    case' pos=>
     aj h
     obtain rfl:kk=false:=by simpa using Hz
    case' neg=>have aaX:(op==31)=false:=by simpa using h
    all_goals
     clear Hz;go_wp2_with fail
     go_roundg (x.ins.length-(k+1))
     case measure=>omega
     case rel=>exact⟨k+1,by omega,by go_num,eM.out _,HA.out _⟩
  ·have HK:Hid (k=x.ins.length):=by show _=_;omega
   go_wp2_with fail
   go_ret;exact⟨_,_,rfl,n_,by rw[<-HK.out];rw[<-HK.out]at hC;exact hC.out,hB⟩
end
theorem DE (K:Nat->Bool){n q:Nat}(h:q<n):iC K (n-q) q=if K q=true then q else iC K (n-(q+1)) (q+1):=by
 rw[show n-q=(n-(q+1))+1 by omega];rfl
section
variable (x:ak) (K:Nat->Bool) (g c kb kc:Nat) (w:World)
theorem sy (hf:j8 x)(hr:eC aW 5 w g x.ins.length (aY x))(hk:C1 w kb x.ins.length (nV K)) :
  c_ 36 #[.slice (some (a_ g 0)) x.ins.length c,.slice (some (a_ kb 0)) x.ins.length kc] w (Jo x.ins.length (aF x K) w):=by
 have hN:=hf.few;have Iy:=hf.some_;have HF:=af hf;have HR:Hid (∀ W,b_ w W->eC aW 5 W g x.ins.length (aY x)/\C1 W kb x.ins.length (nV K)):=fun W hW=>⟨hr.keep hW,hk.keep hW⟩;obtain⟨l,hl⟩:∃ l,l=(List.range x.ins.length).map K:=⟨_,rfl⟩;have py:l.length=x.ins.length:=by rw[hl];simp
 have hlg:∀ j,j<x.ins.length->l[j]?.getD false=K j:=fun j hj=>by rw[hl];simp[hj]
 have CP:Hid (c_ 89 #[.slice (some (a_ kb 0)) x.ins.length kc] w (hU 4 1 YZ l w)):=by
  have:=Ge kb kc l w (fun j hj=>by rw[hlg j (by omega)];exact hk.cell j (by omega)) (by omega)
  rwa [py]at this
 have Y3:=hk.lt;have If:=hr.lt;have HLG:=af hlg;clear hr hk hf hl hlg;go_enter Tryz.func36,Tryz.ntmps36;go_wp2_with fail
 refine(aa CP).mono ?_;rintro e w1 ⟨v,rfl,gB,au⟩;obtain⟨r,cap,rfl,BP,vj⟩:=gB.rowS (fun _=>rfl) false (by omega);rw[py]at *;have K1:Hid (C1 w1 r x.ins.length (nV K)):=⟨fun j hj=>by
  have:=vj.cell j hj 0 (by omega);rw[Nat.mul_one]at this;rw[HLG.out j hj]at this;exact this,vj.soft,vj.lt⟩
 have HD:=af (xK x K g c kb kc w1 HF.out (HR.out _ au).1 (HR.out _ au).2);have dM:=af au;clear gB vj au CP HLG py;go_wp2_with fail
 refine(aa HD).mono ?_;rintro e w2 ⟨cb,cc,rfl,Nz,OD,bo⟩;have lD:Hid (b_ w w2):=dM.out.trans (bo.mono dM.out.size);have K2:=af (K1.out.keep bo);have Ei:r<cb:=by have:=K1.out.lt;omega
 have C2:=af OD;have wi:=K2.out.lt;have qJ:=C2.out.lt;obtain⟨N,hNN⟩:∃ N,N+1=x.ins.length:=⟨x.ins.length-1,by omega⟩;clear OD bo K1 HD dM;go_wp2_with fail
 go_loopg [7,8] x.ins.length (fun gg nx i wr=>∃ q:Nat,q+1=gg/\q<x.ins.length/\i=i_ q/\nx=i_ (iC K (x.ins.length-(q+1)) (q+1):Nat)/\Hid (C1 wr r x.ins.length (nV (fun j=>if q<j then aF x K j else K j)))/\Hid (C1 wr cb x.ins.length (nV (fun i=>ed x K i x.ins.length)))/\Hid (b_ w wr))
 case atStart=>exact⟨N,by omega,by omega,by congr 1;omega,by rw[hNN,Nat.sub_self];rfl,K2.out.congr (fun j hj=>congrArg Value.bool (if_neg (show ¬N<j by omega)).symm),C2,lD⟩
 case round=>
  clear K2 C2 lD wi qJ;obtain⟨q,hq,Re,rfl,rfl,hK,hC,hB⟩:=hrel;by_cases h0:0<q
  ·obtain⟨p,rfl⟩:∃ p,q=p+1:=⟨q-1,by omega⟩;have NS:=af (DE K Re);have M:=(HR.out wr hB.out).1.ins Re;have ck:wr.cell? (a_ kb (p+1))=some (.bool (K (p+1))):=(HR.out wr hB.out).2.cell _ Re;have cc:wr.cell? (a_ cb (p+1))=some (.bool (ed x K (p+1) x.ins.length)):=hC.out.cell _ Re;have cr:=hK.out.cell _ Re;have zr:=hK.out.soft (p+1);have fm:=(HR.out wr hB.out).1.lt;have iK:=(HR.out wr hB.out).2.lt;have qJ:=hC.out.lt;have wi:=hK.out.lt;have c0:=M.op;have c1:=M.fa;have c2:=M.fb;have c3:=M.fc;have c4:=M.fd;have ST:Hid (aF x K (p+1)=(K (p+1) && !(K (p+1)&&decide (0<p+1)&&((aY x (p+1)).op==19)&&decide ((aY x (p+1)).fa=(iC K (x.ins.length-(p+1+1)) (p+1+1):Nat)) && !ed x K (p+1) x.ins.length))):=rfl;have hpI:(p:Int)+1<x.ins.length:=by omega
   have eN:Hid (∀ b j,aF x K (p+1)=b->(if p<j then aF x K j else K j)=if j=p+1 then b else if p+1<j then aF x K j else K j):=fun b j e=>by
    by_cases h:j=p+1
    ·aj h;rw[if_pos (by omega),if_pos rfl];exact e
    ·rw[if_neg h];by_cases h2:p<j
     ·rw[if_pos h2,if_pos (by omega)]
     ·rw[if_neg h2,if_neg (by omega)]
   have Es:Hid (aF x K (p+1)=K (p+1)->C1 wr r x.ins.length (nV (fun j=>if p<j then aF x K j else K j))):=fun e=>hK.out.congr (fun j _=>by
    unfold nV;dsimp only;rw[eN.out _ j e];by_cases h:j=p+1
    ·aj h;rw[if_pos rfl,if_neg (by omega)]
    ·rw[if_neg h])
   have hA:∀(W:World) (o:Obj),b_ W (W.alloc o):=fun W o=>r_.alloc n_ o;have HA:=af hA;clear M h0 hA;generalize ed x K (p+1) x.ins.length=hd at *;generalize iC K (x.ins.length-(p+1+1)) (p+1+1)=nx at *;generalize aY x (p+1)=n at *;obtain⟨op,fa,fb,fc,fd⟩:=n;dsimp only at c0 c1 c2 c3 c4 ST;cases hKq:K (p+1)
   ·rw[hKq]at ck NS ST Es;have eM:Hid (C1 wr r x.ins.length (nV (fun j=>if p<j then aF x K j else K j))):=Es.out ST.out;have NX:Hid (iC K (x.ins.length-(p+1)) (p+1)=nx):=NS.out;clear cc cr zr c0 c1 c2 c3 c4 Es eN ST NS;go_wp2_with fail
    go_roundg (p+1)
    case measure=>omega
    case rel=>exact⟨p,rfl,by omega,by go_num,by rw[NX.out],eM,hC,hB⟩
   ·rw[hKq]at ck NS ST Es;have NX:Hid (iC K (x.ins.length-(p+1)) (p+1)=p+1):=NS.out;by_cases hh:op=19/\fa=(nx:Int)/\hd=false
    ·obtain⟨rfl,rfl,rfl⟩:=hh;have eM:Hid (∀ o,C1 ((wr.setCell (a_ r (p+1)) (.bool false)).alloc o) r x.ins.length (nV (fun j=>if p<j then aF x K j else K j))/\C1 ((wr.setCell (a_ r (p+1)) (.bool false)).alloc o) cb x.ins.length (nV (fun i=>ed x K i x.ins.length))/\b_ w ((wr.setCell (a_ r (p+1)) (.bool false)).alloc o)):=fun o=>
      ⟨C1.keep ((hK.out.set (p+1) (.bool false)).congr (fun j _=>by
       unfold nV;dsimp only;rw[eN.out false j (by rw[ST.out];simp)];by_cases h:j=p+1
       ·rw[if_pos h,if_pos h]
       ·rw[if_neg h,if_neg h])) (HA.out _ _),C1.keep ⟨fun j hj=>(World.cell?_setCell_other _ (a_ r (p+1)) (a_ cb j) _ (fun k=>by injection k with k _ _;omega)).trans (hC.out.cell j hj),fun o=>(World.frozen?_setCell _ _ _ _).trans (hC.out.soft o),by simpa using hC.out.lt⟩ (HA.out _ _),(hB.out.setCell BP _).alloc (by simpa using hB.out.size) _⟩
     clear Es eN ST NS hK;go_wp2_with fail
     go_roundg (p+1)
     case measure=>omega
     case rel=>exact⟨p,rfl,by omega,by go_num,by rw[NX.out],(eM.out _).1,(eM.out _).2.1,(eM.out _).2.2⟩
    ·have eM:Hid (∀ o,C1 (wr.alloc o) r x.ins.length (nV (fun j=>if p<j then aF x K j else K j))/\C1 (wr.alloc o) cb x.ins.length (nV (fun i=>ed x K i x.ins.length))/\b_ w (wr.alloc o)):=fun o=>
      ⟨C1.keep (Es.out (by
       rw[ST.out];cases hd<;>simp;exact(Classical.em (op=19)).elim (fun h=>.inr (fun k=>hh ⟨h,k,rfl⟩)) .inl)) (HA.out _ _),hC.out.keep (HA.out _ _),hB.out.alloc hB.out.size _⟩
     clear Es eN ST NS hK;refine(Classical.em (op=19)).elim (fun h19=>(Classical.em (fa=(nx:Int))).elim (fun hfa=>?p1) (fun hfa=>?p2)) (fun h19=>?p3)
     case' p1=>
      aj h19 hfa
      obtain rfl:hd=true:=by
       cases hd
       ·exact absurd ⟨rfl,rfl,rfl⟩ hh
       ·rfl
     case' p2=>
      aj h19
      have hfa':(fa==(nx:Int))=false:=by simpa using hfa
     case' p3=>have h19':(op==19)=false:=by simpa using h19
     all_goals
      clear hh;go_wp2_with fail
      go_roundg (p+1)
      case measure=>omega
      case rel=>exact⟨p,rfl,by omega,by go_num,by rw[NX.out],(eM.out _).1,(eM.out _).2.1,(eM.out _).2.2⟩
  ·obtain rfl:q=0:=by omega
   go_wp2_with fail
   go_ret;exact⟨_,_,rfl,BP,hK.out.congr (fun j _=>by
    unfold nV;dsimp only;by_cases h:0<j
    ·rw[if_pos h]
    ·obtain rfl:j=0:=by omega
     rw[if_neg h];unfold aF jt;simp),hB.out⟩
end
end Go.Proofs.YtcjfjflljdojlaaGreatDoor
