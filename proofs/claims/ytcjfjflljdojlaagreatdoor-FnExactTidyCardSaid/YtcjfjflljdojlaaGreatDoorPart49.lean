import Derived.Test.YtcjfjflljdojlaaGreatDoorPart48
set_option linter.all false
set_option maxHeartbeats 8000000
set_option maxRecDepth 100000
namespace Go.Proofs.YtcjfjflljdojlaaGreatDoor
open Go.RowKit
structure C1 (W:w_)(g n:Nat)(V:Nat->Value):Prop where
 cell:∀ j,j<n->W.cell? (a_ g j)=some (V j)
 soft:∀ o,W.frozen? (a_ g o)=false
 lt:g<W.heap.size
section
variable {W W':w_} {g n:Nat} {V V':Nat->Value}
theorem C1.keep (h:C1 W g n V)(hb:b_ W W'):C1 W' g n V:=
 ⟨fun j hj=>(hb.cell (p:=(a_ g j)) h.lt).trans (h.cell j hj),fun o=>(zbf (a:=(a_ g o)) (hb.block g h.lt)).trans (h.soft o),l_ h.lt hb.size⟩
theorem C1.congr (h:C1 W g n V)(e:∀ j,j<n->V j=V' j):C1 W g n V':=⟨fun j hj=>by rw[<-e j hj];exact h.cell j hj,h.soft,h.lt⟩
theorem C1.set (h:C1 W g n V)(k:Nat)(v:Value):C1 (W.setCell (a_ g k) v) g n (fun j=>if j=k then v else V j):=
 ⟨fun j hj=>by
  by_cases e:j=k
  ·subst e;rw[zca rfl];exact World.cell?_setCell_same' _ _ _ (by rw[h.cell j hj];rfl)
  ·rw[zcb e,World.cell?_setCell_other _ (a_ g k) (a_ g j) v (fun k=>by injection k with _ k _;omega)];exact h.cell j hj,fun o=>(World.frozen?_setCell _ _ _ _).trans (h.soft o),by simpa using h.lt⟩
theorem C1.made (w:w_)(z:Value)(n:Nat)(t:TypeId):C1 (w.alloc (.cells (madeCells #[z] n) t)) w.heap.size n (fun _=>z):=
 ⟨fun _ hj=>(World.rowIs_made w z n t).cell hj,fun o=>(World.rowIs_made w z n t).frozen o,by simp⟩
end
def nP (P:Nat->Bool)(j:Nat):Value:=.bool (P j)
theorem wS {x:aj}{K:Nat->Bool}{m:Nat}:∀ n,m<=n->eW x K m=true->eW x K n=true
 | 0,h,e=>by rw[Nat.le_zero.1 h]at e;exact e
 | n+1,h,e=>by
  by_cases q:m=n+1
  ·rw[<-q];exact e
  ·unfold eW;rw[wS n (by omega) e];rfl
section
variable (x:aj) (K:Nat->Bool) (g c kb kc:Nat) (w:w_)
theorem Ah (hN:x.u.length<=6000)(hr:eB aV 5 w g x.u.length (aX x))(hk:C1 w kb x.u.length (nP K)) :
  c_ 35 #[s_ g 0 x.u.length c,s_ kb 0 x.u.length kc] w fun e w'=>e=.returned (.bool (eW x K x.u.length))/\b_ w w':=by
 have HR:H_ (∀ W,b_ w W->eB aV 5 W g x.u.length (aX x)/\C1 W kb x.u.length (nP K)):=fun W hW=>⟨hr.keep hW,hk.keep hW⟩;clear hr hk;go_enter Tryz.func35,Tryz.ntmps35;go_wp2
 go_loopg [9] x.u.length (fun gg i wr=>∃ k:Nat,k+gg=x.u.length/\i=i_ k/\H_ (eW x K k=false)/\b_ w wr);(case atStart=>exact⟨0,by omega,rfl,rfl,r_⟩);case round=>obtain⟨k,hk,rfl,hL,hB⟩:=hrel;by_cases au:k<x.u.length;{have M:=(HR.o wr hB).1.u au;have ck:wr.cell? (a_ kb k)=some (.bool (K k)):=(HR.o wr hB).2.cell k au;have fl:=(HR.o wr hB).1.lt;have iJ:=(HR.o wr hB).2.lt;have c0:=M.op;have c1:=M.fa;have c2:=M.fb;have c3:=M.fc;have c4:=M.fd;have HA:H_ (∀ o,b_ w (wr.alloc o)):=fun o=>hB.alloc hB.size o;have NX:H_ (eW x K (k+1)=((aX x k).op==11 && !K k)):=by{show(_||_)=_;rw[hL.o];rfl};have Bg:H_ (eW x K (k+1)=true->eW x K x.u.length=true):=fun e=>wS _ au e;clear M hL hB;generalize aX x k=n at *;obtain⟨op,fa,fb,fc,fd⟩:=n;dsimp only at c0 c1 c2 c3 c4 NX;generalize K k=kk at *;by_cases h11:op=11;{subst h11;cases kk;{have RS:H_ (true=eW x K x.u.length):=(Bg.o NX.o).symm;go_wp2;go_ret;exact⟨ak RS.o,HA.o _⟩};{have ZX:H_ (eW x K (k+1)=false):=NX.o;go_wp2;go_roundg (x.u.length-(k+1));(case measure=>omega);case rel=>exact⟨k+1,by omega,by go_num,ZX,HA.o _⟩}};{have acq:(op==11)=false:=by{simpa using h11};have ZX:H_ (eW x K (k+1)=false):=by{show _=_;rw[NX.o,acq];rfl};go_wp2;go_roundg (x.u.length-(k+1));(case measure=>omega);case rel=>exact⟨k+1,by omega,by go_num,ZX,HA.o _⟩}};{have RS:H_ (false=eW x K x.u.length):=by{show _=_;rw[<-hL.o,show k=x.u.length by omega]};go_wp2;go_ret;exact⟨ak RS.o,hB⟩}
def Ji (n:Nat)(P:Nat->Bool)(w:w_)(e:Ending)(w':w_):Prop:=∃ b c,e=.returned (s_ b 0 n c)/\w.heap.size<=b/\C1 w' b n (nP P)/\b_ w w'
theorem yD (hf:jW x)(hr:eB aV 5 w g x.u.length (aX x))(hk:C1 w kb x.u.length (nP K)) :
  c_ 90 #[s_ g 0 x.u.length c,s_ kb 0 x.u.length kc] w (Ji x.u.length (fun i=>ec x K i x.u.length) w):=by
 have hN:=hf.few;have HF:=af hf;have HR:H_ (∀ W,b_ w W->eB aV 5 W g x.u.length (aX x)/\C1 W kb x.u.length (nP K)):=fun W hW=>⟨hr.keep hW,hk.keep hW⟩;have kE:=run_make_row' (P:=Tryz.prog) 68 4 (.bool false) 1 Tryz.underlying68 oe rfl .i64 .i64 x.u.length (by omega) (by omega);have Ff:=hr.lt;have sO:=hk.lt;clear hr hk hf;go_enter Tryz.func90,Tryz.ntmps90;go_wp2_with fail
 clear kE;go_loopg [13] x.u.length (fun gg i wr=>∃ k:Nat,k+gg=x.u.length/\i=i_ k/\H_ (C1 wr w.heap.size x.u.length (nP (fun i=>ec x K i k)))/\b_ w wr);(case atStart=>exact⟨0,by omega,rfl,C1.made _ _ _ _,r_.alloc n_ _⟩);case round=>
  obtain⟨k,hk,rfl,hC,hB⟩:=hrel;by_cases au:k<x.u.length
  ·have M:=(HR.o wr hB).1.u au;have ck:wr.cell? (a_ kb k)=some (.bool (K k)):=(HR.o wr hB).2.cell k au;have fl:=(HR.o wr hB).1.lt;have iJ:=(HR.o wr hB).2.lt;have qI:=hC.o.lt;have c0:=M.op;have c1:=M.fa;have c2:=M.fb;have c3:=M.fc;have c4:=M.fd;have HA:H_ (∀ o,b_ w (wr.alloc o)):=fun o=>hB.alloc hB.size o;have NX:H_ (∀ i,ec x K i (k+1)=(ec x K i k||(K k&&((aX x k).op==31)&&decide ((aX x k).fa.toNat=i)))):=fun i=>rfl;have JM:=kd (i:=k) HF.o au;have HB:=af hB;clear M hB;generalize aX x k=n at *;obtain⟨op,fa,fb,fc,fd⟩:=n;dsimp only at c0 c1 c2 c3 c4 NX JM;generalize K k=kk at *;by_cases Ia:op=31/\kk=true
   ·obtain⟨rfl,rfl⟩:=Ia;obtain⟨f0,f1⟩:=JM (.inr rfl);obtain⟨A,rfl⟩:=iV f0;have hA:A<x.u.length:=f1;have z:=hC.o.soft A;have q:=hC.o.cell A hA;have eL:H_ (∀ o,C1 ((wr.setCell (a_ w.heap.size A) (.bool true)).alloc o) w.heap.size x.u.length (nP (fun i=>ec x K i (k+1)))/\b_ w ((wr.setCell (a_ w.heap.size A) (.bool true)).alloc o)):=fun o=>⟨C1.keep ((hC.o.set A (.bool true)).congr (fun j _=>by
     show _=Value.bool (ec x K j (k+1));rw[NX.o j];unfold nP;by_cases e:j=A;{subst e;rw[zca rfl];simp}
     ·rw[zcb e];simp;omega)) (r_.alloc n_ _),(HB.o.setCell n_ _).alloc (by simpa using HB.o.size) _⟩
    clear JM NX f0 f1;go_wp2;go_roundg (x.u.length-(k+1));(case measure=>omega);case rel=>exact⟨k+1,by omega,by go_num,(eL.o _).1,(eL.o _).2⟩
   ·have eL:H_ (∀ o,C1 (wr.alloc o) w.heap.size x.u.length (nP (fun i=>ec x K i (k+1)))):=fun o=>C1.keep (hC.o.congr (fun j _=>by
     show _=Value.bool (ec x K j (k+1));rw[NX.o j];unfold nP;have:(kk&&(op==31))=false:=by cases kk;{rfl};{simpa using Ia}
     rw[this];simp)) (r_.alloc n_ _)
    clear JM NX;by_cases h:op=31;(case' pos=>subst h;obtain rfl:kk=false:=by simpa using Ia);(case' neg=>have aaq:(op==31)=false:=by simpa using h);all_goals clear Ia;go_wp2;go_roundg (x.u.length-(k+1));(case measure=>omega);case rel=>exact⟨k+1,by omega,by go_num,eL.o _,HA.o _⟩
  {have HK:H_ (k=x.u.length):=by{show _=_;omega};go_wp2;go_ret;exact⟨_,_,rfl,n_,by rw[<-HK.o];rw[<-HK.o]at hC;exact hC.o,hB⟩}
end
theorem CJ (K:Nat->Bool){n q:Nat}(h:q<n):iA K (n-q) q=if K q=true then q else iA K (n-(q+1)) (q+1):=by
 rw[show n-q=(n-(q+1))+1 by omega];rfl
section
variable (x:aj) (K:Nat->Bool) (g c kb kc:Nat) (w:w_)
theorem sF (hf:jW x)(hr:eB aV 5 w g x.u.length (aX x))(hk:C1 w kb x.u.length (nP K)) :
  c_ 36 #[s_ g 0 x.u.length c,s_ kb 0 x.u.length kc] w (Ji x.u.length (aE x K) w):=by
 have hN:=hf.few;have Ih:=hf.some_;have HF:=af hf;have HR:H_ (∀ W,b_ w W->eB aV 5 W g x.u.length (aX x)/\C1 W kb x.u.length (nP K)):=fun W hW=>⟨hr.keep hW,hk.keep hW⟩;obtain⟨l,hl⟩:∃ l,l=(List.range x.u.length).map K:=⟨_,rfl⟩;have pt:l.length=x.u.length:=by rw[hl];simp
 have Y8:∀ j,j<x.u.length->l[j]?.getD false=K j:=fun j hj=>by rw[hl];simp[hj]
 have CP:H_ (c_ 89 #[s_ kb 0 x.u.length kc] w (hU 4 1 YW l w)):=by have:=Gg kb kc l w (fun j hj=>by rw[Y8 j (by omega)];exact hk.cell j (by omega)) (by omega);rwa [pt]at this
 have hkb:=hk.lt;have Hp:=hr.lt;have HLG:=af Y8;clear hr hk hf hl Y8;go_enter Tryz.func36,Tryz.ntmps36;go_wp2_with fail
 refine(aa CP).mono ?_;rintro e w1 ⟨v,rfl,gy,ar⟩;obtain⟨r,cap,rfl,By,vl⟩:=gy.rowS (fun _=>rfl) false (by omega);rw[pt]at *;have K1:H_ (C1 w1 r x.u.length (nP K)):=⟨fun j hj=>by
  have:=vl.cell j hj 0 (by omega);rw[Nat.mul_one]at this;rw[HLG.o j hj]at this;exact this,vl.soft,vl.lt⟩
 have HD:=af (yD x K g c kb kc w1 HF.o (HR.o _ ar).1 (HR.o _ ar).2);have dL:=af ar;clear gy vl ar CP HLG pt;go_wp2_with fail;refine(aa HD).mono ?_;rintro e w2 ⟨cb,cc,rfl,Oy,OL,bj⟩;have lD:H_ (b_ w w2):=dL.o.trans (bj.mono dL.o.size);have K2:=af (K1.o.keep bj);have Ee:r<cb:=by have:=K1.o.lt;omega
 have C2:=af OL;have we:=K2.o.lt;have qI:=C2.o.lt;obtain⟨N,hNN⟩:∃ N,N+1=x.u.length:=⟨x.u.length-1,by omega⟩;clear OL bj K1 HD dL;go_wp2
 go_loopg [7,8] x.u.length (fun gg nx i wr=>∃ q:Nat,q+1=gg/\q<x.u.length/\i=i_ q/\nx=i_ (iA K (x.u.length-(q+1)) (q+1):Nat)/\H_ (C1 wr r x.u.length (nP (fun j=>if q<j then aE x K j else K j)))/\H_ (C1 wr cb x.u.length (nP (fun i=>ec x K i x.u.length)))/\H_ (b_ w wr));(case atStart=>exact⟨N,by omega,by omega,by congr 1;omega,by rw[hNN,Nat.sub_self];rfl,K2.o.congr (fun j hj=>congrArg Value.bool (zcb (show ¬N<j by omega)).symm),C2,lD⟩);case round=>
  clear K2 C2 lD we qI;obtain⟨q,hq,Rv,rfl,rfl,hK,hC,hB⟩:=hrel;by_cases h0:0<q
  ·obtain⟨p,rfl⟩:∃ p,q=p+1:=⟨q-1,by omega⟩;have NS:=af (CJ K Rv);have M:=(HR.o wr hB.o).1.u Rv;have ck:wr.cell? (a_ kb (p+1))=some (.bool (K (p+1))):=(HR.o wr hB.o).2.cell _ Rv;have cc:wr.cell? (a_ cb (p+1))=some (.bool (ec x K (p+1) x.u.length)):=hC.o.cell _ Rv;have cr:=hK.o.cell _ Rv;have zr:=hK.o.soft (p+1);have fl:=(HR.o wr hB.o).1.lt;have iJ:=(HR.o wr hB.o).2.lt;have qI:=hC.o.lt;have we:=hK.o.lt;have c0:=M.op;have c1:=M.fa;have c2:=M.fb;have c3:=M.fc;have c4:=M.fd;have ST:H_ (aE x K (p+1)=(K (p+1) && !(K (p+1)&&decide (0<p+1)&&((aX x (p+1)).op==19)&&decide ((aX x (p+1)).fa=(iA K (x.u.length-(p+1+1)) (p+1+1):Nat)) && !ec x K (p+1) x.u.length))):=rfl;have hpI:(p:Int)+1<x.u.length:=by omega
   have eM:H_ (∀ b j,aE x K (p+1)=b->(if p<j then aE x K j else K j)=if j=p+1 then b else if p+1<j then aE x K j else K j):=fun b j e=>by by_cases h:j=p+1;{subst h;rw[zca (by omega),zca rfl];exact e};{rw[zcb h];by_cases h2:p<j;{rw[zca h2,zca (by omega)]};{rw[zcb h2,zcb (by omega)]}}
   have Eo:H_ (aE x K (p+1)=K (p+1)->C1 wr r x.u.length (nP (fun j=>if p<j then aE x K j else K j))):=fun e=>hK.o.congr (fun j _=>by
    unfold nP;dsimp only;rw[eM.o _ j e];by_cases h:j=p+1;{subst h;rw[zca rfl,zcb (by omega)]}
    ·rw[zcb h])
   have hA:∀(W:w_) (o:Obj),b_ W (W.alloc o):=fun W o=>r_.alloc n_ o;have HA:=af hA;clear M h0 hA;generalize ec x K (p+1) x.u.length=hd at *;generalize iA K (x.u.length-(p+1+1)) (p+1+1)=nx at *;generalize aX x (p+1)=n at *;obtain⟨op,fa,fb,fc,fd⟩:=n;dsimp only at c0 c1 c2 c3 c4 ST;cases hKq:K (p+1)
   {rw[hKq]at ck NS ST Eo;have eL:H_ (C1 wr r x.u.length (nP (fun j=>if p<j then aE x K j else K j))):=Eo.o ST.o;have NX:H_ (iA K (x.u.length-(p+1)) (p+1)=nx):=NS.o;clear cc cr zr c0 c1 c2 c3 c4 Eo eM ST NS;go_wp2;go_roundg (p+1);(case measure=>omega);case rel=>exact⟨p,rfl,by omega,by go_num,by rw[NX.o],eL,hC,hB⟩}
   ·rw[hKq]at ck NS ST Eo;have NX:H_ (iA K (x.u.length-(p+1)) (p+1)=p+1):=NS.o;by_cases hh:op=19/\fa=(nx:Int)/\hd=false
    ·obtain⟨rfl,rfl,rfl⟩:=hh;have eL:H_ (∀ o,C1 ((wr.setCell (a_ r (p+1)) (.bool false)).alloc o) r x.u.length (nP (fun j=>if p<j then aE x K j else K j))/\C1 ((wr.setCell (a_ r (p+1)) (.bool false)).alloc o) cb x.u.length (nP (fun i=>ec x K i x.u.length))/\b_ w ((wr.setCell (a_ r (p+1)) (.bool false)).alloc o)):=fun o=>
      ⟨C1.keep ((hK.o.set (p+1) (.bool false)).congr (fun j _=>by
       unfold nP;dsimp only;rw[eM.o false j (by rw[ST.o];simp)];by_cases h:j=p+1;{rw[zca h,zca h]}
       ·rw[zcb h,zcb h])) (HA.o _ _),C1.keep ⟨fun j hj=>(World.cell?_setCell_other _ (a_ r (p+1)) (a_ cb j) _ (fun k=>by injection k with k _ _;omega)).trans (hC.o.cell j hj),fun o=>(World.frozen?_setCell _ _ _ _).trans (hC.o.soft o),by simpa using hC.o.lt⟩ (HA.o _ _),(hB.o.setCell By _).alloc (by simpa using hB.o.size) _⟩
     clear Eo eM ST NS hK;go_wp2;go_roundg (p+1);(case measure=>omega);case rel=>exact⟨p,rfl,by omega,by go_num,by rw[NX.o],(eL.o _).1,(eL.o _).2.1,(eL.o _).2.2⟩
    ·have eL:H_ (∀ o,C1 (wr.alloc o) r x.u.length (nP (fun j=>if p<j then aE x K j else K j))/\C1 (wr.alloc o) cb x.u.length (nP (fun i=>ec x K i x.u.length))/\b_ w (wr.alloc o)):=fun o=>
      ⟨C1.keep (Eo.o (by
       rw[ST.o];cases hd<;>simp;exact(Classical.em (op=19)).elim (fun h=>.inr (fun k=>hh ⟨h,k,rfl⟩)) .inl)) (HA.o _ _),hC.o.keep (HA.o _ _),hB.o.alloc hB.o.size _⟩
     clear Eo eM ST NS hK;refine(Classical.em (op=19)).elim (fun h19=>(Classical.em (fa=(nx:Int))).elim (fun hfa=>?p1) (fun hfa=>?p2)) (fun h19=>?p3);(case' p1=>subst h19 hfa;obtain rfl:hd=true:=by cases hd;{exact zcc ⟨rfl,rfl,rfl⟩ hh};{rfl});(case' p2=>subst h19;have hfa':(fa==(nx:Int))=false:=by simpa using hfa);(case' p3=>have h19':(op==19)=false:=by simpa using h19);all_goals clear hh;go_wp2;go_roundg (p+1);(case measure=>omega);case rel=>exact⟨p,rfl,by omega,by go_num,by rw[NX.o],(eL.o _).1,(eL.o _).2.1,(eL.o _).2.2⟩
  ·obtain rfl:q=0:=by{omega};go_wp2
   go_ret;exact⟨_,_,rfl,By,hK.o.congr (fun j _=>by
    unfold nP;dsimp only;by_cases h:0<j;{rw[zca h]}
    ·obtain rfl:j=0:=by omega
     rw[zcb h];unfold aE jn;simp),hB.o⟩
end
def J4 (P:Nat->Bool)(j:Nat):Value:=i_ (dN P j:Nat)
theorem vv (n:Nat)(P:Nat->Bool)(kb kc:Nat)(w:w_)(hn:n<=6000)(hk:C1 w kb n (nP P)) :
  c_ 37 #[s_ kb 0 n kc] w fun e w'=>∃ b,e=.returned (s_ b 0 (n+1) (n+1))/\w.heap.size<=b/\C1 w' b (n+1) (J4 P)/\b_ w w':=by
 have HR:H_ (∀ W,b_ w W->C1 W kb n (nP P)):=fun W hW=>hk.keep hW;have kE:∀ W:w_,(Instr.makeSlice 70 (i_ ((n:Int)+1)) (i_ ((n:Int)+1))).run Tryz.prog W=.ok (s_ W.heap.size 0 (n+1) (n+1)) (W.alloc (.cells (madeCells #[i_ 0] (n+1)) 3)):=run_make_row' (P:=Tryz.prog) 70 3 (i_ 0) 8 Tryz.underlying70 dR rfl .i64 .i64 (n+1) (by omega) (by omega);have sO:=hk.lt;clear hk;go_enter Tryz.func37,Tryz.ntmps37;go_wp2_with fail
 clear kE;go_loopg [12] n (fun gg i wr=>∃ k:Nat,k+gg=n/\i=i_ k/\H_ (C1 wr w.heap.size (n+1) (fun j=>if j<=k then J4 P j else i_ 0))/\H_ (b_ w wr))
 case atStart=>exact⟨0,by omega,rfl,(C1.made _ _ _ _).congr (fun j _=>by
   by_cases h:j<=0;{rw[zca h,Nat.le_zero.1 h];rfl}
   ·rw[zcb h]),r_.alloc n_ _⟩
 case round=>
  obtain⟨k,hk,rfl,hC,hB⟩:=hrel;have qI:=hC.o.lt;by_cases au:k<n
  ·have ck:wr.cell? (a_ kb k)=some (.bool (P k)):=(HR.o wr hB.o).cell k au;have iJ:=(HR.o wr hB.o).lt;have q0:=hC.o.cell k (by omega);have q1:=hC.o.cell (k+1) (by omega);have z1:=hC.o.soft (k+1);rw[zca n_]at q0;unfold J4 at q0;have UY:(k:Int)<n:=by{omega};have hkI2:(k:Int)+1<n+1:=by omega
   have NX:H_ (dN P (k+1)=dN P k+if P k=true then 1 else 0):=rfl;have px:=ma P k;have eL:H_ (∀ W:w_,C1 W w.heap.size (n+1) (fun j=>if j=k+1 then i_ (dN P (k+1):Nat)else if j<=k then J4 P j else i_ 0)->C1 W w.heap.size (n+1) (fun j=>if j<=k+1 then J4 P j else i_ 0)):=fun W h=>h.congr (fun j _=>by
    by_cases e:j=k+1;{subst e;rw[zca rfl,zca n_];rfl}
    ·rw[zcb e];by_cases e2:j<=k;{rw[zca e2,zca (by omega)]}
     ·rw[zcb e2,zcb (by omega)])
   cases hP:P k;{have FI:H_ (C1 (wr.setCell (a_ w.heap.size (k+1)) (i_ (dN P k:Nat))) w.heap.size (n+1) (fun j=>if j<=k+1 then J4 P j else i_ 0)):=eL.o _ (by rw[NX.o,hP];exact hC.o.set _ _);have FB:H_ (b_ w (wr.setCell (a_ w.heap.size (k+1)) (i_ (dN P k:Nat)))):=hB.o.setCell n_ _;rw[hP]at ck;generalize dN P k=nk at *;clear eL NX;go_wp2;go_roundg (n-(k+1));(case measure=>omega);case rel=>exact⟨k+1,by omega,by go_num,FI,FB⟩}
   ·have FI:H_ (C1 ((wr.setCell (a_ w.heap.size (k+1)) (i_ (dN P k:Nat))).setCell (a_ w.heap.size (k+1)) (i_ ((dN P k:Nat)+1))) w.heap.size (n+1) (fun j=>if j<=k+1 then J4 P j else i_ 0)):=eL.o _ (((hC.o.set _ _).set _ _).congr (fun j _=>by
     by_cases e:j=k+1;{rw[zca e,zca e,NX.o,hP];rfl}
     ·rw[zcb e,zcb e,zcb e]))
    have FB:H_ (b_ w ((wr.setCell (a_ w.heap.size (k+1)) (i_ (dN P k:Nat))).setCell (a_ w.heap.size (k+1)) (i_ ((dN P k:Nat)+1)))):=(hB.o.setCell n_ _).setCell n_ _;rw[hP]at ck;generalize dN P k=nk at *;clear eL NX;go_wp2;go_roundg (n-(k+1));(case measure=>omega);case rel=>exact⟨k+1,by omega,by go_num,FI,FB⟩
  {have HK:H_ (k=n):=by{show _=_;omega};go_wp2;go_ret;exact⟨_,by go_num,n_,hC.o.congr (fun j hj=>zca (by rw[HK.o];omega)),hB.o⟩}
theorem uL (x:aj)(P:Nat->Bool)(g c kb kc ab ac:Nat)(w:w_)(hp:Hf x)(hG:gd w)(hr:eB aV 5 w g x.u.length (aX x))(hk:C1 w kb x.u.length (nP P))(ha:C1 w ab (x.u.length+1) (J4 P)) :
  c_ 38 #[s_ g 0 x.u.length c,s_ kb 0 x.u.length kc,s_ ab 0 (x.u.length+1) ac] w (hU 51 5 aV (fw x P x.u.length) w):=by
 have hN:=hp.fit.few;have HP:=af hp;have HR:H_ (∀ W,b_ w W->gd W/\eB aV 5 W g x.u.length (aX x)/\C1 W kb x.u.length (nP P)/\C1 W ab (x.u.length+1) (J4 P)):=fun W hW=>⟨hG.keep hW hG.pos,hr.keep hW,hk.keep hW,ha.keep hW⟩;obtain⟨i0,hi,dE,cS,dA⟩:=aM la;clear hp hG hr hk ha;go_enter Tryz.func38,Tryz.ntmps38;go_wp2
 go_loopg [7,14] x.u.length (fun gg v i wr=>∃ k:Nat,k+gg=x.u.length/\i=i_ k/\H_ (gN wr w.heap.size v (fw x P k))/\H_ (b_ w wr));(case atStart=>exact⟨0,by omega,rfl,zbh _ _ _ _,r_⟩);case round=>
  obtain⟨k,hk,rfl,hO,hB⟩:=hrel;by_cases au:k<x.u.length
  ·obtain⟨HG,hr,zb,haa⟩:=HR.o wr hB.o;have M:=hr.u au;have ck:wr.cell? (a_ kb k)=some (.bool (P k)):=zb.cell k au;have fl:=hr.lt;have iJ:=zb.lt;have pq:=haa.lt;have c0:=M.op;have c1:=M.fa;have c2:=M.fb;have c3:=M.fc;have c4:=M.fd;have hs:=hB.o.size;have NX:H_ (fw x P (k+1)=fw x P k++if P k=true then[kV P (aX x k)]else[]):=rfl;have TA:H_ (∀ t,cp (aX x k)=some t->0<=t/\t.toNat<x.u.length):=fun t=>zB HP.o.fit au;have HA:H_ (∀ o,b_ wr (wr.alloc o)):=fun o=>r_.alloc n_ o;obtain⟨o,ho,Ev⟩:=HP.o.op k au;rw[<-show(aX x k).op=(aR x k).op from qR x _]at ho;have aO:(fw x P k).length<=k:=by{rw[mN];exact ma P k};clear M HG hr zb haa;generalize aX x k=n at *;obtain⟨op,fa,fb,fc,fd⟩:=n;dsimp only at c0 c1 c2 c3 c4 ho;subst ho;cases hP:P k;{rw[hP]at ck NX;have O1:H_ (∀ o,gN (wr.alloc o) w.heap.size u7 (fw x P (k+1))):=fun o=>by{show gN _ _ _ _;rw[NX.o,zcb (by decide),List.append_nil];exact hO.o.below (HA.o o)};have B1:H_ (∀ o,b_ w (wr.alloc o)):=fun o=>hB.o.alloc hs o;clear NX TA;go_wp2;go_roundg (x.u.length-(k+1));(case measure=>omega);case rel=>exact⟨k+1,by omega,by go_num,O1.o _,B1.o _⟩}
   ·rw[hP]at ck NX;have Lp:H_ (fw x P (k+1)=fw x P k++[kV P ⟨o,fa,fb,fc,fd⟩]):=NX.o;clear NX;have TG:H_ (∀ q,c_ 83 #[.agg #[i_ o,i_ fa,i_ fb,i_ fc,i_ fd]] (wr.alloc q) (pe ⟨o,fa,fb,fc,fd⟩ (wr.alloc q))):=fun q=>iR o fa fb fc fd _ (HR.o _ (hB.o.alloc hs q)).1 Ev;go_wp2_with fail
    refine(TG.o _).mono ?_;rintro e w2 ⟨rfl,ly⟩;have m:∀ r,r<5->w2.cell? (a_ wr.heap.size r)=_:=fun r _=>ly.cell (p:=(a_ wr.heap.size r)) (by simp);have m0:=m 0 (by omega);have m1:=m 1 (by omega);have m2:=m 2 (by omega);have m3:=m 3 (by omega);have m4:=m 4 (by omega);simp[go_sem]at m0 m1 m2 m3 m4;have dA:wr.heap.size<w2.heap.size:=by have:=ly.size;simp at this;omega
    have fM:H_ (b_ wr w2):=(HA.o _).trans (ly.mono (by simp));have lD:H_ (b_ w w2):=hB.o.trans (fM.o.mono hs);have vm:=af (hO.o.below fM.o);have zf:∀ r,w2.frozen? (a_ wr.heap.size r)=false:=fun r=>by rw[ly.frozen (p:=(a_ wr.heap.size r)) (by simp)];simp[go_sem]
    have dD:b_ wr w2:=fM.o;clear m ly HA c0 c1 c2 c3 c4 TG;rcases ht:cp ⟨o,fa,fb,fc,fd⟩with _ | t;case' none=>
     obtain⟨a,rfl⟩:∃ a,a=fa:=⟨_,rfl⟩;obtain⟨b,rfl⟩:∃ b,b=fb:=⟨_,rfl⟩;obtain⟨W,rfl⟩:∃ W,W=w2:=⟨_,rfl⟩;have HY:H_ (kV P ⟨o,a,b,fc,fd⟩=⟨o,a,b,fc,fd⟩):=Hc ht;have n0:=m0;have n1:=m1;have n2:=m2;have n3:=m3;have n4:=m4;have sQ:=dD;dsimp only[Option.getD,Option.isSome]
    case' some=>
     obtain⟨t0,t1⟩:=TA.o t ht;obtain⟨T,rfl⟩:=iV t0;have hT:T<x.u.length:=t1;have hTI:(T:Int)<x.u.length+1:=by{omega};have HE:H_ (kV P ⟨o,fa,fb,fc,fd⟩=uO ⟨o,fa,fb,fc,fd⟩ (dN P T:Nat)):=GH ht;have hal2:=(HR.o w2 lD.o).2.2.2.lt;have ca:w2.cell? (a_ ab T)=some (i_ (dN P T:Nat)):=(HR.o w2 lD.o).2.2.2.cell T (by omega);have AI:H_ (c_ 84 #[.agg #[i_ o,i_ fa,i_ fb,i_ fc,i_ fd],i_ (dN P T:Nat)] w2.drew fun e w'=>(∃ a b,e=.returned (.agg #[i_ o,i_ a,i_ b,i_ fc,i_ fd])/\uO ⟨o,fa,fb,fc,fd⟩ (dN P T:Nat)=⟨o,a,b,fc,fd⟩)/\Below w2.drew.heap.size w2.drew w'):=wF o fa fb fc fd _ w2.drew (HR.o _ lD.o.drew).1 Ev;have CL:H_ (∀ W,Below w2.drew.heap.size w2.drew W->(W.cell? (a_ wr.heap.size 0)=some (i_ o)/\W.cell? (a_ wr.heap.size 1)=some (i_ fa)/\W.cell? (a_ wr.heap.size 2)=some (i_ fb)/\W.cell? (a_ wr.heap.size 3)=some (i_ fc)/\W.cell? (a_ wr.heap.size 4)=some (i_ fd))/\(∀ r,W.frozen? (a_ wr.heap.size r)=false)/\b_ wr W):=fun W h=>by
      have e:∀ o,W.cell? (a_ wr.heap.size o)=w2.cell? (a_ wr.heap.size o):=fun o=>h.cell (p:=(a_ wr.heap.size o)) dA;exact⟨⟨(e _).trans m0,(e _).trans m1,(e _).trans m2,(e _).trans m3,(e _).trans m4⟩,fun r=>(h.frozen (p:=(a_ wr.heap.size r)) dA).trans (zf r),dD.drew.trans (h.mono (Nat.le_of_lt dA))⟩
     clear t0 t1 TA ht zf;generalize dN P T=num at *;dsimp only[Option.getD,Option.isSome];go_wp2_with fail;go_region_with (go_at_call 84;refine(aa AI).mono ?_;rintro e w3 ⟨⟨a,b,rfl,ha⟩,bU⟩;obtain⟨⟨q0,q1,q2,q3,q4⟩,qf,qb⟩:=aa CL _ bU;have y0:=qf 0;have y1:=qf 1;have y2:=qf 2;have y3:=qf 3;have y4:=qf 4);all_goals have HY:H_ (kV P ⟨o,fa,fb,fc,fd⟩=⟨o,a,b,fc,fd⟩):=HE.o.trans ha;have n0:(ed wr.heap.size w3 0 (aV ⟨o,a,b,fc,fd⟩)).cell? (a_ wr.heap.size 0)=some (i_ o):=gB _ _ _ _ _ (by rw[q0];rfl);have n1:(ed wr.heap.size w3 0 (aV ⟨o,a,b,fc,fd⟩)).cell? (a_ wr.heap.size 1)=some (i_ a):=gB _ _ _ _ _ (by rw[q1];rfl);have n2:(ed wr.heap.size w3 0 (aV ⟨o,a,b,fc,fd⟩)).cell? (a_ wr.heap.size 2)=some (i_ b):=gB _ _ _ _ _ (by rw[q2];rfl);have n3:(ed wr.heap.size w3 0 (aV ⟨o,a,b,fc,fd⟩)).cell? (a_ wr.heap.size 3)=some (i_ fc):=gB _ _ _ _ _ (by rw[q3];rfl);have n4:(ed wr.heap.size w3 0 (aV ⟨o,a,b,fc,fd⟩)).cell? (a_ wr.heap.size 4)=some (i_ fd):=gB _ _ _ _ _ (by rw[q4];rfl);have sQ:b_ wr (ed wr.heap.size w3 0 (aV ⟨o,a,b,fc,fd⟩)):=gx n_ _ _ _ qb;clear q0 q1 q2 q3 q4 qf qb y0 y1 y2 y3 y4 AI CL bU HE ha m0 m1 m2 m3 m4;dsimp only[ed,aV,Nat.zero_add,Nat.reduceAdd]at n0 n1 n2 n3 n4 sQ;generalize ((((w3.setCell (a_ wr.heap.size 0) (i_ o)).setCell (a_ wr.heap.size 1) (i_ a)).setCell (a_ wr.heap.size 2) (i_ b)).setCell (a_ wr.heap.size 3) (i_ fc)).setCell (a_ wr.heap.size 4) (i_ fd)=W at *
    all_goals
     have OW:H_ (gN W w.heap.size u7 (fw x P k)):=hO.o.below sQ;have BW:H_ (b_ w W):=hB.o.trans (sQ.mono hs);have SV:wr.heap.size<W.heap.size:=zbd _ _ n0;clear sQ dD hB hO fM lD dA;go_wp2_with (first
      | (at_builtin;refine zce _ rfl _ _ 40 rfl w.heap.size 51 i0 (.agg #[i_ 0,i_ 0,i_ 0,i_ 0,i_ 0]) 5 40 Tryz.underlying40 hi dE cS dA rfl (by decide) _ _ _ rfl (World.ownsRow.alloc OW.o _) (a_ W.heap.size 0) 1 1 [i_ o,i_ a,i_ b,i_ fc,i_ fd] rfl rfl ?c1 ?c2 ?c3 ?c4 ?c5 ?_)
      | go_in)
     (case c1=>intro j u hj;rcases j with _ | _ | _ | _ | _ | _<;>simp at hj<;>subst hj<;>simp[Addr.add,go_sem]);(case c2=>intro u hu;simp at hu;rcases hu with rfl | rfl | rfl | rfl | rfl<;>rfl);(case c3=>unfold maxLen;omega);(case c4=>omega);(case c5=>have:=BW.o.size;simp;omega);intro v' w1 di hgrow _;have R1:H_ (gN w1 w.heap.size v' (fw x P (k+1))):=by{show gN _ _ _ _;rw[Lp.o,HY.o];exact dr.push di};have R2:H_ (b_ w w1):=(BW.o.alloc BW.o.size _).grown hgrow (by have:=BW.o.size;simp;omega) (fun j hj=>(dr.lt OW.o j hj).1);clear di hgrow;go_wp2;go_roundg (x.u.length-(k+1));(case measure=>omega);case rel=>exact⟨k+1,by omega,by go_num,R1,R2⟩
  {have iJ:k=x.u.length:=by{omega};subst iJ;go_wp2;go_ret;exact⟨_,rfl,hO.o,hB.o⟩}
def xu (l:List Nat):List Value:=l.map (fun n:Nat=>i_ (n:Int))
theorem uJ (l:List Nat):(xu l).length=l.length:=by unfold xu;rw[List.length_map]
def Bt (W:w_)(base:Nat)(v:Value)(q:List Nat):Prop:=∃ a c,v=.slice a q.length c/\((q=[]/\a=none/\c=0)\/∃ g off N f,a=some (a_ g off)/\base<=g/\W.rowIs g 3 N f/\q.length<=c/\off+c<=N/\∀ j u,(xu q)[j]? = some u->f (off+j)=u)
section
variable {W W':w_} {base:Nat} {v:Value} {q:List Nat}
theorem Bt.same (h:Bt W base v q)(hb:∀ k,v.ownBlock=some k->W'.heap[k]? = W.heap[k]?):Bt W' base v q:=by
 obtain⟨a,c,rfl,h⟩:=h;refine⟨a,c,rfl,h.imp id ?_⟩;rintro⟨g,off,N,f,rfl,h1,h2,h3⟩;exact⟨g,off,N,f,rfl,h1,h2.of_block (hb g rfl),h3⟩
theorem Bt.lt (h:Bt W base v q):∀ k,v.ownBlock=some k->base<=k/\∃ c t f,W.heap[k]? = some (.cells c t f):=fun k e=>by
 obtain⟨a,c,rfl,h⟩:=h;rcases h with⟨_,rfl,_⟩ | ⟨g,off,N,f,rfl,h1,⟨c,h2,_⟩,_⟩
 ·cases e
 ·cases e;exact⟨h1,_,_,_,h2⟩
theorem Qh (h:W.ownsRow base 3 1 v q.length (xu q)):Bt W base v q:=by
 rcases h.2 with⟨rfl,h0⟩ | ⟨g,cap,gh,rfl,h1,hg,h2,_,h3,h4⟩;{obtain rfl:q=[]:=zac h0;exact⟨none,0,rfl,.inl ⟨rfl,rfl,rfl⟩⟩};{refine⟨_,_,rfl,.inr ⟨g,0,cap,fun j=>gh[j]?.getD default,rfl,h1,⟨gh,hg,by omega,fun i hi=>?_⟩,h2,by omega,fun j u hj=>?_⟩⟩;{simp[Array.getElem?_eq_getElem (show i<gh.size by omega)]};{have au:=(List.getElem?_eq_some_iff.1 hj).1;rw[uJ]at au;have:=World.ownsRow.cellAt h j (by omega);simp only[World.cell?,hg,hj]at this;simp at this;show gh[0+j]?.getD default=u;rw[Nat.zero_add,this];rfl}}
theorem Gw (h:Bt W base v q)(hb:base<=W.heap.size)(hl:q.length<=10000)(ad:Addr)(x:Nat)(hx:W.cell? (ad.add 0)=some (i_ (x:Int))) :
  ∃ v' W',(Builtin.append_ #[70,70] 70 #[v,.slice (some ad) 1 1]).run Tryz.prog W=.ok v' W'/\Bt W' base v' (q++[x])/\W.grownBy W' v.ownBlock/\∀ k,v'.ownBlock=some k->v.ownBlock=some k\/W.heap.size<=k:=by
 obtain⟨i0,hi,dE,cS,dA⟩:=aM dR;have hn:xu (q++[x])=xu q++[i_ (x:Int)]:=by unfold xu;rw[List.map_append];rfl
 have fq:=uJ q;have eh:∀ j u,[Value.int .i64 (x:Int)][j]? = some u->W.cell? (ad.add j)=some u:=fun j u hj=>by
  cases j with
  | zero=>simp at hj;subst hj;exact hx
  | succ j=>simp at hj
 have fin:∀ v' w',w'.ownsRow W.heap.size 3 1 v' (q.length+1) (xu q++[i_ (x:Int)])->Bt w' base v' (q++[x])/\∀ k,v'.ownBlock=some k->W.heap.size<=k:=fun v' w' h=>
  ⟨Qh (by rw[hn,zad];exact⟨h.1,h.2.imp id (fun⟨g,cap,gh,e,dV,r⟩=>⟨g,cap,gh,e,zah hb dV,r⟩)⟩),fun k e=>(World.ownsRow.lt h k e).1⟩
 obtain⟨a,c,rfl,h⟩:=h;rcases h with⟨rfl,rfl,rfl⟩ | ⟨g,off,N,f,rfl,h1,h2,h3,h4,h5⟩;{obtain⟨v',w',hr,ho,hg,_⟩:=run_append_own (P:=Tryz.prog) W W.heap.size 70 70 3 i0 (i_ 0) 1 8 Tryz.underlying70 hi dE cS dA rfl (by decide) (.slice none 0 0) 0 [] (zbh _ _ _ _) ad 1 1 [i_ (x:Int)] rfl eh (by simp[Value.oneCell']) (by unfold maxLen;omega) (by omega) n_;exact⟨v',w',hr,(fin _ _ ho).1,hg,fun k e=>.inr ((fin _ _ ho).2 k e)⟩}
 ·by_cases hr:q.length+1<=c
  ·have:=run_append_room_cells (P:=Tryz.prog) W 70 70 3 i0 Tryz.underlying70 hi g off q.length c ad 1 1 [i_ (x:Int)] (by rw[cS];rfl) eh (by simp[Value.oneCell']) hr (fun j hj=>by
    obtain rfl:j=0:=by simpa using hj
    rw[cS,Nat.mul_one,h2.cell (by omega)];rfl) (fun j _=>h2.frozen _)
   rw[cS,Nat.mul_one]at this;refine⟨_,_,this,⟨_,c,by rw[zad];rfl,.inr ⟨g,off,N,_,rfl,h1,h2.set (off+q.length) (i_ (x:Int)),by rw[zad];exact hr,h4,fun j u hj=>?_⟩⟩,⟨rfl,rfl,rfl,by simp[World.setCells],fun k hk eh=>zbg W (a_ g (off+q.length)) k _ (fun e=>eh (by rw[e];rfl))⟩,fun k e=>.inl e⟩;rw[hn]at hj;show(if off+j=off+q.length then _ else _)=u;by_cases e:j=q.length;{rw[zca (by omega)];rw[List.getElem?_append_right (by omega),e,fq]at hj;simpa using hj};{rw[zcb (by omega)];refine h5 j u ?_;rwa [List.getElem?_append_left (by have:=(List.getElem?_eq_some_iff.1 hj).1;rw[zad]at this;simp at this;omega)]at hj}
  ·obtain⟨v',w',Hl,ho,hg⟩:=run_append_arg_grows (P:=Tryz.prog) W 70 70 3 i0 (i_ 0) 1 8 Tryz.underlying70 hi dE cS dA rfl (by decide) (a_ g off) q.length c (xu q) (by rw[fq,Nat.mul_one]) (fun j u hj=>by
    have au:=(List.getElem?_eq_some_iff.1 hj).1;rw[Addr.add_lit,h2.cell (by omega),h5 j u hj]) ad 1 1 [i_ (x:Int)] rfl eh (by omega) (by unfold maxLen;omega) (by omega)
   exact⟨v',w',Hl,(fin _ _ ho).1,⟨hg.os,hg.tape,hg.output,hg.size,fun k hk _=>hg.block k hk (by simp)⟩,fun k e=>.inr ((fin _ _ ho).2 k e)⟩
end
def Du (bv base:Nat)(v:Value)(q:List Nat)(w:w_)(e:Ending)(w':w_):Prop:=(∃ r,e=.returned r)/\∃ v',w'.rowIs bv 131 1 (fun _=>v')/\Bt w' base v' q/\(∀ k,v'.ownBlock=some k->v.ownBlock=some k\/w.heap.size<=k)/\w.os=w'.os/\w.tape=w'.tape/\w.output=w'.output/\w.heap.size<=w'.heap.size/\∀ k,k<w.heap.size->k≠bv->v.ownBlock≠some k->w'.heap[k]? = w.heap[k]?
theorem AG (bv base:Nat)(v:Value)(q:List Nat)(x:Nat)(w:w_)(hv:w.rowIs bv 131 1 (fun _=>v))(hq:Bt w base v q)(hb:base<=w.heap.size)(Hr:bv<base)(hl:q.length<=10000) :
  c_ 86 #[.pointer (some (a_ bv 0)),i_ (x:Int)] w (Du bv base v (q++[x]) w):=by
 have hc:=hv.cell (i:=0) (by omega);have cY:=hv.lt;have HV:H_ ((w.alloc (.cells #[i_ (x:Int)] 3)).rowIs bv 131 1 (fun _=>v)):=hv.alloc _;obtain⟨v',W',hr,LY,hg,bb⟩:=Gw (W:=w.alloc (.cells #[i_ (x:Int)] 3)) (hq.same (fun k e=>Below.heap_alloc _ _ _ (by obtain⟨_,_,_,_,h⟩:=hq.lt k e;exact(zbc.1 h).1))) (by simp;omega) hl (a_ w.heap.size 0) x (by simp[Addr.add,go_sem]);have eh:v.ownBlock≠some bv:=fun e=>by{have:=(hq.lt bv e).1;omega};have UH:=HV.o.of_block (hg.block bv (by simp;omega) (fun e=>eh e.symm));have uX:=UH.cell (i:=0) (by omega);have hz':=UH.frozen 0;have Nv:=UH.lt;have eL:H_ (Du bv base v (q++[x]) w (.returned (.tuple #[])) (W'.setCell (a_ bv 0) v')):=by refine⟨⟨_,rfl⟩,v',(UH.set 0 v').congr (fun i hi=>zca (by omega)),LY.same (fun k e=>zbg W' (a_ bv 0) k v' (fun e2=>?_)),fun k e=>(bb k e).imp id (fun h=>by simp at h;omega),?_,?_,?_,?_,fun k h1 h2 h3=>?_⟩;{have:=(LY.lt k e).1;have:k=bv:=e2;omega};{exact hg.os.symm};{exact hg.tape.symm};{exact hg.output.symm};{have:=hg.size;simp at this ⊢;omega};{rw[zbg W' (a_ bv 0) k v' h2,hg.block k (by simp;omega) (fun e=>h3 e.symm)];exact Below.heap_alloc _ _ _ h1}
 obtain⟨va,vc,rfl,_⟩:=LY;clear hv hq hg HV UH eh;go_enter Tryz.func86,Tryz.ntmps86;go_wp2_with (first | (at_builtin;refine bJ rfl _ _ 70 rfl _ _ rfl rfl hr ?_) | go_in)
 go_end0;rw[zad]at eL;exact eL.o
theorem Gf (bv base:Nat)(v:Value)(x:Nat)(q:List Nat)(w:w_)(hv:w.rowIs bv 131 1 (fun _=>v))(hq:Bt w base v (x::q))(Hr:bv<base)(hl:q.length<=10000) :
  c_ 88 #[.pointer (some (a_ bv 0))] w fun e w'=>e=.returned (i_ (x:Int))/\∃ v',w'=w.setCell (a_ bv 0) v'/\w'.rowIs bv 131 1 (fun _=>v')/\Bt w' base v' q/\v'.ownBlock=v.ownBlock:=by
 have hc:=hv.cell (i:=0) (by omega);have hz:=hv.frozen 0;have cY:=hv.lt;obtain⟨a,c,rfl,h⟩:=hq;rcases h with⟨h,_⟩ | ⟨g,off,N,f,rfl,h1,h2,h3,h4,h5⟩;{cases h};rw[List.length_cons]at h3 hc;have h0:w.cell? (a_ g off)=some (i_ (x:Int)):=by{rw[h2.cell (by omega)];exact congrArg some (h5 0 _ rfl)};have fl:=h2.lt;have eL:H_ (∀ d k,(d=off+1/\k=c-1)\/(q.length=0/\d=off/\k=0)->∃ v',w.setCell (a_ bv 0) (s_ g d q.length k)=w.setCell (a_ bv 0) v'/\(w.setCell (a_ bv 0) (s_ g d q.length k)).rowIs bv 131 1 (fun _=>v')/\Bt (w.setCell (a_ bv 0) (s_ g d q.length k)) base v' q/\v'.ownBlock=some g):=fun d k hd=>
  ⟨_,rfl,(hv.set 0 _).congr (fun i hi=>zca (by omega)),⟨_,_,rfl,.inr ⟨g,d,N,f,rfl,h1,h2.setOther (a:=(a_ bv 0)) (by show g≠bv;omega) _,by omega,by omega,fun j u hj=>by
   rcases hd with⟨rfl,_⟩ | ⟨h,_⟩;{rw[show off+1+j=off+(j+1)by omega];exact h5 (j+1) u hj}
   ·have:=(List.getElem?_eq_some_iff.1 hj).1;rw[uJ]at this;omega⟩⟩,rfl⟩
 have Rz:(0:Int)<(q.length:Int)+1:=by omega
 clear hv h2 h5;go_enter Tryz.func88,Tryz.ntmps88;go_wp2_with fail
 all_goals go_ret;exact⟨rfl,eL.o _ _ (by omega)⟩
end Go.Proofs.YtcjfjflljdojlaaGreatDoor
