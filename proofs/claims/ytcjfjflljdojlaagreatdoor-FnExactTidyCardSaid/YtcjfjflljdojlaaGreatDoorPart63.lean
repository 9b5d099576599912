import Derived.Test.YtcjfjflljdojlaaGreatDoorPart62
set_option linter.unusedSimpArgs false
set_option linter.unusedVariables false
set_option maxHeartbeats 16000000
set_option maxRecDepth 100000
namespace Go.Proofs.YtcjfjflljdojlaaGreatDoor
open Go.RowKit
section
variable {α:Type} {f:α->List Value} {sz:Nat} {z:α} {W W':World} {lo hi:Nat} {a:o_} {l:List α}
theorem fp.blk (h:fp f sz z W lo hi a l){b o:Nat}(h0:0<l.length)(e:a=some (a_ b o)):(lo<=b/\b<hi)/\b<W.heap.size/\∀ o,W.frozen? (a_ b o)=false:=by
 obtain⟨g,e',h1,h2,h3⟩:=h h0;rw[e']at e;cases e;exact⟨⟨h1,h2⟩,h3.lt,h3.soft⟩
theorem fp.flat {S:Nat->Prop}(h:fp f sz z W lo hi a l)(h0:0<sz)(hf:∀ x,(f x).length=sz)(hfl:∀ x v,v∈f x->uy v)(hS:∀ g,0<l.length->a=some (a_ g 0)->S g):dK W S a (l.length * sz):=fun hn=>by
 have hp:0<l.length:=by
  rcases Nat.eq_zero_or_pos l.length with e | e
  ·rw[e,Nat.zero_mul]at hn;omega
  ·exact e
 obtain⟨g,e,h1,h2,h3⟩:=h hp;refine⟨g,0,e,hS g hp e,fun j hj=>?_⟩;have hm:=Nat.mod_lt j h0;have hc:=h3.cell _ ((Nat.div_lt_iff_lt_mul h0).2 hj) _ hm;rw[Nat.mul_comm,Nat.div_add_mod,g_ (by rw[hf];exact hm)]at hc;rw[Nat.zero_add];exact⟨_,hc,hfl _ _ (List.getElem_mem _)⟩
end
section
variable {W:World} {lo hi:Nat} {a:o_}
theorem fp.ups {t:List (Bool×Int)}(h:fp iA 2 (false,0) W lo hi a t)(hl:t.length<=1048576):dH W (fun b=>lo<=b/\b<hi) a t:=⟨by omega,fun h0=>by
 obtain⟨g,e,h1,h2,h3⟩:=h h0;refine⟨g,0,e,⟨h1,h2⟩,fun j hj=>?_⟩;have c0:=h3.cell j hj 0 (by omega);have c1:=h3.cell j hj 1 (by omega);simp only[Nat.zero_add]at *;exact⟨c0,c1⟩⟩
theorem fp.inss {t:List aA}(h:fp aW 5 aA.z W lo hi a t)(hl:t.length<=1048576):bQ W (fun b=>lo<=b/\b<hi) a t:=⟨by omega,fun h0=>by
 obtain⟨g,e,h1,h2,h3⟩:=h h0;exact⟨g,0,e,⟨h1,h2⟩,fun j hj=>by rw[Nat.zero_add];exact h3.ins hj⟩⟩
theorem fp.nams {t:List bE}(h:fp dQ 4 bE.z W lo hi a t)(hl:t.length<=1048576)(hz:∀ j,j<t.length->(t[j]?.getD bE.z).name.size<=9223372036854775807):dc W (fun b=>lo<=b/\b<hi) a t:=⟨by omega,fun h0=>by
 obtain⟨g,e,h1,h2,h3⟩:=h h0;exact⟨g,0,e,⟨h1,h2⟩,fun j hj=>by rw[Nat.zero_add];exact⟨h3.cell j hj 0 (by omega),hz j hj,h3.cell j hj 1 (by omega),h3.cell j hj 2 (by omega),h3.cell j hj 3 (by omega)⟩⟩⟩
theorem fp.vals {t:List cS}(h:fp gj 5 cS.z W lo hi a t)(hl:t.length<=1048576)(hz:∀ j,j<t.length->(t[j]?.getD cS.z).str.size<=9223372036854775807):cQ W (fun b=>lo<=b/\b<hi) a t:=⟨by omega,fun h0=>by
 obtain⟨g,e,h1,h2,h3⟩:=h h0;exact⟨g,0,e,⟨h1,h2⟩,fun j hj=>by rw[Nat.zero_add];exact⟨h3.cell j hj 0 (by omega),h3.cell j hj 1 (by omega),h3.cell j hj 2 (by omega),h3.cell j hj 3 (by omega),hz j hj,h3.cell j hj 4 (by omega)⟩⟩⟩
end
section
variable {y:ak} {R:dp} {lo hi:Nat} {W W':World}
theorem y9.below (h:y9 y R lo hi W)(hb:b_ W W'):y9 y R lo hi W':=by
 obtain⟨l5,u5,l6,u6,l7,u7,l8,u8,r5,r6,r7,r8,h⟩:=h.rows;exact⟨l5,u5,l6,u6,l7,u7,l8,u8,r5.below hb,r6.below hb,r7.below hb,r8.below hb,h⟩
def EP (a b c d:Nat):Nat->Nat
 | 0=>a
 | 1=>b
 | 2=>c
 | _=>d
theorem y9.in_ (h:y9 y R lo hi W):∃ L U:Nat->Nat,(∀ s b,s<4->eD R y s b->(L s<=b/\b<U s)/\b<W.heap.size/\∀ o,W.frozen? (a_ b o)=false)/\(∀ s,s<4->lo<=L s/\U s<=hi)/\∀ s t,s<4->t<4->s≠t->U s<=L t\/U t<=L s:=by
 obtain⟨l5,u5,l6,u6,l7,u7,l8,u8,r5,r6,r7,r8,h⟩:=h.rows;refine⟨EP l5 l6 l7 l8,EP u5 u6 u7 u8,fun s b hs hb=>?_,fun s hs=>?_,fun s t hs ht e=>?_⟩
 ·obtain⟨h0,o,e⟩:=hb;have:s=0\/s=1\/s=2\/s=3:=by omega
  rcases this with rfl | rfl | rfl | rfl
  ·exact r5.blk h0 e
  ·exact r6.blk h0 e
  ·exact r7.blk h0 e
  ·exact r8.blk h0 e
 ·have:s=0\/s=1\/s=2\/s=3:=by omega
  rcases this with rfl | rfl | rfl | rfl<;>simp only[EP]<;>omega
 ·have a1:s=0\/s=1\/s=2\/s=3:=by omega
  have a2:t=0\/t=1\/t=2\/t=3:=by omega
  rcases a1 with rfl | rfl | rfl | rfl<;>rcases a2 with rfl | rfl | rfl | rfl<;>simp only[EP]<;>omega
theorem y9.flat (h:y9 y R lo hi W):∀ s,s<4->dK W (eD R y s) (rA R s) (rN y s * rM s):=fun s hs=>by
 obtain⟨l5,u5,l6,u6,l7,u7,l8,u8,r5,r6,r7,r8,_⟩:=h.rows;have:s=0\/s=1\/s=2\/s=3:=by omega
 rcases this with rfl | rfl | rfl | rfl
 ·exact r5.flat (by decide) (fun _=>rfl) (fun x v hv=>by simp[iA]at hv;rcases hv with rfl | rfl<;>trivial) (fun g h0 e=>⟨h0,0,e⟩)
 ·exact r6.flat (by decide) (fun _=>rfl) (fun x v hv=>by simp[gj]at hv;rcases hv with rfl | rfl | rfl | rfl | rfl<;>trivial) (fun g h0 e=>⟨h0,0,e⟩)
 ·exact r7.flat (by decide) (fun _=>rfl) (fun x v hv=>by simp[aW]at hv;rcases hv with rfl | rfl | rfl | rfl | rfl<;>trivial) (fun g h0 e=>⟨h0,0,e⟩)
 ·exact r8.flat (by decide) (fun _=>rfl) (fun x v hv=>by simp[dQ]at hv;rcases hv with rfl | rfl | rfl | rfl<;>trivial) (fun g h0 e=>⟨h0,0,e⟩)
end
theorem yE {x y:ak}(h:gY x y)(j:Nat):(y.named[j]?.getD bE.z).name=(x.named[j]?.getD bE.z).name:=by
 obtain⟨K,_,rfl⟩:=h;unfold oD;split
 ·rfl
 ·show((x.named.map _)[j]?.getD bE.z).name=_;rw[List.getElem?_map];cases x.named[j]?<;>rfl
structure TL (l':List ak)(b n k:Nat)(R:Nat->dp)(T:Nat->Nat)(W:World):Prop where
 row:eC By 9 W b n (fun j=>if j<k then(am l' j,R j)else yk.z)
 ty:∀ j,j<k->y9 (am l' j) (R j) (T j) (T (j+1)) W
 up:∀ i j,i<=j->j<=k->T i<=T j
 lo:b<T 0
 hi:T k<=W.heap.size
theorem eC.nine {W:World}{g n k:Nat}{F:Nat->yk}(h:eC By 9 W g n F)(hk:k<n):∃ v0 v1 v2 v3 v4 v5 v6 v7 v8,W.cell? (a_ g (k * 9))=some v0/\W.cell? (a_ g (k * 9+1))=some v1/\W.cell? (a_ g (k * 9+2))=some v2/\W.cell? (a_ g (k * 9+3))=some v3/\W.cell? (a_ g (k * 9+4))=some v4/\W.cell? (a_ g (k * 9+5))=some v5/\W.cell? (a_ g (k * 9+6))=some v6/\W.cell? (a_ g (k * 9+7))=some v7/\W.cell? (a_ g (k * 9+8))=some v8/\W.frozen? (a_ g (k * 9))=false/\W.frozen? (a_ g (k * 9+1))=false/\W.frozen? (a_ g (k * 9+2))=false/\W.frozen? (a_ g (k * 9+3))=false/\W.frozen? (a_ g (k * 9+4))=false/\W.frozen? (a_ g (k * 9+5))=false/\W.frozen? (a_ g (k * 9+6))=false/\W.frozen? (a_ g (k * 9+7))=false/\W.frozen? (a_ g (k * 9+8))=false:=
 have c:=h.cell k hk
 ⟨_,_,_,_,_,_,_,_,_,c 0 (by omega),c 1 (by omega),c 2 (by omega),c 3 (by omega),c 4 (by omega),c 5 (by omega),c 6 (by omega),c 7 (by omega),c 8 (by omega),h.soft _,h.soft _,h.soft _,h.soft _,h.soft _,h.soft _,h.soft _,h.soft _,h.soft _⟩
theorem TL.next {l':List ak}{b n k lo:Nat}{R:Nat->dp}{T:Nat->Nat}{W W':World}{R4:dp}(h:TL l' b n k R T W)(hb:b_ W W')(hy:y9 (am l' k) R4 lo W'.heap.size W')(Pd:W.heap.size<=lo):TL l' b n (k+1) (fun i=>if i=k then R4 else R i) (fun i=>if i<=k then T i else W'.heap.size) (eh b W' (k * 9) (By (am l' k,R4))):=by
 have hz:=hb.size;have hh:=h.hi;have hT:∀ j,j<=k->b<T j:=fun j hj=>l_ h.lo (h.up 0 j (by omega) hj);refine⟨((h.row.keep hb).put (fun _=>rfl) k (am l' k,R4)).congr (fun j _=>?_),fun j hj=>?_,fun i j h1 h2=>?_,?_,?_⟩
 ·by_cases e:j=k
  ·aj e;rw[if_pos rfl,if_pos (Nat.lt_succ_self _),if_pos rfl]
  ·rw[if_neg e];by_cases e2:j<k
   ·rw[if_pos e2,if_pos (by omega),if_neg e]
   ·rw[if_neg e2,if_neg (by omega)]
 ·by_cases e:j=k
  ·aj e
   rw[if_pos rfl,if_pos n_,if_neg (by omega)];exact hy.put (by have:=hT j n_;omega) (by omega) n_ _
  ·rw[if_neg e,if_pos (by omega),if_pos (by omega)];exact((h.ty j (by omega)).below hb).put (hT j (by omega)) n_ n_ _
 ·by_cases e:j<=k
  ·rw[if_pos e,if_pos (by omega)];exact h.up i j h1 e
  ·rw[if_neg e];split
   ·next e2=>have:=h.up i k e2 n_;omega
   ·exact n_
 ·show b<if 0<=k then T 0 else _;rw[if_pos (Nat.zero_le _)];exact h.lo
 ·show(if k+1<=k then _ else W'.heap.size)<=_;rw[if_neg (by omega),eP];exact n_
theorem TL.ans {l':List ak}{b n lo:Nat}{R:Nat->dp}{T:Nat->Nat}{W:World}(h:TL l' b n n R T W)(hn:l'.length=n)(Pd:lo<=b)(hl:n<=1048576)(hs:∀ j,j<n->(am l' j).name.size<=9223372036854775807/\(am l' j).ups.length<=1048576/\(am l' j).consts.length<=1048576/\(am l' j).ins.length<=1048576/\(am l' j).named.length<=1048576/\(∀ i,i<(am l' j).consts.length->((am l' j).consts[i]?.getD cS.z).str.size<=9223372036854775807)/\∀ i,i<(am l' j).named.length->((am l' j).named[i]?.getD bE.z).name.size<=9223372036854775807) :
  y7 W lo W.heap.size l' True (some (a_ b 0)):=by
 aj hn
 have hb:=h.row.lt;have hT:∀ j,j<l'.length->b<T j/\T (j+1)<=W.heap.size:=fun j hj=>⟨l_ h.lo (h.up 0 j (by omega) (by omega)),Nat.le_trans (h.up (j+1) l'.length (by omega) n_) h.hi⟩;have hc:∀ j,j<l'.length->∀ i,i<9->W.cell? (a_ b (j * 9+i))=(By (am l' j,R j))[i]?:=fun j hj i hi=>by
  have:=h.row.cell j hj i hi
  rwa [if_pos hj]at this
 have KU:∀ i s c,i<l'.length->s<4->eD (R i) (am l' i) s c->(T i<=c/\c<T (i+1))/\c<W.heap.size/\∀ o,W.frozen? (a_ c o)=false:=fun i s c hi hs k=>by
  obtain⟨L,U,h1,h2,_⟩:=(h.ty i hi).in_;have:=h1 s c hs k;have:=h2 s hs;exact⟨by omega,this.elim (fun _ _=>(h1 s c hs k).2)⟩
 refine⟨⟨by omega,fun h0=>⟨b,0,rfl,⟨Pd,hb⟩,fun j hj=>?_⟩⟩,fun _=>.inr ⟨b,0,R,rfl,⟨fun i hi=>?_,fun c Nz=>?_,fun i s j t c hi hj tj ht Il Ln=>?_,fun i s hi tj k=>?_⟩,fun c Nz=>?_⟩⟩
 ·obtain⟨l5,u5,l6,u6,l7,u7,l8,u8,r5,r6,r7,r8,hh⟩:=(h.ty j hj).rows;obtain⟨s0,s1,s2,s3,s4,s5,s6⟩:=hs j hj;have hk:=hT j hj;have c:=hc j hj;rw[Nat.zero_add];exact⟨s0,c 0 (by omega),c 1 (by omega),c 2 (by omega),c 3 (by omega),c 4 (by omega),⟨_,_,c 5 (by omega),(r5.ups s1).mono (fun b k=>by omega)⟩,⟨_,_,c 6 (by omega),(r6.vals s2 s5).mono (fun b k=>by omega)⟩,⟨_,_,c 7 (by omega),(r7.inss s3).mono (fun b k=>by omega)⟩,⟨_,_,c 8 (by omega),(r8.nams s4 s6).mono (fun b k=>by omega)⟩⟩
 ·have c:=hc i hi;rw[Nat.zero_add];refine⟨fun r hr=>?_,c 5 (by omega),c 6 (by omega),c 7 (by omega),c 8 (by omega),(h.ty i hi).flat⟩;have:r=0\/r=1\/r=2\/r=3\/r=4:=by omega
  rcases this with rfl | rfl | rfl | rfl | rfl
  ·exact⟨_,c 0 (by omega),trivial⟩
  ·exact⟨_,c 1 (by omega),trivial⟩
  ·exact⟨_,c 2 (by omega),trivial⟩
  ·exact⟨_,c 3 (by omega),trivial⟩
  ·exact⟨_,c 4 (by omega),trivial⟩
 ·rcases Nz with rfl | ⟨i,s,hi,tj,k⟩
  ·exact⟨hb,h.row.soft⟩
  ·exact(KU i s c hi tj k).2
 ·obtain⟨h1,_⟩:=KU i s c hi tj Il;obtain⟨h2,_⟩:=KU j t c hj ht Ln;have e:i=j:=by
   rcases Nat.lt_trichotomy i j with k | k | k
   ·have:=h.up (i+1) j (by omega) (by omega);omega
   ·exact k
   ·have:=h.up (j+1) i (by omega) (by omega);omega
  aj e
  refine⟨rfl,Classical.byContradiction (fun ne=>?_)⟩;obtain⟨L,U,k1,_,k3⟩:=(h.ty i hi).in_;have a1:=(k1 s c tj Il).1;have a2:=(k1 t c ht Ln).1;have:=k3 s t tj ht ne;omega
 ·have:=(KU i s b hi tj k).1;have:=hT i hi;omega
 ·rcases Nz with rfl | ⟨i,s,hi,tj,k⟩
  ·exact⟨Pd,hb⟩
  ·have:=KU i s c hi tj k;have:=hT i hi;omega
theorem Nk {l:List ak}(h:da l 0 0 0){p:Nat}(hp:p<l.length):Hh (am l p):=⟨td h hp,fun i hi=>by
 have hk:=(nX h hp).ins i hi;by_cases ho:1<=(aT (am l p) i).op/\(aT (am l p) i).op<=42
 ·obtain⟨o,e⟩:=Int.eq_ofNat_of_zero_le (show 0<=(aT (am l p) i).op by omega);exact⟨o,e,by omega⟩
 ·unfold dr at hk;rw[show bj ((am l p).ins[i]?.getD aA.z).op=none from ny ho]at hk;cases hk⟩
theorem Ae {l:List ak}{f n:Int}(h:dO l 0 f n):(f=0/\n=0)/\da l 0 0 0:=by
 rcases h with⟨_,h⟩ | ⟨_,h,_⟩ | ⟨h1,_,h2,h3,_⟩
 ·exact absurd rfl h
 ·exact absurd rfl h
 ·exact⟨⟨h2,h3⟩,h1⟩
theorem GQ:Au:=by
 intro l l' fX hl a c S w hG hs hB;have py:l.length<=1048576:=by unfold aI at hl;omega
 have hn:=hs.1;have dF:∀ o o',b_ w ((w.alloc o).alloc o'):=fun o o'=>(r_.alloc n_ o).alloc (by simp) o';have CC:Hid (∀ o o',c_ 15 #[.agg #[.slice a l.length c]] ((w.alloc o).alloc o') fun e w'=>∃ x f n,e=.returned (.agg #[i_ x,i_ f,i_ n])/\dO l x f n/\Below ((w.alloc o).alloc o').heap.size ((w.alloc o).alloc o') w'):=fun o o'=>vK a l c S _ (hs.keep (dF o o') hB) (fun b h=>l_ (hB b h) (dF o o').size) hl (hG.keep (dF o o') hG.pos);have qH:Hid (∀ W,b_ w W->ao W S a l):=fun W hW=>hs.keep hW hB;have gW:=af hB;have Oo:Hid (∀ W,b_ w W->gh W):=fun W hW=>hG.keep hW hG.pos;have Hj:Hid (∀ k,k<l.length->(am l k).ups.length<=1048576/\(am l k).consts.length<=1048576/\(am l k).named.length<=1048576):=fun k hk=>by
  have h1:=dJ dx l k ak.z hk;have h2:=gw dx l (k+1);unfold aI at hl;unfold am;generalize l[k]?.getD ak.z=fd at *;have h3:dx fd=fd.name.size+fd.ups.length+fq fd.consts+fd.ins.length+iq fd.named:=rfl;have h4:fq fd.consts=fd.consts.length+aS mE fd.consts:=rfl;have h5:iq fd.named=fd.named.length+aS mB fd.named:=rfl;refine⟨?_,?_,?_⟩<;>omega
 have kH:∀ w:World,(Instr.makeSlice 26 (i_ (l.length:Int)) (i_ (l.length:Int))).run Tryz.prog w=.ok (.slice (some (a_ w.heap.size 0)) l.length l.length) (w.alloc (.cells (madeCells iX.toArray (l.length * 9)) 43)):=
  ew (P:=Tryz.prog) 26 43 _ 9 144 Tryz.underlying26 pe .i64 .i64 l.length (by omega) hn
 have dR:=af dF;have PE:=af fX;clear hs hB dF hl hG fX;go_enter Tryz.func7,Tryz.ntmps7;go_wp2_with fail
 refine(CC.out _ _).mono ?_;rintro e W1 ⟨x,f,n,rfl,fX,au⟩;have cx:W1.rowIs w.heap.size 28 1 (fun _=>.slice a l.length c):=((G8 w (.slice a l.length c) 28).alloc _).of_block (au.block _ (by simp;omega));have rx:W1.rowIs (w.heap.size+1) 28 1 (fun _=>.slice none 0 0):=by
  have r0:=G8 (w.alloc (.cells #[.slice a l.length c] 28)) (.slice none 0 0) 28;rw[World.size_alloc]at r0;exact r0.of_block (au.block _ (by simp))
 have dM:Hid (b_ w W1):=(dR.out _ _).trans (au.mono (by simp;omega));have k0:=cx.cell (i:=0) (by omega);have r0:=rx.cell (i:=0) (by omega);have z0:=rx.frozen 0;have hsw:=cx.lt;have N0:=rx.lt;have CX:=af cx;have RX:=af rx;clear CC dR au cx rx;by_cases hx:x=0
 case neg=>
  obtain rfl:l'=[]:=by
   rcases PE.out with⟨h,_⟩ | ⟨_,h⟩
   ·exact absurd (ms fX h).1 hx
   ·exact h
  have qx:(x==0)=false:=by simpa using hx
  have qx':(x != 0)=true:=by simpa using hx
  have FB:Hid (∀ v,b_ w (W1.setCell (a_ (w.heap.size+1) 0) v)):=fun v=>dM.out.setCell (Nat.le_succ _) v;clear fX CX RX kH;go_wp2_with fail
  exact bodyPost_ret (v:=.agg #[.slice none 0 0]) (by simp[results,Tryz.results7,go_sem,r0,N0]) rfl ⟨none,0,rfl,⟨⟨by simp,fun h=>absurd h (by simp)⟩,fun _=>.inl rfl⟩,FB.out _⟩
 aj hx
 obtain⟨⟨rfl,rfl⟩,Ph⟩:=Ae fX;obtain⟨aP,U1⟩:l'.length=l.length/\∀ p,p<l.length->gY (am l p) (am l' p):=by
  rcases PE.out with⟨_,h⟩ | ⟨h,_⟩
  ·exact h
  ·exact absurd fX h
 have Wd:=af U1;have Uj:=af Ph;clear fX Ph U1 PE;have kF:Hid (∀ v,TL l' W1.heap.size l.length 0 (fun _=>⟨none,0,none,0,none,0,none,0⟩) (fun _=>W1.heap.size+2) ((W1.alloc (.cells (madeCells iX.toArray (l.length * 9)) 43)).alloc (.cells #[v] 28))):=fun v=>by
  have hr:(W1.alloc (.cells (madeCells iX.toArray (l.length * 9)) 43)).rowIs W1.heap.size 43 (l.length * 9) (jI 9 (fun _ _=>[]) iX l ak.z 0):=kR _ _ rfl (by decide);refine⟨⟨fun j hj i hi=>?_,fun o=>(hr.alloc _).frozen o,(hr.alloc _).lt⟩,fun j hj=>absurd hj (Nat.not_lt_zero _),fun _ _ _ _=>n_,by show W1.heap.size<W1.heap.size+2;omega,by simp⟩;rw[if_neg (Nat.not_lt_zero _),(hr.alloc _).cell (by omega)];unfold jI;rw[if_neg (Nat.not_lt_zero _),show(j * 9+i) % 9=i by omega];have:i=0\/i=1\/i=2\/i=3\/i=4\/i=5\/i=6\/i=7\/i=8:=by omega
  rcases this with rfl | rfl | rfl | rfl | rfl | rfl | rfl | rfl | rfl<;>rfl
 have TB:Hid (((W1.alloc (.cells (madeCells iX.toArray (l.length * 9)) 43)).alloc (.cells #[.slice (some (a_ W1.heap.size 0)) l.length l.length] 28)).rowIs (W1.heap.size+1) 28 1 (fun _=>.slice (some (a_ W1.heap.size 0)) l.length l.length)):=by
  have:=G8 (W1.alloc (.cells (madeCells iX.toArray (l.length * 9)) 43)) (.slice (some (a_ W1.heap.size 0)) l.length l.length) 28
  rwa [World.size_alloc]at this
 have B3:Hid (∀ o o',b_ W1 ((W1.alloc o).alloc o')/\((W1.alloc o).alloc o').heap.size=W1.heap.size+2):=fun o o'=>⟨(r_.alloc n_ o).alloc (by simp) o',by simp⟩;go_wp2_with fail
 clear kH k0 r0 z0;obtain⟨b3,s3⟩:=B3.out (.cells (madeCells iX.toArray (l.length * 9)) 43) (.cells #[.slice (some (a_ W1.heap.size 0)) l.length l.length] 28);have ST:=af (kF.out (.slice (some (a_ W1.heap.size 0)) l.length l.length));clear kF B3;generalize ((W1.alloc (.cells (madeCells iX.toArray (l.length * 9)) 43)).alloc (.cells #[.slice (some (a_ W1.heap.size 0)) l.length l.length] 28))=W3 at *;have jg:Hid (b_ w W3):=dM.out.trans (b3.mono dM.out.size);have RX3:=af (RX.out.of_block (b3.block _ N0));have s3':W3.heap.size<=W1.heap.size+2:=by omega
 have s3'':W1.heap.size+2<=W3.heap.size:=by omega
 clear s3 b3 RX CX dM;go_loopg [19] l.length (fun gg i wr=>∃(k:Nat) (R:Nat->dp) (T:Nat->Nat),k+gg=l.length/\i=i_ k/\Hid (TL l' W1.heap.size l.length k R T wr)/\Hid (b_ w wr)/\Hid (∀ g,g<W3.heap.size->g≠W1.heap.size->wr.heap[g]? = W3.heap[g]?)/\W3.heap.size<=wr.heap.size)
 case atStart=>exact⟨0,_,_,by omega,rfl,ST,jg,fun _ _ _=>rfl,n_⟩
 case round=>
  clear ST;obtain⟨k,R,T,hk,rfl,hT,hB,hF,hz⟩:=hrel;have tb:=(TB.out.of_block (hF.out (W1.heap.size+1) (by omega) (by omega))).cell (i:=0) (by omega);have rr:=RX3.out.of_block (hF.out (w.heap.size+1) (by omega) (by omega));have r0:=rr.cell (i:=0) (by omega);have z0:=rr.frozen 0;have wi:=rr.lt;have El:W1.heap.size+1<wr.heap.size:=by omega
  clear rr;by_cases ax:k<l.length
  ·obtain⟨b,off,rfl,hb,aE⟩:=(qH.out wr hB.out).2 (by omega);have N:=aE k ax;obtain⟨a5,c5,h5,H5⟩:=N.ups;obtain⟨a6,c6,h6,H6⟩:=N.consts;obtain⟨a7,c7,h7,H7⟩:=N.ins;obtain⟨a8,c8,h8,H8⟩:=N.named;have c0:=N.name;have c1:=N.line;have c2:=N.params;have c3:=N.rest;have c4:=N.regs;have Hw:∀ b,S b->b<wr.heap.size:=fun b h=>l_ (gW.out b h) hB.out.size;have cZ:=Hw b hb;have PF:=Nk Uj.out ax;have TD:=Wd.out k ax;have LN:=Hj.out k ax;have TPC:Hid (∀ V,b_ wr V->c_ 16 #[.agg #[.string (am l k).name,i_ (am l k).line,i_ (am l k).params,.bool (am l k).rest,i_ (am l k).regs,.slice a5 (am l k).ups.length c5,.slice a6 (am l k).consts.length c6,.slice a7 (am l k).ins.length c7,.slice a8 (am l k).named.length c8]] V (IN (am l k) V)):=fun V hV=>vI (am l k) a5 a6 a7 a8 c5 c6 c7 c8 S V PF (Oo.out V (hB.out.trans (hV.mono hB.out.size))) (fun b h=>l_ (Hw b h) hV.size) (H5.keep hV Hw) (H6.keep hV Hw) (H7.keep hV Hw) (H8.keep hV Hw) LN.1 LN.2.1 LN.2.2;have qL:Hid (∀(y:ak) (R4:dp) (V W:World) (vs:List Value),b_ wr V->b_ V W->gY (am l k) y->y9 y R4 V.heap.size W.heap.size W->vs=[.string (am l k).name,i_ (am l k).line,i_ (am l k).params,.bool (am l k).rest,i_ (am l k).regs,.slice R4.a5 (am l k).ups.length R4.c5,.slice R4.a6 (am l k).consts.length R4.c6,.slice R4.a7 y.ins.length R4.c7,.slice R4.a8 (am l k).named.length R4.c8]->(∃ R' T',TL l' W1.heap.size l.length (k+1) R' T' (eh W1.heap.size W (k * 9) vs))/\b_ w (eh W1.heap.size W (k * 9) vs)/\(∀ g,g<W3.heap.size->g≠W1.heap.size->(eh W1.heap.size W (k * 9) vs).heap[g]? = W3.heap[g]?)/\W3.heap.size<=(eh W1.heap.size W (k * 9) vs).heap.size):=fun y R4 V W vs hV hW ht hy Sq=>by
    have X3:=hV.trans (hW.mono hV.size);obtain rfl:=oC PF.fit ht TD;have LK:=kA TD;have e:vs=By (am l' k,R4):=by rw[Sq];unfold By;rw[LK.name,LK.line,LK.params,LK.rest,LK.regs,LK.ups,LK.consts,(kg TD).2]
    rw[e];refine⟨⟨_,_,hT.out.next X3 hy hV.size⟩,gm (by omega) _ _ _ (hB.out.trans (X3.mono hB.out.size)),fun g h1 h2=>(iW _ _ _ g h2).trans ((X3.block g (by omega)).trans (hF.out g h1 h2)),by rw[eP];exact Nat.le_trans hz X3.size⟩
   have VA:Hid (∀ o,b_ wr (wr.alloc o)):=fun o=>r_.alloc n_ o;have TR:=af hT.out.row;clear aE N PF TD LN H5 H6 H7 H8 hT hB hF;have hx:l[k]?.getD ak.z=am l k:=rfl;rw[hx]at c0 c1 c2 c3 c4 h5 h6 h7 h8;clear hx;generalize am l k=xd at *;have Wi:(k:Int)<l.length:=by omega
   go_upto_region 7 with fail
   have vb:=VA.out (.cells #[.string xd.name,i_ xd.line,i_ xd.params,.bool xd.rest,i_ xd.regs,.slice a5 xd.ups.length c5,.slice a6 xd.consts.length c6,.slice a7 xd.ins.length c7,.slice a8 xd.named.length c8] 43);have xx:(wr.alloc (.cells #[.string xd.name,i_ xd.line,i_ xd.params,.bool xd.rest,i_ xd.regs,.slice a5 xd.ups.length c5,.slice a6 xd.consts.length c6,.slice a7 xd.ins.length c7,.slice a8 xd.named.length c8] 43)).rowIs wr.heap.size 43 9 (kK xd a5 a6 a7 a8 c5 c6 c7 c8):=World.rowIs_alloc wr #[.string xd.name,i_ xd.line,i_ xd.params,.bool xd.rest,i_ xd.regs,.slice a5 xd.ups.length c5,.slice a6 xd.consts.length c6,.slice a7 xd.ins.length c7,.slice a8 xd.named.length c8] 43 (kK xd a5 a6 a7 a8 c5 c6 c7 c8) (fun i hi=>by
    have hi9:i<9:=hi;have:i=0\/i=1\/i=2\/i=3\/i=4\/i=5\/i=6\/i=7\/i=8:=by omega
    rcases this with rfl | rfl | rfl | rfl | rfl | rfl | rfl | rfl | rfl<;>rfl)
   have hVl:wr.heap.size<(wr.alloc (.cells #[.string xd.name,i_ xd.line,i_ xd.params,.bool xd.rest,i_ xd.regs,.slice a5 xd.ups.length c5,.slice a6 xd.consts.length c6,.slice a7 xd.ins.length c7,.slice a8 xd.named.length c8] 43)).heap.size:=by simp
   generalize (wr.alloc (.cells #[.string xd.name,i_ xd.line,i_ xd.params,.bool xd.rest,i_ xd.regs,.slice a5 xd.ups.length c5,.slice a6 xd.consts.length c6,.slice a7 xd.ins.length c7,.slice a8 xd.named.length c8] 43))=V at *;have CL:Hid (∀ W,Below V.drew.heap.size V.drew W->W.cell? (a_ (W1.heap.size+1) 0)=some (.slice (some (a_ W1.heap.size 0)) l.length l.length)/\W.cell? (a_ wr.heap.size 0)=some (.string xd.name)/\W.cell? (a_ wr.heap.size 1)=some (i_ xd.line)/\W.cell? (a_ wr.heap.size 2)=some (i_ xd.params)/\W.cell? (a_ wr.heap.size 3)=some (.bool xd.rest)/\W.cell? (a_ wr.heap.size 4)=some (i_ xd.regs)/\W.cell? (a_ wr.heap.size 5)=some (.slice a5 xd.ups.length c5)/\W.cell? (a_ wr.heap.size 6)=some (.slice a6 xd.consts.length c6)/\W.cell? (a_ wr.heap.size 7)=some (.slice a7 xd.ins.length c7)/\W.cell? (a_ wr.heap.size 8)=some (.slice a8 xd.named.length c8)):=fun W h=>by
    have e:∀ o,W.cell? (a_ wr.heap.size o)=V.cell? (a_ wr.heap.size o):=fun o=>h.cell (p:=(a_ wr.heap.size o)) hVl;exact⟨(h.cell (p:=(a_ (W1.heap.size+1) 0)) (l_ El vb.size)).trans ((vb.cell (p:=(a_ (W1.heap.size+1) 0)) El).trans tb),(e _).trans (xx.cell (i:=0) (by omega)),(e _).trans (xx.cell (i:=1) (by omega)),(e _).trans (xx.cell (i:=2) (by omega)),(e _).trans (xx.cell (i:=3) (by omega)),(e _).trans (xx.cell (i:=4) (by omega)),(e _).trans (xx.cell (i:=5) (by omega)),(e _).trans (xx.cell (i:=6) (by omega)),(e _).trans (xx.cell (i:=7) (by omega)),(e _).trans (xx.cell (i:=8) (by omega))⟩
   have KP:Hid (∀(W:World) (u0 u1 u2 u3 u4 u5 u6 u7 u8:Value),(W.cell? (a_ (W1.heap.size+1) 0)=some (.slice (some (a_ W1.heap.size 0)) l.length l.length)/\W.cell? (a_ wr.heap.size 0)=some (.string xd.name)/\W.cell? (a_ wr.heap.size 1)=some (i_ xd.line)/\W.cell? (a_ wr.heap.size 2)=some (i_ xd.params)/\W.cell? (a_ wr.heap.size 3)=some (.bool xd.rest)/\W.cell? (a_ wr.heap.size 4)=some (i_ xd.regs)/\W.cell? (a_ wr.heap.size 5)=some (.slice a5 xd.ups.length c5)/\W.cell? (a_ wr.heap.size 6)=some (.slice a6 xd.consts.length c6)/\W.cell? (a_ wr.heap.size 7)=some (.slice a7 xd.ins.length c7)/\W.cell? (a_ wr.heap.size 8)=some (.slice a8 xd.named.length c8))->(((((((((W.setCell (a_ W1.heap.size (k * 9)) u0).setCell (a_ W1.heap.size (k * 9+1)) u1).setCell (a_ W1.heap.size (k * 9+2)) u2).setCell (a_ W1.heap.size (k * 9+3)) u3).setCell (a_ W1.heap.size (k * 9+4)) u4).setCell (a_ W1.heap.size (k * 9+5)) u5).setCell (a_ W1.heap.size (k * 9+6)) u6).setCell (a_ W1.heap.size (k * 9+7)) u7).setCell (a_ W1.heap.size (k * 9+8)) u8).cell? (a_ (W1.heap.size+1) 0)=some (.slice (some (a_ W1.heap.size 0)) l.length l.length)/\(((((((((W.setCell (a_ W1.heap.size (k * 9)) u0).setCell (a_ W1.heap.size (k * 9+1)) u1).setCell (a_ W1.heap.size (k * 9+2)) u2).setCell (a_ W1.heap.size (k * 9+3)) u3).setCell (a_ W1.heap.size (k * 9+4)) u4).setCell (a_ W1.heap.size (k * 9+5)) u5).setCell (a_ W1.heap.size (k * 9+6)) u6).setCell (a_ W1.heap.size (k * 9+7)) u7).setCell (a_ W1.heap.size (k * 9+8)) u8).cell? (a_ wr.heap.size 0)=some (.string xd.name)/\(((((((((W.setCell (a_ W1.heap.size (k * 9)) u0).setCell (a_ W1.heap.size (k * 9+1)) u1).setCell (a_ W1.heap.size (k * 9+2)) u2).setCell (a_ W1.heap.size (k * 9+3)) u3).setCell (a_ W1.heap.size (k * 9+4)) u4).setCell (a_ W1.heap.size (k * 9+5)) u5).setCell (a_ W1.heap.size (k * 9+6)) u6).setCell (a_ W1.heap.size (k * 9+7)) u7).setCell (a_ W1.heap.size (k * 9+8)) u8).cell? (a_ wr.heap.size 1)=some (i_ xd.line)/\(((((((((W.setCell (a_ W1.heap.size (k * 9)) u0).setCell (a_ W1.heap.size (k * 9+1)) u1).setCell (a_ W1.heap.size (k * 9+2)) u2).setCell (a_ W1.heap.size (k * 9+3)) u3).setCell (a_ W1.heap.size (k * 9+4)) u4).setCell (a_ W1.heap.size (k * 9+5)) u5).setCell (a_ W1.heap.size (k * 9+6)) u6).setCell (a_ W1.heap.size (k * 9+7)) u7).setCell (a_ W1.heap.size (k * 9+8)) u8).cell? (a_ wr.heap.size 2)=some (i_ xd.params)/\(((((((((W.setCell (a_ W1.heap.size (k * 9)) u0).setCell (a_ W1.heap.size (k * 9+1)) u1).setCell (a_ W1.heap.size (k * 9+2)) u2).setCell (a_ W1.heap.size (k * 9+3)) u3).setCell (a_ W1.heap.size (k * 9+4)) u4).setCell (a_ W1.heap.size (k * 9+5)) u5).setCell (a_ W1.heap.size (k * 9+6)) u6).setCell (a_ W1.heap.size (k * 9+7)) u7).setCell (a_ W1.heap.size (k * 9+8)) u8).cell? (a_ wr.heap.size 3)=some (.bool xd.rest)/\(((((((((W.setCell (a_ W1.heap.size (k * 9)) u0).setCell (a_ W1.heap.size (k * 9+1)) u1).setCell (a_ W1.heap.size (k * 9+2)) u2).setCell (a_ W1.heap.size (k * 9+3)) u3).setCell (a_ W1.heap.size (k * 9+4)) u4).setCell (a_ W1.heap.size (k * 9+5)) u5).setCell (a_ W1.heap.size (k * 9+6)) u6).setCell (a_ W1.heap.size (k * 9+7)) u7).setCell (a_ W1.heap.size (k * 9+8)) u8).cell? (a_ wr.heap.size 4)=some (i_ xd.regs)/\(((((((((W.setCell (a_ W1.heap.size (k * 9)) u0).setCell (a_ W1.heap.size (k * 9+1)) u1).setCell (a_ W1.heap.size (k * 9+2)) u2).setCell (a_ W1.heap.size (k * 9+3)) u3).setCell (a_ W1.heap.size (k * 9+4)) u4).setCell (a_ W1.heap.size (k * 9+5)) u5).setCell (a_ W1.heap.size (k * 9+6)) u6).setCell (a_ W1.heap.size (k * 9+7)) u7).setCell (a_ W1.heap.size (k * 9+8)) u8).cell? (a_ wr.heap.size 5)=some (.slice a5 xd.ups.length c5)/\(((((((((W.setCell (a_ W1.heap.size (k * 9)) u0).setCell (a_ W1.heap.size (k * 9+1)) u1).setCell (a_ W1.heap.size (k * 9+2)) u2).setCell (a_ W1.heap.size (k * 9+3)) u3).setCell (a_ W1.heap.size (k * 9+4)) u4).setCell (a_ W1.heap.size (k * 9+5)) u5).setCell (a_ W1.heap.size (k * 9+6)) u6).setCell (a_ W1.heap.size (k * 9+7)) u7).setCell (a_ W1.heap.size (k * 9+8)) u8).cell? (a_ wr.heap.size 6)=some (.slice a6 xd.consts.length c6)/\(((((((((W.setCell (a_ W1.heap.size (k * 9)) u0).setCell (a_ W1.heap.size (k * 9+1)) u1).setCell (a_ W1.heap.size (k * 9+2)) u2).setCell (a_ W1.heap.size (k * 9+3)) u3).setCell (a_ W1.heap.size (k * 9+4)) u4).setCell (a_ W1.heap.size (k * 9+5)) u5).setCell (a_ W1.heap.size (k * 9+6)) u6).setCell (a_ W1.heap.size (k * 9+7)) u7).setCell (a_ W1.heap.size (k * 9+8)) u8).cell? (a_ wr.heap.size 7)=some (.slice a7 xd.ins.length c7)/\(((((((((W.setCell (a_ W1.heap.size (k * 9)) u0).setCell (a_ W1.heap.size (k * 9+1)) u1).setCell (a_ W1.heap.size (k * 9+2)) u2).setCell (a_ W1.heap.size (k * 9+3)) u3).setCell (a_ W1.heap.size (k * 9+4)) u4).setCell (a_ W1.heap.size (k * 9+5)) u5).setCell (a_ W1.heap.size (k * 9+6)) u6).setCell (a_ W1.heap.size (k * 9+7)) u7).setCell (a_ W1.heap.size (k * 9+8)) u8).cell? (a_ wr.heap.size 8)=some (.slice a8 xd.named.length c8)):=fun W u0 u1 u2 u3 u4 u5 u6 u7 u8 ⟨s,s0,s1,s2,s3,s4,s5,s6,s7,s8⟩=>by
    have e:∀ b o,b≠W1.heap.size->(eh W1.heap.size W (k * 9) [u0,u1,u2,u3,u4,u5,u6,u7,u8]).cell? (a_ b o)=W.cell? (a_ b o):=fun b o hb=>World.cell?_of_block (a:=(a_ b o)) (iW _ _ _ b hb);exact⟨(e _ _ (by omega)).trans s,(e _ _ (by omega)).trans s0,(e _ _ (by omega)).trans s1,(e _ _ (by omega)).trans s2,(e _ _ (by omega)).trans s3,(e _ _ (by omega)).trans s4,(e _ _ (by omega)).trans s5,(e _ _ (by omega)).trans s6,(e _ _ (by omega)).trans s7,(e _ _ (by omega)).trans s8⟩
   obtain⟨t0,x0,x1,x2,x3,x4,x5,x6,x7,x8⟩:=CL.out V.drew r_;have TC:=af (TPC.out V.drew vb.drew);have GL:Hid (∀ W,Below V.drew.heap.size V.drew W->eC By 9 W W1.heap.size l.length (fun j=>if j<k then(am l' j,R j)else yk.z)):=fun W h=>TR.out.keep (vb.drew.trans (h.mono vb.size));have A9:Hid (b_ wr V.drew):=vb.drew;clear vb xx TPC TR VA tb r0 z0 c0 c1 c2 c3 c4 h5 h6 h7 h8
   go_region_held3 (fun W=>W.cell? (a_ (W1.heap.size+1) 0)=some (.slice (some (a_ W1.heap.size 0)) l.length l.length)/\W.cell? (a_ wr.heap.size 0)=some (.string xd.name)/\W.cell? (a_ wr.heap.size 1)=some (i_ xd.line)/\W.cell? (a_ wr.heap.size 2)=some (i_ xd.params)/\W.cell? (a_ wr.heap.size 3)=some (.bool xd.rest)/\W.cell? (a_ wr.heap.size 4)=some (i_ xd.regs)/\W.cell? (a_ wr.heap.size 5)=some (.slice a5 xd.ups.length c5)/\W.cell? (a_ wr.heap.size 6)=some (.slice a6 xd.consts.length c6)/\W.cell? (a_ wr.heap.size 7)=some (.slice a7 xd.ins.length c7)/\W.cell? (a_ wr.heap.size 8)=some (.slice a8 xd.named.length c8)) (first | with_reducible exact⟨t0,x0,x1,x2,x3,x4,x5,x6,x7,x8⟩ | with_reducible exact⟨q,q0,q1,q2,q3,q4,q5,q6,q7,q8⟩ | with_reducible exact aa KP _ _ _ _ _ _ _ _ _ _ ⟨q,q0,q1,q2,q3,q4,q5,q6,q7,q8⟩)
    (first | (go_at_call 16;refine(aa TC).mono ?_;rintro e W4 ⟨y,R4,rfl,eA,hTR,lx⟩;obtain⟨q,q0,q1,q2,q3,q4,q5,q6,q7,q8⟩:=aa CL _ lx;have gr:=aa GL _ lx;have hrl4:=gr.lt;obtain⟨v0,v1,v2,v3,v4,v5,v6,v7,v8,g0,g1,g2,g3,g4,g5,g6,g7,g8,z0,z1,z2,z3,z4,z5,z6,z7,z8⟩:=gr.nine ax;clear gr))
   have eM:=af (qL.out y R4 V.drew W4 _ A9.out lx eA hTR rfl);clear q q0 q1 q2 q3 q4 q5 q6 q7 q8 g0 g1 g2 g3 g4 g5 g6 g7 g8 z0 z1 z2 z3 z4 z5 z6 z7 z8 lx eA hTR KP CL GL TC qL t0 x0 x1 x2 x3 x4 x5 x6 x7 x8;go_wp2_with fail
   obtain⟨⟨R',T',f1⟩,f2,f3,f4⟩:=eM.out;go_roundg (l.length-(k+1))
   case measure=>omega
   case rel=>exact⟨k+1,R',T',by omega,by go_num,f1,f2,f3,f4⟩
  ·have iK:k=l.length:=by omega
   have eM:Hid (∀ v,y7 (wr.setCell (a_ (w.heap.size+1) 0) v) w.heap.size (wr.setCell (a_ (w.heap.size+1) 0) v).heap.size l' True (some (a_ W1.heap.size 0))/\b_ w (wr.setCell (a_ (w.heap.size+1) 0) v)):=fun v=>by
    aj iK
    have h1:=hT.out;have hC:=h1.ans (lo:=W1.heap.size) aP n_ py (fun j hj=>by
     obtain⟨b,off,_,_,aE⟩:=(qH.out wr hB.out).2 (by omega);have N:=aE j hj;have TD:=Wd.out j hj;have LK:=kA TD;have LN:=Hj.out j hj;have FW:=kg TD;have hf:=(td Uj.out hj).few;obtain⟨_,_,_,H6⟩:=N.consts;obtain⟨_,_,_,H8⟩:=N.named;refine⟨by rw[LK.name];exact N.names,by rw[LK.ups];exact LN.1,by rw[LK.consts];exact LN.2.1,by omega,by omega,fun i hi=>?_,fun i hi=>?_⟩
     ·rw[LK.consts]at hi ⊢;obtain⟨_,_,_,_,h⟩:=H6.2 (by show 0<(am l j).consts.length;omega);exact(h i hi).strs
     ·rw[yE TD];have Il:i<(am l j).named.length:=by omega
      obtain⟨_,_,_,_,h⟩:=H8.2 (by show 0<(am l j).named.length;omega);exact(h i Il).names)
    have hz':(wr.setCell (a_ (w.heap.size+1) 0) v).heap.size=wr.heap.size:=by simp
    rw[hz'];refine⟨?_,hB.out.setCell (Nat.le_succ _) _⟩;have OD:=hC.blk (w':=wr.setCell (a_ (w.heap.size+1) 0) v) (fun b h1 _=>heap_setCell_other wr (a_ (w.heap.size+1) 0) b v (by show b≠w.heap.size+1;omega)) (by simp);exact⟨OD.at_.mono (fun b h=>⟨by omega,h.2⟩),fun t=>(OD.own t).imp id (fun⟨bP,off,R,e,h,hc⟩=>⟨bP,off,R,e,h,fun b k=>⟨by have:=(hc b k).1;omega,(hc b k).2⟩⟩)⟩
   have Sv:¬((k:Int)<(l.length:Int)):=by omega
   have vj:w.heap.size+1<wr.heap.size:=wi;clear hT hB hF;go_wp2_with fail
   refine bodyPost_ret (v:=.agg #[.slice (some (a_ W1.heap.size 0)) l.length l.length]) (by simp[results,Tryz.results7,go_sem,r0,vj]) rfl ⟨some (a_ W1.heap.size 0),l.length,by rw[aP],(eM.out _).1,(eM.out _).2⟩
end Go.Proofs.YtcjfjflljdojlaaGreatDoor
