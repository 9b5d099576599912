import Derived.Test.YtcjfjflljdojlaaGreatDoorPart53
set_option linter.unusedSimpArgs false
set_option linter.unusedVariables false
set_option maxHeartbeats 8000000
set_option maxRecDepth 100000
namespace Go.Proofs.YtcjfjflljdojlaaGreatDoor
open Go.RowKit
theorem td {l:List ak}(h:da l 0 0 0){p:Nat}(hp:p<l.length):j8 (am l p):=by
 have hk:=nX h hp;have hP:eO l 0 0 0:=by
  rcases h with⟨_,h⟩ | ⟨h,_⟩ | ⟨h,_⟩ | ⟨h,_⟩
  ·exact absurd rfl h
  all_goals exact h
 have h4:rk l (oU l) (jY l):=by
  rcases hP with⟨_,h,_⟩ | ⟨_,h,_⟩ | ⟨_,_,h,_⟩ | ⟨_,_,_,h,_⟩ | ⟨_,_,_,h4,_⟩ | ⟨_,_,_,h4,_⟩
  ·exact absurd h (by decide)
  ·exact absurd h (by decide)
  ·exact absurd h (by decide)
  ·exact absurd h (by decide)
  ·exact h4
  ·exact h4
 refine⟨hk.some_,hk.few,fun i hi ho=>?_,fun i hi ho=>?_,fun i hi ho=>(je (hk.ins i hi) hi hk.regs.1).next ho,fun j hj=>?_⟩
 ·have:=(mP (hk.ins i hi)).1 ho;omega
 ·unfold ec at ho;simp only[Bool.or_eq_true,beq_iff_eq]at ho;have:=(mP (hk.ins i hi)).2 (by rcases ho with(((h | h) | h) | h) | h<;>simp[h]);omega
 ·have:=h4 p j hp hj;unfold jY kJ at this;simp only[Bool.not_eq_false',Bool.and_eq_true,decide_eq_true_eq]at this;omega
def iE (l l':List ak):Prop:=
 (dO l 0 0 0/\l'.length=l.length/\∀ p,p<l.length->gY (am l p) (am l' p))\/(¬dO l 0 0 0/\l'=[])
theorem sJ {l a b:List ak}(ha:iE l a)(hb:iE l b):a=b:=by
 rcases ha with⟨a1,a2,a3⟩ | ⟨a1,rfl⟩<;>rcases hb with⟨b1,b2,b3⟩ | ⟨b1,rfl⟩
 ·have hs:da l 0 0 0:=by
   rcases a1 with⟨_,h⟩ | ⟨h,_⟩ | ⟨h,_⟩
   ·exact absurd rfl h
   all_goals exact h
  refine List.ext_getElem (by rw[a2,b2]) (fun p h1 h2=>?_);have hp:p<l.length:=by omega
  have:=oC (td hs hp) (a3 p hp) (b3 p hp);unfold am at this
  rwa [g_ h1,g_ h2]at this
 ·exact absurd a1 b1
 ·exact absurd b1 a1
 ·rfl
def tk {α:Type}(l:List α)(k:Nat):List α:=l.take k
theorem xT {α:Type}(l:List α){k:Nat}(h:k<=l.length):(tk l k).length=k:=by unfold tk;rw[List.length_take];omega
theorem sX {α:Type}(l:List α)(z:α){k:Nat}(h:k<l.length):tk l (k+1)=tk l k++[l[k]?.getD z]:=by
 unfold tk;rw[List.take_add_one,g_ h];rfl
theorem ym {α:Type}(l:List α):tk l l.length=l:=List.take_length
abbrev JN (w:World) (base:Nat) (v:Value) (t:List (Bool×Int)):Prop:=dt 46 2 iA w base v t
abbrev IM (w:World) (base:Nat) (v:Value) (t:List cS):Prop:=dt 49 5 gj w base v t
theorem dt.inss {w:World}{base:Nat}{a:o_}{n c:Nat}{t:List aA}(h:gP w base (.slice a n c) t)(hl:t.length<=1048576):bQ w (fun b=>base<=b/\b<w.heap.size) a t:=by
 refine⟨by omega,fun h0=>?_⟩;obtain⟨g,cap,e,hb,hg,_,hc⟩:=h.at (fun _=>rfl) aA.z h0;injection e with e1 _ _;refine⟨g,0,e1,⟨hb,hg⟩,fun j hj=>?_⟩;rw[Nat.zero_add];exact⟨hc j hj 0 (by omega),hc j hj 1 (by omega),hc j hj 2 (by omega),hc j hj 3 (by omega),hc j hj 4 (by omega)⟩
theorem dt.ups {w:World}{base:Nat}{a:o_}{n c:Nat}{t:List (Bool×Int)}(h:JN w base (.slice a n c) t)(hl:t.length<=1048576):dH w (fun b=>base<=b/\b<w.heap.size) a t:=by
 refine⟨by omega,fun h0=>?_⟩;obtain⟨g,cap,e,hb,hg,_,hc⟩:=h.at (fun _=>rfl) (false,0) h0;injection e with e1 _ _;refine⟨g,0,e1,⟨hb,hg⟩,fun j hj=>?_⟩;have h0:=hc j hj 0 (by omega);have h1:=hc j hj 1 (by omega);simp only[Nat.zero_add]at *;exact⟨h0,h1⟩
theorem dt.nams {w:World}{base:Nat}{a:o_}{n c:Nat}{t:List bE}(h:sx w base (.slice a n c) t)(hl:t.length<=1048576)(hz:∀ j,j<t.length->(t[j]?.getD bE.z).name.size<=9223372036854775807):dc w (fun b=>base<=b/\b<w.heap.size) a t:=by
 refine⟨by omega,fun h0=>?_⟩;obtain⟨g,cap,e,hb,hg,_,hc⟩:=h.at (fun _=>rfl) bE.z h0;injection e with e1 _ _;refine⟨g,0,e1,⟨hb,hg⟩,fun j hj=>?_⟩;rw[Nat.zero_add];exact⟨hc j hj 0 (by omega),hz j hj,hc j hj 1 (by omega),hc j hj 2 (by omega),hc j hj 3 (by omega)⟩
theorem dt.vals {w:World}{base:Nat}{a:o_}{n c:Nat}{t:List cS}(h:IM w base (.slice a n c) t)(hl:t.length<=1048576)(hz:∀ j,j<t.length->(t[j]?.getD cS.z).str.size<=9223372036854775807):cQ w (fun b=>base<=b/\b<w.heap.size) a t:=by
 refine⟨by omega,fun h0=>?_⟩;obtain⟨g,cap,e,hb,hg,_,hc⟩:=h.at (fun _=>rfl) cS.z h0;injection e with e1 _ _;refine⟨g,0,e1,⟨hb,hg⟩,fun j hj=>?_⟩;rw[Nat.zero_add];exact⟨hc j hj 0 (by omega),hc j hj 1 (by omega),hc j hj 2 (by omega),hc j hj 3 (by omega),hz j hj,hc j hj 4 (by omega)⟩
structure UB (x y:ak):Prop where
 name:y.name=x.name
 line:y.line=x.line
 params:y.params=x.params
 rest:y.rest=x.rest
 regs:y.regs=x.regs
 ups:y.ups=x.ups
 consts:y.consts=x.consts
theorem kA {x y:ak}(h:gY x y):UB x y:=by
 obtain⟨K,_,rfl⟩:=h;unfold oD;split<;>exact⟨rfl,rfl,rfl,rfl,rfl,rfl,rfl⟩
theorem kg {x y:ak}(h:gY x y):y.ins.length<=x.ins.length/\y.named.length=x.named.length:=by
 obtain⟨K,_,rfl⟩:=h;unfold oD;split
 ·exact⟨n_,rfl⟩
 ·exact⟨by rw[mS];exact lH _ _,List.length_map ..⟩
def Pa (x:ak)(a5 a6:o_)(c5 c6:Nat)(w:World)(e:Ending)(w':World):Prop:=∃ y a7 c7 a8 c8,e=.returned (.agg #[.string x.name,i_ x.line,i_ x.params,.bool x.rest,i_ x.regs,.slice a5 x.ups.length c5,.slice a6 x.consts.length c6,.slice a7 y.ins.length c7,.slice a8 y.named.length c8])/\gY x y/\bQ w' (fun b=>b<w'.heap.size) a7 y.ins/\dc w' (fun b=>b<w'.heap.size) a8 y.named/\b_ w w'
theorem Ct (x:ak)(a5 a6 a7 a8:o_)(c5 c6 c7 c8:Nat)(S:Nat->Prop)(w:World)(hB:∀ b,S b->b<w.heap.size)(hf:j8 x)(h7:bQ w S a7 x.ins)(h8:dc w S a8 x.named)(hn8:x.named.length<=1048576) :
  c_ 13 #[.agg #[.string x.name,i_ x.line,i_ x.params,.bool x.rest,i_ x.regs,.slice a5 x.ups.length c5,.slice a6 x.consts.length c6,.slice a7 x.ins.length c7,.slice a8 x.named.length c8]] w (Pa x a5 a6 c5 c6 w):=by
 obtain⟨b,off,rfl,hb,hc⟩:=h7.2 hf.some_;refine(DL x x.name x.line x.params x.rest x.regs a5 a6 a8 x.ups.length c5 x.consts.length c6 b off c7 c8 w hf (hB b hb) (fun j hj=>hc j hj) (h8.mono hB) hn8).mono ?_;rintro e w' ⟨K,hK,dW,h⟩;have hm:∀ b,S b->b<w'.heap.size:=fun b h=>l_ (hB b h) dW.size;rcases h with⟨hL,rfl⟩ | ⟨hL,v7,v8,rfl,h7',h8'⟩
 ·have ht:gY x x:=⟨K,hK,by unfold oD;rw[if_pos hL]⟩;exact⟨x,_,_,_,_,rfl,ht,(h7.keep dW hB).mono hm,(h8.keep dW hB).mono hm,dW⟩
 ·have ht:gY x { x with ins:=fy x (aF x K) x.ins.length,named:=x.named.map (kW (aF x K)) }:=⟨K,hK,by unfold oD;rw[if_neg (by rw[hL];decide)]⟩;obtain⟨a,c,rfl⟩:=h7'.lenV;obtain⟨a',c',rfl⟩:=h8'.lenV;have VF:=hf.few;have hN:=lH (aF x K) x.ins.length;refine⟨_,a,c,a',c',rfl,ht,(h7'.inss (by rw[mS];omega)).mono (fun b h=>h.2),(h8'.nams (by rw[List.length_map];omega) (fun j hj=>?_)).mono (fun b h=>h.2),dW⟩;rw[List.length_map]at hj;obtain⟨_,_,_,_,hn⟩:=h8.2 (by omega);have:=(hn j hj).names;rw[List.getElem?_map,g_ hj];rw[g_ hj]at this;exact this
abbrev yk:=ak×dp
def By (y:yk):List Value:=[.string y.1.name,i_ y.1.line,i_ y.1.params,.bool y.1.rest,i_ y.1.regs,.slice y.2.a5 y.1.ups.length y.2.c5,.slice y.2.a6 y.1.consts.length y.2.c6,.slice y.2.a7 y.1.ins.length y.2.c7,.slice y.2.a8 y.1.named.length y.2.c8]
def yk.z:yk:=(ak.z,⟨none,0,none,0,none,0,none,0⟩)
def Ig (q:List yk)(j:Nat):yk:=q[j]?.getD yk.z
abbrev QA (w:World) (base:Nat) (v:Value) (t:List yk):Prop:=dt 43 9 By w base v t
def QS (bO:Nat)(vP:Value)(W:World)(b:Nat):Prop:=bO+1<=b/\b<W.heap.size/\vP.ownBlock≠some b
structure TQ (l:List ak)(W2:World)(bO k:Nat)(vP:Value)(q:List yk)(W:World):Prop where
 len:q.length=k
 tid:∀ j,j<k->gY (am l j) (Ig q j).1
 small:∀ j,j<k->(Ig q j).1.name.size<=9223372036854775807
 box:W.rowIs bO 28 1 (fun _=>vP)
 own:QA W (bO+1) vP q
 ins:∀ j,j<k->gF W (QS bO vP W) (Ig q j).2 (Ig q j).1
 old:Below bO W2 W
theorem xG {q:List yk}{y:yk}{j:Nat}(h:j<q.length):Ig (q++[y]) j=Ig q j:=by unfold Ig;rw[List.getElem?_append_left h]
theorem yh {q:List yk}{y:yk}:Ig (q++[y]) q.length=y:=by unfold Ig;simp
theorem TQ.next {l:List ak}{W2 W Wb w':World}{bO k g cap:Nat}{vP:Value}{q:List yk}{y:ak}{R:dp}{o:Obj}(h:TQ l W2 bO k vP q W)(ht:gY (am l k) y)(hz:y.name.size<=9223372036854775807)(hb:b_ W Wb)(hi:gF Wb (fun b=>W.heap.size<=b/\b<Wb.heap.size) R y)
  (bc:w'.ownsRow (bO+1) 43 9 (.slice (some (a_ g 0)) (q.length+1) cap) (q.length+1) (q.flatMap By++By (y,R)))(hg:(Wb.alloc o).grownBy w' vP.ownBlock)(hw:vP.ownBlock=some g\/g=(Wb.alloc o).heap.size)(ax:g<w'.heap.size) :
  TQ l W2 bO (k+1) (.slice (some (a_ g 0)) (q.length+1) cap) (q++[(y,R)]) (w'.setCell (a_ bO 0) (.slice (some (a_ g 0)) (q.length+1) cap)):=by
 have hs:=hb.size;have ir:=h.box.lt;have Op:=dt.lt h.own;have kq:Wb.heap.size+1<=w'.heap.size:=by have:=hg.size;simpa using this
 have v9:∀ b,b<Wb.heap.size->vP.ownBlock≠some b->w'.heap[b]? = Wb.heap[b]?:=fun b dW ei=>(hg.block b (by simp;omega) (fun e=>ei e.symm)).trans (Below.heap_alloc Wb o b dW);have OJ:vP.ownBlock≠some bO:=fun e=>by have:=(Op bO e).1;omega
 have If:bO+1<=g:=by
  rcases hw with e | e
  ·exact(Op g e).1
  ·rw[e];simp;omega
 have dj:QA w' (bO+1) (.slice (some (a_ g 0)) (q.length+1) cap) (q++[(y,R)]):=dt.push bc;have cZ:Below bO Wb w':=by
  have bz:∀ j,vP.ownBlock=some j->bO<=j:=fun j e=>by have:=(Op j e).1;omega
  exact Below.grown (r_.alloc (by omega) o) hg (by simp;omega) bz
 refine⟨by rw[List.length_append,h.len];rfl,fun j hj=>?_,fun j hj=>?_,?_,?_,fun j hj=>?_,?_⟩
 ·by_cases e:j<k
  ·rw[xG (by rw[h.len];exact e)];exact h.tid j e
  ·have e':j=q.length:=by rw[h.len];omega
   have e2:j=k:=by omega
   rw[e',yh,<-e',e2];exact ht
 ·by_cases e:j<k
  ·rw[xG (by rw[h.len];exact e)];exact h.small j e
  ·have e':j=q.length:=by rw[h.len];omega
   rw[e',yh];exact hz
 ·have r1:=(h.box.of_block (hb.block _ ir));have r2:=r1.of_block (v9 bO (by omega) OJ);exact(r2.set 0 _).congr (fun i hi=>by
   have:i=0:=by omega
   aj this
   simp)
 ·exact dj.same (fun b e=>heap_setCell_other w' (a_ bO 0) b _ (by have:=(dt.lt dj b e).1;show b≠bO;omega))
 ·have U4:∀ b,bO+1<=b->(w'.setCell (a_ bO 0) (.slice (some (a_ g 0)) (q.length+1) cap)).heap[b]? = w'.heap[b]?:=fun b dW=>heap_setCell_other w' (a_ bO 0) b _ (by show b≠bO;omega);by_cases e:j<k
  ·rw[xG (by rw[h.len];exact e)];refine((h.ins j e).same (fun b dW=>?_)).mono (fun b dW=>⟨dW.1,by simp;have:=dW.2.1;omega,fun e2=>?_⟩)
   ·rw[U4 b dW.1,v9 b (by have:=dW.2.1;omega) dW.2.2,hb.block b dW.2.1]
   ·injection e2 with e2;have e2:g=b:=e2;rcases hw with e3 | e3
    ·exact dW.2.2 (by rw[e3,e2])
    ·have h1:=dW.2.1;simp at e3;omega
  ·have e':j=q.length:=by rw[h.len];omega
   rw[e',yh];have Ys:∀ b,W.heap.size<=b->vP.ownBlock≠some b:=fun b dW e=>by have:=(Op b e).2;omega
   refine(hi.same (fun b dW=>?_)).mono (fun b dW=>⟨by have:=dW.1;omega,by simp;have:=dW.2;omega,fun e2=>?_⟩)
   ·rw[U4 b (by have:=dW.1;omega),v9 b dW.2 (Ys b dW.1)]
   ·injection e2 with e2;have e2:g=b:=e2;rcases hw with e3 | e3
    ·exact Ys b dW.1 (by rw[e3,e2])
    ·have h1:=dW.2;simp at e3;omega
 ·exact(h.old.trans ((hb.mono (by omega)).trans cZ)).setCell n_ _
theorem TQ.done {l:List ak}{W2 W:World}{bO:Nat}{a:o_}{n c:Nat}{q:List yk}(h:TQ l W2 bO l.length (.slice a n c) q W)(dZ:dO l 0 0 0)(hl:l.length<=1048576):n=(q.map Prod.fst).length/\iE l (q.map Prod.fst)/\ao W (fun b=>bO+1<=b/\b<W.heap.size) a (q.map Prod.fst):=by
 have hq:∀ j,am (q.map Prod.fst) j=(Ig q j).1:=fun j=>by
  unfold am Ig;rw[List.getElem?_map];cases q[j]?<;>rfl
 have aP:(q.map Prod.fst).length=l.length:=by rw[List.length_map,h.len]
 refine⟨?_,.inl ⟨dZ,aP,fun p hp=>by rw[hq];exact h.tid p hp⟩,by omega,fun h0=>?_⟩
 ·obtain⟨a',c',e⟩:=h.own.lenV;injection e with _ e2 _;rw[List.length_map,e2]
 ·obtain⟨g,cap,e,hb,hg,_,hc⟩:=h.own.at (fun _=>rfl) yk.z (by rw[List.length_map]at h0;exact h0);injection e with e1 _ _;refine⟨g,0,e1,⟨hb,hg⟩,fun j hj=>?_⟩;have qC:j<l.length:=by omega
  have hjq:j<q.length:=by rw[h.len];exact qC
  have hI:=(h.ins j qC).mono (S':=fun b=>bO+1<=b/\b<W.heap.size) (fun b hb=>⟨hb.1,hb.2.1⟩);have Or:=hc j hjq;rw[Nat.zero_add];have e0:(q.map Prod.fst)[j]?.getD ak.z=(Ig q j).1:=hq j;rw[e0];exact { names:=h.small j qC,name:=Or 0 (by omega),line:=Or 1 (by omega),params:=Or 2 (by omega),rest:=Or 3 (by omega),regs:=Or 4 (by omega),ups:=⟨_,_,Or 5 (by omega),hI.h5⟩,consts:=⟨_,_,Or 6 (by omega),hI.h6⟩,ins:=⟨_,_,Or 7 (by omega),hI.h7⟩,named:=⟨_,_,Or 8 (by omega),hI.h8⟩ }
structure Tb (wa:World)(bG B3:Nat)(S:Nat->Prop)(FC GC:Nat->Value)(x y:ak)(a5 a6 a7 a8:o_)(W:World):Prop where
 base:b_ wa W
 fb:W.rowIs wa.heap.size 43 9 FC
 gb:W.rowIs bG 43 9 GC
 s5:dH W S a5 x.ups
 s6:cQ W S a6 x.consts
 s7:bQ W (fun b=>b<B3) a7 y.ins
 s8:dc W (fun b=>b<B3) a8 y.named
theorem Tb.keep {wa:World}{bG B3:Nat}{S:Nat->Prop}{FC GC:Nat->Value}{x y:ak}{a5 a6 a7 a8:o_}{W W':World}{B:Nat}(h:Tb wa bG B3 S FC GC x y a5 a6 a7 a8 W)(hS:∀ b,S b->b<B3)(h1:wa.heap.size<B3)(h2:bG<B3)(hB:B3<=B)(hb:Below B W W'):Tb wa bG B3 S FC GC x y a5 a6 a7 a8 W':=
 ⟨h.base.trans (hb.mono (by omega)),h.fb.of_block (hb.block _ (by omega)),h.gb.of_block (hb.block _ (by omega)),h.s5.keep hb (fun b k=>l_ (hS b k) hB),h.s6.keep hb (fun b k=>l_ (hS b k) hB),h.s7.keep hb (fun b k=>l_ k hB),h.s8.keep hb (fun b k=>l_ k hB)⟩
def Jz (B3 B:Nat)(b:Nat):Prop:=B3<=b/\b<B
attribute [local go_sem] cp
theorem G8 (w:World)(v:Value)(t:TypeId):(w.alloc (.cells #[v] t)).rowIs w.heap.size t 1 (fun _=>v):=
 World.rowIs_alloc w #[v] t (fun _=>v) (fun i hi=>by
  have e:i=0:=by simpa using hi
  aj e
  rfl)
theorem vx (a:o_)(l:List ak)(c:Nat)(S:Nat->Prop)(w:World)(hs:ao w S a l)(hB:∀ b,S b->b<w.heap.size)(hl:aI l<=1048576) :
  c_ 5 #[.agg #[.slice a l.length c]] w fun e w'=>∃ a' c' l',e=.returned (.agg #[.slice a' l'.length c'])/\iE l l'/\ao w' (jk w.heap.size w') a' l'/\b_ w w':=by
 have py:l.length<=1048576:=by unfold aI at hl;omega
 have hn:=hs.1;have dF:∀ o o',b_ w ((w.alloc o).alloc o'):=fun o o'=>(r_.alloc n_ o).alloc (by simp) o';have CC:Hid (∀ o o',c_ 12 #[.agg #[.slice a l.length c]] ((w.alloc o).alloc o') fun e w'=>∃ x f n,e=.returned (.agg #[i_ x,i_ f,i_ n])/\dO l x f n/\Below ((w.alloc o).alloc o').heap.size ((w.alloc o).alloc o') w'):=fun o o'=>pi a l c S _ (hs.keep (dF o o') hB) (fun b h=>l_ (hB b h) (dF o o').size) hl;have qH:Hid (∀ W,b_ w W->ao W S a l):=fun W hW=>hs.keep hW hB;have gW:=af hB;have Hj:Hid (∀ k,k<l.length->(am l k).ups.length<=1048576/\(am l k).consts.length<=1048576/\(am l k).named.length<=1048576):=fun k hk=>by
  have h1:=dJ dx l k ak.z hk;have h2:=gw dx l (k+1);unfold aI at hl;unfold am;generalize l[k]?.getD ak.z=fd at *;have h3:dx fd=fd.name.size+fd.ups.length+fq fd.consts+fd.ins.length+iq fd.named:=rfl;have h4:fq fd.consts=fd.consts.length+aS mE fd.consts:=rfl;have h5:iq fd.named=fd.named.length+aS mB fd.named:=rfl;refine⟨?_,?_,?_⟩<;>omega
 have dR:=af dF;clear hs hB dF hl;go_enter Tryz.func5,Tryz.ntmps5;go_wp2_with fail
 refine(CC.out _ _).mono ?_;rintro e W1 ⟨x,f,n,rfl,fX,au⟩;have CX:Hid (∀ W,b_ W1 W->W.rowIs w.heap.size 28 1 (fun _=>.slice a l.length c)):=fun W hW=>by
  have r0:=G8 w (.slice a l.length c) 28;exact((r0.alloc _).of_block (au.block _ (by simp;omega))).of_block (hW.block _ (by have:=au.size;simp at this;omega))
 have RX:Hid (∀ W,b_ W1 W->W.rowIs (w.heap.size+1) 28 1 (fun _=>.slice none 0 0)):=fun W hW=>by
  have r0:=G8 (w.alloc (.cells #[.slice a l.length c] 28)) (.slice none 0 0) 28;rw[show(w.alloc (.cells #[.slice a l.length c] 28)).heap.size=w.heap.size+1 by simp]at r0;exact(r0.of_block (au.block _ (by simp))).of_block (hW.block _ (by have:=au.size;simp at this;omega))
 have Hk:w.heap.size+2<=W1.heap.size:=by have:=au.size;simpa using this
 have hsw:w.heap.size<W1.heap.size:=by omega
 have N0:w.heap.size+1<W1.heap.size:=by omega
 have dM:Hid (b_ w W1):=(dR.out _ _).trans (au.mono (by simp;omega));clear CC dR au;have k0:=(CX.out W1 r_).cell (i:=0) (by omega);have r0:=(RX.out W1 r_).cell (i:=0) (by omega);have z0:=(RX.out W1 r_).frozen 0;by_cases hx:x=0
 case neg=>
  have HNO:Hid (iE l []):=.inr ⟨fun h=>hx (ms fX h).1,rfl⟩;have qx:(x==0)=false:=by simpa using hx
  have qx':(x != 0)=true:=by simpa using hx
  clear fX CX RX;go_wp2_with fail
  refine bodyPost_ret (v:=.agg #[.slice none 0 0]) (by simp[results,Tryz.results5,go_sem,r0,N0]) rfl ⟨none,0,[],rfl,HNO.out,⟨by simp,fun h=>absurd h (by simp)⟩,?_⟩;exact(dM.out.setCell (Nat.le_succ _) _).alloc (by simp;omega) _
 aj hx
 have W7:Hid (dO l 0 0 0):=by
  show dO l 0 0 0;rcases fX with⟨_,h⟩ | ⟨_,h,_⟩ | ⟨h1,h2,h3,h4,h5⟩
  ·exact absurd rfl h
  ·exact absurd rfl h
  ·exact .inr (.inr ⟨h1,rfl,rfl,rfl,h5⟩)
 have Uj:Hid (da l 0 0 0):=by
  rcases W7.out with⟨_,h⟩ | ⟨h,_⟩ | ⟨h,_⟩
  ·exact absurd rfl h
  all_goals exact h
 clear fX r0 z0;go_wp2_with fail
 have HQ0:Hid (TQ l ((W1.alloc (.cells #[i_ 0,i_ f,i_ n] 36)).alloc (.cells #[.slice none 0 0] 28)) (W1.heap.size+1) 0 (.slice none 0 0) [] ((W1.alloc (.cells #[i_ 0,i_ f,i_ n] 36)).alloc (.cells #[.slice none 0 0] 28))):=by
  refine⟨rfl,fun j hj=>absurd hj (Nat.not_lt_zero _),fun j hj=>absurd hj (Nat.not_lt_zero _),?_,World.ownsRow_nil _ _ _ _,fun j hj=>absurd hj (Nat.not_lt_zero _),r_⟩;have r0:=G8 (W1.alloc (.cells #[i_ 0,i_ f,i_ n] 36)) (.slice none 0 0) 28
  rwa [show(W1.alloc (.cells #[i_ 0,i_ f,i_ n] 36)).heap.size=W1.heap.size+1 by simp]at r0
 have fR:Hid (∀ W,Below (W1.heap.size+1) ((W1.alloc (.cells #[i_ 0,i_ f,i_ n] 36)).alloc (.cells #[.slice none 0 0] 28)) W->b_ W1 W):=fun W hW=>((r_.alloc n_ _).alloc (by simp) _).trans (hW.mono (by omega));have acf:w.heap.size+2<W1.heap.size+1:=by omega
 clear k0;generalize ((W1.alloc (.cells #[i_ 0,i_ f,i_ n] 36)).alloc (.cells #[.slice none 0 0] 28))=W2 at *;generalize hbOe:W1.heap.size+1=bO at *;go_loopg [29] l.length (fun gg i W=>∃(k:Nat) (vP:Value) (q:List yk),k+gg=l.length/\i=i_ k/\Hid (TQ l W2 bO k vP q W))
 case atStart=>exact⟨0,_,[],by omega,rfl,HQ0⟩
 case round=>
  clear HQ0;obtain⟨k,vP,q,hk,rfl,hQ⟩:=hrel;have zc:=fR.out wr hQ.out.old;have mn:b_ w wr:=dM.out.trans (zc.mono (by omega));have cZ:bO<wr.heap.size:=hQ.out.box.lt;by_cases ax:k<l.length
  ·obtain⟨b,off,ha,hb,aE⟩:=(qH.out wr mn).2 (by omega)
   aj ha
   have T9:b<wr.heap.size:=by have:=gW.out b hb;omega
   have N:aU wr S b (off+k * 9) (am l k):=aE k ax;have jh:=td Uj.out ax;obtain⟨x,hx⟩:∃ x,am l k=x:=⟨_,rfl⟩;rw[hx]at N jh;have HX:=af hx;obtain⟨a5,c5,h5,H5⟩:=N.ups;obtain⟨a6,c6,h6,H6⟩:=N.consts;obtain⟨a7,c7,h7,H7⟩:=N.ins;obtain⟨a8,c8,h8,H8⟩:=N.named;have d0:=N.name;have d1:=N.line;have d2:=N.params;have d3:=N.rest;have d4:=N.regs;have HNZ:=af N.names;have OO:=(Hj.out k ax).2.2;rw[hx]at OO;have TM:Hid (∀ b,S b->b<wr.heap.size):=fun b h=>by have:=gW.out b h;have:=mn.size;omega
   have Pf:Hid (x.ups.length<=1048576/\x.consts.length<=1048576/\x.named.length<=1048576):=by have:=Hj.out k ax;rwa [hx]at this
   have FT:Hid (∀ o,c_ 13 #[.agg #[.string x.name,i_ x.line,i_ x.params,.bool x.rest,i_ x.regs,.slice a5 x.ups.length c5,.slice a6 x.consts.length c6,.slice a7 x.ins.length c7,.slice a8 x.named.length c8]] (wr.alloc o) (Pa x a5 a6 c5 c6 (wr.alloc o))):=fun o=>Ct x a5 a6 a7 a8 c5 c6 c7 c8 S (wr.alloc o) (fun b h=>by have:=TM.out b h;simp;omega) jh (H7.keep (r_.alloc n_ o) TM.out) (H8.keep (r_.alloc n_ o) TM.out) OO;have SRC:Hid (∀ W,b_ wr W->dH W S a5 x.ups/\cQ W S a6 x.consts):=fun W hW=>⟨H5.keep hW TM.out,H6.keep hW TM.out⟩;have VF:=jh.few;have HZV:Hid (∀ j,j<x.consts.length->(x.consts[j]?.getD cS.z).str.size<=9223372036854775807):=fun j hj=>by
    obtain⟨_,_,_,_,h⟩:=H6.2 (by omega);exact(h j hj).strs
   clear N H5 H6 H7 H8 aE jh hx;go_wp2_with fail
   refine(FT.out _).mono ?_;rintro e Wt ⟨y,oJ,sq,pq,sn,rfl,ht,BC,NW,yM⟩;have lu:wr.heap.size+1<=Wt.heap.size:=by have:=yM.size;simpa using this
   have hst1:wr.heap.size<Wt.heap.size:=by omega
   have HT0:Hid (Tb wr Wt.heap.size (Wt.heap.size+1) S (fun j=>(#[.string x.name,i_ x.line,i_ x.params,.bool x.rest,i_ x.regs,.slice a5 x.ups.length c5,.slice a6 x.consts.length c6,.slice a7 x.ins.length c7,.slice a8 x.named.length c8]:Array Value)[j]?.getD (.bool false)) (fun j=>(#[.string x.name,i_ x.line,i_ x.params,.bool x.rest,i_ x.regs,.slice a5 x.ups.length c5,.slice a6 x.consts.length c6,.slice oJ y.ins.length sq,.slice pq y.named.length sn]:Array Value)[j]?.getD (.bool false)) x y a5 a6 oJ pq (Wt.alloc (.cells #[.string x.name,i_ x.line,i_ x.params,.bool x.rest,i_ x.regs,.slice a5 x.ups.length c5,.slice a6 x.consts.length c6,.slice oJ y.ins.length sq,.slice pq y.named.length sn] 43))):=by
    have hba:∀ o,b_ wr (wr.alloc o):=fun o=>r_.alloc n_ o;have bY:b_ wr (Wt.alloc (.cells #[.string x.name,i_ x.line,i_ x.params,.bool x.rest,i_ x.regs,.slice a5 x.ups.length c5,.slice a6 x.consts.length c6,.slice oJ y.ins.length sq,.slice pq y.named.length sn] 43)):=((hba _).trans (yM.mono (by simp))).alloc (by omega) _;have lx:b_ Wt (Wt.alloc (.cells #[.string x.name,i_ x.line,i_ x.params,.bool x.rest,i_ x.regs,.slice a5 x.ups.length c5,.slice a6 x.consts.length c6,.slice oJ y.ins.length sq,.slice pq y.named.length sn] 43)):=r_.alloc n_ _;have r0:=World.rowIs_alloc wr #[.string x.name,i_ x.line,i_ x.params,.bool x.rest,i_ x.regs,.slice a5 x.ups.length c5,.slice a6 x.consts.length c6,.slice a7 x.ins.length c7,.slice a8 x.named.length c8] 43 (fun j=>(#[.string x.name,i_ x.line,i_ x.params,.bool x.rest,i_ x.regs,.slice a5 x.ups.length c5,.slice a6 x.consts.length c6,.slice a7 x.ins.length c7,.slice a8 x.named.length c8]:Array Value)[j]?.getD (.bool false)) (fun i hi=>by rw[Array.getElem?_eq_getElem hi];rfl);have r1:=World.rowIs_alloc Wt #[.string x.name,i_ x.line,i_ x.params,.bool x.rest,i_ x.regs,.slice a5 x.ups.length c5,.slice a6 x.consts.length c6,.slice oJ y.ins.length sq,.slice pq y.named.length sn] 43 (fun j=>(#[.string x.name,i_ x.line,i_ x.params,.bool x.rest,i_ x.regs,.slice a5 x.ups.length c5,.slice a6 x.consts.length c6,.slice oJ y.ins.length sq,.slice pq y.named.length sn]:Array Value)[j]?.getD (.bool false)) (fun i hi=>by rw[Array.getElem?_eq_getElem hi];rfl);exact⟨bY,(r0.of_block (yM.block _ (by simp))).alloc _,r1,(SRC.out _ bY).1,(SRC.out _ bY).2,(BC.keep lx (fun b h=>h)).mono (fun b h=>Nat.lt_succ_of_lt h),(NW.keep lx (fun b h=>h)).mono (fun b h=>Nat.lt_succ_of_lt h)⟩
   have f6:Wt.cell? (a_ wr.heap.size 5)=some (.slice a5 x.ups.length c5):=by
    rw[yM.cell (p:=(a_ wr.heap.size 5)) (by simp)];simp[go_sem]
   have OP:wr.heap.size<Wt.heap.size+1:=by omega
   have TO:Hid (∀ b,S b->b<Wt.heap.size+1):=fun b h=>by have:=TM.out b h;omega
   have HT:=af ht;have Ov:Wt.heap.size+1=(Wt.alloc (.cells #[.string x.name,i_ x.line,i_ x.params,.bool x.rest,i_ x.regs,.slice a5 x.ups.length c5,.slice a6 x.consts.length c6,.slice oJ y.ins.length sq,.slice pq y.named.length sn] 43)).heap.size:=by simp
   have X9:Hid (y.ins.length<=1048576):=by
    have h1:=(kg ht).1;show _<=_;omega
   have jO:Hid (y.named.length<=1048576):=by
    have h1:=(kg ht).2;show _<=_;rw[h1];exact OO
   clear yM BC NW ht FT OO VF;go_wp2_with fail
   clear d0 d1 d2 d3 d4 h5 h6 h7 h8 T9 hb;generalize Wt.alloc (.cells #[.string x.name,i_ x.line,i_ x.params,.bool x.rest,i_ x.regs,.slice a5 x.ups.length c5,.slice a6 x.consts.length c6,.slice oJ y.ins.length sq,.slice pq y.named.length sn] 43)=W3 at *;generalize Wt.heap.size=bG at *;generalize wr=wa at *;obtain⟨Bz,hBz⟩:∃ Bz,Bz=bG+1:=⟨_,rfl⟩;rw[<-hBz]at HT0 TO Ov;have abl:bG<Bz:=by omega
   have Zd:wa.heap.size<Bz:=by omega
   obtain⟨B1,Xl⟩:∃ B1,B1=Bz:=⟨_,rfl⟩;rw[<-Xl]at Ov;have Y9:Bz<=B1:=by omega
   obtain⟨D1,Vk,DK1,Kx⟩:∃ D1:World->Prop,Hid (D1 W3)/\Hid (∀ W W',Below B1 W W'->D1 W->D1 W')/\Hid (∀ W,D1 W->(Tb wa bG Bz S (fun j=>(#[.string x.name,i_ x.line,i_ x.params,.bool x.rest,i_ x.regs,.slice a5 x.ups.length c5,.slice a6 x.consts.length c6,.slice a7 x.ins.length c7,.slice a8 x.named.length c8]:Array Value)[j]?.getD (.bool false)) (fun j=>(#[.string x.name,i_ x.line,i_ x.params,.bool x.rest,i_ x.regs,.slice a5 x.ups.length c5,.slice a6 x.consts.length c6,.slice oJ y.ins.length sq,.slice pq y.named.length sn]:Array Value)[j]?.getD (.bool false)) x y a5 a6 oJ pq) W):=
    ⟨fun W=>(Tb wa bG Bz S (fun j=>(#[.string x.name,i_ x.line,i_ x.params,.bool x.rest,i_ x.regs,.slice a5 x.ups.length c5,.slice a6 x.consts.length c6,.slice a7 x.ins.length c7,.slice a8 x.named.length c8]:Array Value)[j]?.getD (.bool false)) (fun j=>(#[.string x.name,i_ x.line,i_ x.params,.bool x.rest,i_ x.regs,.slice a5 x.ups.length c5,.slice a6 x.consts.length c6,.slice oJ y.ins.length sq,.slice pq y.named.length sn]:Array Value)[j]?.getD (.bool false)) x y a5 a6 oJ pq) W,HT0,fun W W' hb h=>h.keep TO.out Zd abl Y9 hb,fun W h=>h⟩
   clear HT0 lu hBz Xl;obtain⟨i0,hi,dE,cT,dB⟩:=aN xH;go_loopg [8,38] x.ups.length (fun gg v i W=>∃(j:Nat),j+gg=x.ups.length/\i=i_ j/\Hid (JN W B1 v (tk x.ups j))/\Hid (D1 W)/\B1<=W.heap.size)
   case atStart=>exact⟨0,by omega,rfl,World.ownsRow_nil _ _ _ _,Vk,Nat.le_of_eq Ov⟩
   case round=>
    clear Vk Ov f6 OP;obtain⟨j,hj,rfl,hO,hD,Lc⟩:=hrel;have Q9:=Pf.out.1;by_cases ax:j<x.ups.length
    ·obtain⟨b',jM,e',dW,uW⟩:=(Kx.out wr hD.out).s5.2 (by omega)
     aj e'
     have NA:b'<wr.heap.size:=by have:=TO.out b' dW;omega
     have N:=uW j ax;obtain⟨nn,qF⟩:∃ nn,x.ups[j]?.getD (false,0)=nn:=⟨_,rfl⟩;rw[qF]at N;have HA:Hid (tk x.ups (j+1)=tk x.ups j++[nn]):=by
      show _=_;rw[sX x.ups (false,0) ax,qF]
     have tp:=af (xT x.ups (Nat.le_of_lt ax));clear qF uW;obtain⟨n1,n2⟩:=nn;have c0:=N.1;have c1:=N.2
     try dsimp only at c0 c1
     have OW:Hid (∀ o o',JN ((wr.alloc o).alloc o') B1 u8 (tk x.ups j)):=fun o o'=>World.ownsRow.alloc (World.ownsRow.alloc hO.out o) o';have BW:Hid (∀ o o',Below B1 wr ((wr.alloc o).alloc o')):=fun o o'=>(r_.alloc Lc o).alloc (by simp;omega) o';clear N;go_wp2_with (first
      | (at_builtin;refine wpList_append_own _ rfl _ _ 38 rfl B1 46 i0 (.agg #[.bool false,i_ 0]) 2 16 Tryz.underlying38 hi dE cT dB rfl (by decide) _ _ _ rfl (OW.out _ _) (a_ (wr.heap.size+1) 0) 1 1 [.bool n1,i_ n2] rfl rfl ?c1 ?c2 ?c3 ?c4 ?c5 ?_)
      | go_in)
     case c1=>intro j u hj;rcases j with _ | _ | _<;>simp at hj<;>aj hj<;>simp[Addr.add,go_sem]
     case c2=>intro u hu;simp at hu;rcases hu with rfl | rfl<;>rfl
     case c3=>rw[tp.out];have:=Pf.out.1;unfold maxLen;omega
     case c4=>rw[tp.out];have:=Pf.out.1;omega
     case c5=>simp;omega
     intro v' w1 dj hgrow _;have R1:Hid (JN w1 B1 v' (tk x.ups (j+1))):=by
      show JN _ _ _ _;rw[HA.out];exact dt.push dj
     have su:Hid (Below B1 wr w1):=Below.grown (BW.out _ _) hgrow (by simp;omega) (fun j hj=>(dt.lt hO.out j hj).1);have R2:Hid (D1 w1):=DK1.out _ _ su.out hD.out;have R3:B1<=w1.heap.size:=by have:=su.out.size;omega
     clear dj hgrow su HA tp OW BW hO hD c0 c1;go_wp2_with fail
     go_roundg (x.ups.length-(j+1))
     case measure=>omega
     case rel=>exact⟨j+1,by omega,by go_num,R1,R2,R3⟩
    ·have RQ:j=x.ups.length:=by omega
     aj RQ
     rw[ym]at hO;clear hi dE cT dB ax hj Q9;obtain⟨OI,TZ,ev⟩:=hO.out.lenV
     aj ev
     have UR:Hid (dH wr (Jz Bz wr.heap.size) OI x.ups):=(hO.out.ups (Pf.out.1)).mono (fun b h=>⟨by have:=h.1;omega,h.2⟩);have f6:=(Kx.out wr hD.out).fb.cell (i:=6) (by omega);simp at f6;have OP:wa.heap.size<wr.heap.size:=(Kx.out wr hD.out).fb.lt;obtain⟨B2,Sg⟩:∃ B,B=wr.heap.size:=⟨_,rfl⟩;rw[<-Sg]at UR;have hBz2:Bz<=B2:=by omega
     have abh:B1<=B2:=by omega
     obtain⟨D2,WY,DK2,NU⟩:∃ DX:World->Prop,Hid (DX wr)/\Hid (∀ W W',Below B2 W W'->DX W->DX W')/\Hid (∀ W,DX W->D1 W/\dH W (Jz Bz B2) OI x.ups):=
      ⟨fun W=>D1 W/\dH W (Jz Bz B2) OI x.ups,⟨hD.out,UR.out⟩,fun W W' hb h=>⟨DK1.out W W' (hb.mono abh) h.1,h.2.keep hb (fun b k=>k.2)⟩,fun W h=>h⟩
     clear hD hO UR Lc;go_wp2_with fail
     obtain⟨i0,hi,dE,cT,dB⟩:=aN tF;go_loopg [11,50] x.consts.length (fun gg v i W=>∃(j:Nat),j+gg=x.consts.length/\i=i_ j/\Hid (IM W B2 v (tk x.consts j))/\Hid (D2 W)/\B2<=W.heap.size)
     case atStart=>exact⟨0,by omega,rfl,World.ownsRow_nil _ _ _ _,WY,Nat.le_of_eq Sg⟩
     case round=>
      clear WY Sg f6 OP;obtain⟨j,hj,rfl,hO,hD,Lc⟩:=hrel;have Q9:=Pf.out.2.1;by_cases ax:j<x.consts.length
      ·obtain⟨b',jM,e',dW,uW⟩:=(Kx.out wr (NU.out wr hD.out).1).s6.2 (by omega)
       aj e'
       have NA:b'<wr.heap.size:=by have:=TO.out b' dW;omega
       have N:=uW j ax;obtain⟨nn,qF⟩:∃ nn,x.consts[j]?.getD cS.z=nn:=⟨_,rfl⟩;rw[qF]at N;have HA:Hid (tk x.consts (j+1)=tk x.consts j++[nn]):=by
        show _=_;rw[sX x.consts cS.z ax,qF]
       have tp:=af (xT x.consts (Nat.le_of_lt ax));clear qF uW;obtain⟨n1,n2,n3,n4,n5⟩:=nn;have c0:=N.kind;have c1:=N.num;have c2:=N.flt;have c3:=N.str;have c4:=N.ref
       try dsimp only at c0 c1 c2 c3 c4
       have OW:Hid (∀ o o',IM ((wr.alloc o).alloc o') B2 u11 (tk x.consts j)):=fun o o'=>World.ownsRow.alloc (World.ownsRow.alloc hO.out o) o';have BW:Hid (∀ o o',Below B2 wr ((wr.alloc o).alloc o')):=fun o o'=>(r_.alloc Lc o).alloc (by simp;omega) o';clear N;go_wp2_with (first
        | (at_builtin;refine wpList_append_own _ rfl _ _ 39 rfl B2 49 i0 (.agg #[i_ 0,i_ 0,.float .f64 0,.string ByteArray.empty,i_ 0]) 5 48 Tryz.underlying39 hi dE cT dB rfl (by decide) _ _ _ rfl (OW.out _ _) (a_ (wr.heap.size+1) 0) 1 1 [i_ n1,i_ n2,.float .f64 n3,.string n4,i_ n5] rfl rfl ?c1 ?c2 ?c3 ?c4 ?c5 ?_)
        | go_in)
       case c1=>intro j u hj;rcases j with _ | _ | _ | _ | _ | _<;>simp at hj<;>aj hj<;>simp[Addr.add,go_sem]
       case c2=>intro u hu;simp at hu;rcases hu with rfl | rfl | rfl | rfl | rfl<;>rfl
       case c3=>rw[tp.out];have:=Pf.out.2.1;unfold maxLen;omega
       case c4=>rw[tp.out];have:=Pf.out.2.1;omega
       case c5=>simp;omega
       intro v' w1 dj hgrow _;have R1:Hid (IM w1 B2 v' (tk x.consts (j+1))):=by
        show IM _ _ _ _;rw[HA.out];exact dt.push dj
       have su:Hid (Below B2 wr w1):=Below.grown (BW.out _ _) hgrow (by simp;omega) (fun j hj=>(dt.lt hO.out j hj).1);have R2:Hid (D2 w1):=DK2.out _ _ su.out hD.out;have R3:B2<=w1.heap.size:=by have:=su.out.size;omega
       clear dj hgrow su HA tp OW BW hO hD c0 c1 c2 c3 c4;go_wp2_with fail
       go_roundg (x.consts.length-(j+1))
       case measure=>omega
       case rel=>exact⟨j+1,by omega,by go_num,R1,R2,R3⟩
      ·have RQ:j=x.consts.length:=by omega
       aj RQ
       rw[ym]at hO;clear hi dE cT dB ax hj Q9;obtain⟨Sd,XU,ev⟩:=hO.out.lenV
       aj ev
       have UR:Hid (cQ wr (Jz Bz wr.heap.size) Sd x.consts):=(hO.out.vals (Pf.out.2.1) HZV.out).mono (fun b h=>⟨by have:=h.1;omega,h.2⟩);have f6:=(Kx.out wr (NU.out wr hD.out).1).gb.cell (i:=7) (by omega);simp at f6;have OP:bG<wr.heap.size:=(Kx.out wr (NU.out wr hD.out).1).gb.lt;obtain⟨B3,S4⟩:∃ B,B=wr.heap.size:=⟨_,rfl⟩;rw[<-S4]at UR;have hBz3:Bz<=B3:=by omega
       have aaR:B2<=B3:=by omega
       obtain⟨D3,V7,DK3,Ti⟩:∃ DX:World->Prop,Hid (DX wr)/\Hid (∀ W W',Below B3 W W'->DX W->DX W')/\Hid (∀ W,DX W->D2 W/\cQ W (Jz Bz B3) Sd x.consts):=
        ⟨fun W=>D2 W/\cQ W (Jz Bz B3) Sd x.consts,⟨hD.out,UR.out⟩,fun W W' hb h=>⟨DK2.out W W' (hb.mono aaR) h.1,h.2.keep hb (fun b k=>k.2)⟩,fun W h=>h⟩
       clear hD hO UR Lc;go_wp2_with fail
       obtain⟨i0,hi,dE,cT,dB⟩:=aN kP;go_loopg [14,62] y.ins.length (fun gg v i W=>∃(j:Nat),j+gg=y.ins.length/\i=i_ j/\Hid (gP W B3 v (tk y.ins j))/\Hid (D3 W)/\B3<=W.heap.size)
       case atStart=>exact⟨0,by omega,rfl,World.ownsRow_nil _ _ _ _,V7,Nat.le_of_eq S4⟩
       case round=>
        clear V7 S4 f6 OP;obtain⟨j,hj,rfl,hO,hD,Lc⟩:=hrel;have Q9:=X9.out;by_cases ax:j<y.ins.length
        ·obtain⟨b',jM,e',dW,uW⟩:=(Kx.out wr (NU.out wr (Ti.out wr hD.out).1).1).s7.2 (by omega)
         aj e'
         have NA:b'<wr.heap.size:=by have:b'<Bz:=dW;omega
         have N:=uW j ax;obtain⟨nn,qF⟩:∃ nn,y.ins[j]?.getD aA.z=nn:=⟨_,rfl⟩;rw[qF]at N;have HA:Hid (tk y.ins (j+1)=tk y.ins j++[nn]):=by
          show _=_;rw[sX y.ins aA.z ax,qF]
         have tp:=af (xT y.ins (Nat.le_of_lt ax));clear qF uW;obtain⟨n1,n2,n3,n4,n5⟩:=nn;have c0:=N.op;have c1:=N.fa;have c2:=N.fb;have c3:=N.fc;have c4:=N.fd
         try dsimp only at c0 c1 c2 c3 c4
         have OW:Hid (∀ o o',gP ((wr.alloc o).alloc o') B3 u14 (tk y.ins j)):=fun o o'=>World.ownsRow.alloc (World.ownsRow.alloc hO.out o) o';have BW:Hid (∀ o o',Below B3 wr ((wr.alloc o).alloc o')):=fun o o'=>(r_.alloc Lc o).alloc (by simp;omega) o';clear N;go_wp2_with (first
          | (at_builtin;refine wpList_append_own _ rfl _ _ 40 rfl B3 51 i0 (.agg #[i_ 0,i_ 0,i_ 0,i_ 0,i_ 0]) 5 40 Tryz.underlying40 hi dE cT dB rfl (by decide) _ _ _ rfl (OW.out _ _) (a_ (wr.heap.size+1) 0) 1 1 [i_ n1,i_ n2,i_ n3,i_ n4,i_ n5] rfl rfl ?c1 ?c2 ?c3 ?c4 ?c5 ?_)
          | go_in)
         case c1=>intro j u hj;rcases j with _ | _ | _ | _ | _ | _<;>simp at hj<;>aj hj<;>simp[Addr.add,go_sem]
         case c2=>intro u hu;simp at hu;rcases hu with rfl | rfl | rfl | rfl | rfl<;>rfl
         case c3=>rw[tp.out];have:=X9.out;unfold maxLen;omega
         case c4=>rw[tp.out];have:=X9.out;omega
         case c5=>simp;omega
         intro v' w1 dj hgrow _;have R1:Hid (gP w1 B3 v' (tk y.ins (j+1))):=by
          show gP _ _ _ _;rw[HA.out];exact dt.push dj
         have su:Hid (Below B3 wr w1):=Below.grown (BW.out _ _) hgrow (by simp;omega) (fun j hj=>(dt.lt hO.out j hj).1);have R2:Hid (D3 w1):=DK3.out _ _ su.out hD.out;have R3:B3<=w1.heap.size:=by have:=su.out.size;omega
         clear dj hgrow su HA tp OW BW hO hD c0 c1 c2 c3 c4;go_wp2_with fail
         go_roundg (y.ins.length-(j+1))
         case measure=>omega
         case rel=>exact⟨j+1,by omega,by go_num,R1,R2,R3⟩
        ·have RQ:j=y.ins.length:=by omega
         aj RQ
         rw[ym]at hO;clear hi dE cT dB ax hj Q9;obtain⟨QU,Yt,ev⟩:=hO.out.lenV
         aj ev
         have UR:Hid (bQ wr (Jz Bz wr.heap.size) QU y.ins):=(hO.out.inss (X9.out)).mono (fun b h=>⟨by have:=h.1;omega,h.2⟩);have f6:=(Kx.out wr (NU.out wr (Ti.out wr hD.out).1).1).gb.cell (i:=8) (by omega);simp at f6;have OP:bG<wr.heap.size:=(Kx.out wr (NU.out wr (Ti.out wr hD.out).1).1).gb.lt;obtain⟨B4,Sk⟩:∃ B,B=wr.heap.size:=⟨_,rfl⟩;rw[<-Sk]at UR;have hBz4:Bz<=B4:=by omega
         have abg:B3<=B4:=by omega
         obtain⟨D4,Vw,DK4,DU4⟩:∃ DX:World->Prop,Hid (DX wr)/\Hid (∀ W W',Below B4 W W'->DX W->DX W')/\Hid (∀ W,DX W->D3 W/\bQ W (Jz Bz B4) QU y.ins):=
          ⟨fun W=>D3 W/\bQ W (Jz Bz B4) QU y.ins,⟨hD.out,UR.out⟩,fun W W' hb h=>⟨DK3.out W W' (hb.mono abg) h.1,h.2.keep hb (fun b k=>k.2)⟩,fun W h=>h⟩
         clear hD hO UR Lc;go_wp2_with fail
         obtain⟨i0,hi,dE,cT,dB⟩:=aN qj;go_loopg [17,74] y.named.length (fun gg v i W=>∃(j:Nat),j+gg=y.named.length/\i=i_ j/\Hid (sx W B4 v (tk y.named j))/\Hid (D4 W)/\B4<=W.heap.size)
         case atStart=>exact⟨0,by omega,rfl,World.ownsRow_nil _ _ _ _,Vw,Nat.le_of_eq Sk⟩
         case round=>
          clear Vw Sk f6 OP;obtain⟨j,hj,rfl,hO,hD,Lc⟩:=hrel;have Q9:=jO.out;by_cases ax:j<y.named.length
          ·obtain⟨b',jM,e',dW,uW⟩:=(Kx.out wr (NU.out wr (Ti.out wr (DU4.out wr hD.out).1).1).1).s8.2 (by omega)
           aj e'
           have NA:b'<wr.heap.size:=by have:b'<Bz:=dW;omega
           have N:=uW j ax;obtain⟨nn,qF⟩:∃ nn,y.named[j]?.getD bE.z=nn:=⟨_,rfl⟩;rw[qF]at N;have HA:Hid (tk y.named (j+1)=tk y.named j++[nn]):=by
            show _=_;rw[sX y.named bE.z ax,qF]
           have tp:=af (xT y.named (Nat.le_of_lt ax));clear qF uW;obtain⟨n1,n2,n3,n4⟩:=nn;have c0:=N.name;have c1:=N.reg;have c2:=N.fro;have c3:=N.til
           try dsimp only at c0 c1 c2 c3
           have OW:Hid (∀ o o',sx ((wr.alloc o).alloc o') B4 u17 (tk y.named j)):=fun o o'=>World.ownsRow.alloc (World.ownsRow.alloc hO.out o) o';have BW:Hid (∀ o o',Below B4 wr ((wr.alloc o).alloc o')):=fun o o'=>(r_.alloc Lc o).alloc (by simp;omega) o';clear N;go_wp2_with (first
            | (at_builtin;refine wpList_append_own _ rfl _ _ 41 rfl B4 53 i0 (.agg #[.string ByteArray.empty,i_ 0,i_ 0,i_ 0]) 4 40 Tryz.underlying41 hi dE cT dB rfl (by decide) _ _ _ rfl (OW.out _ _) (a_ (wr.heap.size+1) 0) 1 1 [.string n1,i_ n2,i_ n3,i_ n4] rfl rfl ?c1 ?c2 ?c3 ?c4 ?c5 ?_)
            | go_in)
           case c1=>intro j u hj;rcases j with _ | _ | _ | _ | _<;>simp at hj<;>aj hj<;>simp[Addr.add,go_sem]
           case c2=>intro u hu;simp at hu;rcases hu with rfl | rfl | rfl | rfl<;>rfl
           case c3=>rw[tp.out];have:=jO.out;unfold maxLen;omega
           case c4=>rw[tp.out];have:=jO.out;omega
           case c5=>simp;omega
           intro v' w1 dj hgrow _;have R1:Hid (sx w1 B4 v' (tk y.named (j+1))):=by
            show sx _ _ _ _;rw[HA.out];exact dt.push dj
           have su:Hid (Below B4 wr w1):=Below.grown (BW.out _ _) hgrow (by simp;omega) (fun j hj=>(dt.lt hO.out j hj).1);have R2:Hid (D4 w1):=DK4.out _ _ su.out hD.out;have R3:B4<=w1.heap.size:=by have:=su.out.size;omega
           clear dj hgrow su HA tp OW BW hO hD c0 c1 c2 c3;go_wp2_with fail
           go_roundg (y.named.length-(j+1))
           case measure=>omega
           case rel=>exact⟨j+1,by omega,by go_num,R1,R2,R3⟩
          ·have RQ:j=y.named.length:=by omega
           aj RQ
           rw[ym]at hO;clear hi dE cT dB ax hj Q9;obtain⟨XF,XD,ev⟩:=hO.out.lenV
           aj ev
           have G:=(Kx.out wr (NU.out wr (Ti.out wr (DU4.out wr hD.out).1).1).1);have d4:=DU4.out wr hD.out;have d3:=Ti.out wr d4.1;have d2:=NU.out wr d3.1;have LK:=kA HT.out;have HZN:∀ j,j<y.named.length->(y.named[j]?.getD bE.z).name.size<=9223372036854775807:=fun j hj=>by
            obtain⟨_,_,_,_,h⟩:=G.s8.2 (by omega);exact(h j hj).names
           have PIN:gF wr (Jz Bz wr.heap.size) ⟨OI,TZ,Sd,XU,QU,Yt,XF,XD⟩ y:=by
            refine⟨?_,?_,d4.2.mono (fun b h=>⟨h.1,by have:=h.2;omega⟩),(hO.out.nams jO.out HZN).mono (fun b h=>⟨by have:=h.1;omega,h.2⟩)⟩
            ·rw[LK.ups];exact d2.2.mono (fun b h=>⟨h.1,by have:=h.2;omega⟩)
            ·rw[LK.consts];exact d3.2.mono (fun b h=>⟨h.1,by have:=h.2;omega⟩)
           have Vt:∀ o,¬Jz Bz wr.heap.size ((a_ bG o):Addr).block:=fun o h=>by have:Bz<=bG:=h.1;omega
           have WX:Hid (∀ v5 v6 v7 v8,gF ((((wr.setCell (a_ bG 5) v5).setCell (a_ bG 6) v6).setCell (a_ bG 7) v7).setCell (a_ bG 8) v8) (fun b=>wa.heap.size<=b/\b<((((wr.setCell (a_ bG 5) v5).setCell (a_ bG 6) v6).setCell (a_ bG 7) v7).setCell (a_ bG 8) v8).heap.size) ⟨OI,TZ,Sd,XU,QU,Yt,XF,XD⟩ y):=fun v5 v6 v7 v8=>(PIN.same ((((cI.refl.setCell (Vt 5) v5).setCell (Vt 6) v6).setCell (Vt 7) v7).setCell (Vt 8) v8)).mono (fun b h=>⟨by have:=h.1;omega,by simp;exact h.2⟩);have Ya:wa.heap.size<=bG:=by omega
           have Yr:Hid (∀ v5 v6 v7 v8,b_ wa ((((wr.setCell (a_ bG 5) v5).setCell (a_ bG 6) v6).setCell (a_ bG 7) v7).setCell (a_ bG 8) v8)):=fun v5 v6 v7 v8=>(((G.base.setCell Ya v5).setCell Ya v6).setCell Ya v7).setCell Ya v8;obtain⟨Uo,U7,evP⟩:=hQ.out.own.lenV
           aj evP
           have OWQ:Hid (∀ v5 v6 v7 v8 o,QA (((((wr.setCell (a_ bG 5) v5).setCell (a_ bG 6) v6).setCell (a_ bG 7) v7).setCell (a_ bG 8) v8).alloc o) (bO+1) (.slice Uo q.length U7) q):=fun v5 v6 v7 v8 o=>World.ownsRow.alloc (dt.same hQ.out.own (fun b e=>(Yr.out v5 v6 v7 v8).block b (dt.lt hQ.out.own b e).2)) o;have U9:Hid (∀ v5 v6 v7 v8 o,(((((wr.setCell (a_ bG 5) v5).setCell (a_ bG 6) v6).setCell (a_ bG 7) v7).setCell (a_ bG 8) v8).alloc o).rowIs bO 28 1 (fun _=>.slice Uo q.length U7)):=fun v5 v6 v7 v8 o=>(hQ.out.box.of_block ((Yr.out v5 v6 v7 v8).block bO cZ)).alloc o;have o0:=(hQ.out.box.of_block (G.base.block bO cZ)).cell (i:=0) (by omega);have hbOw:bO<wr.heap.size:=by have:=G.base.size;omega
           have hbGw:bG<wr.heap.size:=G.gb.lt;have hObG:bO≠bG:=by omega
           have g0:=G.gb.cell (i:=0) (by omega);have g1:=G.gb.cell (i:=1) (by omega);have g2:=G.gb.cell (i:=2) (by omega);have g3:=G.gb.cell (i:=3) (by omega);have g4:=G.gb.cell (i:=4) (by omega);have g5:=G.gb.cell (i:=5) (by omega);have g6:=G.gb.cell (i:=6) (by omega);have g7:=G.gb.cell (i:=7) (by omega);have g8:=G.gb.cell (i:=8) (by omega);simp at g0 g1 g2 g3 g4 g5 g6 g7 g8;have z5:=G.gb.frozen 5;have z6:=G.gb.frozen 6;have z7:=G.gb.frozen 7;have z8:=G.gb.frozen 8;have HLK:=af LK;have fw:q.length<=1048576:=by rw[hQ.out.len];omega
           clear G d4 d3 d2 LK PIN HZN Vt hO hD Lc;obtain⟨i0,hi,dE,cT,dB⟩:=aN pe;go_wp2_with (first
            | (at_builtin;refine wpList_append_lies _ rfl _ _ 26 rfl (bO+1) 43 i0 (.agg #[.string ByteArray.empty,i_ 0,i_ 0,.bool false,i_ 0,.slice none 0 0,.slice none 0 0,.slice none 0 0,.slice none 0 0]) 9 144 Tryz.underlying26 hi dE cT dB rfl (by decide) _ _ _ rfl (OWQ.out _ _ _ _ _) (a_ wr.heap.size 0) 1 1 [.string x.name,i_ x.line,i_ x.params,.bool x.rest,i_ x.regs,.slice OI x.ups.length TZ,.slice Sd x.consts.length XU,.slice QU y.ins.length Yt,.slice XF y.named.length XD] rfl rfl ?c1 ?c2 (by decide) ?c3 ?c4 ?c5 (wr.heap.size+1) (by simp) ?_)
            | go_in)
           case c1=>intro j u hj;rcases j with _ | _ | _ | _ | _ | _ | _ | _ | _ | _<;>simp at hj<;>aj hj<;>simp[Addr.add,go_sem]
           case c2=>intro u hu;simp at hu;rcases hu with rfl | rfl | rfl | rfl | rfl | rfl | rfl | rfl | rfl<;>rfl
           case c3=>unfold maxLen;omega
           case c4=>omega
           case c5=>simp;omega
           intro g cap w1 dj hgrow hlie fm;have LK:=HLK.out;have NX:=af (TQ.next (R:=⟨OI,TZ,Sd,XU,QU,Yt,XF,XD⟩) (y:=y) hQ.out (by rw[HX.out];exact HT.out) (by rw[LK.name];exact HNZ.out) (Yr.out _ _ _ _) (WX.out _ _ _ _) (by unfold By;rw[LK.name,LK.line,LK.params,LK.rest,LK.regs,LK.ups,LK.consts];exact dj) hgrow (by rw[show ∀ o,((((_:World).setCell _ _).setCell _ _).alloc o).heap.size=wr.heap.size+1 from fun o=>by simp];exact hlie) fm);have rb:=(U9.out _ _ _ _ _).of_block (hgrow.block bO (by simp;omega) (fun e=>by have:=(dt.lt hQ.out.own bO e.symm).1;omega));have o1:=rb.cell (i:=0) (by omega);have zo:=rb.frozen 0;have acf:bO<w1.heap.size:=rb.lt;clear dj hgrow hlie fm rb LK HLK U9 OWQ Yr WX o0 g0 g1 g2 g3 g4 g5 g6 g7 g8 z5 z6 z7 z8 hQ;go_wp2_with fail
           go_roundg (l.length-(k+1))
           case measure=>omega
           case rel=>exact⟨k+1,_,_,by omega,by go_num,NX⟩
  ·have Hv:k=l.length:=by omega
   aj Hv
   obtain⟨Uo,U7,evP⟩:=hQ.out.own.lenV
   aj evP
   obtain⟨e1,hT,hP⟩:=hQ.out.done W7.out py;have o0:=hQ.out.box.cell (i:=0) (by omega);have RB:=RX.out wr zc;have r0:=RB.cell (i:=0) (by omega);have z0:=RB.frozen 0;have yU:w.heap.size+1<wr.heap.size:=by omega
   have eM:Hid (∀ v,ao (wr.setCell (a_ (w.heap.size+1) 0) v) (jk w.heap.size (wr.setCell (a_ (w.heap.size+1) 0) v)) Uo (q.map Prod.fst)):=fun v=>(hP.same (cI.refl.setCell (fun h=>by have:bO+1<=w.heap.size+1:=h.1;omega) v)).mono (fun b h=>⟨by have:=h.1;omega,by simp;exact h.2⟩);have FB:Hid (∀ v,b_ w (wr.setCell (a_ (w.heap.size+1) 0) v)):=fun v=>mn.setCell (Nat.le_succ _) v;have HE1:=af e1;have HTT:=af hT;clear hQ hP hT RB e1;go_wp2_with fail
   refine bodyPost_ret (v:=.agg #[.slice Uo q.length U7]) (by simp[results,Tryz.results5,go_sem,r0,yU]) rfl ⟨Uo,U7,q.map Prod.fst,?_,HTT.out,eM.out _,FB.out _⟩;rw[<-HE1.out]
end Go.Proofs.YtcjfjflljdojlaaGreatDoor
