import Derived.Test.YtcjfjflljdojlaaGreatDoorPart42
import Derived.Shelf.Spec.SlicesInsertGrow
set_option linter.unusedSimpArgs false
set_option linter.unusedVariables false
set_option maxHeartbeats 4000000
set_option maxRecDepth 100000
namespace Go.Proofs.YtcjfjflljdojlaaGreatDoor
open Go.RowKit Go.Shelf
def x9:Ren:=⟨fun n=>if n=21 then 143 else if n=27 then 154 else if n=28 then 155 else if n=35 then 159 else 161,fun n=>if n=3 then 3 else if n=4 then 4 else if n=22 then 70 else 0,fun n=>n⟩
theorem pR:Lays2.n21 Tryz.prog x9 where
 mixed:=by kernel_rfl
 f21:=Tryz.func143.trans (by kernel_rfl)
 f27:=Tryz.func154.trans (by kernel_rfl)
 f28:=Tryz.func155.trans (by kernel_rfl)
 f35:=Tryz.func159.trans (by kernel_rfl)
 f39:=Tryz.func161.trans (by kernel_rfl)
 t0:=Tryz.underlying0
 a0:=Tryz.isAgg0
 z0:=Tryz.sizeOf0
 v0:=Tryz.zeroValue0
 t3:=Tryz.underlying3
 a3:=Tryz.isAgg3
 z3:=Tryz.sizeOf3
 v3:=Tryz.zeroValue3
 t4:=Tryz.underlying4
 a4:=Tryz.isAgg4
 z4:=Tryz.sizeOf4
 v4:=Tryz.zeroValue4
 t22:=Tryz.underlying70
 a22:=Tryz.isAgg70
 z22:=Tryz.sizeOf70
 v22:=Tryz.zeroValue70
 i3:=by kernel_rfl
def mA (l:List Int)(x:Int)(k:Nat):List Int:=l.take k++x::l.drop k
theorem Af {l:List Int}{x:Int}{k:Nat}(h:k<=l.length):(mA l x k).length=l.length+1:=by
 unfold mA;simp;omega
theorem mM {l:List Int}{x:Int}{k:Nat}(h:k<=l.length)(j:Nat):(mA l x k)[j]?.getD 0=if j<k then l[j]?.getD 0 else if j=k then x else l[j-1]?.getD 0:=by
 unfold mA;have ht:(l.take k).length=k:=by simp;omega
 by_cases c1:j<k
 ·rw[if_pos c1,List.getElem?_append_left (by omega),List.getElem?_take,if_pos c1]
 ·rw[if_neg c1,List.getElem?_append_right (by omega),ht];by_cases c2:j=k
  ·rw[if_pos c2,c2,Nat.sub_self];rfl
  ·rw[if_neg c2,show j-k=(j-k-1)+1 by omega,List.getElem?_cons_succ,List.getElem?_drop,show k+(j-k-1)=j-1 by omega]
theorem Jh {l:List Int}{x y:Int}{k:Nat}:y∈mA l x k↔y=x\/y∈l:=by
 unfold mA;have e:=List.take_append_drop k l;constructor
 ·intro h;rw[List.mem_append,List.mem_cons]at h;rcases h with h | h | h
  ·exact .inr (List.mem_of_mem_take h)
  ·exact .inl h
  ·exact .inr (List.mem_of_mem_drop h)
 ·intro h;rw[List.mem_append,List.mem_cons];rcases h with h | h
  ·exact .inr (.inl h)
  ·rw[<-e,List.mem_append]at h;rcases h with h | h
   ·exact .inl h
   ·exact .inr (.inr h)
theorem JQ {l:List Int}{x:Int}{k:Nat}(hd:OY l)(hp:pS l x k)(hx:x ∉ l):OY (mA l x k):=by
 have ax:∀ r,k<=r->r<l.length->l[r]?.getD 0<x:=fun r h1 h2=>by
  have:=hp.ng r h1 h2;have hm:l[r]?.getD 0∈l:=by rw[g_ h2];exact List.getElem_mem h2
  have ei:l[r]?.getD 0≠x:=fun e=>hx (e ▸ hm);omega
 intro r s cM hs;rw[Af hp.le]at hs;rw[mM hp.le,mM hp.le];by_cases c1:s<k
 ·rw[if_pos c1,if_pos (by omega)];exact hd r s cM (by have:=hp.le;omega)
 rw[if_neg c1];by_cases c2:s=k
 ·rw[if_pos c2,if_pos (by omega)];exact hp.gt r (by omega)
 rw[if_neg c2];by_cases c3:r<k
 ·rw[if_pos c3];exact hd r (s-1) (by omega) (by omega)
 rw[if_neg c3];by_cases c4:r=k
 ·rw[if_pos c4];exact ax (s-1) (by omega) (by omega)
 ·rw[if_neg c4];exact hd (r-1) (s-1) (by omega) (by omega)
theorem kD {w:World}{b n c base:Nat}{f:Nat->Value}{t:List Int}(h:w.rowIs b 3 c f)(hn:t.length=n)(hc:n<=c)(hb:base<=b)(hl:c<=maxLen)(hf:∀ j,j<n->f j=i_ (t[j]?.getD 0)):ar w base (.slice (some (a_ b 0)) n c) t:=by
 obtain⟨gi,h1,h2,h3⟩:=h
 aj hn
 refine⟨by simp,.inr ⟨b,c,gi,rfl,hb,h1,hc,hl,by omega,?_⟩⟩;apply List.ext_getElem?
 intro j;by_cases hj:j<t.length
 ·rw[List.getElem?_take,if_pos (by omega),Array.getElem?_toList,h3 j (by omega),hf j hj,List.getElem?_map,g_ hj];rfl
 ·rw[List.getElem?_eq_none (by simp;omega),List.getElem?_eq_none (by simp;omega)]
theorem jT {b:Nat}{t:TypeId}{n:Nat}:∀(vs:List Value)(o:Nat)(w:World)(f:Nat->Value),w.rowIs b t n f->(w.setCells b o vs).rowIs b t n (fun j=>if o<=j/\j<o+vs.length then vs[j-o]?.getD default else f j)
 | [],o,w,f,h=>h.congr (fun j _=>by rw[if_neg (by simp)])
 | v::r,o,w,f,h=>(jT r (o+1) _ _ (h.set o v)).congr (fun j _=>by
   by_cases h1:j=o
   ·aj h1;rw[if_neg (by omega),if_pos rfl,if_pos (by simp),Nat.sub_self];rfl
   ·by_cases h2:o+1<=j/\j<o+1+r.length
    ·rw[if_pos h2,if_pos (by simp;omega),show j-o=(j-(o+1))+1 by omega,List.getElem?_cons_succ]
    ·rw[if_neg h2,if_neg h1,if_neg (by simp;omega)])
theorem ik (b:Nat)(k:Nat)(hk:k≠b):∀(vs:List Value)(o:Nat)(w:World),(w.setCells b o vs).heap[k]? = w.heap[k]?
 | [],_,_=>rfl
 | v::r,o,w=>by show((w.setCell (a_ b o) v).setCells b (o+1) r).heap[k]? = _;rw[ik b k hk r,heap_setCell_other w (a_ b o) k v hk]
def yG (l':List Int)(base:Nat)(v:Value)(w:World)(e:Ending)(w':World):Prop:=
 ∃ v',e=.returned v'/\ar w' base v' l'/\(∀ k,k<w.heap.size->v.ownBlock≠some k->w'.heap[k]? = w.heap[k]?)/\(∀ k,v'.ownBlock=some k->v.ownBlock=some k\/w.heap.size<=k)/\Below base w w'
theorem ig {B b:Nat}{a:World}(hb:B<=b):∀(vs:List Value)(o:Nat)(w:World),Below B a w->Below B a (w.setCells b o vs)
 | [],_,_,h=>h
 | v::r,o,w,h=>ig hb r (o+1) _ (h.setCell (p:=(a_ b o)) hb v)
theorem Jj (l:List Int)(j:Nat)(h:j<l.length):(l.map (Value.int .i64))[j]?.getD default=i_ (l[j]?.getD 0):=by
 rw[List.getElem?_map,g_ h];rfl
theorem oX {w:World}{b:Nat}{t:TypeId}{n:Nat}{f:Nat->Value}(h:w.rowIs b t n f):w.drew.rowIs b t n f:=h.of_block rfl
theorem Dd (v:Value)(l:List Int)(k:Nat)(x:Int)(base vb vc:Nat)(w:World)(h:ar w base v l)(kO:base<=w.heap.size)(hl:l.length<=1000000)(hk:k<=l.length)(hv:w.heap[vb]? = some (.cells #[i_ x] 3 (0,0)))(ei:v.ownBlock≠some vb) :
  c_ 143 #[v,i_ (k:Int),.slice (some (a_ vb 0)) 1 vc] w (yG (mA l x k) base v w):=by
 have Sq:∀ j u,[Value.int .i64 x][j]? = some u->w.cell? (a_ vb (0+j))=some u:=fun j u hj=>by
  cases j with
  | zero=>simp at hj;aj hj;simp[World.cell?,hv]
  | succ j=>simp at hj
 have VR:∀ u∈[Value.int .i64 x],u.oneCell'=true:=fun u hu=>by simp at hu;aj hu;rfl
 have h1c:∀ u∈l.map (Value.int .i64),u.oneCell'=true:=fun u hu=>by rw[List.mem_map]at hu;obtain⟨y,_,rfl⟩:=hu;rfl
 have jn:=Af (l:=l) (x:=x) hk;have cT:(Builtin.zeroCells (Value.int .i64 0).cells)=fun m=>Builtin.zeroCells (Value.int .i64 0).cells m:=rfl;have Ue:∀ m,(Builtin.zeroCells (Value.int .i64 0).cells m).size=m:=fun m=>by rw[size_zeroCells];simp[Value.cells]
 have Xf:∀(A:Array Value) (gc:Nat),A.size=l.length+1->l.length+1<=gc->gc<=maxLen->(∀ j,j<l.length+1->A[j]? = some (i_ ((mA l x k)[j]?.getD 0))) ->
   yG (mA l x k) base v w (.returned (.slice (some (a_ w.heap.size 0)) (l.length+1) gc)) (w.drew.alloc (.cells (A++Builtin.zeroCells (Value.int .i64 0).cells (gc-(l.length+1))) 3)):=fun A gc hA h1 h2 h3=>by
  refine⟨_,rfl,?_,fun q hq _=>?_,fun q hq=>.inr ?_,?_⟩
  ·have hr:=World.rowIs_alloc w.drew (A++Builtin.zeroCells (Value.int .i64 0).cells (gc-(l.length+1))) 3 (fun j=>(A++Builtin.zeroCells (Value.int .i64 0).cells (gc-(l.length+1)))[j]?.getD default) (fun i hi=>by rw[Array.getElem?_eq_getElem hi];rfl);have kq:(A++Builtin.zeroCells (Value.int .i64 0).cells (gc-(l.length+1))).size=gc:=by rw[Array.size_append,hA,Ue];omega
   rw[kq]at hr;refine kD (b:=w.heap.size) hr jn h1 kO h2 (fun j hj=>?_);rw[Array.getElem?_append_left (by omega),h3 j hj];rfl
  ·exact Below.block (B:=w.heap.size) (w:=w) ((r_.drew).alloc n_ _) q hq
  ·have:w.heap.size=q:=Option.some.inj hq;omega
  ·exact(r_.drew).alloc kO _
 by_cases hend:k=l.length
 ·aj hend
  have hI:mA l x l.length=l++[x]:=by unfold mA;simp
  have hA:∀ j,j<l.length+1->((l.map (Value.int .i64))++[Value.int .i64 x]).toArray[j]? = some (i_ ((mA l x l.length)[j]?.getD 0)):=fun j hj=>by
   rw[hI,List.getElem?_toArray,<-List.map_singleton,<-List.map_append,List.getElem?_map,g_ (by simp;omega)];rfl
  rcases h.2 with⟨rfl,h0⟩ | ⟨g,cap,gi,rfl,TH,hg,hn,jP,kq,KY⟩
  ·have key:=Any2.slices_Insert_int_end_grow pR none 0 0 vb 0 1 vc [] [i_ x] w (by omega) (by omega) (by omega) (by omega) rfl rfl (fun _=>rfl) (fun a ha=>by cases ha) Sq VR;have h00:l=[]:=List.eq_nil_of_length_eq_zero h0
   aj h00
   refine key.mono ?_;rintro e w' ⟨rfl,rfl⟩;exact Xf #[i_ x] _ rfl (grownCap_ge ..) (grownCap_le_maxLen _ _ _ _ (by unfold maxLen;omega)) (fun j hj=>by
    have:j=0:=by simp at hj;omega
    aj this;rfl)
  ·have bz:w.rowIs g 3 cap (fun j=>gi[j]?.getD default):=⟨gi,hg,by omega,fun i hi=>by show gi[i]? = some (gi[i]?.getD default);rw[Array.getElem?_eq_getElem (by omega)];rfl⟩;have aE:∀ j,j<l.length->w.cell? (a_ g j)=some (i_ (l[j]?.getD 0)):=fun j hj=>by
    obtain⟨g',iM,e,_,_,h3⟩:=h.at (by omega);injection e with e1;injection e1 with e1;injection e1 with e1
    aj e1
    exact h3 j hj
   by_cases hroom:l.length+1<=cap
   ·have key:=Any2.slices_Insert_int_end_room pR g 0 l.length cap vb 0 1 vc [i_ x] w (by omega) hroom (by unfold maxLen at jP;omega) rfl (fun j hj=>by rw[bz.cell (by omega)];rfl) (fun j hj=>bz.frozen _) Sq VR;refine key.mono ?_;rintro e w' ⟨rfl,rfl⟩;refine⟨_,rfl,?_,fun q hq hb=>?_,fun q hq=>.inl hq,?_⟩
    ·refine kD (jT _ _ _ _ bz) jn hroom TH jP (fun j hj=>?_);rw[mM n_];by_cases c:j<l.length
     ·rw[if_neg (by simp;omega),if_pos c];have:=bz.cell (i:=j) (by omega);rw[aE j c]at this;exact(Option.some.inj this).symm
     ·have:j=l.length:=by omega
      aj this
      rw[if_pos (by simp),if_neg c,if_pos rfl];simp
    ·exact ik g q (fun e=>hb (by rw[e];rfl)) _ _ _
    ·exact ig TH _ _ _ r_
   ·have key:=Any2.slices_Insert_int_end_grow pR (some (a_ g 0)) l.length cap vb 0 1 vc (l.map (Value.int .i64)) [i_ x] w (by omega) hn (by omega) (by omega) (by simp) rfl (fun e=>by cases e) (fun a ha j u hj=>by
      cases ha;rw[List.getElem?_map]at hj;by_cases qC:j<l.length
      ·rw[g_ qC]at hj;have e:((a_ g 0):Addr).add j=(a_ g j):=by rw[Addr.add_lit,Nat.zero_add]
       rw[e,aE j qC,g_ qC];exact hj
      ·rw[List.getElem?_eq_none (by omega)]at hj;cases hj) Sq VR
    refine key.mono ?_;rintro e w' ⟨rfl,rfl⟩;exact Xf _ _ (by simp) (grownCap_ge ..) (grownCap_le_maxLen _ _ _ _ (by unfold maxLen;omega)) hA
 ·rcases h.2 with⟨rfl,h0⟩ | ⟨g,cap,gi,rfl,TH,hg,hn,jP,kq,KY⟩
  ·omega
  ·have bz:w.rowIs g 3 cap (fun j=>gi[j]?.getD default):=⟨gi,hg,by omega,fun i hi=>by show gi[i]? = some (gi[i]?.getD default);rw[Array.getElem?_eq_getElem (by omega)];rfl⟩;have aE:∀ j,j<l.length->w.cell? (a_ g j)=some (i_ (l[j]?.getD 0)):=fun j hj=>by
    obtain⟨g',iM,e,_,_,h3⟩:=h.at (by omega);injection e with e1;injection e1 with e1;injection e1 with e1
    aj e1
    exact h3 j hj
   have Ip:∀ j u,(l.map (Value.int .i64))[j]? = some u->w.cell? (a_ g (0+j))=some u:=fun j u hj=>by
    rw[List.getElem?_map]at hj;by_cases qC:j<l.length
    ·rw[g_ qC]at hj;rw[Nat.zero_add,aE j qC,g_ qC];exact hj
    ·rw[List.getElem?_eq_none (by omega)]at hj;cases hj
   by_cases hroom:l.length+1<=cap
   ·have key:=Any2.slices_Insert_int_shift pR g 0 l.length cap k vb 0 1 vc (l.map (Value.int .i64)) [i_ x] w (by omega) (by omega) hroom (by unfold maxLen at jP;omega) (fun e=>ei (by rw[e];rfl)) (by simp) rfl Ip (fun j hj=>by rw[bz.cell (by omega)];rfl) (fun j hj=>bz.frozen _) Sq h1c VR 3 3 1 cap (by simp[World.shape?,hv]) (by simp[World.shape?,hg];omega) (by omega) (by simp[World.frozen?,hv]) (by simp[World.frozen?,hv]);refine key.mono ?_;rintro e w' ⟨rfl,rfl⟩;refine⟨_,rfl,?_,fun q hq hb=>?_,fun q hq=>.inl hq,?_⟩
    ·refine kD (jT _ _ _ _ (jT _ _ _ _ (oX bz))) jn hroom TH jP (fun j hj=>?_);rw[mM hk];by_cases c:j<k
     ·rw[if_neg (by simp;omega),if_neg (by simp;omega),if_pos c];have:=bz.cell (i:=j) (by omega);rw[aE j (by omega)]at this;exact(Option.some.inj this).symm
     ·by_cases c2:j=k
      ·aj c2
       rw[if_pos (by simp),if_neg c,if_pos rfl];simp
      ·rw[if_neg (by simp;omega),if_pos (by simp;omega),if_neg c,if_neg c2,<-List.map_drop,List.getElem?_map,List.getElem?_drop,show k+(j-(0+(k+1)))=j-1 by omega,g_ (by omega)];rfl
    ·have LQ:q≠g:=fun e=>hb (by rw[e];rfl);rw[ik g q LQ,ik g q LQ];rfl
    ·exact ig TH _ _ _ (ig TH _ _ _ (r_.drew))
   ·have key:=Any2.slices_Insert_int_grow pR g 0 l.length cap k vb 0 1 vc (l.map (Value.int .i64)) [i_ x] w (by omega) (by omega) hn (by omega) (by omega) (by simp) rfl Ip Sq h1c VR;refine key.mono ?_;rintro e w' ⟨rfl,rfl⟩;have Ps:=grownCap_ge w (l.length+1) cap (x9.t 3);have hgm:=grownCap_le_maxLen w (l.length+1) cap (x9.t 3) (by unfold maxLen;omega);generalize grownCap w (l.length+1) cap (x9.t 3)=gc at *;refine⟨_,rfl,?_,fun q hq hb=>?_,fun q hq=>.inr ?_,?_⟩
    ·have hr:=World.rowIs_alloc w (((l.map (Value.int .i64)).take k).toArray++Builtin.zeroCells (Value.int .i64 0).cells (l.length+1-k)++Builtin.zeroCells (Value.int .i64 0).cells (gc-(l.length+1))) 3 (fun j=>(((l.map (Value.int .i64)).take k).toArray++Builtin.zeroCells (Value.int .i64 0).cells (l.length+1-k)++Builtin.zeroCells (Value.int .i64 0).cells (gc-(l.length+1)))[j]?.getD default) (fun i hi=>by rw[Array.getElem?_eq_getElem hi];rfl);have sr:(((l.map (Value.int .i64)).take k).toArray++Builtin.zeroCells (Value.int .i64 0).cells (l.length+1-k)++Builtin.zeroCells (Value.int .i64 0).cells (gc-(l.length+1))).size=gc:=by
      rw[Array.size_append,Array.size_append,Ue,Ue];simp;omega
     rw[sr]at hr;refine kD (b:=w.heap.size) (jT _ _ _ _ (oX (jT _ _ _ _ (oX hr)))) jn Ps kO hgm (fun j hj=>?_);rw[mM hk];by_cases c:j<k
     ·rw[if_neg (by simp;omega),if_neg (by simp;omega),if_pos c,Array.getElem?_append_left (by rw[Array.size_append,Ue];simp;omega),Array.getElem?_append_left (by simp;omega),List.getElem?_toArray,List.getElem?_take,if_pos c];exact Jj l j (by omega)
     ·by_cases c2:j=k
      ·aj c2
       rw[if_neg (by omega),if_pos (by simp),if_neg c,if_pos rfl];simp
      ·rw[if_pos (by simp;omega),if_neg c,if_neg c2,<-List.map_drop,List.getElem?_map,List.getElem?_drop,show k+(j-(k+1))=j-1 by omega,g_ (by omega)];rfl
    ·have LQ:q≠w.heap.size:=by omega
     rw[ik _ q LQ];show(((w.alloc _).drew.setCells w.heap.size k [Value.int .i64 x]).heap[q]?)=_;rw[ik _ q LQ];exact Below.block (B:=w.heap.size) (w:=w) (r_.alloc n_ _) q hq
    ·have:w.heap.size=q:=Option.some.inj hq;omega
    ·exact ig kO _ _ _ ((ig kO _ _ _ ((r_.alloc kO _).drew)).drew)
end Go.Proofs.YtcjfjflljdojlaaGreatDoor
namespace Go.Proofs.YtcjfjflljdojlaaGreatDoor
open Go.RowKit
def EG (bv o base:Nat)(v:Value)(l:List Int)(x:Int)(w:World)(e:Ending)(w':World):Prop:=
 e=.returned (.tuple #[])/\∃ w1 v' k,w'=w1.setCell (a_ bv o) v'/\pS l x k/\ar w1 base v' (mA l x k)/\(∀ q,q<w.heap.size->v.ownBlock≠some q->w1.heap[q]? = w.heap[q]?)/\(∀ q,v'.ownBlock=some q->v.ownBlock=some q\/w.heap.size<=q)/\Below base w w1
theorem Do (bv o base:Nat)(v:Value)(l:List Int)(x:Int)(w:World)(hv:w.cell? (a_ bv o)=some v)(hz:w.frozen? (a_ bv o)=false)(ho:ar w base v l)(kO:base<=w.heap.size)(hd:OY l)(hx:x ∉ l)(hl:l.length<=1000000)(ei:v.ownBlock≠some bv) :
  c_ 120 #[.pointer (some (a_ bv o)),i_ x] w (EG bv o base v l x w):=by
 obtain⟨a,c,rfl,hI⟩:=ho.ints hl;have Hn:bv<w.heap.size:=World.block_lt_of_cell? _ _ hv;have BS:Hid (c_ 140 #[.slice a l.length c,i_ x,.func (.func 141) #[] #[]] w (IK l x w)):=Dc a l c x _ w hI (fun b h=>h.2) hl hd;have HO:=af ho;have UJ:=af kO;have HX:=af hx;have HNE:=af ei;have HV:=af hv;have HZ:=af hz;clear ho kO hx ei hd hI;go_enter Tryz.func120,Tryz.ntmps120;go_wp2_with fail
 refine(aa BS).mono ?_;rintro e w1 ⟨k,hp,rfl,au⟩;have Xn:decide (k<l.length/\l[k]?.getD 0=x)=false:=decide_eq_false (fun h=>HX.out (by rw[<-h.2,g_ h.1];exact List.getElem_mem _));rw[Xn];have c1:w1.cell? (a_ bv o)=some (.slice a l.length c):=(au.cell (p:=(a_ bv o)) Hn).trans HV.out;have jf:=au.size;have hbv1:bv<w1.heap.size:=by omega
 have hA:b_ w1 (w1.alloc (.cells #[i_ x] 3)):=r_.alloc n_ _;have fN:Hid (b_ w (w1.alloc (.cells #[i_ x] 3))):=au.trans (hA.mono jf);have INS:Hid (c_ 143 #[.slice a l.length c,i_ (k:Int),.slice (some (a_ w1.heap.size 0)) 1 1] (w1.alloc (.cells #[i_ x] 3)) (yG (mA l x k) base (.slice a l.length c) (w1.alloc (.cells #[i_ x] 3)))):=
  Dd _ l k x base w1.heap.size 1 _ ((HO.out).below fN.out) (Nat.le_trans UJ.out fN.out.size) hl hp.le (Go.Deep.blk_alloc_new _ _) (fun e=>by have:=(HO.out).lt' _ e;omega)
 have HP:=af hp;have Wk:(w1.alloc (.cells #[i_ x] 3)).heap.size=w1.heap.size+1:=by simp
 clear hp au BS hv hz Xn hA;go_wp2_with fail
 refine(aa INS).mono ?_;rintro e w3 ⟨v',rfl,Vx,BM,KN,bY⟩;obtain⟨a',c',rfl⟩:=Vx.lenV;have bl:w3.heap[bv]? = w.heap[bv]?:=(BM bv (by omega) HNE.out).trans (fN.out.block bv Hn);have c3:w3.cell? (a_ bv o)=some (.slice a l.length c):=(World.cell?_of_block (a:=(a_ bv o)) bl).trans HV.out;have z3:w3.frozen? (a_ bv o)=false:=(World.frozen?_of_block (a:=(a_ bv o)) bl).trans HZ.out;have YN:bv<w3.heap.size:=World.block_lt_of_cell? _ _ c3;have eM:Hid (∃ w1 v'' k2,w3.setCell (a_ bv o) (.slice a' (mA l x k).length c')=World.setCell w1 (a_ bv o) v''/\pS l x k2/\ar w1 base v'' (mA l x k2)/\(∀ q,q<w.heap.size->(Value.slice a l.length c).ownBlock≠some q->w1.heap[q]? = w.heap[q]?)/\(∀ q,v''.ownBlock=some q->(Value.slice a l.length c).ownBlock=some q\/w.heap.size<=q)/\Below base w w1):=
  ⟨w3,_,k,rfl,HP.out,Vx,fun q hq hn=>(BM q (by omega) hn).trans (fN.out.block q hq),fun q hq=>(KN q hq).imp_right (fun h=>by omega),(fN.out.mono UJ.out).trans bY⟩
 clear Vx BM KN bY bl c1 INS;go_wp2_with fail
 go_end0
 exact⟨rfl,eM.out⟩
theorem xQ (w:World)(e:TypeId)(size n gc:Nat)(xs:List Value)(z:Array Value)(hz:z.size=size)(hx:xs.length=n * size)(h1:n<=gc)(h2:gc<=maxLen) :
  (w.drew.alloc (.cells (xs.toArray++Builtin.zeroCells z (gc-n)) e)).ownsRow w.heap.size e size (.slice (some (a_ w.heap.size 0)) n gc) n xs:=by
 refine⟨hx,.inr ⟨w.heap.size,gc,_,rfl,n_,Go.Deep.blk_alloc_new w.drew _,h1,h2,?_,?_⟩⟩
 ·rw[Array.size_append,size_zeroCells,hz,List.size_toArray,hx,<-Nat.add_mul]
  congr 1
  omega
 ·rw[Array.toList_append,List.toList_toArray,<-hx,List.take_left]
theorem JO (a:o_)(l:List Int)(c:Nat)(S:Nat->Prop)(w:World)(hs:aR w S a l)(hl:l.length<=1000000) :
  ∃ v w1,(Builtin.append_ #[70,70] 70 #[.slice none 0 0,.slice a l.length c]).run Tryz.prog w=.ok v w1/\ar w1 w.heap.size v l/\b_ w w1:=by
 obtain⟨i0,hi,dE,cT,dB⟩:=aN dT;by_cases h0:0<l.length
 ·obtain⟨b,off,rfl,_,aE⟩:=hs.2 h0;refine⟨_,_,run_append_nil w 70 70 3 i0 (i_ 0) Tryz.underlying70 hi dE (a_ b off) l.length c (l.map (Value.int .i64)) (by rw[cT];simp) (fun j u hj=>?_) h0 (by omega) (by rw[dB];omega),?_,?_⟩
  ·rw[List.getElem?_map]at hj;by_cases qC:j<l.length
   ·rw[g_ qC]at hj;have h1:=aE j qC;rw[g_ qC]at h1;have e:((a_ b off):Addr).add j=(a_ b (off+j)):=by simp[Addr.add]
    rw[e,h1];exact hj
   ·rw[List.getElem?_eq_none (by omega)]at hj;cases hj
  ·exact xQ w 3 1 l.length _ _ _ rfl (by simp) (grownCap_ge ..) (grownCap_le_maxLen _ _ _ _ (by unfold maxLen;omega))
  ·exact(r_.drew).alloc n_ _
 ·obtain rfl:l=[]:=List.eq_nil_of_length_eq_zero (by omega);refine⟨.slice none 0 0,w,?_,World.ownsRow_nil _ _ _ _,r_⟩;cases a with
  | none=>simp[Builtin.append_,run_underlying Tryz.underlying70,sizeOf,typeInfo,zeroValue,hi,dE,Builtin.lenOf,run_firstCells_none]
  | some b=>
   have hf:=run_firstCells_some (P:=Tryz.prog) w i0.size 0 b 0 c [] (by simp) (fun j u hj=>by simp at hj);simp[Builtin.append_,run_underlying Tryz.underlying70,sizeOf,typeInfo,zeroValue,hi,dE,Builtin.lenOf,hf]
theorem J9 (a:o_)(l:List bg)(c:Nat)(S:Nat->Prop)(w:World)(hs:bx w S a l)(hl:l.length<=1000000) :
  ∃ v w1,(Builtin.append_ #[95,95] 95 #[.slice none 0 0,.slice a l.length c]).run Tryz.prog w=.ok v w1/\cn w1 w.heap.size v l/\b_ w w1:=by
 obtain⟨i0,hi,dE,cT,dB⟩:=aN fA;by_cases h0:0<l.length
 ·obtain⟨b,off,rfl,_,aE⟩:=hs.2 h0;refine⟨_,_,run_append_nil w 95 95 154 i0 (.agg #[.bool false,i_ 0,i_ 0]) Tryz.underlying95 hi dE (a_ b off) l.length c (l.flatMap qg) (by rw[cT];exact qd l) (fun j u hj=>?_) h0 (by omega) (by rw[dB];omega),?_,?_⟩
  ·have e:((a_ b off):Addr).add j=(a_ b (off+j)):=by simp[Addr.add]
   rw[e];exact wT aE j u hj
  ·exact xQ w 154 3 l.length _ _ _ rfl (qd l) (grownCap_ge ..) (grownCap_le_maxLen _ _ _ _ (by unfold maxLen;omega))
  ·exact(r_.drew).alloc n_ _
 ·obtain rfl:l=[]:=List.eq_nil_of_length_eq_zero (by omega);refine⟨.slice none 0 0,w,?_,World.ownsRow_nil _ _ _ _,r_⟩;cases a with
  | none=>simp[Builtin.append_,run_underlying Tryz.underlying95,sizeOf,typeInfo,zeroValue,hi,dE,Builtin.lenOf,run_firstCells_none]
  | some b=>
   have hf:=run_firstCells_some (P:=Tryz.prog) w i0.size 0 b 0 c [] (by simp) (fun j u hj=>by simp at hj);simp[Builtin.append_,run_underlying Tryz.underlying95,sizeOf,typeInfo,zeroValue,hi,dE,Builtin.lenOf,hf]
theorem vM {w:World}{o:Oper}{a:Act}{K:Act->World->Prop}{Q:Exit->Act->World->Prop}(s x:Operand)(t:TypeId)(ho:o.op=.call { callee:=.builtin .append,args:=#[s,x],argTypes:=#[t,t] })(v u:Value)(hs:a.eval s=v)(hx:a.eval x=u){v':Value}{w':World}
  (hr:(Builtin.append_ #[t,t] o.type #[v,u]).run Tryz.prog w=.ok v' w')(h:K (a.put o.dst v') w'):o.wp Tryz.prog a w K Q:=by
 unfold Oper.wp;simp[execOp,ho,resolve,invoke,builtin,hs,hx,hr,Result.andThen];exact h
theorem bJ {w:World}{ops:Array Oper}{rest:List Oper}{o:Oper}{a:Act}{Q:Exit->Act->World->Prop}(hgd:o.guard=none)(s x:Operand)(t:TypeId)(ho:o.op=.call { callee:=.builtin .append,args:=#[s,x],argTypes:=#[t,t] })(v u:Value)(hs:a.eval s=v)(hx:a.eval x=u){v':Value}{w':World}
  (hr:(Builtin.append_ #[t,t] o.type #[v,u]).run Tryz.prog w=.ok v' w')(h:wpList Tryz.prog ops Q rest (a.put o.dst v') w'):wpList Tryz.prog ops Q (o::rest) a w:=
 wpList_plain hgd fun _ hK=>vM s x t ho v u hs hx hr (hK _ _ h)
def XA (H:Nat->Value)(bS N:Nat)(iv:Value)(j:Nat):Value:=if j=12 then iv else if j=11 then .slice (some (a_ bS 0)) N N else H j
structure MB (w:World)(bV bS bT:Nat):Prop where
 o1:w.heap.size<=bV
 o2:w.heap.size<=bS
 o3:bV≠bS
 o4:bV<bT
 o5:bS<bT
structure jo (w:World)(bV bS bT:Nat)(H:Nat->Value)(N:Nat)(σ:dX)(R:Nat->Value×Value)(iv:Value)(l:List Int)(wr:World):Prop where
 old:b_ w wr
 size:bT<=wr.heap.size
 box:wr.rowIs bV 121 13 (XA H bS N iv)
 sts:wr.rowIs bS 97 (N * 3) (vS σ R)
 own:∀ i s,i<N->σ.st i=some s->ar wr bT (R i).1 s.types/\cn wr bT (R i).2 s.guards
 none_:∀ i,i<N->σ.st i=none->R i=mC
 inj:∀ i j,i<N->j<N->i≠j->qR (R i).1 (R j).1/\qR (R i).2 (R j).2
 its:ar wr bT iv l
 dis:∀ i,i<N->qR iv (R i).1/\qR iv (R i).2
 dec:OY l
 due:∀ y,y∈l↔∃ i:Nat,y=i/\σ.due i=true
theorem sY (v:Value):qR v (.slice none 0 0):=fun _ _ h=>by cases h
theorem JX {l:List Int}(hd:OY l)(h0:∀ y,y∈l->0<=y):∀ j,j<l.length->(j:Int)<=l[l.length-1-j]?.getD 0
 | 0,h=>by
  have hm:l[l.length-1-0]?.getD 0∈l:=by rw[g_ (by omega)];exact List.getElem_mem _
  have:=h0 _ hm;omega
 | j+1,h=>by
  have h1:=JX hd h0 j (by omega);have h2:=hd (l.length-1-(j+1)) (l.length-1-j) (by omega) (by omega);omega
theorem MR {l:List Int}{N:Nat}(hd:OY l)(h:∀ y,y∈l->0<=y/\y<N):l.length<=N:=by
 by_cases c:0<l.length
 ·have h1:=JX hd (fun y hy=>(h y hy).1) (l.length-1) (by omega);have hm:l[l.length-1-(l.length-1)]?.getD 0∈l:=by rw[g_ (by omega)];exact List.getElem_mem _
  have:=(h _ hm).2;omega
 ·omega
section
variable {w:World} {bV bS bT:Nat} {H:Nat->Value} {N:Nat} {σ:dX} {R:Nat->Value×Value} {iv:Value} {l:List Int} {wr w2:World}
theorem jo.len (h:jo w bV bS bT H N σ R iv l wr){R0:Nat}(hm:oV R0 N σ):l.length<=N:=
 MR h.dec (fun y hy=>by
  obtain⟨i,rfl,hi⟩:=(h.due y).1 hy;have:=(hm.due i hi).1;omega)
theorem jo.below (h:jo w bV bS bT H N σ R iv l wr)(hb:b_ wr w2):jo w bV bS bT H N σ R iv l w2:=
 {h with
  old:=h.old.trans (hb.mono h.old.size)
  size:=Nat.le_trans h.size hb.size
  box:=h.box.of_block (hb.block _ h.box.lt)
  sts:=h.sts.of_block (hb.block _ h.sts.lt)
  own:=fun i s hi hs=>⟨(h.own i s hi hs).1.below hb,(h.own i s hi hs).2.below hb⟩
  its:=h.its.below hb }
theorem jo.rowLt (h:jo w bV bS bT H N σ R iv l wr){i:Nat}(hi:i<N):(∀ k,(R i).1.ownBlock=some k->bT<=k/\k<wr.heap.size)/\∀ k,(R i).2.ownBlock=some k->bT<=k/\k<wr.heap.size:=by
 cases e:σ.st i with
 | none=>rw[h.none_ i hi e];exact⟨(fun k hk=>by cases hk),(fun k hk=>by cases hk)⟩
 | some s=>exact⟨fun k hk=>(h.own i s hi e).1.lt' k hk,fun k hk=>(h.own i s hi e).2.lt' k hk⟩
theorem jo.put (h:jo w bV bS bT H N σ R iv l wr)(hB:MB w bV bS bT){w1:World}{yK:Value}{l':List Int}{i:Nat}(hi:i<N)(ho:ar w1 bT yK l')(hf:∀ k,k<wr.heap.size->iv.ownBlock≠some k->w1.heap[k]? = wr.heap[k]?)(hn:∀ k,yK.ownBlock=some k->iv.ownBlock=some k\/wr.heap.size<=k)(hs:Below bT wr w1)
  (hd:OY l')(hm:∀ y,y∈l'↔y=(i:Int)\/y∈l):jo w bV bS bT H N ⟨σ.st,bZ σ.due i true⟩ R yK l' (w1.setCell (a_ bV 12) yK):=by
 obtain⟨o1,o2,o3,o4,o5⟩:=hB;have kq:=h.size;have VJ:∀ k,iv.ownBlock=some k->bT<=k/\k<wr.heap.size:=h.its.lt';have OK:w1.heap[bV]? = wr.heap[bV]?:=hf bV (by omega) (fun e=>by have:=VJ _ e;omega);have jF:w1.heap[bS]? = wr.heap[bS]?:=hf bS (by omega) (fun e=>by have:=VJ _ e;omega);have hk:∀ k,k≠bV->(w1.setCell (a_ bV 12) yK).heap[k]? = w1.heap[k]?:=fun k hk=>heap_setCell_other w1 (a_ bV 12) k _ hk;exact {
  old:=(h.old.trans (hs.mono (by omega))).setCell o1 _
  size:=by have:=hs.size;simp;omega
  box:=((h.box.of_block OK).set 12 yK).congr (fun j hj=>by
   unfold XA;by_cases e:j=12
   ·rw[if_pos e,if_pos e]
   ·rw[if_neg e,if_neg e,if_neg e])
  sts:=h.sts.of_block ((hk bS (fun e=>o3 e.symm)).trans jF)
  own:=fun j s hj lu=>by
   obtain⟨k1,k2⟩:=h.own j s hj lu;obtain⟨d1,d2⟩:=h.dis j hj;refine⟨k1.sameBlock (fun k e=>?_),k2.sameBlock (fun k e=>?_)⟩
   ·have:=k1.lt' k e;rw[hk k (by omega),hf k this.2 (fun e2=>d1 k e2 e)]
   ·have:=k2.lt' k e;rw[hk k (by omega),hf k this.2 (fun e2=>d2 k e2 e)]
  none_:=h.none_
  inj:=h.inj
  its:=ho.sameBlock (fun k e=>hk k (fun e2=>by have:=ho.lt' k e;omega))
  dis:=fun j hj=>by
   obtain⟨d1,d2⟩:=h.dis j hj;obtain⟨r1,r2⟩:=h.rowLt hj;refine⟨fun k e1 e2=>?_,fun k e1 e2=>?_⟩
   ·rcases hn k e1 with e | e
    ·exact d1 k e e2
    ·have:=r1 k e2;omega
   ·rcases hn k e1 with e | e
    ·exact d2 k e e2
    ·have:=r2 k e2;omega
  dec:=hd
  due:=fun y=>by
   rw[hm y,h.due y];show _↔∃ j:Nat,y=j/\bZ σ.due i true j=true;constructor
   ·rintro(rfl | ⟨j,rfl,hj⟩)
    ·exact⟨i,rfl,by simp[bZ]⟩
    ·refine⟨j,rfl,?_⟩;unfold bZ;split
     ·rfl
     ·exact hj
   ·rintro⟨j,rfl,hj⟩;by_cases e:j=i
    ·aj e;exact .inl rfl
    ·unfold bZ at hj;rw[if_neg e]at hj;exact .inr ⟨j,rfl,hj⟩ }
theorem jo.take {G m cap:Nat}(h:jo w bV bS bT H N σ R (.slice (some (a_ G 0)) (m+1) cap) l wr)(hB:MB w bV bS bT)(hl:l.length=m+1){a:Nat}(ha:l[m]?.getD 0=(a:Int)) :
  jo w bV bS bT H N ⟨σ.st,bZ σ.due a false⟩ R (.slice (some (a_ G 0)) m cap) (l.take m) (wr.setCell (a_ bV 12) (.slice (some (a_ G 0)) m cap)):=by
 obtain⟨o1,o2,o3,o4,o5⟩:=hB;have kq:=h.size;have hk:∀ k,k≠bV->(wr.setCell (a_ bV 12) (.slice (some (a_ G 0)) m cap)).heap[k]? = wr.heap[k]?:=fun k hk=>heap_setCell_other wr (a_ bV 12) k _ hk;exact {
  old:=h.old.setCell o1 _
  size:=by simp;omega
  box:=(h.box.set 12 _).congr (fun j hj=>by
   unfold XA;by_cases e:j=12
   ·rw[if_pos e,if_pos e]
   ·rw[if_neg e,if_neg e,if_neg e])
  sts:=h.sts.of_block (hk bS (fun e=>o3 e.symm))
  own:=fun j s hj lu=>by
   obtain⟨k1,k2⟩:=h.own j s hj lu;exact⟨k1.setOther o4,k2.setOther o4⟩
  none_:=h.none_
  inj:=h.inj
  its:=by
   have ho:=h.its.setOther (D:=bV) (j:=12) (u:=.slice (some (a_ G 0)) m cap) o4;rcases ho.2 with⟨e,_⟩ | ⟨g,c,gi,e,h1,h2,h3,h4,h5,h6⟩
   ·cases e
   ·injection e with e1 e2 e3;injection e1 with e1;injection e1 with e1
    aj e1;aj e3
    refine⟨by simp,.inr ⟨G,cap,gi,by simp;omega,h1,h2,by simp;omega,h4,h5,?_⟩⟩;rw[Nat.mul_one]at h6 ⊢;rw[List.map_take,<-h6,List.take_take]
    congr 1
    simp
  dis:=fun j hj=>h.dis j hj
  dec:=fun r s cM hs=>by
   rw[List.length_take]at hs;rw[List.getElem?_take,List.getElem?_take,if_pos (by omega),if_pos (by omega)];exact h.dec r s cM (by omega)
  due:=fun y=>by
   have e9:y∈l.take m↔y∈l/\y≠(a:Int):=by
    constructor
    ·intro hy;refine⟨List.mem_of_mem_take hy,fun e=>?_⟩;obtain⟨j,hj,rfl⟩:=List.getElem_of_mem hy;have Ln:j<m:=by rw[List.length_take]at hj;omega
     have:=h.dec j m Ln (by omega);rw[ha,g_ (by omega)]at this;rw[List.getElem_take]at e;change (a:Int)<l[j]at this;omega
    ·rintro⟨hy,ei⟩;obtain⟨j,hj,rfl⟩:=List.getElem_of_mem hy;have sR:j≠m:=fun e=>by
      aj e
      rw[g_ hj]at ha;exact ei ha
     rw[List.mem_iff_getElem];exact⟨j,by rw[List.length_take];omega,List.getElem_take⟩
   rw[e9,h.due y];show _↔∃ j:Nat,y=j/\bZ σ.due a false j=true;constructor
   ·rintro⟨⟨j,rfl,hj⟩,ei⟩;refine⟨j,rfl,?_⟩;unfold bZ;rw[if_neg (by omega)];exact hj
   ·rintro⟨j,rfl,hj⟩;unfold bZ at hj;by_cases e:j=a
    ·rw[if_pos e]at hj;cases hj
    ·rw[if_neg e]at hj;exact⟨⟨j,rfl,hj⟩,by omega⟩ }
theorem jo.least (h:jo w bV bS bT H N σ R iv l wr){R0:Nat}(hm:oV R0 N σ){m:Nat}(hl:l.length=m+1):∃ a:Nat,l[m]?.getD 0=(a:Int)/\di σ N a:=by
 have e9:l[m]?.getD 0∈l:=by rw[g_ (by omega)];exact List.getElem_mem _
 obtain⟨a,e,ha⟩:=(h.due _).1 e9;refine⟨a,e,(hm.due a ha).1,ha,fun b hb=>?_⟩;cases hd:σ.due b with
 | false=>rfl
 | true=>
  have vh:((b:Nat):Int)∈l:=(h.due _).2 ⟨b,rfl,hd⟩;obtain⟨j,hj,ej⟩:=List.getElem_of_mem vh;by_cases c:j=m
  ·aj c
   rw[g_ hj]at e;change l[j]=(a:Int)at e;omega
  ·have:=h.dec j m (by omega) (by omega);rw[e,g_ hj]at this;change (a:Int)<l[j]at this;omega
theorem jo.nodue (h:jo w bV bS bT H N σ R iv l wr)(hl:l.length=0):mt σ N:=fun b hb=>by
 cases hd:σ.due b with
 | false=>rfl
 | true=>
  have vh:((b:Nat):Int)∈l:=(h.due _).2 ⟨b,rfl,hd⟩;rw[List.eq_nil_of_length_eq_zero hl]at vh;cases vh
theorem jo.setSt (h:jo w bV bS bT H N σ R iv l wr)(hB:MB w bV bS bT)(i:Nat)(s:fL)(tv gv:Value)(h1:ar wr bT tv s.types)(h2:cn wr bT gv s.guards)(d1:∀ j,j<N->qR (R j).1 tv/\qR (R j).2 gv)(d2:qR iv tv/\qR iv gv) :
  jo w bV bS bT H N ⟨bZ σ.st i (some s),σ.due⟩ (bZ R i (tv,gv)) iv l (((wr.setCell (a_ bS (i * 3)) (.bool true)).setCell (a_ bS (i * 3+1)) tv).setCell (a_ bS (i * 3+2)) gv):=by
 obtain⟨o1,o2,o3,o4,o5⟩:=hB;have hk:∀ k,k≠bS->(((wr.setCell (a_ bS (i * 3)) (.bool true)).setCell (a_ bS (i * 3+1)) tv).setCell (a_ bS (i * 3+2)) gv).heap[k]? = wr.heap[k]?:=fun k hk=>by
  rw[heap_setCell_other _ (a_ bS _) _ _ hk,heap_setCell_other _ (a_ bS _) _ _ hk,heap_setCell_other _ (a_ bS _) _ _ hk]
 exact {
  old:=((h.old.setCell o2 _).setCell o2 _).setCell o2 _
  size:=by have:=h.size;simpa using this
  box:=h.box.of_block (hk bV o3)
  sts:=by
   refine(((h.sts.set (i * 3) _).set (i * 3+1) _).set (i * 3+2) _).congr fun j hj=>?_;show(if j=i * 3+2 then gv else if j=i * 3+1 then tv else if j=i * 3 then .bool true else vS σ R j)=vS ⟨bZ σ.st i (some s),σ.due⟩ (bZ R i (tv,gv)) j;unfold vS bZ;by_cases e:j / 3=i
   ·by_cases e0:j % 3=0
    ·rw[if_neg (by omega),if_neg (by omega),if_pos (by omega),if_pos e0];simp[e]
    ·by_cases e1:j % 3=1
     ·rw[if_neg (by omega),if_pos (by omega),if_neg e0,if_pos e1];simp[e]
     ·rw[if_pos (by omega),if_neg e0,if_neg e1];simp[e]
   ·rw[if_neg (by omega),if_neg (by omega),if_neg (by omega)];simp[e]
  own:=fun j t hj ht=>by
   change bZ σ.st i (some s) j=some t at ht;unfold bZ at ht ⊢;by_cases e:j=i
   ·rw[if_pos e]at ht ⊢;cases ht;exact⟨((h1.setOther o5).setOther o5).setOther o5,((h2.setOther o5).setOther o5).setOther o5⟩
   ·rw[if_neg e]at ht ⊢;obtain⟨k1,k2⟩:=h.own j t hj ht;exact⟨((k1.setOther o5).setOther o5).setOther o5,((k2.setOther o5).setOther o5).setOther o5⟩
  none_:=fun j hj hn=>by
   change bZ σ.st i (some s) j=none at hn;unfold bZ at hn ⊢;by_cases e:j=i
   ·rw[if_pos e]at hn;cases hn
   ·rw[if_neg e]at hn ⊢;exact h.none_ j hj hn
  inj:=fun j j' hj Ln ei=>by
   unfold bZ;by_cases e:j=i
   ·by_cases e':j'=i
    ·omega
    ·rw[if_pos e,if_neg e'];exact⟨(d1 j' Ln).1.symm,(d1 j' Ln).2.symm⟩
   ·by_cases e':j'=i
    ·rw[if_neg e,if_pos e'];exact d1 j hj
    ·rw[if_neg e,if_neg e'];exact h.inj j j' hj Ln ei
  its:=((h.its.setOther o5).setOther o5).setOther o5
  dis:=fun j hj=>by
   unfold bZ;split
   ·exact d2
   ·exact h.dis j hj
  dec:=h.dec
  due:=h.due }
theorem jo.reached (h:jo w bV bS bT H N σ R iv l wr){i:Nat}(hi:i<N):wr.cell? (a_ bS (i * 3))=some (.bool (σ.st i).isSome)/\wr.cell? (a_ bS (i * 3+1))=some (R i).1/\wr.cell? (a_ bS (i * 3+2))=some (R i).2:=by
 refine⟨?_,?_,?_⟩
 ·rw[h.sts.cell (i:=i * 3) (by omega)];unfold vS;rw[if_pos (by omega),show i * 3 / 3=i by omega]
 ·rw[h.sts.cell (i:=i * 3+1) (by omega)];unfold vS;rw[if_neg (by omega),if_pos (by omega),show(i * 3+1) / 3=i by omega]
 ·rw[h.sts.cell (i:=i * 3+2) (by omega)];unfold vS;rw[if_neg (by omega),if_neg (by omega),show(i * 3+2) / 3=i by omega]
end
structure RcF (bV bS N:Nat)(R R':Nat->Value×Value)(iv yK:Value)(wr w':World):Prop where
 same:∀ k,k<wr.heap.size->k≠bV->k≠bS->iv.ownBlock≠some k->w'.heap[k]? = wr.heap[k]?
 new:∀ k,yK.ownBlock=some k->iv.ownBlock=some k\/wr.heap.size<=k
 size:wr.heap.size<=w'.heap.size
 rows:∀ j k,j<N->(((R' j).1.ownBlock=some k->(R j).1.ownBlock=some k\/wr.heap.size<=k)/\((R' j).2.ownBlock=some k->(R j).2.ownBlock=some k\/wr.heap.size<=k))
def rh (w:World)(bV bS bT:Nat)(H:Nat->Value)(N:Nat)(σ:dX)(R:Nat->Value×Value)(iv:Value)(i:Nat)(s:fL)(wr:World)(e:Ending)(w':World):Prop:=
 (gO σ (i,s)=none/\e=.returned (.bool false)/\b_ wr w') \/
 (∃ σ' R' yK l',gO σ (i,s)=some σ'/\e=.returned (.bool true)/\jo w bV bS bT H N σ' R' yK l' w'/\RcF bV bS N R R' iv yK wr w')
theorem og (w:World)(bV bS bT:Nat)(H:Nat->Value)(N R0:Nat)(σ:dX)(R:Nat->Value×Value)(iv:Value)(l:List Int)(i:Nat)(s:fL)(a ag:o_)(c cg:Nat)(S:Nat->Prop)(wr:World)
  (h:jo w bV bS bT H N σ R iv l wr)(hB:MB w bV bS bT)(hm:oV R0 N σ)(hi:i<N)(hN:N<=6000)(Ir:R0<=250)(ht:aR wr S a s.types)(hg:bx wr S ag s.guards)(hS:∀ b,S b->b<wr.heap.size)(Tu:s.types.length<=1000)(wg:s.guards.length<=1000) :
  c_ 77 #[.pointer (some (a_ bV 0)),i_ (i:Int),.slice a s.types.length c,.slice ag s.guards.length cg] wr (rh w bV bS bT H N σ R iv i s wr):=by
 obtain⟨tt,gg⟩:=s;dsimp only at ht hg Tu wg ⊢;obtain⟨q0,q1,q2⟩:=h.reached hi;have Kp:wr.cell? (a_ bV 11)=some (.slice (some (a_ bS 0)) N N):=h.box.cell (i:=11) (by omega);have Wz:wr.cell? (a_ bV 12)=some iv:=h.box.cell (i:=12) (by omega);have OK:=h.box.lt;have jF:=h.sts.lt;have hiN:(i:Int)<N:=by omega
 have aP:=h.len hm;cases est:σ.st i with
 | some s0=>
  rw[est]at q0;obtain⟨o1,o2⟩:=h.own i s0 hi est;obtain⟨m1,m2,m3⟩:=(hm.st i s0 est).2;obtain⟨a1,c1,e1,I1⟩:=o1.ints (by omega);obtain⟨a2,c2,e2,I2⟩:=o2.gus (by omega);rw[e1]at q1;rw[e2]at q2;have E1:Hid (c_ 118 #[.slice a1 s0.types.length c1,.slice a tt.length c] wr (dq (decide (s0.types=tt)) wr)):=
   oF a1 a s0.types tt c1 c (fun b=>b<wr.heap.size) wr (I1.mono (fun b h=>h.2)) (ht.mono hS) (fun b h=>h)
  have E2:Hid (∀ w1,b_ wr w1->c_ 119 #[.slice a2 s0.guards.length c2,.slice ag gg.length cg] w1 (dq (kI s0.guards gg) w1)):=fun w1 hb=>
   xM a2 ag s0.guards gg c2 cg (fun b=>b<wr.heap.size) w1 ((I2.mono (fun b h=>h.2)).same (.of_below hb (fun b h=>h))) ((hg.mono hS).same (.of_below hb (fun b h=>h))) (fun b h=>l_ h hb.size) _ ke
  have HV:=af h;have RG:=af est;clear ht hg hS o1 o2 I1 I2 h e1 e2 est m1 m2 m3;by_cases ct:s0.types=tt
  ·have Pg:decide (s0.types=tt)=true:=decide_eq_true ct;rw[Pg]at E1;have CT:=af ct;clear ct Pg;go_enter Tryz.func77,Tryz.ntmps77;go_wp2_with fail
   refine(aa E1).mono ?_;rintro e w1 ⟨rfl,au⟩;have q2':w1.cell? (a_ bS (i * 3+2))=some (.slice a2 s0.guards.length c2):=(au.cell (p:=(a_ bS (i * 3+2))) jF).trans q2;have hbS1:bS<w1.heap.size:=l_ jF au.size;have E3:=af (aa E2 w1 au);have dM:=af au;clear au E2;go_wp2_with fail
   refine(aa E3).mono ?_;rintro e w2 ⟨rfl,bo⟩;have fN:Hid (b_ wr w2):=dM.out.trans (bo.mono dM.out.size);clear bo;go_wp2_with fail
   go_ret;cases cg':kI s0.guards gg with
   | true=>
    refine .inr ⟨σ,R,iv,l,wG RG.out ⟨CT.out,ke.1 cg'⟩,rfl,HV.out.below fN.out,⟨fun k hk _ _ _=>fN.out.block k hk,fun k hk=>.inl hk,fN.out.size,fun j k hj=>⟨fun hk=>.inl hk,fun hk=>.inl hk⟩⟩⟩
   | false=>
    refine .inl ⟨qU RG.out (fun hh=>?_),rfl,fN.out⟩;have:=ke.2 hh.2;change kI s0.guards gg=true at this;rw[cg']at this;cases this
  ·have Pg:decide (s0.types=tt)=false:=decide_eq_false ct;rw[Pg]at E1;have CT:=af ct;clear ct Pg;go_enter Tryz.func77,Tryz.ntmps77;go_wp2_with fail
   refine(aa E1).mono ?_;rintro e w1 ⟨rfl,au⟩;go_wp2_with fail
   go_ret;exact .inl ⟨qU RG.out (fun hh=>CT.out hh.1),rfl,au⟩
 | none=>
  rw[est]at q0;obtain⟨tv,w1,r1,O1,b1⟩:=JO a tt c S wr ht (by omega);obtain⟨gv,w2,r2,O2,b2⟩:=J9 ag gg cg S w1 (hg.same (.of_below b1 hS)) (by omega);obtain⟨a3,c3,rfl⟩:=O1.lenV;obtain⟨a4,c4,rfl⟩:=O2.lenV;have b12:b_ wr w2:=b1.trans (b2.mono b1.size);have h2:=h.below b12;have hT:=h.size;have PT:ar w2 bT (.slice a3 tt.length c3) tt:=(O1.base_le hT).below b2;have O2':cn w2 bT (.slice a4 gg.length c4) gg:=O2.base_le (Nat.le_trans hT b1.size);have YA:∀ k,(Value.slice a3 tt.length c3).ownBlock=some k->wr.heap.size<=k:=fun k hk=>(O1.lt' k hk).1;have XE:∀ k,(Value.slice a4 gg.length c4).ownBlock=some k->wr.heap.size<=k:=fun k hk=>Nat.le_trans b1.size (O2.lt' k hk).1;have h3:=h2.setSt hB i ⟨tt,gg⟩ _ _ PT O2' (fun j hj=>⟨fun k e1 e2=>by have:=(h.rowLt hj).1 k e1;have:=YA k e2;omega,fun k e1 e2=>by have:=(h.rowLt hj).2 k e1;have:=XE k e2;omega⟩) ⟨fun k e1 e2=>by have:=h.its.lt' k e1;have:=YA k e2;omega,fun k e1 e2=>by have:=h.its.lt' k e1;have:=XE k e2;omega⟩;obtain⟨p0,p1,p2⟩:=h2.reached hi;have z0:=h2.sts.frozen (i * 3);have z1:=h2.sts.frozen (i * 3+1);have z2:=h2.sts.frozen (i * 3+2);have abo:=h2.sts.lt;have hbV2:=h2.box.lt;have VJ:iv.ownBlock≠some bV:=fun e=>by have:=h.its.lt' _ e;have:=hB.o4;omega
  have kp:(i:Int) ∉ l:=fun hh=>by
   obtain⟨j,ej,hj⟩:=(h.due _).1 hh;have:j=i:=by omega
   aj this
   exact(hm.due j hj).2 est
  have PU:Hid (c_ 120 #[.pointer (some (a_ bV 12)),i_ (i:Int)] (((w2.setCell (a_ bS (i * 3)) (.bool true)).setCell (a_ bS (i * 3+1)) (.slice a3 tt.length c3)).setCell (a_ bS (i * 3+2)) (.slice a4 gg.length c4)) (EG bV 12 bT iv l (i:Int) (((w2.setCell (a_ bS (i * 3)) (.bool true)).setCell (a_ bS (i * 3+1)) (.slice a3 tt.length c3)).setCell (a_ bS (i * 3+2)) (.slice a4 gg.length c4)))):=
   Do bV 12 bT iv l (i:Int) _ (h3.box.cell (i:=12) (by omega)) (h3.box.frozen 12) h3.its h3.size h3.dec kp (by omega) VJ
  have FR:Hid ((∀ k,(Value.slice a3 tt.length c3).ownBlock=some k->wr.heap.size<=k)/\∀ k,(Value.slice a4 gg.length c4).ownBlock=some k->wr.heap.size<=k):=⟨YA,XE⟩;have RP:=af r1;have US:=af r2;have H3:=af h3;have HB:=af hB;have YM:=af b12;have RY:Hid (gO σ (i,⟨tt,gg⟩)=some ⟨bZ σ.st i (some ⟨tt,gg⟩),bZ σ.due i true⟩):=pK est;have vm:Hid (∀ k,k≠bS->(((w2.setCell (a_ bS (i * 3)) (.bool true)).setCell (a_ bS (i * 3+1)) (.slice a3 tt.length c3)).setCell (a_ bS (i * 3+2)) (.slice a4 gg.length c4)).heap[k]? = w2.heap[k]?):=fun k hk=>by
   rw[heap_setCell_other _ (a_ bS _) _ _ hk,heap_setCell_other _ (a_ bS _) _ _ hk,heap_setCell_other _ (a_ bS _) _ _ hk]
  have SV:Hid ((((w2.setCell (a_ bS (i * 3)) (.bool true)).setCell (a_ bS (i * 3+1)) (.slice a3 tt.length c3)).setCell (a_ bS (i * 3+2)) (.slice a4 gg.length c4)).heap.size=w2.heap.size):=by show _=_;simp
  have aba:=af h.dec;have jO:=af kp;have est':=af est;clear h h2 h3 hB hm ht hg hS O1 O2 PT O2' YA XE b1 b2 b12 VJ kp q1 q2 est r1 r2;go_enter Tryz.func77,Tryz.ntmps77;go_wp2_with (first
   | (at_builtin;refine bJ rfl _ _ 70 rfl _ _ rfl rfl (aa RP) ?_)
   | (at_builtin;refine bJ rfl _ _ 95 rfl _ _ rfl rfl (aa US) ?_))
  refine(aa PU).mono ?_;rintro e w5 ⟨rfl,w4,yK,k,rfl,hp,ho,hf,hn,hb⟩;have eM:Hid (rh w bV bS bT H N σ R iv i ⟨tt,gg⟩ wr (.returned (.bool true)) (w4.setCell (a_ bV 12) yK)):=by
   refine .inr ⟨_,_,yK,mA l (i:Int) k,RY.out,rfl,(H3.out).put HB.out hi ho hf hn hb (JQ aba.out hp jO.out) (fun y=>Jh),⟨fun q hq n1 n2 n3=>?_,fun q hq=>?_,?_,fun j q hj=>?_⟩⟩
   ·have Vb:=YM.out.size;rw[heap_setCell_other w4 (a_ bV 12) q _ n1,hf q (by rw[SV.out];omega) n3,vm.out q n2];exact YM.out.block q hq
   ·have Vb:=YM.out.size;exact(hn q hq).imp_right (fun hh=>by rw[SV.out]at hh;omega)
   ·have Vb:=YM.out.size;have:=hb.size;rw[SV.out]at this;simp;omega
   ·unfold bZ;split
    ·exact⟨fun hk=>.inr (FR.out.1 q hk),fun hk=>.inr (FR.out.2 q hk)⟩
    ·exact⟨fun hk=>.inl hk,fun hk=>.inl hk⟩
  clear hp ho hf hn hb PU;go_wp2_with fail
  go_ret;exact eM.out
def dY (n:aA)(s:fL)(t:List Int)(g:List bg):fL:=if n.op=31 then⟨dI n s.types,s.guards⟩else if n.op=41 then⟨t.set n.fc.toNat (bb s.types n.fc.toNat),g⟩else⟨t,g⟩
def kB (n:aA)(s:fL)(t:List Int)(g:List bg):List (Nat×fL):=match cE n with
 | none=>[]
 | some y=>[(y.toNat,dY n s t g)]
theorem F9 (n:aA)(a:Nat)(s:fL)(t:List Int)(g:List bg):bK n a s t g=(if de n then[(a+1,⟨t,g⟩)]else[])++kB n s t g:=by
 unfold bK
 congr 1
 unfold kB cE dY;by_cases c1:n.op=19
 ·simp[c1]
 by_cases c2:n.op=31
 ·simp[c2]
 by_cases c3:n.op=41
 ·simp[c3]
 by_cases c4:n.op=20\/n.op=21\/n.op=38\/n.op=39
 ·rw[if_neg c1,if_pos c4,if_neg (by omega),if_pos (by omega),if_neg c2,if_neg c3]
 ·rw[if_neg c1,if_neg c4,if_neg c3,if_neg c2,if_neg (by omega),if_neg (by omega)]
def gx (l:List ak)(n:aA)(a:Nat)(σ:dX)(s:fL):(Int×Nat) ⊕ dX:=
 match bI l n s.types with
 | none=>.inl (10,a)
 | some r=>
  match aQ n s.guards with
  | none=>.inl (11,a)
  | some g=>
   if kY n s.guards r.taken s.types (bh n r.types)then
    match fk (bK n a s (bh n r.types) g) σ with
    | .inl at_=>.inl (13,at_)
    | .inr σ'=>.inr σ'
   else .inl (12,a)
theorem EV {l:List ak}{x:ak}{σ:dX}{a:Nat}{s:fL}(h:σ.st a=some s):fT l x σ a=gx l (aT x a) a ⟨σ.st,bZ σ.due a false⟩ s:=by
 unfold fT;rw[h];rfl
theorem ID {l:List ak}{n:aA}{a:Nat}{σ:dX}{s:fL}(h1:bI l n s.types=none):gx l n a σ s=.inl (10,a):=by
 unfold gx;rw[h1]
theorem IG {l:List ak}{n:aA}{a:Nat}{σ:dX}{s:fL}{r:gX}(h1:bI l n s.types=some r)(h2:aQ n s.guards=none):gx l n a σ s=.inl (11,a):=by
 unfold gx;rw[h1];show(match aQ n s.guards with | none=>_ | some g=>_)=_;rw[h2]
theorem JL {l:List ak}{n:aA}{a:Nat}{σ:dX}{s:fL}{r:gX}{g:List bg}(h1:bI l n s.types=some r)(h2:aQ n s.guards=some g)(h3:¬kY n s.guards r.taken s.types (bh n r.types)=true):gx l n a σ s=.inl (12,a):=by
 unfold gx;rw[h1];show(match aQ n s.guards with | none=>_ | some g=>_)=_;rw[h2];show(if _ then _ else _)=_;rw[if_neg h3]
theorem I7 {l:List ak}{n:aA}{a:Nat}{σ:dX}{s:fL}{r:gX}{g:List bg}(h1:bI l n s.types=some r)(h2:aQ n s.guards=some g)(h3:kY n s.guards r.taken s.types (bh n r.types)=true):gx l n a σ s=(match fk ((if de n then[(a+1,⟨bh n r.types,g⟩)]else[])++kB n s (bh n r.types) g) σ with | .inl y=>.inl (13,y) | .inr σ'=>.inr σ'):=by
 unfold gx;rw[h1];show(match aQ n s.guards with | none=>_ | some g=>_)=_;rw[h2];show(if _ then _ else _)=_;rw[if_pos h3,F9]
theorem IQ {n:aA}{a:Nat}{σ:dX}{s:fL}{t:List Int}{g:List bg}(hg:de n=true)(h1:gO σ (a+1,⟨t,g⟩)=none):(match fk ((if de n then[(a+1,⟨t,g⟩)]else[])++kB n s t g) σ with | .inl y=>(Sum.inl (13,y):(Int×Nat) ⊕ dX) | .inr σ'=>.inr σ')=.inl (13,a+1):=by
 rw[if_pos hg,List.singleton_append,uT h1]
theorem AG {n:aA}{a:Nat}{σ σ2:dX}{s:fL}{t:List Int}{g:List bg}(h:(de n=true/\gO σ (a+1,⟨t,g⟩)=some σ2)\/(de n=false/\σ2=σ)):(match fk ((if de n then[(a+1,⟨t,g⟩)]else[])++kB n s t g) σ with | .inl y=>(Sum.inl (13,y):(Int×Nat) ⊕ dX) | .inr σ'=>.inr σ')=(match fk (kB n s t g) σ2 with | .inl y=>(Sum.inl (13,y):(Int×Nat) ⊕ dX) | .inr σ'=>.inr σ'):=by
 rcases h with⟨h1,h2⟩ | ⟨h1,rfl⟩
 ·rw[if_pos h1,qk _ (uV h2)]
 ·rw[if_neg (by rw[h1];decide),List.nil_append]
theorem wP {n:aA}{σ:dX}{s:fL}{t:List Int}{g:List bg}(h:cE n=none):(match fk (kB n s t g) σ with | .inl y=>(Sum.inl (13,y):(Int×Nat) ⊕ dX) | .inr σ'=>.inr σ')=.inr σ:=by
 unfold kB;rw[h];rfl
theorem Az {n:aA}{σ:dX}{s:fL}{t:List Int}{g:List bg}{y:Int}(h:cE n=some y)(h1:gO σ (y.toNat,dY n s t g)=none):(match fk (kB n s t g) σ with | .inl y=>(Sum.inl (13,y):(Int×Nat) ⊕ dX) | .inr σ'=>.inr σ')=.inl (13,y.toNat):=by
 unfold kB;rw[h];show(match fk [(y.toNat,dY n s t g)] σ with | .inl y=>_ | .inr σ'=>_)=_;rw[uT h1]
theorem Fb {n:aA}{σ σ2:dX}{s:fL}{t:List Int}{g:List bg}{y:Int}(h:cE n=some y)(h1:gO σ (y.toNat,dY n s t g)=some σ2):(match fk (kB n s t g) σ with | .inl y=>(Sum.inl (13,y):(Int×Nat) ⊕ dX) | .inr σ'=>.inr σ')=.inr σ2:=by
 unfold kB;rw[h];show(match fk [(y.toNat,dY n s t g)] σ with | .inl y=>_ | .inr σ'=>_)=_;rw[uV h1]
structure Jd (l:List ak)(n:aA)(a R0 N:Nat):Prop where
 op:1<=n.op/\n.op<=42
 fit:∀ k,k<4->gI (aC n.op.toNat k) (dm n k) R0
 ups:un l n R0
 put:∀ ty,ty.length=R0->∀ q,q∈(eL l n ty).puts->q.1<R0
 inf:wZ n a R0 N
 try_:n.op=31->0<=n.fb/\n.fb+2<=R0
 keep:n.op=33\/n.op=34->0<=n.fa
 each:n.op=41->0<=n.fc/\n.fc<R0
 targ:∀ y,cE n=some y->0<=y/\y.toNat<N
theorem Qv {n:ak}{np:Nat}{x:Int}{r:Nat}(hr:r<=23)(h:dh n np x (iD r)=true)(hn:0<=n.regs):gI r x n.regs.toNat:=by
 have hc:r=0\/r=1\/r=2\/r=3\/r=4\/r=5\/r=6\/r=7\/r=8\/r=9\/r=10\/r=11\/r=12\/r=13\/r=14\/r=15\/r=16\/r=17\/r=18\/r=19\/r=20\/r=21\/r=22\/r=23:=by omega
 unfold gI;rcases hc with rfl | rfl | rfl | rfl | rfl | rfl | rfl | rfl | rfl | rfl | rfl | rfl | rfl | rfl | rfl | rfl | rfl | rfl | rfl | rfl | rfl | rfl | rfl | rfl
 all_goals first
  | (refine⟨fun e=>?_,fun e=>?_,fun e=>?_,fun e=>?_,fun e=>?_⟩<;>exact absurd e (by omega))
  | (have:=aV (show dw x (-n.regs) (n.regs-1)=true from h);refine⟨fun e=>?_,fun e=>?_,fun e=>?_,fun e=>?_,fun e=>?_⟩<;>omega)
  | (have:=aV (show dw x 0 (n.regs-1)=true from h);refine⟨fun e=>?_,fun e=>?_,fun e=>?_,fun e=>?_,fun e=>?_⟩<;>omega)
  | (have:=aV (show dw x 0 (n.regs-2)=true from h);refine⟨fun e=>?_,fun e=>?_,fun e=>?_,fun e=>?_,fun e=>?_⟩<;>omega)
  | (have:=aV (show dw x 0 (n.regs-3)=true from h);refine⟨fun e=>?_,fun e=>?_,fun e=>?_,fun e=>?_,fun e=>?_⟩<;>omega)
theorem yt {n:ak}{np:Nat}{x:Int}{r:Nat}(hr:r<=23)(h:dh n np x (iD r)=true)(hn:0<=n.regs):∀ q,q∈fF r x->q.1<n.regs.toNat:=by
 intro q hq;unfold fF at hq;by_cases c1:r=19
 ·rw[if_pos c1,List.mem_singleton]at hq
  aj c1;aj hq
  have:=aV (show dw x 0 (n.regs-2)=true from h);show x.toNat+1<_;omega
 rw[if_neg c1]at hq;have go:(r=20\/r=21\/r=22\/r=23)->x.toNat<n.regs.toNat:=fun e=>by
  have h2:dw x 0 (n.regs-1)=true:=by rcases e with rfl | rfl | rfl | rfl<;>exact h
  have:=aV h2;omega
 by_cases c2:r=20
 ·rw[if_pos c2,List.mem_singleton]at hq;aj hq;exact go (by omega)
 rw[if_neg c2]at hq;by_cases c3:r=21
 ·rw[if_pos c3,List.mem_singleton]at hq;aj hq;exact go (by omega)
 rw[if_neg c3]at hq;by_cases c4:r=22
 ·rw[if_pos c4,List.mem_singleton]at hq;aj hq;exact go (by omega)
 rw[if_neg c4]at hq;by_cases c5:r=23
 ·rw[if_pos c5,List.mem_singleton]at hq;aj hq;exact go (by omega)
 rw[if_neg c5]at hq;cases hq
theorem xe {l:List ak}{p a:Nat}(hk:uD l p)(ha:a<(am l p).ins.length):Jd l (aT (am l p) a) a (am l p).regs.toNat (am l p).ins.length:=by
 have h:=hk.ins a ha;have hr:=hk.regs.1;obtain⟨fo,hf,_⟩:=gJ h;obtain⟨ta,tb⟩:=mP h;have Rw:=je h ha hr;have qw:=hk.made a ha;generalize aT (am l p) a=n at *;obtain⟨op,ho⟩:∃ op:Nat,n.op=op:=⟨n.op.toNat,by omega⟩;have mj:op<43:=by omega
 have hm:=kQ op mj (by omega);rw[ho,hm]at hf;change ∀ k,k<4->dh (am l p) l.length (dm n k) (([iD (aC op 0),iD (aC op 1),iD (aC op 2),iD (aC op 3)]:List Nat)[k]?.getD 0)=true at hf;have NY:∀ k,k<4->dh (am l p) l.length (dm n k) (iD (aC op k))=true:=fun k hk=>by
  have:=hf k hk;have hc:k=0\/k=1\/k=2\/k=3:=by omega
  rcases hc with rfl | rfl | rfl | rfl<;>exact this
 have pw:∀ k,k<4->aC op k<=23:=fun k hk=>fE op mj k hk;have abx:n.op.toNat=op:=by omega
 refine⟨fo,fun k hk=>?_,qw,fun ty eA q hq=>?_,Rw,fun e=>?_,fun e=>?_,fun e=>?_,fun y hy=>?_⟩
 ·rw[abx];exact Qv (pw k hk) (NY k hk) hr
 ·have hp:(eL l n ty).puts=fF (aC op 0) n.fa++fF (aC op 1) n.fb++fF (aC op 2) n.fc++fF (aC op 3) n.fd:=by
   have EC:=qq ho mj (start ty);have e:(start ty).puts=[]:=rfl;rw[e,List.nil_append]at EC;unfold eL;split
   ·rw[(iQ _ _ _).1];exact EC
   ·exact EC
  rw[hp]at hq;simp only[List.mem_append]at hq;rcases hq with((hq | hq) | hq) | hq
  ·exact yt (pw 0 (by omega)) (NY 0 (by omega)) hr q hq
  ·exact yt (pw 1 (by omega)) (NY 1 (by omega)) hr q hq
  ·exact yt (pw 2 (by omega)) (NY 2 (by omega)) hr q hq
  ·exact yt (pw 3 (by omega)) (NY 3 (by omega)) hr q hq
 ·have:op=31:=by omega
  aj this
  have:=aV (show dw n.fb 0 ((am l p).regs-2)=true from NY 1 (by omega));omega
 ·rcases e with e | e
  ·have:op=33:=by omega
   aj this
   exact(aV (show dw n.fa 0 (am l p).regs=true from NY 0 (by omega))).1
  ·have:op=34:=by omega
   aj this
   exact(aV (show dw n.fa 0 (am l p).regs=true from NY 0 (by omega))).1
 ·have:op=41:=by omega
  aj this
  have:=aV (show dw n.fc 0 ((am l p).regs-1)=true from NY 2 (by omega));omega
 ·unfold cE at hy;by_cases c1:n.op=19\/n.op=31
  ·rw[if_pos c1]at hy;cases hy;have:=ta c1;omega
  rw[if_neg c1]at hy;by_cases c2:n.op=20\/n.op=21\/n.op=38\/n.op=39\/n.op=41
  ·rw[if_pos c2]at hy;cases hy;have:=tb c2;omega
  ·rw[if_neg c2]at hy;cases hy
theorem GM:∀ k:Nat,([0,0,0,0]:List Nat)[k]?.getD 0=0
 | 0=>rfl
 | 1=>rfl
 | 2=>rfl
 | 3=>rfl
 | _+4=>rfl
theorem sm (n:aA)(s:gX):∀ k,aX [0,0,0,0] n s k=some s
 | 0=>rfl
 | k+1=>by
  change (match aX [0,0,0,0] n s k with | none=>none | some s'=>gK (([0,0,0,0]:List Nat)[k]?.getD 0) (dm n k) s')=some s;rw[sm n s k,GM k];change gK 0 (dm n k) s=some s;unfold gK;rw[if_pos (by decide)]
theorem QB {l:List ak}{n:aA}{t:List Int}{r:gX}(h:n.op=32)(hr:bI l n t=some r):bh n r.types=t:=by
 have e:bj n.op=some [0,0,0,0]:=by rw[h];decide
 have h4:aX ((bj n.op).getD []) n ⟨t,[],[]⟩ 4=some ⟨t,[],[]⟩:=by
  rw[e];exact sm n _ 4
 unfold bI at hr;rw[h4]at hr;change (if _ then _ else _)=_ at hr;rw[if_neg (by rw[h];intro c;exact absurd c.1 (by decide))]at hr;cases hr;unfold bh;rw[e,h];rfl
def jx (bV bS:Nat)(iv:Value)(k:Nat):Prop:=k≠bV/\k≠bS/\iv.ownBlock≠some k
structure wV (w1:World)(Z:Nat->Prop)(bT bF bX bA:Nat)(n:aA)(s:fL)(tA gA:Value)(wr:World):Prop where
 frm:∀ k,k<bF->Z k->wr.heap[k]? = w1.heap[k]?
 res:wr.rowIs bF 36 3 (fun _=>i_ 0)
 ins:wr.rowIs bX 51 5 (fun j=>[Value.int .i64 n.op,i_ n.fa,i_ n.fb,i_ n.fc,i_ n.fd][j]?.getD (.bool false))
 st:wr.rowIs bA 97 3 (fun j=>[Value.bool true,tA,gA][j]?.getD (.bool false))
 ty:ar wr bT tA s.types
 gu:cn wr bT gA s.guards
section
variable {w1:World} {Z:Nat->Prop} {bT bF bX bA:Nat} {n:aA} {s:fL} {tA gA:Value} {wr w2:World}
theorem wV.frame (h:wV w1 Z bT bF bX bA n s tA gA wr)(P:Nat->Prop)(hs:∀ k,k<wr.heap.size->P k->w2.heap[k]? = wr.heap[k]?)(p1:P bF)(p2:P bX)(p3:P bA)(p4:∀ k,tA.ownBlock=some k->P k)(p5:∀ k,gA.ownBlock=some k->P k)(p6:∀ k,k<bF->Z k->P k):wV w1 Z bT bF bX bA n s tA gA w2 where
 frm:=fun k hk hz=>(hs k (Nat.lt_trans hk h.res.lt) (p6 k hk hz)).trans (h.frm k hk hz)
 res:=h.res.of_block (hs _ h.res.lt p1)
 ins:=h.ins.of_block (hs _ h.ins.lt p2)
 st:=h.st.of_block (hs _ h.st.lt p3)
 ty:=h.ty.sameBlock (fun k e=>hs k (h.ty.lt' k e).2 (p4 k e))
 gu:=h.gu.sameBlock (fun k e=>hs k (h.gu.lt' k e).2 (p5 k e))
theorem wV.below (h:wV w1 Z bT bF bX bA n s tA gA wr)(hb:b_ wr w2):wV w1 Z bT bF bX bA n s tA gA w2:=
 h.frame (fun _=>True) (fun k hk _=>hb.block k hk) trivial trivial trivial (fun _ _=>trivial) (fun _ _=>trivial) (fun _ _ _=>trivial)
theorem iy.frame {bt B:Nat}{t:TD}{tv sv kv pv:Value}(h:iy bt B t tv sv kv pv wr)(P:Nat->Prop)(hs:∀ k,k<wr.heap.size->P k->w2.heap[k]? = wr.heap[k]?)(hP:∀ k,B<=k->k<wr.heap.size->P k):iy bt B t tv sv kv pv w2:=
 {h with
  row:=h.row.of_block (hs _ h.row.lt (hP _ h.ge h.row.lt))
  ty:=h.ty.sameBlock (fun k e=>hs k (h.ty.lt' k e).2 (hP k (h.ty.lt' k e).1 (h.ty.lt' k e).2))
  se:=h.se.sameBlock (fun k e=>hs k (h.se.lt' k e).2 (hP k (h.se.lt' k e).1 (h.se.lt' k e).2))
  ta:=h.ta.sameBlock (fun k e=>hs k (h.ta.lt' k e).2 (hP k (h.ta.lt' k e).1 (h.ta.lt' k e).2))
  pu:=h.pu.sameBlock (fun k e=>hs k (h.pu.lt' k e).2 (hP k (h.pu.lt' k e).1 (h.pu.lt' k e).2)) }
theorem jo.other {w:World}{bV bS:Nat}{H:Nat->Value}{N:Nat}{σ:dX}{R:Nat->Value×Value}{iv:Value}{l:List Int}(h:jo w bV bS bT H N σ R iv l wr)(D j:Nat)(u:Value)(h0:w.heap.size<=D)(h1:D≠bV)(h2:D≠bS)(h3:iv.ownBlock≠some D)(h4:∀ i,i<N->(R i).1.ownBlock≠some D/\(R i).2.ownBlock≠some D):jo w bV bS bT H N σ R iv l (wr.setCell (a_ D j) u):=by
 have hk:∀ k,k≠D->(wr.setCell (a_ D j) u).heap[k]? = wr.heap[k]?:=fun k hk=>heap_setCell_other wr (a_ D j) k _ hk;exact { h with
  old:=h.old.setCell h0 _
  size:=by have:=h.size;simpa using this
  box:=h.box.of_block (hk bV (fun e=>h1 e.symm))
  sts:=h.sts.of_block (hk bS (fun e=>h2 e.symm))
  own:=fun i s hi hs=>⟨(h.own i s hi hs).1.sameBlock (fun k e=>hk k (fun e2=>(h4 i hi).1 (by rw[<-e2];exact e))),(h.own i s hi hs).2.sameBlock (fun k e=>hk k (fun e2=>(h4 i hi).2 (by rw[<-e2];exact e)))⟩
  its:=h.its.sameBlock (fun k e=>hk k (fun e2=>h3 (by rw[<-e2];exact e))) }
end
end Go.Proofs.YtcjfjflljdojlaaGreatDoor
