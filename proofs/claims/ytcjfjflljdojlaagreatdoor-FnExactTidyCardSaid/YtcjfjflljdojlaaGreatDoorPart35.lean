import Derived.Test.YtcjfjflljdojlaaGreatDoorPart34
import Derived.Shelf.Spec.SlicesInsertGrow
set_option linter.all false
set_option maxHeartbeats 4000000
set_option maxRecDepth 100000
namespace Go.Proofs.YtcjfjflljdojlaaGreatDoor
open Go.RowKit Go.Shelf
def xE:Ren:=⟨fun n=>if n=21 then 143 else if n=27 then 154 else if n=28 then 155 else if n=35 then 159 else 161,fun n=>if n=3 then 3 else if n=4 then 4 else if n=22 then 70 else 0,fun n=>n⟩
theorem qd:Lays2.n21 Tryz.prog xE where
 mixed:=by kernel_rfl
 f21:=Tryz.func143.trans (by kernel_rfl)
 f27:=Tryz.func154.trans (by kernel_rfl)
 f28:=Tryz.func155.trans (by kernel_rfl)
 f35:=Tryz.func159.trans (by kernel_rfl)
 f39:=Tryz.func161.trans (by kernel_rfl)
 t0:=Tryz.underlying0
 a0:=Tryz.isAgg0
 z0:=Tryz.sizeOf0
 v0:=Tryz.zeroValue0
 t3:=Tryz.underlying3
 a3:=Tryz.isAgg3
 z3:=Tryz.sizeOf3
 v3:=Tryz.zeroValue3
 t4:=Tryz.underlying4
 a4:=Tryz.isAgg4
 z4:=Tryz.sizeOf4
 v4:=Tryz.zeroValue4
 t22:=Tryz.underlying70
 a22:=Tryz.isAgg70
 z22:=Tryz.sizeOf70
 v22:=Tryz.zeroValue70
 i3:=by kernel_rfl
def mA (l:List Int)(x:Int)(k:Nat):List Int:=l.take k++x::l.drop k
theorem Av {l:List Int}{x:Int}{k:Nat}(h:k<=l.length):(mA l x k).length=l.length+1:=by
 unfold mA;simp;omega
theorem mZ {l:List Int}{x:Int}{k:Nat}(h:k<=l.length)(j:Nat):(mA l x k)[j]?.getD 0=if j<k then l[j]?.getD 0 else if j=k then x else l[j-1]?.getD 0:=by
 unfold mA;have ht:(l.take k).length=k:=by{simp;omega};by_cases c1:j<k;{rw[zca c1,List.getElem?_append_left (by omega),List.getElem?_take,zca c1]};{rw[zcb c1,List.getElem?_append_right (by omega),ht];by_cases c2:j=k;{rw[zca c2,c2,Nat.sub_self];rfl};{rw[zcb c2,show j-k=(j-k-1)+1 by omega,List.getElem?_cons_succ,List.getElem?_drop,show k+(j-k-1)=j-1 by omega]}}
theorem J7 {l:List Int}{x y:Int}{k:Nat}:y∈mA l x k↔y=x\/y∈l:=by
 unfold mA;have e:=List.take_append_drop k l;constructor;{intro h;rw[zaa,List.mem_cons]at h;rcases h with h | h | h;{exact .inr (List.mem_of_mem_take h)};{exact .inl h};{exact .inr (List.mem_of_mem_drop h)}};{intro h;rw[zaa,List.mem_cons];rcases h with h | h;{exact .inr (.inl h)};{rw[<-e,zaa]at h;rcases h with h | h;{exact .inl h};{exact .inr (.inr h)}}}
theorem IM {l:List Int}{x:Int}{k:Nat}(hd:O8 l)(hp:pG l x k)(hx:x ∉ l):O8 (mA l x k):=by
 have au:∀ r,k<=r->r<l.length->l[r]?.getD 0<x:=fun r h1 h2=>by
  have:=hp.ng r h1 h2;have hm:l[r]?.getD 0∈l:=by{rw[g_ h2];exact zab h2};have eh:l[r]?.getD 0≠x:=fun e=>hx (e ▸ hm);omega
 intro r s cK hs;rw[Av hp.le]at hs;rw[mZ hp.le,mZ hp.le];by_cases c1:s<k;{rw[zca c1,zca (by omega)];exact hd r s cK (by have:=hp.le;omega)};rw[zcb c1];by_cases c2:s=k;{rw[zca c2,zca (by omega)];exact hp.gt r (by omega)};rw[zcb c2];by_cases c3:r<k;{rw[zca c3];exact hd r (s-1) (by omega) (by omega)};rw[zcb c3];by_cases c4:r=k;{rw[zca c4];exact au (s-1) (by omega) (by omega)};{rw[zcb c4];exact hd (r-1) (s-1) (by omega) (by omega)}
theorem kw {w:w_}{b n c base:Nat}{f:Nat->Value}{t:List Int}(h:w.rowIs b 3 c f)(hn:t.length=n)(hc:n<=c)(hb:base<=b)(hl:c<=maxLen)(hf:∀ j,j<n->f j=i_ (t[j]?.getD 0)):ao w base (s_ b 0 n c) t:=by
 obtain⟨gh,h1,h2,h3⟩:=h;subst hn;refine⟨by simp,.inr ⟨b,c,gh,rfl,hb,h1,hc,hl,by omega,?_⟩⟩;apply List.ext_getElem?;intro j;by_cases hj:j<t.length;{rw[List.getElem?_take,zca (by omega),Array.getElem?_toList,h3 j (by omega),hf j hj,zae,g_ hj];rfl};{rw[List.getElem?_eq_none (by simp;omega),List.getElem?_eq_none (by simp;omega)]}
theorem jR {b:Nat}{t:TypeId}{n:Nat}:∀(vs:List Value)(o:Nat)(w:w_)(f:Nat->Value),w.rowIs b t n f->(w.setCells b o vs).rowIs b t n (fun j=>if o<=j/\j<o+vs.length then vs[j-o]?.getD default else f j)
 | [],o,w,f,h=>h.congr (fun j _=>by rw[zcb (by simp)])
 | v::r,o,w,f,h=>(jR r (o+1) _ _ (h.set o v)).congr (fun j _=>by
   by_cases h1:j=o
   ·subst h1;rw[zcb (by omega),zca rfl,zca (by simp),Nat.sub_self];rfl
   ·by_cases h2:o+1<=j/\j<o+1+r.length
    ·rw[zca h2,zca (by simp;omega),show j-o=(j-(o+1))+1 by omega,List.getElem?_cons_succ]
    ·rw[zcb h2,zcb h1,zcb (by simp;omega)])
theorem ii (b:Nat)(k:Nat)(hk:k≠b):∀(vs:List Value)(o:Nat)(w:w_),(w.setCells b o vs).heap[k]? = w.heap[k]?
 | [],_,_=>rfl
 | v::r,o,w=>by show((w.setCell (a_ b o) v).setCells b (o+1) r).heap[k]? = _;rw[ii b k hk r,zbg w (a_ b o) k v hk]
def xG (l':List Int)(base:Nat)(v:Value)(w:w_)(e:Ending)(w':w_):Prop:=
 ∃ v',e=.returned v'/\ao w' base v' l'/\(∀ k,k<w.heap.size->v.ownBlock≠some k->w'.heap[k]? = w.heap[k]?)/\(∀ k,v'.ownBlock=some k->v.ownBlock=some k\/w.heap.size<=k)/\Below base w w'
theorem ip {B b:Nat}{a:w_}(hb:B<=b):∀(vs:List Value)(o:Nat)(w:w_),Below B a w->Below B a (w.setCells b o vs)
 | [],_,_,h=>h
 | v::r,o,w,h=>ip hb r (o+1) _ (h.setCell (p:=(a_ b o)) hb v)
theorem IL (l:List Int)(j:Nat)(h:j<l.length):(l.map (Value.int .i64))[j]?.getD default=i_ (l[j]?.getD 0):=by
 rw[zae,g_ h];rfl
theorem oQ {w:w_}{b:Nat}{t:TypeId}{n:Nat}{f:Nat->Value}(h:w.rowIs b t n f):w.drew.rowIs b t n f:=h.of_block rfl
theorem De (v:Value)(l:List Int)(k:Nat)(x:Int)(base vb vc:Nat)(w:w_)(h:ao w base v l)(kN:base<=w.heap.size)(hl:l.length<=1000000)(hk:k<=l.length)(hv:w.heap[vb]? = some (.cells #[i_ x] 3 (0,0)))(eh:v.ownBlock≠some vb) :
  c_ 143 #[v,i_ (k:Int),s_ vb 0 1 vc] w (xG (mA l x k) base v w):=by
 have QU:∀ j u,[Value.int .i64 x][j]? = some u->w.cell? (a_ vb (0+j))=some u:=fun j u hj=>by
  cases j with
  | zero=>simp at hj;subst hj;simp[World.cell?,hv]
  | succ j=>simp at hj
 have WX:∀ u∈[Value.int .i64 x],u.oneCell'=true:=fun u hu=>by simp at hu;subst hu;rfl
 have h1c:∀ u∈l.map (Value.int .i64),u.oneCell'=true:=fun u hu=>by rw[List.mem_map]at hu;obtain⟨y,_,rfl⟩:=hu;rfl
 have jl:=Av (l:=l) (x:=x) hk;have cS:(Builtin.zeroCells (Value.int .i64 0).cells)=fun m=>Builtin.zeroCells (Value.int .i64 0).cells m:=rfl;have TO:∀ m,(Builtin.zeroCells (Value.int .i64 0).cells m).size=m:=fun m=>by rw[size_zeroCells];simp[Value.cells]
 have U6:∀(A:Array Value) (gc:Nat),A.size=l.length+1->l.length+1<=gc->gc<=maxLen->(∀ j,j<l.length+1->A[j]? = some (i_ ((mA l x k)[j]?.getD 0))) ->
   xG (mA l x k) base v w (.returned (s_ w.heap.size 0 (l.length+1) gc)) (w.drew.alloc (.cells (A++Builtin.zeroCells (Value.int .i64 0).cells (gc-(l.length+1))) 3)):=fun A gc hA h1 h2 h3=>by
  refine⟨_,rfl,?_,fun q hq _=>?_,fun q hq=>.inr ?_,?_⟩
  ·have hr:=World.rowIs_alloc w.drew (A++Builtin.zeroCells (Value.int .i64 0).cells (gc-(l.length+1))) 3 (fun j=>(A++Builtin.zeroCells (Value.int .i64 0).cells (gc-(l.length+1)))[j]?.getD default) (fun i hi=>by rw[Array.getElem?_eq_getElem hi];rfl);have km:(A++Builtin.zeroCells (Value.int .i64 0).cells (gc-(l.length+1))).size=gc:=by rw[Array.size_append,hA,TO];omega
   rw[km]at hr;refine kw (b:=w.heap.size) hr jl h1 kN h2 (fun j hj=>?_);rw[Array.getElem?_append_left (by omega),h3 j hj];rfl
  ·exact Below.block (B:=w.heap.size) (w:=w) ((r_.drew).alloc n_ _) q hq
  ·have:w.heap.size=q:=Option.some.inj hq;omega
  ·exact(r_.drew).alloc kN _
 by_cases hend:k=l.length
 ·subst hend;have hI:mA l x l.length=l++[x]:=by unfold mA;simp
  have hA:∀ j,j<l.length+1->((l.map (Value.int .i64))++[Value.int .i64 x]).toArray[j]? = some (i_ ((mA l x l.length)[j]?.getD 0)):=fun j hj=>by
   rw[hI,List.getElem?_toArray,<-List.map_singleton,<-List.map_append,zae,g_ (by simp;omega)];rfl
  rcases h.2 with⟨rfl,h0⟩ | ⟨g,cap,gh,rfl,Ui,hg,hn,jL,km,KH⟩
  ·have key:=Any2.slices_Insert_int_end_grow qd none 0 0 vb 0 1 vc [] [i_ x] w (by omega) (by omega) (by omega) (by omega) rfl rfl (fun _=>rfl) (fun a ha=>by cases ha) QU WX;have h00:l=[]:=zac h0;subst h00;refine key.mono ?_;rintro e w' ⟨rfl,rfl⟩;exact U6 #[i_ x] _ rfl (grownCap_ge ..) (grownCap_le_maxLen _ _ _ _ (by unfold maxLen;omega)) (fun j hj=>by
    have:j=0:=by simp at hj;omega
    subst this;rfl)
  ·have bx:w.rowIs g 3 cap (fun j=>gh[j]?.getD default):=⟨gh,hg,by omega,fun i hi=>by show gh[i]? = some (gh[i]?.getD default);rw[Array.getElem?_eq_getElem (by omega)];rfl⟩;have aC:∀ j,j<l.length->w.cell? (a_ g j)=some (i_ (l[j]?.getD 0)):=fun j hj=>by
    obtain⟨g',iL,e,_,_,h3⟩:=h.at (by omega);injection e with e1;injection e1 with e1;injection e1 with e1;subst e1;exact h3 j hj
   by_cases hroom:l.length+1<=cap;{have key:=Any2.slices_Insert_int_end_room qd g 0 l.length cap vb 0 1 vc [i_ x] w (by omega) hroom (by unfold maxLen at jL;omega) rfl (fun j hj=>by rw[bx.cell (by omega)];rfl) (fun j hj=>bx.frozen _) QU WX;refine key.mono ?_;rintro e w' ⟨rfl,rfl⟩;refine⟨_,rfl,?_,fun q hq hb=>?_,fun q hq=>.inl hq,?_⟩;{refine kw (jR _ _ _ _ bx) jl hroom Ui jL (fun j hj=>?_);rw[mZ n_];by_cases c:j<l.length;{rw[zcb (by simp;omega),zca c];have:=bx.cell (i:=j) (by omega);rw[aC j c]at this;exact(Option.some.inj this).symm};{have:j=l.length:=by{omega};subst this;rw[zca (by simp),zcb c,zca rfl];simp}};{exact ii g q (fun e=>hb (by rw[e];rfl)) _ _ _};{exact ip Ui _ _ _ r_}}
   ·have key:=Any2.slices_Insert_int_end_grow qd (some (a_ g 0)) l.length cap vb 0 1 vc (l.map (Value.int .i64)) [i_ x] w (by omega) hn (by omega) (by omega) (by simp) rfl (fun e=>by cases e) (fun a ha j u hj=>by
      cases ha;rw[zae]at hj;by_cases qB:j<l.length;{rw[g_ qB]at hj;have e:((a_ g 0):Addr).add j=(a_ g j):=by{rw[Addr.add_lit,Nat.zero_add]};rw[e,aC j qB,g_ qB];exact hj}
      ·rw[List.getElem?_eq_none (by omega)]at hj;cases hj) QU WX
    refine key.mono ?_;rintro e w' ⟨rfl,rfl⟩;exact U6 _ _ (by simp) (grownCap_ge ..) (grownCap_le_maxLen _ _ _ _ (by unfold maxLen;omega)) hA
 ·rcases h.2 with⟨rfl,h0⟩ | ⟨g,cap,gh,rfl,Ui,hg,hn,jL,km,KH⟩;{omega}
  ·have bx:w.rowIs g 3 cap (fun j=>gh[j]?.getD default):=⟨gh,hg,by omega,fun i hi=>by show gh[i]? = some (gh[i]?.getD default);rw[Array.getElem?_eq_getElem (by omega)];rfl⟩;have aC:∀ j,j<l.length->w.cell? (a_ g j)=some (i_ (l[j]?.getD 0)):=fun j hj=>by
    obtain⟨g',iL,e,_,_,h3⟩:=h.at (by omega);injection e with e1;injection e1 with e1;injection e1 with e1;subst e1;exact h3 j hj
   have Iy:∀ j u,(l.map (Value.int .i64))[j]? = some u->w.cell? (a_ g (0+j))=some u:=fun j u hj=>by
    rw[zae]at hj;by_cases qB:j<l.length;{rw[g_ qB]at hj;rw[Nat.zero_add,aC j qB,g_ qB];exact hj};{rw[List.getElem?_eq_none (by omega)]at hj;cases hj}
   by_cases hroom:l.length+1<=cap;{have key:=Any2.slices_Insert_int_shift qd g 0 l.length cap k vb 0 1 vc (l.map (Value.int .i64)) [i_ x] w (by omega) (by omega) hroom (by unfold maxLen at jL;omega) (fun e=>eh (by rw[e];rfl)) (by simp) rfl Iy (fun j hj=>by rw[bx.cell (by omega)];rfl) (fun j hj=>bx.frozen _) QU h1c WX 3 3 1 cap (by simp[World.shape?,hv]) (by simp[World.shape?,hg];omega) (by omega) (by simp[World.frozen?,hv]) (by simp[World.frozen?,hv]);refine key.mono ?_;rintro e w' ⟨rfl,rfl⟩;refine⟨_,rfl,?_,fun q hq hb=>?_,fun q hq=>.inl hq,?_⟩;{refine kw (jR _ _ _ _ (jR _ _ _ _ (oQ bx))) jl hroom Ui jL (fun j hj=>?_);rw[mZ hk];by_cases c:j<k;{rw[zcb (by simp;omega),zcb (by simp;omega),zca c];have:=bx.cell (i:=j) (by omega);rw[aC j (by omega)]at this;exact(Option.some.inj this).symm};{by_cases c2:j=k;{subst c2;rw[zca (by simp),zcb c,zca rfl];simp};{rw[zcb (by simp;omega),zca (by simp;omega),zcb c,zcb c2,<-List.map_drop,zae,List.getElem?_drop,show k+(j-(0+(k+1)))=j-1 by omega,g_ (by omega)];rfl}}};{have LY:q≠g:=fun e=>hb (by rw[e];rfl);rw[ii g q LY,ii g q LY];rfl};{exact ip Ui _ _ _ (ip Ui _ _ _ (r_.drew))}};{have key:=Any2.slices_Insert_int_grow qd g 0 l.length cap k vb 0 1 vc (l.map (Value.int .i64)) [i_ x] w (by omega) (by omega) hn (by omega) (by omega) (by simp) rfl Iy QU h1c WX;refine key.mono ?_;rintro e w' ⟨rfl,rfl⟩;have Pv:=grownCap_ge w (l.length+1) cap (xE.t 3);have hgm:=grownCap_le_maxLen w (l.length+1) cap (xE.t 3) (by unfold maxLen;omega);generalize grownCap w (l.length+1) cap (xE.t 3)=gc at *;refine⟨_,rfl,?_,fun q hq hb=>?_,fun q hq=>.inr ?_,?_⟩;{have hr:=World.rowIs_alloc w (((l.map (Value.int .i64)).take k).toArray++Builtin.zeroCells (Value.int .i64 0).cells (l.length+1-k)++Builtin.zeroCells (Value.int .i64 0).cells (gc-(l.length+1))) 3 (fun j=>(((l.map (Value.int .i64)).take k).toArray++Builtin.zeroCells (Value.int .i64 0).cells (l.length+1-k)++Builtin.zeroCells (Value.int .i64 0).cells (gc-(l.length+1)))[j]?.getD default) (fun i hi=>by rw[Array.getElem?_eq_getElem hi];rfl);have sn:(((l.map (Value.int .i64)).take k).toArray++Builtin.zeroCells (Value.int .i64 0).cells (l.length+1-k)++Builtin.zeroCells (Value.int .i64 0).cells (gc-(l.length+1))).size=gc:=by{rw[Array.size_append,Array.size_append,TO,TO];simp;omega};rw[sn]at hr;refine kw (b:=w.heap.size) (jR _ _ _ _ (oQ (jR _ _ _ _ (oQ hr)))) jl Pv kN hgm (fun j hj=>?_);rw[mZ hk];by_cases c:j<k;{rw[zcb (by simp;omega),zcb (by simp;omega),zca c,Array.getElem?_append_left (by rw[Array.size_append,TO];simp;omega),Array.getElem?_append_left (by simp;omega),List.getElem?_toArray,List.getElem?_take,zca c];exact IL l j (by omega)};{by_cases c2:j=k;{subst c2;rw[zcb (by omega),zca (by simp),zcb c,zca rfl];simp};{rw[zca (by simp;omega),zcb c,zcb c2,<-List.map_drop,zae,List.getElem?_drop,show k+(j-(k+1))=j-1 by omega,g_ (by omega)];rfl}}};{have LY:q≠w.heap.size:=by{omega};rw[ii _ q LY];show(((w.alloc _).drew.setCells w.heap.size k [Value.int .i64 x]).heap[q]?)=_;rw[ii _ q LY];exact Below.block (B:=w.heap.size) (w:=w) (r_.alloc n_ _) q hq};{have:w.heap.size=q:=Option.some.inj hq;omega};{exact ip kN _ _ _ ((ip kN _ _ _ ((r_.alloc kN _).drew)).drew)}}
end Go.Proofs.YtcjfjflljdojlaaGreatDoor
namespace Go.Proofs.YtcjfjflljdojlaaGreatDoor
open Go.RowKit
def EW (bv o base:Nat)(v:Value)(l:List Int)(x:Int)(w:w_)(e:Ending)(w':w_):Prop:=
 e=.returned (.tuple #[])/\∃ w1 v' k,w'=w1.setCell (a_ bv o) v'/\pG l x k/\ao w1 base v' (mA l x k)/\(∀ q,q<w.heap.size->v.ownBlock≠some q->w1.heap[q]? = w.heap[q]?)/\(∀ q,v'.ownBlock=some q->v.ownBlock=some q\/w.heap.size<=q)/\Below base w w1
theorem DJ (bv o base:Nat)(v:Value)(l:List Int)(x:Int)(w:w_)(hv:w.cell? (a_ bv o)=some v)(hz:w.frozen? (a_ bv o)=false)(ho:ao w base v l)(kN:base<=w.heap.size)(hd:O8 l)(hx:x ∉ l)(hl:l.length<=1000000)(eh:v.ownBlock≠some bv) :
  c_ 120 #[.pointer (some (a_ bv o)),i_ x] w (EW bv o base v l x w):=by
 obtain⟨a,c,rfl,hI⟩:=ho.ints hl;have Hr:bv<w.heap.size:=zbd _ _ hv;have BS:H_ (c_ 140 #[.slice a l.length c,i_ x,.func (.func 141) #[] #[]] w (JV l x w)):=CG a l c x _ w hI (fun b h=>h.2) hl hd;have HO:=af ho;have Vf:=af kN;have HX:=af hx;have HNE:=af eh;have HV:=af hv;have HZ:=af hz;clear ho kN hx eh hd hI;go_enter Tryz.func120,Tryz.ntmps120;go_wp2_with fail
 refine(aa BS).mono ?_;rintro e w1 ⟨k,hp,rfl,ar⟩;have Vn:decide (k<l.length/\l[k]?.getD 0=x)=false:=zba (fun h=>HX.o (by rw[<-h.2,g_ h.1];exact zab _));rw[Vn];have c1:w1.cell? (a_ bv o)=some (.slice a l.length c):=(ar.cell (p:=(a_ bv o)) Hr).trans HV.o;have je:=ar.size;have hbv1:bv<w1.heap.size:=by omega
 have hA:b_ w1 (w1.alloc (.cells #[i_ x] 3)):=r_.alloc n_ _;have fM:H_ (b_ w (w1.alloc (.cells #[i_ x] 3))):=ar.trans (hA.mono je);have INS:H_ (c_ 143 #[.slice a l.length c,i_ (k:Int),s_ w1.heap.size 0 1 1] (w1.alloc (.cells #[i_ x] 3)) (xG (mA l x k) base (.slice a l.length c) (w1.alloc (.cells #[i_ x] 3)))):=
  De _ l k x base w1.heap.size 1 _ ((HO.o).below fM.o) (zah Vf.o fM.o.size) hl hp.le (Go.Deep.blk_alloc_new _ _) (fun e=>by have:=(HO.o).lt' _ e;omega)
 have HP:=af hp;have Xe:(w1.alloc (.cells #[i_ x] 3)).heap.size=w1.heap.size+1:=by{simp};clear hp ar BS hv hz Vn hA;go_wp2_with fail
 refine(aa INS).mono ?_;rintro e w3 ⟨v',rfl,Ve,BI,KJ,bU⟩;obtain⟨a',c',rfl⟩:=Ve.lenV;have bl:w3.heap[bv]? = w.heap[bv]?:=(BI bv (by omega) HNE.o).trans (fM.o.block bv Hr);have c3:w3.cell? (a_ bv o)=some (.slice a l.length c):=(zbe (a:=(a_ bv o)) bl).trans HV.o;have z3:w3.frozen? (a_ bv o)=false:=(zbf (a:=(a_ bv o)) bl).trans HZ.o;have Ya:bv<w3.heap.size:=zbd _ _ c3;have eL:H_ (∃ w1 v'' k2,w3.setCell (a_ bv o) (.slice a' (mA l x k).length c')=World.setCell w1 (a_ bv o) v''/\pG l x k2/\ao w1 base v'' (mA l x k2)/\(∀ q,q<w.heap.size->(Value.slice a l.length c).ownBlock≠some q->w1.heap[q]? = w.heap[q]?)/\(∀ q,v''.ownBlock=some q->(Value.slice a l.length c).ownBlock=some q\/w.heap.size<=q)/\Below base w w1):=
  ⟨w3,_,k,rfl,HP.o,Ve,fun q hq hn=>(BI q (by omega) hn).trans (fM.o.block q hq),fun q hq=>(KJ q hq).imp_right (fun h=>by omega),(fM.o.mono Vf.o).trans bU⟩
 clear Ve BI KJ bU bl c1 INS;go_wp2;go_end0;exact⟨rfl,eL.o⟩
theorem xQ (w:w_)(e:TypeId)(size n gc:Nat)(xs:List Value)(z:Array Value)(hz:z.size=size)(hx:xs.length=n * size)(h1:n<=gc)(h2:gc<=maxLen) :
  (w.drew.alloc (.cells (xs.toArray++Builtin.zeroCells z (gc-n)) e)).ownsRow w.heap.size e size (s_ w.heap.size 0 n gc) n xs:=by
 refine⟨hx,.inr ⟨w.heap.size,gc,_,rfl,n_,Go.Deep.blk_alloc_new w.drew _,h1,h2,?_,?_⟩⟩;{rw[Array.size_append,size_zeroCells,hz,List.size_toArray,hx,<-Nat.add_mul];congr 1;omega};{rw[Array.toList_append,List.toList_toArray,<-hx,List.take_left]}
theorem Ju (a:o_)(l:List Int)(c:Nat)(S:Nat->Prop)(w:w_)(hs:aQ w S a l)(hl:l.length<=1000000) :
  ∃ v w1,(Builtin.append_ #[70,70] 70 #[.slice none 0 0,.slice a l.length c]).run Tryz.prog w=.ok v w1/\ao w1 w.heap.size v l/\b_ w w1:=by
 obtain⟨i0,hi,dE,cS,dA⟩:=aM dR;by_cases h0:0<l.length;{obtain⟨b,off,rfl,_,aC⟩:=hs.2 h0;refine⟨_,_,run_append_nil w 70 70 3 i0 (i_ 0) Tryz.underlying70 hi dE (a_ b off) l.length c (l.map (Value.int .i64)) (by rw[cS];simp) (fun j u hj=>?_) h0 (by omega) (by rw[dA];omega),?_,?_⟩;{rw[zae]at hj;by_cases qB:j<l.length;{rw[g_ qB]at hj;have h1:=aC j qB;rw[g_ qB]at h1;have e:((a_ b off):Addr).add j=(a_ b (off+j)):=by{simp[Addr.add]};rw[e,h1];exact hj};{rw[List.getElem?_eq_none (by omega)]at hj;cases hj}};{exact xQ w 3 1 l.length _ _ _ rfl (by simp) (grownCap_ge ..) (grownCap_le_maxLen _ _ _ _ (by unfold maxLen;omega))};{exact(r_.drew).alloc n_ _}}
 ·obtain rfl:l=[]:=zac (by omega);refine⟨.slice none 0 0,w,?_,zbh _ _ _ _,r_⟩;cases a with
  | none=>simp[Builtin.append_,run_underlying Tryz.underlying70,sizeOf,typeInfo,zeroValue,hi,dE,Builtin.lenOf,run_firstCells_none]
  | some b=>
   have hf:=run_firstCells_some (P:=Tryz.prog) w i0.size 0 b 0 c [] (by simp) (fun j u hj=>by simp at hj);simp[Builtin.append_,run_underlying Tryz.underlying70,sizeOf,typeInfo,zeroValue,hi,dE,Builtin.lenOf,hf]
theorem Ke (a:o_)(l:List bc)(c:Nat)(S:Nat->Prop)(w:w_)(hs:bw w S a l)(hl:l.length<=1000000) :
  ∃ v w1,(Builtin.append_ #[95,95] 95 #[.slice none 0 0,.slice a l.length c]).run Tryz.prog w=.ok v w1/\cd w1 w.heap.size v l/\b_ w w1:=by
 obtain⟨i0,hi,dE,cS,dA⟩:=aM fA;by_cases h0:0<l.length;{obtain⟨b,off,rfl,_,aC⟩:=hs.2 h0;refine⟨_,_,run_append_nil w 95 95 154 i0 (.agg #[.bool false,i_ 0,i_ 0]) Tryz.underlying95 hi dE (a_ b off) l.length c (l.flatMap pU) (by rw[cS];exact pE l) (fun j u hj=>?_) h0 (by omega) (by rw[dA];omega),?_,?_⟩;{have e:((a_ b off):Addr).add j=(a_ b (off+j)):=by{simp[Addr.add]};rw[e];exact wZ aC j u hj};{exact xQ w 154 3 l.length _ _ _ rfl (pE l) (grownCap_ge ..) (grownCap_le_maxLen _ _ _ _ (by unfold maxLen;omega))};{exact(r_.drew).alloc n_ _}}
 ·obtain rfl:l=[]:=zac (by omega);refine⟨.slice none 0 0,w,?_,zbh _ _ _ _,r_⟩;cases a with
  | none=>simp[Builtin.append_,run_underlying Tryz.underlying95,sizeOf,typeInfo,zeroValue,hi,dE,Builtin.lenOf,run_firstCells_none]
  | some b=>
   have hf:=run_firstCells_some (P:=Tryz.prog) w i0.size 0 b 0 c [] (by simp) (fun j u hj=>by simp at hj);simp[Builtin.append_,run_underlying Tryz.underlying95,sizeOf,typeInfo,zeroValue,hi,dE,Builtin.lenOf,hf]
theorem vS {w:w_}{o:Oper}{a:Act}{K:Act->w_->Prop}{Q:Exit->Act->w_->Prop}(s x:Operand)(t:TypeId)(ho:o.op=.call { callee:=.builtin .append,args:=#[s,x],argTypes:=#[t,t] })(v u:Value)(hs:a.eval s=v)(hx:a.eval x=u){v':Value}{w':w_}
  (hr:(Builtin.append_ #[t,t] o.type #[v,u]).run Tryz.prog w=.ok v' w')(h:K (a.put o.dst v') w'):o.wp Tryz.prog a w K Q:=by
 unfold Oper.wp;simp[execOp,ho,resolve,invoke,builtin,hs,hx,hr,Result.andThen];exact h
theorem bJ {w:w_}{ops:Array Oper}{rest:List Oper}{o:Oper}{a:Act}{Q:Exit->Act->w_->Prop}(hgd:o.guard=none)(s x:Operand)(t:TypeId)(ho:o.op=.call { callee:=.builtin .append,args:=#[s,x],argTypes:=#[t,t] })(v u:Value)(hs:a.eval s=v)(hx:a.eval x=u){v':Value}{w':w_}
  (hr:(Builtin.append_ #[t,t] o.type #[v,u]).run Tryz.prog w=.ok v' w')(h:wpList Tryz.prog ops Q rest (a.put o.dst v') w'):wpList Tryz.prog ops Q (o::rest) a w:=
 wpList_plain hgd fun _ hK=>vS s x t ho v u hs hx hr (hK _ _ h)
def Xy (H:Nat->Value)(bS N:Nat)(iv:Value)(j:Nat):Value:=if j=12 then iv else if j=11 then s_ bS 0 N N else H j
structure Nf (w:w_)(bV bS bT:Nat):Prop where
 o1:w.heap.size<=bV
 o2:w.heap.size<=bS
 o3:bV≠bS
 o4:bV<bT
 o5:bS<bT
structure jq (w:w_)(bV bS bT:Nat)(H:Nat->Value)(N:Nat)(σ:dW)(R:Nat->Value×Value)(iv:Value)(l:List Int)(wr:w_):Prop where
 old:b_ w wr
 size:bT<=wr.heap.size
 box:wr.rowIs bV 121 13 (Xy H bS N iv)
 sts:wr.rowIs bS 97 (N * 3) (vL σ R)
 own:∀ i s,i<N->σ.st i=some s->ao wr bT (R i).1 s.d/\cd wr bT (R i).2 s.r
 none_:∀ i,i<N->σ.st i=none->R i=mE
 inj:∀ i j,i<N->j<N->i≠j->rh (R i).1 (R j).1/\rh (R i).2 (R j).2
 its:ao wr bT iv l
 dis:∀ i,i<N->rh iv (R i).1/\rh iv (R i).2
 dec:O8 l
 b:∀ y,y∈l↔∃ i:Nat,y=i/\σ.b i=true
theorem sV (v:Value):rh v (.slice none 0 0):=fun _ _ h=>by cases h
theorem Je {l:List Int}(hd:O8 l)(h0:∀ y,y∈l->0<=y):∀ j,j<l.length->(j:Int)<=l[l.length-1-j]?.getD 0
 | 0,h=>by
  have hm:l[l.length-1-0]?.getD 0∈l:=by rw[g_ (by omega)];exact zab _
  have:=h0 _ hm;omega
 | j+1,h=>by
  have h1:=Je hd h0 j (by omega);have h2:=hd (l.length-1-(j+1)) (l.length-1-j) (by omega) (by omega);omega
theorem ME {l:List Int}{N:Nat}(hd:O8 l)(h:∀ y,y∈l->0<=y/\y<N):l.length<=N:=by
 by_cases c:0<l.length;{have h1:=Je hd (fun y hy=>(h y hy).1) (l.length-1) (by omega);have hm:l[l.length-1-(l.length-1)]?.getD 0∈l:=by{rw[g_ (by omega)];exact zab _};have:=(h _ hm).2;omega};{omega}
section
variable {w:w_} {bV bS bT:Nat} {H:Nat->Value} {N:Nat} {σ:dW} {R:Nat->Value×Value} {iv:Value} {l:List Int} {wr w2:w_}
theorem jq.len (h:jq w bV bS bT H N σ R iv l wr){R0:Nat}(hm:oR R0 N σ):l.length<=N:=
 ME h.dec (fun y hy=>by
  obtain⟨i,rfl,hi⟩:=(h.b y).1 hy;have:=(hm.b i hi).1;omega)
theorem jq.below (h:jq w bV bS bT H N σ R iv l wr)(hb:b_ wr w2):jq w bV bS bT H N σ R iv l w2:=
 {h with
  old:=h.old.trans (hb.mono h.old.size)
  size:=zah h.size hb.size
  box:=h.box.of_block (hb.block _ h.box.lt)
  sts:=h.sts.of_block (hb.block _ h.sts.lt)
  own:=fun i s hi hs=>⟨(h.own i s hi hs).1.below hb,(h.own i s hi hs).2.below hb⟩
  its:=h.its.below hb }
theorem jq.rowLt (h:jq w bV bS bT H N σ R iv l wr){i:Nat}(hi:i<N):(∀ k,(R i).1.ownBlock=some k->bT<=k/\k<wr.heap.size)/\∀ k,(R i).2.ownBlock=some k->bT<=k/\k<wr.heap.size:=by
 cases e:σ.st i with
 | none=>rw[h.none_ i hi e];exact⟨(fun k hk=>by cases hk),(fun k hk=>by cases hk)⟩
 | some s=>exact⟨fun k hk=>(h.own i s hi e).1.lt' k hk,fun k hk=>(h.own i s hi e).2.lt' k hk⟩
theorem jq.put (h:jq w bV bS bT H N σ R iv l wr)(hB:Nf w bV bS bT){w1:w_}{yV:Value}{l':List Int}{i:Nat}(hi:i<N)(ho:ao w1 bT yV l')(hf:∀ k,k<wr.heap.size->iv.ownBlock≠some k->w1.heap[k]? = wr.heap[k]?)(hn:∀ k,yV.ownBlock=some k->iv.ownBlock=some k\/wr.heap.size<=k)(hs:Below bT wr w1)
  (hd:O8 l')(hm:∀ y,y∈l'↔y=(i:Int)\/y∈l):jq w bV bS bT H N ⟨σ.st,bY σ.b i true⟩ R yV l' (w1.setCell (a_ bV 12) yV):=by
 obtain⟨o1,o2,o3,o4,o5⟩:=hB;have km:=h.size;have Wh:∀ k,iv.ownBlock=some k->bT<=k/\k<wr.heap.size:=h.its.lt';have OM:w1.heap[bV]? = wr.heap[bV]?:=hf bV (by omega) (fun e=>by have:=Wh _ e;omega);have jA:w1.heap[bS]? = wr.heap[bS]?:=hf bS (by omega) (fun e=>by have:=Wh _ e;omega);have hk:∀ k,k≠bV->(w1.setCell (a_ bV 12) yV).heap[k]? = w1.heap[k]?:=fun k hk=>zbg w1 (a_ bV 12) k _ hk;exact {
  old:=(h.old.trans (hs.mono (by omega))).setCell o1 _
  size:=by have:=hs.size;simp;omega
  box:=((h.box.of_block OM).set 12 yV).congr (fun j hj=>by
   unfold Xy;by_cases e:j=12
   ·rw[zca e,zca e]
   ·rw[zcb e,zcb e,zcb e])
  sts:=h.sts.of_block ((hk bS (fun e=>o3 e.symm)).trans jA)
  own:=fun j s hj lu=>by
   obtain⟨k1,k2⟩:=h.own j s hj lu;obtain⟨d1,d2⟩:=h.dis j hj;refine⟨k1.sameBlock (fun k e=>?_),k2.sameBlock (fun k e=>?_)⟩
   ·have:=k1.lt' k e;rw[hk k (by omega),hf k this.2 (fun e2=>d1 k e2 e)]
   ·have:=k2.lt' k e;rw[hk k (by omega),hf k this.2 (fun e2=>d2 k e2 e)]
  none_:=h.none_
  inj:=h.inj
  its:=ho.sameBlock (fun k e=>hk k (fun e2=>by have:=ho.lt' k e;omega))
  dis:=fun j hj=>by
   obtain⟨d1,d2⟩:=h.dis j hj;obtain⟨r1,r2⟩:=h.rowLt hj;refine⟨fun k e1 e2=>?_,fun k e1 e2=>?_⟩
   ·rcases hn k e1 with e | e
    ·exact d1 k e e2
    ·have:=r1 k e2;omega
   ·rcases hn k e1 with e | e
    ·exact d2 k e e2
    ·have:=r2 k e2;omega
  dec:=hd
  b:=fun y=>by
   rw[hm y,h.b y];show _↔∃ j:Nat,y=j/\bY σ.b i true j=true;constructor
   ·rintro(rfl | ⟨j,rfl,hj⟩)
    ·exact⟨i,rfl,by simp[bY]⟩
    ·refine⟨j,rfl,?_⟩;unfold bY;split
     ·rfl
     ·exact hj
   ·rintro⟨j,rfl,hj⟩;by_cases e:j=i
    ·subst e;exact .inl rfl
    ·unfold bY at hj;rw[zcb e]at hj;exact .inr ⟨j,rfl,hj⟩ }
theorem jq.take {G m cap:Nat}(h:jq w bV bS bT H N σ R (s_ G 0 (m+1) cap) l wr)(hB:Nf w bV bS bT)(hl:l.length=m+1){a:Nat}(ha:l[m]?.getD 0=(a:Int)) :
  jq w bV bS bT H N ⟨σ.st,bY σ.b a false⟩ R (s_ G 0 m cap) (l.take m) (wr.setCell (a_ bV 12) (s_ G 0 m cap)):=by
 obtain⟨o1,o2,o3,o4,o5⟩:=hB;have km:=h.size;have hk:∀ k,k≠bV->(wr.setCell (a_ bV 12) (s_ G 0 m cap)).heap[k]? = wr.heap[k]?:=fun k hk=>zbg wr (a_ bV 12) k _ hk;exact {
  old:=h.old.setCell o1 _
  size:=by simp;omega
  box:=(h.box.set 12 _).congr (fun j hj=>by
   unfold Xy;by_cases e:j=12
   ·rw[zca e,zca e]
   ·rw[zcb e,zcb e,zcb e])
  sts:=h.sts.of_block (hk bS (fun e=>o3 e.symm))
  own:=fun j s hj lu=>by
   obtain⟨k1,k2⟩:=h.own j s hj lu;exact⟨k1.setOther o4,k2.setOther o4⟩
  none_:=h.none_
  inj:=h.inj
  its:=by
   have ho:=h.its.setOther (D:=bV) (j:=12) (u:=s_ G 0 m cap) o4;rcases ho.2 with⟨e,_⟩ | ⟨g,c,gh,e,h1,h2,h3,h4,h5,h6⟩
   ·cases e
   ·injection e with e1 e2 e3;injection e1 with e1;injection e1 with e1;subst e1;subst e3;refine⟨by simp,.inr ⟨G,cap,gh,by simp;omega,h1,h2,by simp;omega,h4,h5,?_⟩⟩;rw[Nat.mul_one]at h6 ⊢;rw[List.map_take,<-h6,List.take_take]
    congr 1
    simp
  dis:=fun j hj=>h.dis j hj
  dec:=fun r s cK hs=>by
   rw[List.length_take]at hs;rw[List.getElem?_take,List.getElem?_take,zca (by omega),zca (by omega)];exact h.dec r s cK (by omega)
  b:=fun y=>by
   have eZ:y∈l.take m↔y∈l/\y≠(a:Int):=by
    constructor
    ·intro hy;refine⟨List.mem_of_mem_take hy,fun e=>?_⟩;obtain⟨j,hj,rfl⟩:=zaf hy;have Lr:j<m:=by rw[List.length_take]at hj;omega
     have:=h.dec j m Lr (by omega);rw[ha,g_ (by omega)]at this;rw[List.getElem_take]at e;change (a:Int)<l[j]at this;omega
    ·rintro⟨hy,eh⟩;obtain⟨j,hj,rfl⟩:=zaf hy;have sK:j≠m:=fun e=>by
      subst e;rw[g_ hj]at ha;exact eh ha
     rw[List.mem_iff_getElem];exact⟨j,by rw[List.length_take];omega,List.getElem_take⟩
   rw[eZ,h.b y];show _↔∃ j:Nat,y=j/\bY σ.b a false j=true;constructor
   ·rintro⟨⟨j,rfl,hj⟩,eh⟩;refine⟨j,rfl,?_⟩;unfold bY;rw[zcb (by omega)];exact hj
   ·rintro⟨j,rfl,hj⟩;unfold bY at hj;by_cases e:j=a
    ·rw[zca e]at hj;cases hj
    ·rw[zcb e]at hj;exact⟨⟨j,rfl,hj⟩,by omega⟩ }
theorem jq.least (h:jq w bV bS bT H N σ R iv l wr){R0:Nat}(hm:oR R0 N σ){m:Nat}(hl:l.length=m+1):∃ a:Nat,l[m]?.getD 0=(a:Int)/\dg σ N a:=by
 have eZ:l[m]?.getD 0∈l:=by{rw[g_ (by omega)];exact zab _};obtain⟨a,e,ha⟩:=(h.b _).1 eZ;refine⟨a,e,(hm.b a ha).1,ha,fun b hb=>?_⟩;cases hd:σ.b b with
 | false=>rfl
 | true=>
  have vh:((b:Nat):Int)∈l:=(h.b _).2 ⟨b,rfl,hd⟩;obtain⟨j,hj,ej⟩:=zaf vh;by_cases c:j=m;{subst c;rw[g_ hj]at e;change l[j]=(a:Int)at e;omega};{have:=h.dec j m (by omega) (by omega);rw[e,g_ hj]at this;change (a:Int)<l[j]at this;omega}
theorem jq.nodue (h:jq w bV bS bT H N σ R iv l wr)(hl:l.length=0):mp σ N:=fun b hb=>by
 cases hd:σ.b b with
 | false=>rfl
 | true=>
  have vh:((b:Nat):Int)∈l:=(h.b _).2 ⟨b,rfl,hd⟩;rw[zac hl]at vh;cases vh
theorem jq.setSt (h:jq w bV bS bT H N σ R iv l wr)(hB:Nf w bV bS bT)(i:Nat)(s:fK)(tv gv:Value)(h1:ao wr bT tv s.d)(h2:cd wr bT gv s.r)(d1:∀ j,j<N->rh (R j).1 tv/\rh (R j).2 gv)(d2:rh iv tv/\rh iv gv) :
  jq w bV bS bT H N ⟨bY σ.st i (some s),σ.b⟩ (bY R i (tv,gv)) iv l (((wr.setCell (a_ bS (i * 3)) (.bool true)).setCell (a_ bS (i * 3+1)) tv).setCell (a_ bS (i * 3+2)) gv):=by
 obtain⟨o1,o2,o3,o4,o5⟩:=hB;have hk:∀ k,k≠bS->(((wr.setCell (a_ bS (i * 3)) (.bool true)).setCell (a_ bS (i * 3+1)) tv).setCell (a_ bS (i * 3+2)) gv).heap[k]? = wr.heap[k]?:=fun k hk=>by
  rw[zbg _ (a_ bS _) _ _ hk,zbg _ (a_ bS _) _ _ hk,zbg _ (a_ bS _) _ _ hk]
 exact {
  old:=((h.old.setCell o2 _).setCell o2 _).setCell o2 _
  size:=by have:=h.size;simpa using this
  box:=h.box.of_block (hk bV o3)
  sts:=by
   refine(((h.sts.set (i * 3) _).set (i * 3+1) _).set (i * 3+2) _).congr fun j hj=>?_;show(if j=i * 3+2 then gv else if j=i * 3+1 then tv else if j=i * 3 then .bool true else vL σ R j)=vL ⟨bY σ.st i (some s),σ.b⟩ (bY R i (tv,gv)) j;unfold vL bY;by_cases e:j / 3=i
   ·by_cases e0:j % 3=0
    ·rw[zcb (by omega),zcb (by omega),zca (by omega),zca e0];simp[e]
    ·by_cases e1:j % 3=1
     ·rw[zcb (by omega),zca (by omega),zcb e0,zca e1];simp[e]
     ·rw[zca (by omega),zcb e0,zcb e1];simp[e]
   ·rw[zcb (by omega),zcb (by omega),zcb (by omega)];simp[e]
  own:=fun j t hj ht=>by
   change bY σ.st i (some s) j=some t at ht;unfold bY at ht ⊢;by_cases e:j=i
   ·rw[zca e]at ht ⊢;cases ht;exact⟨((h1.setOther o5).setOther o5).setOther o5,((h2.setOther o5).setOther o5).setOther o5⟩
   ·rw[zcb e]at ht ⊢;obtain⟨k1,k2⟩:=h.own j t hj ht;exact⟨((k1.setOther o5).setOther o5).setOther o5,((k2.setOther o5).setOther o5).setOther o5⟩
  none_:=fun j hj hn=>by
   change bY σ.st i (some s) j=none at hn;unfold bY at hn ⊢;by_cases e:j=i
   ·rw[zca e]at hn;cases hn
   ·rw[zcb e]at hn ⊢;exact h.none_ j hj hn
  inj:=fun j j' hj Lr eh=>by
   unfold bY;by_cases e:j=i
   ·by_cases e':j'=i
    ·omega
    ·rw[zca e,zcb e'];exact⟨(d1 j' Lr).1.symm,(d1 j' Lr).2.symm⟩
   ·by_cases e':j'=i
    ·rw[zcb e,zca e'];exact d1 j hj
    ·rw[zcb e,zcb e'];exact h.inj j j' hj Lr eh
  its:=((h.its.setOther o5).setOther o5).setOther o5
  dis:=fun j hj=>by
   unfold bY;split
   ·exact d2
   ·exact h.dis j hj
  dec:=h.dec
  b:=h.b }
theorem jq.reached (h:jq w bV bS bT H N σ R iv l wr){i:Nat}(hi:i<N):wr.cell? (a_ bS (i * 3))=some (.bool (σ.st i).isSome)/\wr.cell? (a_ bS (i * 3+1))=some (R i).1/\wr.cell? (a_ bS (i * 3+2))=some (R i).2:=by
 refine⟨?_,?_,?_⟩;{rw[h.sts.cell (i:=i * 3) (by omega)];unfold vL;rw[zca (by omega),show i * 3 / 3=i by omega]};{rw[h.sts.cell (i:=i * 3+1) (by omega)];unfold vL;rw[zcb (by omega),zca (by omega),show(i * 3+1) / 3=i by omega]};{rw[h.sts.cell (i:=i * 3+2) (by omega)];unfold vL;rw[zcb (by omega),zcb (by omega),show(i * 3+2) / 3=i by omega]}
end
structure RcF (bV bS N:Nat)(R R':Nat->Value×Value)(iv yV:Value)(wr w':w_):Prop where
 same:∀ k,k<wr.heap.size->k≠bV->k≠bS->iv.ownBlock≠some k->w'.heap[k]? = wr.heap[k]?
 new:∀ k,yV.ownBlock=some k->iv.ownBlock=some k\/wr.heap.size<=k
 size:wr.heap.size<=w'.heap.size
 rows:∀ j k,j<N->(((R' j).1.ownBlock=some k->(R j).1.ownBlock=some k\/wr.heap.size<=k)/\((R' j).2.ownBlock=some k->(R j).2.ownBlock=some k\/wr.heap.size<=k))
def qM (w:w_)(bV bS bT:Nat)(H:Nat->Value)(N:Nat)(σ:dW)(R:Nat->Value×Value)(iv:Value)(i:Nat)(s:fK)(wr:w_)(e:Ending)(w':w_):Prop:=
 (gO σ (i,s)=none/\e=.returned (.bool false)/\b_ wr w') \/
 (∃ σ' R' yV l',gO σ (i,s)=some σ'/\e=.returned (.bool true)/\jq w bV bS bT H N σ' R' yV l' w'/\RcF bV bS N R R' iv yV wr w')
theorem nO (w:w_)(bV bS bT:Nat)(H:Nat->Value)(N R0:Nat)(σ:dW)(R:Nat->Value×Value)(iv:Value)(l:List Int)(i:Nat)(s:fK)(a ag:o_)(c cg:Nat)(S:Nat->Prop)(wr:w_)
  (h:jq w bV bS bT H N σ R iv l wr)(hB:Nf w bV bS bT)(hm:oR R0 N σ)(hi:i<N)(hN:N<=6000)(Iv:R0<=250)(ht:aQ wr S a s.d)(hg:bw wr S ag s.r)(hS:∀ b,S b->b<wr.heap.size)(TI:s.d.length<=1000)(wm:s.r.length<=1000) :
  c_ 77 #[.pointer (some (a_ bV 0)),i_ (i:Int),.slice a s.d.length c,.slice ag s.r.length cg] wr (qM w bV bS bT H N σ R iv i s wr):=by
 obtain⟨tt,gg⟩:=s;dsimp only at ht hg TI wm ⊢;obtain⟨q0,q1,q2⟩:=h.reached hi;have Lh:wr.cell? (a_ bV 11)=some (s_ bS 0 N N):=h.box.cell (i:=11) (by omega);have U1:wr.cell? (a_ bV 12)=some iv:=h.box.cell (i:=12) (by omega);have OM:=h.box.lt;have jA:=h.sts.lt;have hiN:(i:Int)<N:=by{omega};have aO:=h.len hm;cases est:σ.st i with
 | some s0=>
  rw[est]at q0;obtain⟨o1,o2⟩:=h.own i s0 hi est;obtain⟨m1,m2,m3⟩:=(hm.st i s0 est).2;obtain⟨a1,c1,e1,I1⟩:=o1.ints (by omega);obtain⟨a2,c2,e2,I2⟩:=o2.gus (by omega);rw[e1]at q1;rw[e2]at q2;have E1:H_ (c_ 118 #[.slice a1 s0.d.length c1,.slice a tt.length c] wr (dp (decide (s0.d=tt)) wr)):=
   oD a1 a s0.d tt c1 c (fun b=>b<wr.heap.size) wr (I1.mono (fun b h=>h.2)) (ht.mono hS) (fun b h=>h)
  have E2:H_ (∀ w1,b_ wr w1->c_ 119 #[.slice a2 s0.r.length c2,.slice ag gg.length cg] w1 (dp (kH s0.r gg) w1)):=fun w1 hb=>
   yl a2 ag s0.r gg c2 cg (fun b=>b<wr.heap.size) w1 ((I2.mono (fun b h=>h.2)).same (.of_below hb (fun b h=>h))) ((hg.mono hS).same (.of_below hb (fun b h=>h))) (fun b h=>l_ h hb.size) _ kf
  have HV:=af h;have Rq:=af est;clear ht hg hS o1 o2 I1 I2 h e1 e2 est m1 m2 m3;by_cases ct:s0.d=tt
  ·have Pq:decide (s0.d=tt)=true:=zbb ct;rw[Pq]at E1;have CT:=af ct;clear ct Pq;go_enter Tryz.func77,Tryz.ntmps77;go_wp2_with fail
   refine(aa E1).mono ?_;rintro e w1 ⟨rfl,ar⟩;have q2':w1.cell? (a_ bS (i * 3+2))=some (.slice a2 s0.r.length c2):=(ar.cell (p:=(a_ bS (i * 3+2))) jA).trans q2;have hbS1:bS<w1.heap.size:=l_ jA ar.size;have E3:=af (aa E2 w1 ar);have dL:=af ar;clear ar E2;go_wp2_with fail;refine(aa E3).mono ?_;rintro e w2 ⟨rfl,bj⟩;have fM:H_ (b_ wr w2):=dL.o.trans (bj.mono dL.o.size);clear bj;go_wp2;go_ret;cases cg':kH s0.r gg with
   | true=>
    refine .inr ⟨σ,R,iv,l,wC Rq.o ⟨CT.o,kf.1 cg'⟩,rfl,HV.o.below fM.o,⟨fun k hk _ _ _=>fM.o.block k hk,fun k hk=>.inl hk,fM.o.size,fun j k hj=>⟨fun hk=>.inl hk,fun hk=>.inl hk⟩⟩⟩
   | false=>
    refine .inl ⟨qS Rq.o (fun hh=>?_),rfl,fM.o⟩;have:=kf.2 hh.2;change kH s0.r gg=true at this;rw[cg']at this;cases this
  ·have Pq:decide (s0.d=tt)=false:=zba ct;rw[Pq]at E1;have CT:=af ct;clear ct Pq;go_enter Tryz.func77,Tryz.ntmps77;go_wp2_with fail
   refine(aa E1).mono ?_;rintro e w1 ⟨rfl,ar⟩;go_wp2;go_ret;exact .inl ⟨qS Rq.o (fun hh=>CT.o hh.1),rfl,ar⟩
 | none=>
  rw[est]at q0;obtain⟨tv,w1,r1,O1,b1⟩:=Ju a tt c S wr ht (by omega);obtain⟨gv,w2,r2,O2,b2⟩:=Ke ag gg cg S w1 (hg.same (.of_below b1 hS)) (by omega);obtain⟨a3,c3,rfl⟩:=O1.lenV;obtain⟨a4,c4,rfl⟩:=O2.lenV;have b12:b_ wr w2:=b1.trans (b2.mono b1.size);have h2:=h.below b12;have hT:=h.size;have Py:ao w2 bT (.slice a3 tt.length c3) tt:=(O1.base_le hT).below b2;have O2':cd w2 bT (.slice a4 gg.length c4) gg:=O2.base_le (zah hT b1.size);have X9:∀ k,(Value.slice a3 tt.length c3).ownBlock=some k->wr.heap.size<=k:=fun k hk=>(O1.lt' k hk).1;have XN:∀ k,(Value.slice a4 gg.length c4).ownBlock=some k->wr.heap.size<=k:=fun k hk=>zah b1.size (O2.lt' k hk).1;have h3:=h2.setSt hB i ⟨tt,gg⟩ _ _ Py O2' (fun j hj=>⟨fun k e1 e2=>by have:=(h.rowLt hj).1 k e1;have:=X9 k e2;omega,fun k e1 e2=>by have:=(h.rowLt hj).2 k e1;have:=XN k e2;omega⟩) ⟨fun k e1 e2=>by have:=h.its.lt' k e1;have:=X9 k e2;omega,fun k e1 e2=>by have:=h.its.lt' k e1;have:=XN k e2;omega⟩;obtain⟨p0,p1,p2⟩:=h2.reached hi;have z0:=h2.sts.frozen (i * 3);have z1:=h2.sts.frozen (i * 3+1);have z2:=h2.sts.frozen (i * 3+2);have aag:=h2.sts.lt;have hbV2:=h2.box.lt;have Wh:iv.ownBlock≠some bV:=fun e=>by have:=h.its.lt' _ e;have:=hB.o4;omega
  have kn:(i:Int) ∉ l:=fun hh=>by obtain⟨j,ej,hj⟩:=(h.b _).1 hh;have:j=i:=by{omega};subst this;exact(hm.b j hj).2 est
  have PU:H_ (c_ 120 #[.pointer (some (a_ bV 12)),i_ (i:Int)] (((w2.setCell (a_ bS (i * 3)) (.bool true)).setCell (a_ bS (i * 3+1)) (.slice a3 tt.length c3)).setCell (a_ bS (i * 3+2)) (.slice a4 gg.length c4)) (EW bV 12 bT iv l (i:Int) (((w2.setCell (a_ bS (i * 3)) (.bool true)).setCell (a_ bS (i * 3+1)) (.slice a3 tt.length c3)).setCell (a_ bS (i * 3+2)) (.slice a4 gg.length c4)))):=
   DJ bV 12 bT iv l (i:Int) _ (h3.box.cell (i:=12) (by omega)) (h3.box.frozen 12) h3.its h3.size h3.dec kn (by omega) Wh
  have FR:H_ ((∀ k,(Value.slice a3 tt.length c3).ownBlock=some k->wr.heap.size<=k)/\∀ k,(Value.slice a4 gg.length c4).ownBlock=some k->wr.heap.size<=k):=⟨X9,XN⟩;have Rm:=af r1;have We:=af r2;have H3:=af h3;have HB:=af hB;have YP:=af b12;have QB:H_ (gO σ (i,⟨tt,gg⟩)=some ⟨bY σ.st i (some ⟨tt,gg⟩),bY σ.b i true⟩):=pR est;have vi:H_ (∀ k,k≠bS->(((w2.setCell (a_ bS (i * 3)) (.bool true)).setCell (a_ bS (i * 3+1)) (.slice a3 tt.length c3)).setCell (a_ bS (i * 3+2)) (.slice a4 gg.length c4)).heap[k]? = w2.heap[k]?):=fun k hk=>by{rw[zbg _ (a_ bS _) _ _ hk,zbg _ (a_ bS _) _ _ hk,zbg _ (a_ bS _) _ _ hk]};have Q7:H_ ((((w2.setCell (a_ bS (i * 3)) (.bool true)).setCell (a_ bS (i * 3+1)) (.slice a3 tt.length c3)).setCell (a_ bS (i * 3+2)) (.slice a4 gg.length c4)).heap.size=w2.heap.size):=by show _=_;simp
  have ab1:=af h.dec;have jM:=af kn;have est':=af est;clear h h2 h3 hB hm ht hg hS O1 O2 Py O2' X9 XN b1 b2 b12 Wh kn q1 q2 est r1 r2;go_enter Tryz.func77,Tryz.ntmps77;go_wp2_with (first
   | (at_builtin;refine bJ rfl _ _ 70 rfl _ _ rfl rfl (aa Rm) ?_)
   | (at_builtin;refine bJ rfl _ _ 95 rfl _ _ rfl rfl (aa We) ?_))
  refine(aa PU).mono ?_;rintro e w5 ⟨rfl,w4,yV,k,rfl,hp,ho,hf,hn,hb⟩;have eL:H_ (qM w bV bS bT H N σ R iv i ⟨tt,gg⟩ wr (.returned (.bool true)) (w4.setCell (a_ bV 12) yV)):=by{refine .inr ⟨_,_,yV,mA l (i:Int) k,QB.o,rfl,(H3.o).put HB.o hi ho hf hn hb (IM ab1.o hp jM.o) (fun y=>J7),⟨fun q hq n1 n2 n3=>?_,fun q hq=>?_,?_,fun j q hj=>?_⟩⟩;{have Vx:=YP.o.size;rw[zbg w4 (a_ bV 12) q _ n1,hf q (by rw[Q7.o];omega) n3,vi.o q n2];exact YP.o.block q hq};{have Vx:=YP.o.size;exact(hn q hq).imp_right (fun hh=>by rw[Q7.o]at hh;omega)};{have Vx:=YP.o.size;have:=hb.size;rw[Q7.o]at this;simp;omega};{unfold bY;split;{exact⟨fun hk=>.inr (FR.o.1 q hk),fun hk=>.inr (FR.o.2 q hk)⟩};{exact⟨fun hk=>.inl hk,fun hk=>.inl hk⟩}}};clear hp ho hf hn hb PU;go_wp2;go_ret;exact eL.o
def dX (n:az)(s:fK)(t:List Int)(g:List bc):fK:=if n.op=31 then⟨dH n s.d,s.r⟩else if n.op=41 then⟨t.set n.fc.toNat (ba s.d n.fc.toNat),g⟩else⟨t,g⟩
def ky (n:az)(s:fK)(t:List Int)(g:List bc):List (Nat×fK):=match cp n with
 | none=>[]
 | some y=>[(y.toNat,dX n s t g)]
theorem G5 (n:az)(a:Nat)(s:fK)(t:List Int)(g:List bc):bI n a s t g=(if dc n then[(a+1,⟨t,g⟩)]else[])++ky n s t g:=by
 unfold bI;congr 1;unfold ky cp dX;by_cases c1:n.op=19;{simp[c1]};by_cases c2:n.op=31;{simp[c2]};by_cases c3:n.op=41;{simp[c3]};by_cases c4:n.op=20\/n.op=21\/n.op=38\/n.op=39;{rw[zcb c1,zca c4,zcb (by omega),zca (by omega),zcb c2,zcb c3]};{rw[zcb c1,zcb c4,zcb c3,zcb c2,zcb (by omega),zcb (by omega)]}
def gj (l:List aj)(n:az)(a:Nat)(σ:dW)(s:fK):(Int×Nat) ⊕ dW:=
 match bH l n s.d with
 | none=>.inl (10,a)
 | some r=>
  match aP n s.r with
  | none=>.inl (11,a)
  | some g=>
   if lj n s.r r.p s.d (bg n r.d)then
    match fi (bI n a s (bg n r.d) g) σ with
    | .inl at_=>.inl (13,at_)
    | .inr σ'=>.inr σ'
   else .inl (12,a)
theorem EP {l:List aj}{x:aj}{σ:dW}{a:Nat}{s:fK}(h:σ.st a=some s):fV l x σ a=gj l (aR x a) a ⟨σ.st,bY σ.b a false⟩ s:=by
 unfold fV;rw[h];rfl
theorem IP {l:List aj}{n:az}{a:Nat}{σ:dW}{s:fK}(h1:bH l n s.d=none):gj l n a σ s=.inl (10,a):=by
 unfold gj;rw[h1]
theorem Kb {l:List aj}{n:az}{a:Nat}{σ:dW}{s:fK}{r:gY}(h1:bH l n s.d=some r)(h2:aP n s.r=none):gj l n a σ s=.inl (11,a):=by
 unfold gj;rw[h1];show(match aP n s.r with | none=>_ | some g=>_)=_;rw[h2]
theorem JZ {l:List aj}{n:az}{a:Nat}{σ:dW}{s:fK}{r:gY}{g:List bc}(h1:bH l n s.d=some r)(h2:aP n s.r=some g)(h3:¬lj n s.r r.p s.d (bg n r.d)=true):gj l n a σ s=.inl (12,a):=by
 unfold gj;rw[h1];show(match aP n s.r with | none=>_ | some g=>_)=_;rw[h2];show(if _ then _ else _)=_;rw[zcb h3]
theorem Jw {l:List aj}{n:az}{a:Nat}{σ:dW}{s:fK}{r:gY}{g:List bc}(h1:bH l n s.d=some r)(h2:aP n s.r=some g)(h3:lj n s.r r.p s.d (bg n r.d)=true):gj l n a σ s=(match fi ((if dc n then[(a+1,⟨bg n r.d,g⟩)]else[])++ky n s (bg n r.d) g) σ with | .inl y=>.inl (13,y) | .inr σ'=>.inr σ'):=by
 unfold gj;rw[h1];show(match aP n s.r with | none=>_ | some g=>_)=_;rw[h2];show(if _ then _ else _)=_;rw[zca h3,G5]
theorem Jd {n:az}{a:Nat}{σ:dW}{s:fK}{t:List Int}{g:List bc}(hg:dc n=true)(h1:gO σ (a+1,⟨t,g⟩)=none):(match fi ((if dc n then[(a+1,⟨t,g⟩)]else[])++ky n s t g) σ with | .inl y=>(Sum.inl (13,y):(Int×Nat) ⊕ dW) | .inr σ'=>.inr σ')=.inl (13,a+1):=by
 rw[zca hg,List.singleton_append,uq h1]
theorem Aw {n:az}{a:Nat}{σ σ2:dW}{s:fK}{t:List Int}{g:List bc}(h:(dc n=true/\gO σ (a+1,⟨t,g⟩)=some σ2)\/(dc n=false/\σ2=σ)):(match fi ((if dc n then[(a+1,⟨t,g⟩)]else[])++ky n s t g) σ with | .inl y=>(Sum.inl (13,y):(Int×Nat) ⊕ dW) | .inr σ'=>.inr σ')=(match fi (ky n s t g) σ2 with | .inl y=>(Sum.inl (13,y):(Int×Nat) ⊕ dW) | .inr σ'=>.inr σ'):=by
 rcases h with⟨h1,h2⟩ | ⟨h1,rfl⟩;{rw[zca h1,qk _ (uB h2)]};{rw[zcb (by rw[h1];decide),List.nil_append]}
theorem wV {n:az}{σ:dW}{s:fK}{t:List Int}{g:List bc}(h:cp n=none):(match fi (ky n s t g) σ with | .inl y=>(Sum.inl (13,y):(Int×Nat) ⊕ dW) | .inr σ'=>.inr σ')=.inr σ:=by
 unfold ky;rw[h];rfl
theorem Ag {n:az}{σ:dW}{s:fK}{t:List Int}{g:List bc}{y:Int}(h:cp n=some y)(h1:gO σ (y.toNat,dX n s t g)=none):(match fi (ky n s t g) σ with | .inl y=>(Sum.inl (13,y):(Int×Nat) ⊕ dW) | .inr σ'=>.inr σ')=.inl (13,y.toNat):=by
 unfold ky;rw[h];show(match fi [(y.toNat,dX n s t g)] σ with | .inl y=>_ | .inr σ'=>_)=_;rw[uq h1]
theorem E9 {n:az}{σ σ2:dW}{s:fK}{t:List Int}{g:List bc}{y:Int}(h:cp n=some y)(h1:gO σ (y.toNat,dX n s t g)=some σ2):(match fi (ky n s t g) σ with | .inl y=>(Sum.inl (13,y):(Int×Nat) ⊕ dW) | .inr σ'=>.inr σ')=.inr σ2:=by
 unfold ky;rw[h];show(match fi [(y.toNat,dX n s t g)] σ with | .inl y=>_ | .inr σ'=>_)=_;rw[uB h1]
structure IW (l:List aj)(n:az)(a R0 N:Nat):Prop where
 op:1<=n.op/\n.op<=42
 fit:∀ k,k<4->gG (aA n.op.toNat k) (dj n k) R0
 s:tW l n R0
 put:∀ ty,ty.length=R0->∀ q,q∈(eK l n ty).v->q.1<R0
 inf:wN n a R0 N
 try_:n.op=31->0<=n.fb/\n.fb+2<=R0
 keep:n.op=33\/n.op=34->0<=n.fa
 each:n.op=41->0<=n.fc/\n.fc<R0
 targ:∀ y,cp n=some y->0<=y/\y.toNat<N
theorem Qa {n:aj}{np:Nat}{x:Int}{r:Nat}(hr:r<=23)(h:dh n np x (iy r)=true)(hn:0<=n.m):gG r x n.m.toNat:=by
 have hc:r=0\/r=1\/r=2\/r=3\/r=4\/r=5\/r=6\/r=7\/r=8\/r=9\/r=10\/r=11\/r=12\/r=13\/r=14\/r=15\/r=16\/r=17\/r=18\/r=19\/r=20\/r=21\/r=22\/r=23:=by{omega};unfold gG;rcases hc with rfl | rfl | rfl | rfl | rfl | rfl | rfl | rfl | rfl | rfl | rfl | rfl | rfl | rfl | rfl | rfl | rfl | rfl | rfl | rfl | rfl | rfl | rfl | rfl
 all_goals first
  | (refine⟨fun e=>?_,fun e=>?_,fun e=>?_,fun e=>?_,fun e=>?_⟩<;>exact zcc e (by omega))
  | (have:=aU (show dw x (-n.m) (n.m-1)=true from h);refine⟨fun e=>?_,fun e=>?_,fun e=>?_,fun e=>?_,fun e=>?_⟩<;>omega)
  | (have:=aU (show dw x 0 (n.m-1)=true from h);refine⟨fun e=>?_,fun e=>?_,fun e=>?_,fun e=>?_,fun e=>?_⟩<;>omega)
  | (have:=aU (show dw x 0 (n.m-2)=true from h);refine⟨fun e=>?_,fun e=>?_,fun e=>?_,fun e=>?_,fun e=>?_⟩<;>omega)
  | (have:=aU (show dw x 0 (n.m-3)=true from h);refine⟨fun e=>?_,fun e=>?_,fun e=>?_,fun e=>?_,fun e=>?_⟩<;>omega)
theorem xX {n:aj}{np:Nat}{x:Int}{r:Nat}(hr:r<=23)(h:dh n np x (iy r)=true)(hn:0<=n.m):∀ q,q∈fG r x->q.1<n.m.toNat:=by
 intro q hq;unfold fG at hq;by_cases c1:r=19;{rw[zca c1,nZ]at hq;subst c1;subst hq;have:=aU (show dw x 0 (n.m-2)=true from h);show x.toNat+1<_;omega};rw[zcb c1]at hq;have go:(r=20\/r=21\/r=22\/r=23)->x.toNat<n.m.toNat:=fun e=>by{have h2:dw x 0 (n.m-1)=true:=by{rcases e with rfl | rfl | rfl | rfl<;>exact h};have:=aU h2;omega};by_cases c2:r=20;{rw[zca c2,nZ]at hq;subst hq;exact go (by omega)};rw[zcb c2]at hq;by_cases c3:r=21;{rw[zca c3,nZ]at hq;subst hq;exact go (by omega)};rw[zcb c3]at hq;by_cases c4:r=22;{rw[zca c4,nZ]at hq;subst hq;exact go (by omega)};rw[zcb c4]at hq;by_cases c5:r=23;{rw[zca c5,nZ]at hq;subst hq;exact go (by omega)};rw[zcb c5]at hq;cases hq
theorem wH {l:List aj}{p a:Nat}(hk:uU l p)(ha:a<(al l p).u.length):IW l (aR (al l p) a) a (al l p).m.toNat (al l p).u.length:=by
 have h:=hk.u a ha;have hr:=hk.m.1;obtain⟨fm,hf,_⟩:=gI h;obtain⟨ta,tb⟩:=mX h;have Q9:=jd h ha hr;have qC:=hk.made a ha;generalize aR (al l p) a=n at *;obtain⟨op,ho⟩:∃ op:Nat,n.op=op:=⟨n.op.toNat,by omega⟩;have mi:op<43:=by omega
 have hm:=kW op mi (by omega);rw[ho,hm]at hf;change ∀ k,k<4->dh (al l p) l.length (dj n k) (([iy (aA op 0),iy (aA op 1),iy (aA op 2),iy (aA op 3)]:List Nat)[k]?.getD 0)=true at hf;have Or:∀ k,k<4->dh (al l p) l.length (dj n k) (iy (aA op k))=true:=fun k hk=>by
  have:=hf k hk;have hc:k=0\/k=1\/k=2\/k=3:=by{omega};rcases hc with rfl | rfl | rfl | rfl<;>exact this
 have px:∀ k,k<4->aA op k<=23:=fun k hk=>fF op mi k hk;have Zz:n.op.toNat=op:=by omega
 refine⟨fm,fun k hk=>?_,qC,fun ty ey q hq=>?_,Q9,fun e=>?_,fun e=>?_,fun e=>?_,fun y hy=>?_⟩;{rw[Zz];exact Qa (px k hk) (Or k hk) hr};{have hp:(eK l n ty).v=fG (aA op 0) n.fa++fG (aA op 1) n.fb++fG (aA op 2) n.fc++fG (aA op 3) n.fd:=by{have Ej:=pN ho mi (start ty);have e:(start ty).v=[]:=rfl;rw[e,List.nil_append]at Ej;unfold eK;split;{rw[(i9 _ _ _).1];exact Ej};{exact Ej}};rw[hp]at hq;simp only[zaa]at hq;rcases hq with((hq | hq) | hq) | hq;{exact xX (px 0 (by omega)) (Or 0 (by omega)) hr q hq};{exact xX (px 1 (by omega)) (Or 1 (by omega)) hr q hq};{exact xX (px 2 (by omega)) (Or 2 (by omega)) hr q hq};{exact xX (px 3 (by omega)) (Or 3 (by omega)) hr q hq}};{have:op=31:=by{omega};subst this;have:=aU (show dw n.fb 0 ((al l p).m-2)=true from Or 1 (by omega));omega};{rcases e with e | e;{have:op=33:=by{omega};subst this;exact(aU (show dw n.fa 0 (al l p).m=true from Or 0 (by omega))).1};{have:op=34:=by{omega};subst this;exact(aU (show dw n.fa 0 (al l p).m=true from Or 0 (by omega))).1}};{have:op=41:=by{omega};subst this;have:=aU (show dw n.fc 0 ((al l p).m-1)=true from Or 2 (by omega));omega};{unfold cp at hy;by_cases c1:n.op=19\/n.op=31;{rw[zca c1]at hy;cases hy;have:=ta c1;omega};rw[zcb c1]at hy;by_cases c2:n.op=20\/n.op=21\/n.op=38\/n.op=39\/n.op=41;{rw[zca c2]at hy;cases hy;have:=tb c2;omega};{rw[zcb c2]at hy;cases hy}}
theorem Gt:∀ k:Nat,([0,0,0,0]:List Nat)[k]?.getD 0=0
 | 0=>rfl
 | 1=>rfl
 | 2=>rfl
 | 3=>rfl
 | _+4=>rfl
theorem rL (n:az)(s:gY):∀ k,aW [0,0,0,0] n s k=some s
 | 0=>rfl
 | k+1=>by
  change (match aW [0,0,0,0] n s k with | none=>none | some s'=>gJ (([0,0,0,0]:List Nat)[k]?.getD 0) (dj n k) s')=some s;rw[rL n s k,Gt k];change gJ 0 (dj n k) s=some s;unfold gJ;rw[zca (by decide)]
theorem Qw {l:List aj}{n:az}{t:List Int}{r:gY}(h:n.op=32)(hr:bH l n t=some r):bg n r.d=t:=by
 have e:bh n.op=some [0,0,0,0]:=by{rw[h];decide};have h4:aW ((bh n.op).getD []) n ⟨t,[],[]⟩ 4=some ⟨t,[],[]⟩:=by{rw[e];exact rL n _ 4};unfold bH at hr;rw[h4]at hr;change (if _ then _ else _)=_ at hr;rw[zcb (by rw[h];intro c;exact zcc c.1 (by decide))]at hr;cases hr;unfold bg;rw[e,h];rfl
def jx (bV bS:Nat)(iv:Value)(k:Nat):Prop:=k≠bV/\k≠bS/\iv.ownBlock≠some k
structure wJ (w1:w_)(Z:Nat->Prop)(bT bF bX bA:Nat)(n:az)(s:fK)(tA gA:Value)(wr:w_):Prop where
 frm:∀ k,k<bF->Z k->wr.heap[k]? = w1.heap[k]?
 res:wr.rowIs bF 36 3 (fun _=>i_ 0)
 u:wr.rowIs bX 51 5 (fun j=>[Value.int .i64 n.op,i_ n.fa,i_ n.fb,i_ n.fc,i_ n.fd][j]?.getD (.bool false))
 st:wr.rowIs bA 97 3 (fun j=>[Value.bool true,tA,gA][j]?.getD (.bool false))
 ty:ao wr bT tA s.d
 gu:cd wr bT gA s.r
section
variable {w1:w_} {Z:Nat->Prop} {bT bF bX bA:Nat} {n:az} {s:fK} {tA gA:Value} {wr w2:w_}
theorem wJ.frame (h:wJ w1 Z bT bF bX bA n s tA gA wr)(P:Nat->Prop)(hs:∀ k,k<wr.heap.size->P k->w2.heap[k]? = wr.heap[k]?)(p1:P bF)(p2:P bX)(p3:P bA)(p4:∀ k,tA.ownBlock=some k->P k)(p5:∀ k,gA.ownBlock=some k->P k)(p6:∀ k,k<bF->Z k->P k):wJ w1 Z bT bF bX bA n s tA gA w2 where
 frm:=fun k hk hz=>(hs k (Nat.lt_trans hk h.res.lt) (p6 k hk hz)).trans (h.frm k hk hz)
 res:=h.res.of_block (hs _ h.res.lt p1)
 u:=h.u.of_block (hs _ h.u.lt p2)
 st:=h.st.of_block (hs _ h.st.lt p3)
 ty:=h.ty.sameBlock (fun k e=>hs k (h.ty.lt' k e).2 (p4 k e))
 gu:=h.gu.sameBlock (fun k e=>hs k (h.gu.lt' k e).2 (p5 k e))
theorem wJ.below (h:wJ w1 Z bT bF bX bA n s tA gA wr)(hb:b_ wr w2):wJ w1 Z bT bF bX bA n s tA gA w2:=
 h.frame (fun _=>True) (fun k hk _=>hb.block k hk) trivial trivial trivial (fun _ _=>trivial) (fun _ _=>trivial) (fun _ _ _=>trivial)
theorem iw.frame {bt B:Nat}{t:TD}{tv sv kv pv:Value}(h:iw bt B t tv sv kv pv wr)(P:Nat->Prop)(hs:∀ k,k<wr.heap.size->P k->w2.heap[k]? = wr.heap[k]?)(hP:∀ k,B<=k->k<wr.heap.size->P k):iw bt B t tv sv kv pv w2:=
 {h with
  row:=h.row.of_block (hs _ h.row.lt (hP _ h.ge h.row.lt))
  ty:=h.ty.sameBlock (fun k e=>hs k (h.ty.lt' k e).2 (hP k (h.ty.lt' k e).1 (h.ty.lt' k e).2))
  se:=h.se.sameBlock (fun k e=>hs k (h.se.lt' k e).2 (hP k (h.se.lt' k e).1 (h.se.lt' k e).2))
  ta:=h.ta.sameBlock (fun k e=>hs k (h.ta.lt' k e).2 (hP k (h.ta.lt' k e).1 (h.ta.lt' k e).2))
  pu:=h.pu.sameBlock (fun k e=>hs k (h.pu.lt' k e).2 (hP k (h.pu.lt' k e).1 (h.pu.lt' k e).2)) }
theorem jq.other {w:w_}{bV bS:Nat}{H:Nat->Value}{N:Nat}{σ:dW}{R:Nat->Value×Value}{iv:Value}{l:List Int}(h:jq w bV bS bT H N σ R iv l wr)(D j:Nat)(u:Value)(h0:w.heap.size<=D)(h1:D≠bV)(h2:D≠bS)(h3:iv.ownBlock≠some D)(h4:∀ i,i<N->(R i).1.ownBlock≠some D/\(R i).2.ownBlock≠some D):jq w bV bS bT H N σ R iv l (wr.setCell (a_ D j) u):=by
 have hk:∀ k,k≠D->(wr.setCell (a_ D j) u).heap[k]? = wr.heap[k]?:=fun k hk=>zbg wr (a_ D j) k _ hk;exact { h with
  old:=h.old.setCell h0 _
  size:=by have:=h.size;simpa using this
  box:=h.box.of_block (hk bV (fun e=>h1 e.symm))
  sts:=h.sts.of_block (hk bS (fun e=>h2 e.symm))
  own:=fun i s hi hs=>⟨(h.own i s hi hs).1.sameBlock (fun k e=>hk k (fun e2=>(h4 i hi).1 (by rw[<-e2];exact e))),(h.own i s hi hs).2.sameBlock (fun k e=>hk k (fun e2=>(h4 i hi).2 (by rw[<-e2];exact e)))⟩
  its:=h.its.sameBlock (fun k e=>hk k (fun e2=>h3 (by rw[<-e2];exact e))) }
end
end Go.Proofs.YtcjfjflljdojlaaGreatDoor
