import Derived.Test.YtmjcpapdncfkpaaGreatDoorPart42
import Derived.Shelf.Spec.SlicesInsertGrow
set_option linter.unusedSimpArgs false
set_option linter.unusedVariables false
set_option maxHeartbeats 4000000
set_option maxRecDepth 100000
namespace Go.Proofs.YtmjcpapdncfkpaaGreatDoor
open Go.RowKit Go.Shelf
def insRen:Ren:=⟨fun n=>if n=21 then 102 else if n=27 then 116 else if n=28 then 117 else if n=35 then 122 else 124,fun n=>if n=3 then 3 else if n=4 then 4 else if n=22 then 63 else 0,fun n=>n⟩
theorem insLays:Lays2.n21 Tryz.prog insRen where
 mixed:=by kernel_rfl
 f21:=Tryz.func102.trans (by kernel_rfl)
 f27:=Tryz.func116.trans (by kernel_rfl)
 f28:=Tryz.func117.trans (by kernel_rfl)
 f35:=Tryz.func122.trans (by kernel_rfl)
 f39:=Tryz.func124.trans (by kernel_rfl)
 t0:=Tryz.underlying0
 a0:=Tryz.isAgg0
 z0:=Tryz.sizeOf0
 v0:=Tryz.zeroValue0
 t3:=Tryz.underlying3
 a3:=Tryz.isAgg3
 z3:=Tryz.sizeOf3
 v3:=Tryz.zeroValue3
 t4:=Tryz.underlying4
 a4:=Tryz.isAgg4
 z4:=Tryz.sizeOf4
 v4:=Tryz.zeroValue4
 t22:=Tryz.underlying63
 a22:=Tryz.isAgg63
 z22:=Tryz.sizeOf63
 v22:=Tryz.zeroValue63
 i3:=by kernel_rfl
def insI (l:List Int)(x:Int)(k:Nat):List Int:=l.take k++x::l.drop k
theorem insI_len {l:List Int}{x:Int}{k:Nat}(h:k≤l.length):(insI l x k).length=l.length+1:=by
 unfold insI;simp;omega
theorem insI_get {l:List Int}{x:Int}{k:Nat}(h:k≤l.length)(j:Nat):(insI l x k)[j]?.getD 0=if j<k then l[j]?.getD 0 else if j=k then x else l[j-1]?.getD 0:=by
 unfold insI
 have ht:(l.take k).length=k:=by simp;omega
 by_cases c1:j<k
 ·rw[if_pos c1,List.getElem?_append_left (by omega),List.getElem?_take,if_pos c1]
 ·rw[if_neg c1,List.getElem?_append_right (by omega),ht]
  by_cases c2:j=k
  ·rw[if_pos c2,c2,Nat.sub_self];rfl
  ·rw[if_neg c2,show j-k=(j-k-1)+1 by omega,List.getElem?_cons_succ,List.getElem?_drop,show k+(j-k-1)=j-1 by omega]
theorem insI_mem {l:List Int}{x y:Int}{k:Nat}:y∈insI l x k↔y=x∨y∈l:=by
 unfold insI
 have e:=List.take_append_drop k l
 constructor
 ·intro h
  rw[List.mem_append,List.mem_cons]at h
  rcases h with h | h | h
  ·exact .inr (List.mem_of_mem_take h)
  ·exact .inl h
  ·exact .inr (List.mem_of_mem_drop h)
 ·intro h
  rw[List.mem_append,List.mem_cons]
  rcases h with h | h
  ·exact .inr (.inl h)
  ·rw[←e,List.mem_append]at h
   rcases h with h | h
   ·exact .inl h
   ·exact .inr (.inr h)
theorem insI_dec {l:List Int}{x:Int}{k:Nat}(hd:Dec l)(hp:PlaceOf l x k)(hx:x ∉ l):Dec (insI l x k):=by
 have hlt:∀ r,k≤r→r<l.length→l[r]?.getD 0<x:=fun r h1 h2=>by
  have:=hp.ng r h1 h2
  have hm:l[r]?.getD 0∈l:=by rw[List.getElem?_eq_getElem h2];exact List.getElem_mem h2
  have hne:l[r]?.getD 0≠x:=fun e=>hx (e ▸ hm)
  omega
 intro r s hrs hs
 rw[insI_len hp.le]at hs
 rw[insI_get hp.le,insI_get hp.le]
 by_cases c1:s<k
 ·rw[if_pos c1,if_pos (by omega)];exact hd r s hrs (by have:=hp.le;omega)
 rw[if_neg c1]
 by_cases c2:s=k
 ·rw[if_pos c2,if_pos (by omega)];exact hp.gt r (by omega)
 rw[if_neg c2]
 by_cases c3:r<k
 ·rw[if_pos c3];exact hd r (s-1) (by omega) (by omega)
 rw[if_neg c3]
 by_cases c4:r=k
 ·rw[if_pos c4];exact hlt (s-1) (by omega) (by omega)
 ·rw[if_neg c4];exact hd (r-1) (s-1) (by omega) (by omega)
theorem own_of_row2 {w:World}{b n c base:Nat}{f:Nat→Value}{t:List Int}(h:w.rowIs b 3 c f)(hn:t.length=n)(hc:n≤c)(hb:base≤b)(hl:c≤maxLen)(hf:∀ j,j<n→f j=.int .i64 (t[j]?.getD 0)):OwnI w base (.slice (some ⟨b,0,none⟩) n c) t:=by
 obtain⟨cur,h1,h2,h3⟩:=h
 subst hn
 refine⟨by simp,.inr ⟨b,c,cur,rfl,hb,h1,hc,hl,by omega,?_⟩⟩
 apply List.ext_getElem?
 intro j
 by_cases hj:j<t.length
 ·rw[List.getElem?_take,if_pos (by omega),Array.getElem?_toList,h3 j (by omega),hf j hj,List.getElem?_map,List.getElem?_eq_getElem hj]
  rfl
 ·rw[List.getElem?_eq_none (by simp;omega),List.getElem?_eq_none (by simp;omega)]
theorem row_cells {b:Nat}{t:TypeId}{n:Nat}:∀(vs:List Value)(o:Nat)(w:World)(f:Nat→Value),w.rowIs b t n f→(w.setCells b o vs).rowIs b t n (fun j=>if o≤j∧j<o+vs.length then vs[j-o]?.getD default else f j)
 | [],o,w,f,h=>h.congr (fun j _=>by rw[if_neg (by simp)])
 | v::r,o,w,f,h=>(row_cells r (o+1) _ _ (h.set o v)).congr (fun j _=>by
   by_cases h1:j=o
   ·subst h1;rw[if_neg (by omega),if_pos rfl,if_pos (by simp),Nat.sub_self];rfl
   ·by_cases h2:o+1≤j∧j<o+1+r.length
    ·rw[if_pos h2,if_pos (by simp;omega),show j-o=(j-(o+1))+1 by omega,List.getElem?_cons_succ]
    ·rw[if_neg h2,if_neg h1,if_neg (by simp;omega)])
theorem block_cells (b:Nat)(k:Nat)(hk:k≠b):∀(vs:List Value)(o:Nat)(w:World),(w.setCells b o vs).heap[k]? = w.heap[k]?
 | [],_,_=>rfl
 | v::r,o,w=>by show((w.setCell ⟨b,o,none⟩ v).setCells b (o+1) r).heap[k]? = _;rw[block_cells b k hk r,heap_setCell_other w ⟨b,o,none⟩ k v hk]
def InsPost (l':List Int)(base:Nat)(v:Value)(w:World)(e:Ending)(w':World):Prop:=
 ∃ v',e=.returned v'∧OwnI w' base v' l'∧(∀ k,k<w.heap.size→v.ownBlock≠some k→w'.heap[k]? = w.heap[k]?)∧(∀ k,v'.ownBlock=some k→v.ownBlock=some k∨w.heap.size≤k)∧Below base w w'
theorem below_cells {B b:Nat}{a:World}(hb:B≤b):∀(vs:List Value)(o:Nat)(w:World),Below B a w→Below B a (w.setCells b o vs)
 | [],_,_,h=>h
 | v::r,o,w,h=>below_cells hb r (o+1) _ (h.setCell (p:=⟨b,o,none⟩) hb v)
theorem ints_get (l:List Int)(j:Nat)(h:j<l.length):(l.map (Value.int .i64))[j]?.getD default=.int .i64 (l[j]?.getD 0):=by
 rw[List.getElem?_map,List.getElem?_eq_getElem h];rfl
theorem rowIs_drew {w:World}{b:Nat}{t:TypeId}{n:Nat}{f:Nat→Value}(h:w.rowIs b t n f):w.drew.rowIs b t n f:=h.of_block rfl
theorem insert_any (v:Value)(l:List Int)(k:Nat)(x:Int)(base vb vc:Nat)(w:World)(h:OwnI w base v l)(hbs:base≤w.heap.size)(hl:l.length≤1000000)(hk:k≤l.length)(hv:w.heap[vb]? = some (.cells #[.int .i64 x] 3 (0,0)))(hne:v.ownBlock≠some vb) :
  Calls Tryz.prog 102 #[v,.int .i64 (k:Int),.slice (some ⟨vb,0,none⟩) 1 vc] w (InsPost (insI l x k) base v w):=by
 have hvs:∀ j u,[Value.int .i64 x][j]? = some u→w.cell? ⟨vb,0+j,none⟩=some u:=fun j u hj=>by
  cases j with
  | zero=>simp at hj;subst hj;simp[World.cell?,hv]
  | succ j=>simp at hj
 have h1v:∀ u∈[Value.int .i64 x],u.oneCell'=true:=fun u hu=>by simp at hu;subst hu;rfl
 have h1c:∀ u∈l.map (Value.int .i64),u.oneCell'=true:=fun u hu=>by rw[List.mem_map]at hu;obtain⟨y,_,rfl⟩:=hu;rfl
 have hil:=insI_len (l:=l) (x:=x) hk
 have hz1:(Builtin.zeroCells (Value.int .i64 0).cells)=fun m=>Builtin.zeroCells (Value.int .i64 0).cells m:=rfl
 have hzs:∀ m,(Builtin.zeroCells (Value.int .i64 0).cells m).size=m:=fun m=>by rw[size_zeroCells];simp[Value.cells]
 have GROW:∀(A:Array Value) (gc:Nat),A.size=l.length+1→l.length+1≤gc→gc≤maxLen→(∀ j,j<l.length+1→A[j]? = some (.int .i64 ((insI l x k)[j]?.getD 0))) →
   InsPost (insI l x k) base v w (.returned (.slice (some ⟨w.heap.size,0,none⟩) (l.length+1) gc)) (w.drew.alloc (.cells (A++Builtin.zeroCells (Value.int .i64 0).cells (gc-(l.length+1))) 3)):=fun A gc hA h1 h2 h3=>by
  refine⟨_,rfl,?_,fun q hq _=>?_,fun q hq=>.inr ?_,?_⟩
  ·have hr:=World.rowIs_alloc w.drew (A++Builtin.zeroCells (Value.int .i64 0).cells (gc-(l.length+1))) 3 (fun j=>(A++Builtin.zeroCells (Value.int .i64 0).cells (gc-(l.length+1)))[j]?.getD default) (fun i hi=>by rw[Array.getElem?_eq_getElem hi];rfl)
   have hsz:(A++Builtin.zeroCells (Value.int .i64 0).cells (gc-(l.length+1))).size=gc:=by rw[Array.size_append,hA,hzs];omega
   rw[hsz]at hr
   refine own_of_row2 (b:=w.heap.size) hr hil h1 hbs h2 (fun j hj=>?_)
   rw[Array.getElem?_append_left (by omega),h3 j hj];rfl
  ·exact Below.block (B:=w.heap.size) (w:=w) (((Below.refl _ _).drew).alloc (Nat.le_refl _) _) q hq
  ·have:w.heap.size=q:=Option.some.inj hq;omega
  ·exact((Below.refl _ _).drew).alloc hbs _
 by_cases hend:k=l.length
 ·subst hend
  have hI:insI l x l.length=l++[x]:=by unfold insI;simp
  have hA:∀ j,j<l.length+1→((l.map (Value.int .i64))++[Value.int .i64 x]).toArray[j]? = some (.int .i64 ((insI l x l.length)[j]?.getD 0)):=fun j hj=>by
   rw[hI,List.getElem?_toArray,←List.map_singleton,←List.map_append,List.getElem?_map,List.getElem?_eq_getElem (by simp;omega)]
   rfl
  rcases h.2 with⟨rfl,h0⟩ | ⟨g,cap,cur,rfl,hbg,hg,hn,hcap,hsz,htk⟩
  ·have key:=Any2.slices_Insert_int_end_grow insLays none 0 0 vb 0 1 vc [] [.int .i64 x] w (by omega) (by omega) (by omega) (by omega) rfl rfl (fun _=>rfl) (fun a ha=>by cases ha) hvs h1v
   have h00:l=[]:=List.eq_nil_of_length_eq_zero h0
   subst h00
   refine key.mono ?_
   rintro e w' ⟨rfl,rfl⟩
   exact GROW #[.int .i64 x] _ rfl (grownCap_ge ..) (grownCap_le_maxLen _ _ _ _ (by unfold maxLen;omega)) (fun j hj=>by
    have:j=0:=by simp at hj;omega
    subst this;rfl)
  ·have hrow:w.rowIs g 3 cap (fun j=>cur[j]?.getD default):=⟨cur,hg,by omega,fun i hi=>by show cur[i]? = some (cur[i]?.getD default);rw[Array.getElem?_eq_getElem (by omega)];rfl⟩
   have hcc:∀ j,j<l.length→w.cell? ⟨g,j,none⟩=some (.int .i64 (l[j]?.getD 0)):=fun j hj=>by
    obtain⟨g',cap',e,_,_,h3⟩:=h.at (by omega)
    injection e with e1;injection e1 with e1;injection e1 with e1
    subst e1
    exact h3 j hj
   by_cases hroom:l.length+1≤cap
   ·have key:=Any2.slices_Insert_int_end_room insLays g 0 l.length cap vb 0 1 vc [.int .i64 x] w (by omega) hroom (by unfold maxLen at hcap;omega) rfl (fun j hj=>by rw[hrow.cell (by omega)];rfl) (fun j hj=>hrow.frozen _) hvs h1v
    refine key.mono ?_
    rintro e w' ⟨rfl,rfl⟩
    refine⟨_,rfl,?_,fun q hq hb=>?_,fun q hq=>.inl hq,?_⟩
    ·refine own_of_row2 (row_cells _ _ _ _ hrow) hil hroom hbg hcap (fun j hj=>?_)
     rw[insI_get (Nat.le_refl _)]
     by_cases c:j<l.length
     ·rw[if_neg (by simp;omega),if_pos c]
      have:=hrow.cell (i:=j) (by omega)
      rw[hcc j c]at this
      exact(Option.some.inj this).symm
     ·have:j=l.length:=by omega
      subst this
      rw[if_pos (by simp),if_neg c,if_pos rfl]
      simp
    ·exact block_cells g q (fun e=>hb (by rw[e];rfl)) _ _ _
    ·exact below_cells hbg _ _ _ (Below.refl _ _)
   ·have key:=Any2.slices_Insert_int_end_grow insLays (some ⟨g,0,none⟩) l.length cap vb 0 1 vc (l.map (Value.int .i64)) [.int .i64 x] w (by omega) hn (by omega) (by omega) (by simp) rfl (fun e=>by cases e) (fun a ha j u hj=>by
      cases ha
      rw[List.getElem?_map]at hj
      by_cases hjl:j<l.length
      ·rw[List.getElem?_eq_getElem hjl]at hj
       have e:(⟨g,0,none⟩:Addr).add j=⟨g,j,none⟩:=by rw[Addr.add_lit,Nat.zero_add]
       rw[e,hcc j hjl,List.getElem?_eq_getElem hjl]
       exact hj
      ·rw[List.getElem?_eq_none (by omega)]at hj;cases hj) hvs h1v
    refine key.mono ?_
    rintro e w' ⟨rfl,rfl⟩
    exact GROW _ _ (by simp) (grownCap_ge ..) (grownCap_le_maxLen _ _ _ _ (by unfold maxLen;omega)) hA
 ·rcases h.2 with⟨rfl,h0⟩ | ⟨g,cap,cur,rfl,hbg,hg,hn,hcap,hsz,htk⟩
  ·omega
  ·have hrow:w.rowIs g 3 cap (fun j=>cur[j]?.getD default):=⟨cur,hg,by omega,fun i hi=>by show cur[i]? = some (cur[i]?.getD default);rw[Array.getElem?_eq_getElem (by omega)];rfl⟩
   have hcc:∀ j,j<l.length→w.cell? ⟨g,j,none⟩=some (.int .i64 (l[j]?.getD 0)):=fun j hj=>by
    obtain⟨g',cap',e,_,_,h3⟩:=h.at (by omega)
    injection e with e1;injection e1 with e1;injection e1 with e1
    subst e1
    exact h3 j hj
   have hcs:∀ j u,(l.map (Value.int .i64))[j]? = some u→w.cell? ⟨g,0+j,none⟩=some u:=fun j u hj=>by
    rw[List.getElem?_map]at hj
    by_cases hjl:j<l.length
    ·rw[List.getElem?_eq_getElem hjl]at hj
     rw[Nat.zero_add,hcc j hjl,List.getElem?_eq_getElem hjl]
     exact hj
    ·rw[List.getElem?_eq_none (by omega)]at hj;cases hj
   by_cases hroom:l.length+1≤cap
   ·have key:=Any2.slices_Insert_int_shift insLays g 0 l.length cap k vb 0 1 vc (l.map (Value.int .i64)) [.int .i64 x] w (by omega) (by omega) hroom (by unfold maxLen at hcap;omega) (fun e=>hne (by rw[e];rfl)) (by simp) rfl hcs (fun j hj=>by rw[hrow.cell (by omega)];rfl) (fun j hj=>hrow.frozen _) hvs h1c h1v 3 3 1 cap (by simp[World.shape?,hv]) (by simp[World.shape?,hg];omega) (by omega) (by simp[World.frozen?,hv]) (by simp[World.frozen?,hv])
    refine key.mono ?_
    rintro e w' ⟨rfl,rfl⟩
    refine⟨_,rfl,?_,fun q hq hb=>?_,fun q hq=>.inl hq,?_⟩
    ·refine own_of_row2 (row_cells _ _ _ _ (row_cells _ _ _ _ (rowIs_drew hrow))) hil hroom hbg hcap (fun j hj=>?_)
     rw[insI_get hk]
     by_cases c:j<k
     ·rw[if_neg (by simp;omega),if_neg (by simp;omega),if_pos c]
      have:=hrow.cell (i:=j) (by omega)
      rw[hcc j (by omega)]at this
      exact(Option.some.inj this).symm
     ·by_cases c2:j=k
      ·subst c2
       rw[if_pos (by simp),if_neg c,if_pos rfl]
       simp
      ·rw[if_neg (by simp;omega),if_pos (by simp;omega),if_neg c,if_neg c2,←List.map_drop,List.getElem?_map,List.getElem?_drop,show k+(j-(0+(k+1)))=j-1 by omega,List.getElem?_eq_getElem (by omega)]
       rfl
    ·have hq':q≠g:=fun e=>hb (by rw[e];rfl)
     rw[block_cells g q hq',block_cells g q hq']
     rfl
    ·exact below_cells hbg _ _ _ (below_cells hbg _ _ _ ((Below.refl _ _).drew))
   ·have key:=Any2.slices_Insert_int_grow insLays g 0 l.length cap k vb 0 1 vc (l.map (Value.int .i64)) [.int .i64 x] w (by omega) (by omega) hn (by omega) (by omega) (by simp) rfl hcs hvs h1c h1v
    refine key.mono ?_
    rintro e w' ⟨rfl,rfl⟩
    have hgc:=grownCap_ge w (l.length+1) cap (insRen.t 3)
    have hgm:=grownCap_le_maxLen w (l.length+1) cap (insRen.t 3) (by unfold maxLen;omega)
    generalize grownCap w (l.length+1) cap (insRen.t 3)=gc at *
    refine⟨_,rfl,?_,fun q hq hb=>?_,fun q hq=>.inr ?_,?_⟩
    ·have hr:=World.rowIs_alloc w (((l.map (Value.int .i64)).take k).toArray++Builtin.zeroCells (Value.int .i64 0).cells (l.length+1-k)++Builtin.zeroCells (Value.int .i64 0).cells (gc-(l.length+1))) 3 (fun j=>(((l.map (Value.int .i64)).take k).toArray++Builtin.zeroCells (Value.int .i64 0).cells (l.length+1-k)++Builtin.zeroCells (Value.int .i64 0).cells (gc-(l.length+1)))[j]?.getD default) (fun i hi=>by rw[Array.getElem?_eq_getElem hi];rfl)
     have hs2:(((l.map (Value.int .i64)).take k).toArray++Builtin.zeroCells (Value.int .i64 0).cells (l.length+1-k)++Builtin.zeroCells (Value.int .i64 0).cells (gc-(l.length+1))).size=gc:=by
      rw[Array.size_append,Array.size_append,hzs,hzs];simp;omega
     rw[hs2]at hr
     refine own_of_row2 (b:=w.heap.size) (row_cells _ _ _ _ (rowIs_drew (row_cells _ _ _ _ (rowIs_drew hr)))) hil hgc hbs hgm (fun j hj=>?_)
     rw[insI_get hk]
     by_cases c:j<k
     ·rw[if_neg (by simp;omega),if_neg (by simp;omega),if_pos c,Array.getElem?_append_left (by rw[Array.size_append,hzs];simp;omega),Array.getElem?_append_left (by simp;omega),List.getElem?_toArray,List.getElem?_take,if_pos c]
      exact ints_get l j (by omega)
     ·by_cases c2:j=k
      ·subst c2
       rw[if_neg (by omega),if_pos (by simp),if_neg c,if_pos rfl]
       simp
      ·rw[if_pos (by simp;omega),if_neg c,if_neg c2,←List.map_drop,List.getElem?_map,List.getElem?_drop,show k+(j-(k+1))=j-1 by omega,List.getElem?_eq_getElem (by omega)]
       rfl
    ·have hq':q≠w.heap.size:=by omega
     rw[block_cells _ q hq']
     show(((w.alloc _).drew.setCells w.heap.size k [Value.int .i64 x]).heap[q]?)=_
     rw[block_cells _ q hq']
     exact Below.block (B:=w.heap.size) (w:=w) ((Below.refl _ _).alloc (Nat.le_refl _) _) q hq
    ·have:w.heap.size=q:=Option.some.inj hq;omega
    ·exact below_cells hbs _ _ _ ((below_cells hbs _ _ _ (((Below.refl _ _).alloc hbs _).drew)).drew)
end Go.Proofs.YtmjcpapdncfkpaaGreatDoor
namespace Go.Proofs.YtmjcpapdncfkpaaGreatDoor
open Go.RowKit
def SetPost (bv o base:Nat)(v:Value)(l:List Int)(x:Int)(w:World)(e:Ending)(w':World):Prop:=
 e=.returned (.tuple #[])∧∃ w1 v' k,w'=w1.setCell ⟨bv,o,none⟩ v'∧PlaceOf l x k∧OwnI w1 base v' (insI l x k)∧(∀ q,q<w.heap.size→v.ownBlock≠some q→w1.heap[q]? = w.heap[q]?)∧(∀ q,v'.ownBlock=some q→v.ownBlock=some q∨w.heap.size≤q)∧Below base w w1
theorem setPut_any (bv o base:Nat)(v:Value)(l:List Int)(x:Int)(w:World)(hv:w.cell? ⟨bv,o,none⟩=some v)(hz:w.frozen? ⟨bv,o,none⟩=false)(ho:OwnI w base v l)(hbs:base≤w.heap.size)(hd:Dec l)(hx:x ∉ l)(hl:l.length≤1000000)(hne:v.ownBlock≠some bv) :
  Calls Tryz.prog 73 #[.pointer (some ⟨bv,o,none⟩),.int .i64 x] w (SetPost bv o base v l x w):=by
 obtain⟨a,c,rfl,hI⟩:=ho.ints hl
 have hbv:bv<w.heap.size:=World.block_lt_of_cell? _ _ hv
 have BS:Hid (Calls Tryz.prog 99 #[.slice a l.length c,.int .i64 x,.func (.func 100) #[] #[]] w (BsPost l x w)):=search_any a l c x _ w hI (fun b h=>h.2) hl hd
 have HO:=hide ho
 have HBSZ:=hide hbs
 have HX:=hide hx
 have HNE:=hide hne
 have HV:=hide hv
 have HZ:=hide hz
 clear ho hbs hx hne hd hI
 go_enter Tryz.func73,Tryz.ntmps73
 go_wp2_with fail
 refine(unhide BS).mono ?_
 rintro e w1 ⟨k,hp,rfl,hb1⟩
 have hdec:decide (k<l.length∧l[k]?.getD 0=x)=false:=decide_eq_false (fun h=>HX.out (by rw[←h.2,List.getElem?_eq_getElem h.1];exact List.getElem_mem _))
 rw[hdec]
 have c1:w1.cell? ⟨bv,o,none⟩=some (.slice a l.length c):=(hb1.cell (p:=⟨bv,o,none⟩) hbv).trans HV.out
 have hs1:=hb1.size
 have hbv1:bv<w1.heap.size:=by omega
 have hA:Below w1.heap.size w1 (w1.alloc (.cells #[.int .i64 x] 3)):=(Below.refl _ _).alloc (Nat.le_refl _) _
 have HB2:Hid (Below w.heap.size w (w1.alloc (.cells #[.int .i64 x] 3))):=hb1.trans (hA.mono hs1)
 have INS:Hid (Calls Tryz.prog 102 #[.slice a l.length c,.int .i64 (k:Int),.slice (some ⟨w1.heap.size,0,none⟩) 1 1] (w1.alloc (.cells #[.int .i64 x] 3)) (InsPost (insI l x k) base (.slice a l.length c) (w1.alloc (.cells #[.int .i64 x] 3)))):=
  insert_any _ l k x base w1.heap.size 1 _ ((HO.out).below HB2.out) (Nat.le_trans HBSZ.out HB2.out.size) hl hp.le (Go.Deep.blk_alloc_new _ _) (fun e=>by have:=(HO.out).lt' _ e;omega)
 have HP:=hide hp
 have hsz2:(w1.alloc (.cells #[.int .i64 x] 3)).heap.size=w1.heap.size+1:=by simp
 clear hp hb1 BS hv hz hdec hA
 go_wp2_with fail
 refine(unhide INS).mono ?_
 rintro e w3 ⟨v',rfl,ho3,hf3,hn3,hb3⟩
 obtain⟨a',c',rfl⟩:=ho3.lenV
 have bl:w3.heap[bv]? = w.heap[bv]?:=(hf3 bv (by omega) HNE.out).trans (HB2.out.block bv hbv)
 have c3:w3.cell? ⟨bv,o,none⟩=some (.slice a l.length c):=(World.cell?_of_block (a:=⟨bv,o,none⟩) bl).trans HV.out
 have z3:w3.frozen? ⟨bv,o,none⟩=false:=(World.frozen?_of_block (a:=⟨bv,o,none⟩) bl).trans HZ.out
 have hl3:bv<w3.heap.size:=World.block_lt_of_cell? _ _ c3
 have FIN:Hid (∃ w1 v'' k2,w3.setCell ⟨bv,o,none⟩ (.slice a' (insI l x k).length c')=World.setCell w1 ⟨bv,o,none⟩ v''∧PlaceOf l x k2∧OwnI w1 base v'' (insI l x k2)∧(∀ q,q<w.heap.size→(Value.slice a l.length c).ownBlock≠some q→w1.heap[q]? = w.heap[q]?)∧(∀ q,v''.ownBlock=some q→(Value.slice a l.length c).ownBlock=some q∨w.heap.size≤q)∧Below base w w1):=
  ⟨w3,_,k,rfl,HP.out,ho3,fun q hq hn=>(hf3 q (by omega) hn).trans (HB2.out.block q hq),fun q hq=>(hn3 q hq).imp_right (fun h=>by omega),(HB2.out.mono HBSZ.out).trans hb3⟩
 clear ho3 hf3 hn3 hb3 bl c1 INS
 go_wp2_with fail
 go_end0
 exact⟨rfl,FIN.out⟩
theorem own_new (w:World)(e:TypeId)(size n gc:Nat)(xs:List Value)(z:Array Value)(hz:z.size=size)(hx:xs.length=n * size)(h1:n≤gc)(h2:gc≤maxLen) :
  (w.drew.alloc (.cells (xs.toArray++Builtin.zeroCells z (gc-n)) e)).ownsRow w.heap.size e size (.slice (some ⟨w.heap.size,0,none⟩) n gc) n xs:=by
 refine⟨hx,.inr ⟨w.heap.size,gc,_,rfl,Nat.le_refl _,Go.Deep.blk_alloc_new w.drew _,h1,h2,?_,?_⟩⟩
 ·rw[Array.size_append,size_zeroCells,hz,List.size_toArray,hx,←Nat.add_mul]
  congr 1
  omega
 ·rw[Array.toList_append,List.toList_toArray,←hx,List.take_left]
theorem appI_run (a:Option Addr)(l:List Int)(c:Nat)(S:Nat→Prop)(w:World)(hs:IntsAt w S a l)(hl:l.length≤1000000) :
  ∃ v w1,(Builtin.append_ #[63,63] 63 #[.slice none 0 0,.slice a l.length c]).run Tryz.prog w=.ok v w1∧OwnI w1 w.heap.size v l∧Below w.heap.size w w1:=by
 obtain⟨i0,hi,hz0,hz1,hz2⟩:=info_of info_i
 by_cases h0:0<l.length
 ·obtain⟨b,off,rfl,_,hcc⟩:=hs.2 h0
  refine⟨_,_,run_append_nil w 63 63 3 i0 (.int .i64 0) Tryz.underlying63 hi hz0 ⟨b,off,none⟩ l.length c (l.map (Value.int .i64)) (by rw[hz1];simp) (fun j u hj=>?_) h0 (by omega) (by rw[hz2];omega),?_,?_⟩
  ·rw[List.getElem?_map]at hj
   by_cases hjl:j<l.length
   ·rw[List.getElem?_eq_getElem hjl]at hj
    have h1:=hcc j hjl
    rw[List.getElem?_eq_getElem hjl]at h1
    have e:(⟨b,off,none⟩:Addr).add j=⟨b,off+j,none⟩:=by simp[Addr.add]
    rw[e,h1]
    exact hj
   ·rw[List.getElem?_eq_none (by omega)]at hj;cases hj
  ·exact own_new w 3 1 l.length _ _ _ rfl (by simp) (grownCap_ge ..) (grownCap_le_maxLen _ _ _ _ (by unfold maxLen;omega))
  ·exact((Below.refl _ _).drew).alloc (Nat.le_refl _) _
 ·obtain rfl:l=[]:=List.eq_nil_of_length_eq_zero (by omega)
  refine⟨.slice none 0 0,w,?_,World.ownsRow_nil _ _ _ _,Below.refl _ _⟩
  cases a with
  | none=>simp[Builtin.append_,run_underlying Tryz.underlying63,sizeOf,typeInfo,zeroValue,hi,hz0,Builtin.lenOf,run_firstCells_none]
  | some b=>
   have hf:=run_firstCells_some (P:=Tryz.prog) w i0.size 0 b 0 c [] (by simp) (fun j u hj=>by simp at hj)
   simp[Builtin.append_,run_underlying Tryz.underlying63,sizeOf,typeInfo,zeroValue,hi,hz0,Builtin.lenOf,hf]
theorem appG_run (a:Option Addr)(l:List GuD)(c:Nat)(S:Nat→Prop)(w:World)(hs:GusAt w S a l)(hl:l.length≤1000000) :
  ∃ v w1,(Builtin.append_ #[64,64] 64 #[.slice none 0 0,.slice a l.length c]).run Tryz.prog w=.ok v w1∧OwnG w1 w.heap.size v l∧Below w.heap.size w w1:=by
 obtain⟨i0,hi,hz0,hz1,hz2⟩:=info_of info_gu
 by_cases h0:0<l.length
 ·obtain⟨b,off,rfl,_,hcc⟩:=hs.2 h0
  refine⟨_,_,run_append_nil w 64 64 112 i0 (.agg #[.bool false,.int .i64 0,.int .i64 0]) Tryz.underlying64 hi hz0 ⟨b,off,none⟩ l.length c (l.flatMap guV) (by rw[hz1];exact guV_len l) (fun j u hj=>?_) h0 (by omega) (by rw[hz2];omega),?_,?_⟩
  ·have e:(⟨b,off,none⟩:Addr).add j=⟨b,off+j,none⟩:=by simp[Addr.add]
   rw[e]
   exact guV_cells hcc j u hj
  ·exact own_new w 112 3 l.length _ _ _ rfl (guV_len l) (grownCap_ge ..) (grownCap_le_maxLen _ _ _ _ (by unfold maxLen;omega))
  ·exact((Below.refl _ _).drew).alloc (Nat.le_refl _) _
 ·obtain rfl:l=[]:=List.eq_nil_of_length_eq_zero (by omega)
  refine⟨.slice none 0 0,w,?_,World.ownsRow_nil _ _ _ _,Below.refl _ _⟩
  cases a with
  | none=>simp[Builtin.append_,run_underlying Tryz.underlying64,sizeOf,typeInfo,zeroValue,hi,hz0,Builtin.lenOf,run_firstCells_none]
  | some b=>
   have hf:=run_firstCells_some (P:=Tryz.prog) w i0.size 0 b 0 c [] (by simp) (fun j u hj=>by simp at hj)
   simp[Builtin.append_,run_underlying Tryz.underlying64,sizeOf,typeInfo,zeroValue,hi,hz0,Builtin.lenOf,hf]
theorem wp_append_run {w:World}{o:Oper}{a:Act}{K:Act→World→Prop}{Q:Exit→Act→World→Prop}(s x:Operand)(t:TypeId)(ho:o.op=.call { callee:=.builtin .append,args:=#[s,x],argTypes:=#[t,t] })(v u:Value)(hs:a.eval s=v)(hx:a.eval x=u){v':Value}{w':World}
  (hr:(Builtin.append_ #[t,t] o.type #[v,u]).run Tryz.prog w=.ok v' w')(h:K (a.put o.dst v') w'):o.wp Tryz.prog a w K Q:=by
 unfold Oper.wp
 simp[execOp,ho,resolve,invoke,builtin,hs,hx,hr,Result.andThen]
 exact h
theorem wpList_append_run {w:World}{ops:Array Oper}{rest:List Oper}{o:Oper}{a:Act}{Q:Exit→Act→World→Prop}(hgd:o.guard=none)(s x:Operand)(t:TypeId)(ho:o.op=.call { callee:=.builtin .append,args:=#[s,x],argTypes:=#[t,t] })(v u:Value)(hs:a.eval s=v)(hx:a.eval x=u){v':Value}{w':World}
  (hr:(Builtin.append_ #[t,t] o.type #[v,u]).run Tryz.prog w=.ok v' w')(h:wpList Tryz.prog ops Q rest (a.put o.dst v') w'):wpList Tryz.prog ops Q (o::rest) a w:=
 wpList_plain hgd fun _ hK=>wp_append_run s x t ho v u hs hx hr (hK _ _ h)
def vfV (H:Nat→Value)(bS N:Nat)(iv:Value)(j:Nat):Value:=if j=12 then iv else if j=11 then .slice (some ⟨bS,0,none⟩) N N else H j
structure VfB (w:World)(bV bS bT:Nat):Prop where
 o1:w.heap.size≤bV
 o2:w.heap.size≤bS
 o3:bV≠bS
 o4:bV<bT
 o5:bS<bT
structure VfW (w:World)(bV bS bT:Nat)(H:Nat→Value)(N:Nat)(σ:Mst)(R:Nat→Value×Value)(iv:Value)(l:List Int)(wr:World):Prop where
 old:Below w.heap.size w wr
 size:bT≤wr.heap.size
 box:wr.rowIs bV 86 13 (vfV H bS N iv)
 sts:wr.rowIs bS 66 (N * 3) (stV σ R)
 own:∀ i s,i<N→σ.st i=some s→OwnI wr bT (R i).1 s.types∧OwnG wr bT (R i).2 s.guards
 none_:∀ i,i<N→σ.st i=none→R i=nil2
 inj:∀ i j,i<N→j<N→i≠j→Dis (R i).1 (R j).1∧Dis (R i).2 (R j).2
 its:OwnI wr bT iv l
 dis:∀ i,i<N→Dis iv (R i).1∧Dis iv (R i).2
 dec:Dec l
 due:∀ y,y∈l↔∃ i:Nat,y=i∧σ.due i=true
theorem dis_nil (v:Value):Dis v (.slice none 0 0):=fun _ _ h=>by cases h
theorem dec_ge {l:List Int}(hd:Dec l)(h0:∀ y,y∈l→0≤y):∀ j,j<l.length→(j:Int)≤l[l.length-1-j]?.getD 0
 | 0,h=>by
  have hm:l[l.length-1-0]?.getD 0∈l:=by rw[List.getElem?_eq_getElem (by omega)];exact List.getElem_mem _
  have:=h0 _ hm
  omega
 | j+1,h=>by
  have h1:=dec_ge hd h0 j (by omega)
  have h2:=hd (l.length-1-(j+1)) (l.length-1-j) (by omega) (by omega)
  omega
theorem dec_len {l:List Int}{N:Nat}(hd:Dec l)(h:∀ y,y∈l→0≤y∧y<N):l.length≤N:=by
 by_cases c:0<l.length
 ·have h1:=dec_ge hd (fun y hy=>(h y hy).1) (l.length-1) (by omega)
  have hm:l[l.length-1-(l.length-1)]?.getD 0∈l:=by rw[List.getElem?_eq_getElem (by omega)];exact List.getElem_mem _
  have:=(h _ hm).2
  omega
 ·omega
section
variable {w:World} {bV bS bT:Nat} {H:Nat→Value} {N:Nat} {σ:Mst} {R:Nat→Value×Value} {iv:Value} {l:List Int} {wr w2:World}
theorem VfW.len (h:VfW w bV bS bT H N σ R iv l wr){R0:Nat}(hm:MOk R0 N σ):l.length≤N:=
 dec_len h.dec (fun y hy=>by
  obtain⟨i,rfl,hi⟩:=(h.due y).1 hy
  have:=(hm.due i hi).1
  omega)
theorem VfW.below (h:VfW w bV bS bT H N σ R iv l wr)(hb:Below wr.heap.size wr w2):VfW w bV bS bT H N σ R iv l w2:=
 {h with
  old:=h.old.trans (hb.mono h.old.size)
  size:=Nat.le_trans h.size hb.size
  box:=h.box.of_block (hb.block _ h.box.lt)
  sts:=h.sts.of_block (hb.block _ h.sts.lt)
  own:=fun i s hi hs=>⟨(h.own i s hi hs).1.below hb,(h.own i s hi hs).2.below hb⟩
  its:=h.its.below hb }
theorem VfW.rowLt (h:VfW w bV bS bT H N σ R iv l wr){i:Nat}(hi:i<N):(∀ k,(R i).1.ownBlock=some k→bT≤k∧k<wr.heap.size)∧∀ k,(R i).2.ownBlock=some k→bT≤k∧k<wr.heap.size:=by
 cases e:σ.st i with
 | none=>rw[h.none_ i hi e];exact⟨(fun k hk=>by cases hk),(fun k hk=>by cases hk)⟩
 | some s=>exact⟨fun k hk=>(h.own i s hi e).1.lt' k hk,fun k hk=>(h.own i s hi e).2.lt' k hk⟩
theorem VfW.put (h:VfW w bV bS bT H N σ R iv l wr)(hB:VfB w bV bS bT){w1:World}{iv':Value}{l':List Int}{i:Nat}(hi:i<N)(ho:OwnI w1 bT iv' l')(hf:∀ k,k<wr.heap.size→iv.ownBlock≠some k→w1.heap[k]? = wr.heap[k]?)(hn:∀ k,iv'.ownBlock=some k→iv.ownBlock=some k∨wr.heap.size≤k)(hs:Below bT wr w1)
  (hd:Dec l')(hm:∀ y,y∈l'↔y=(i:Int)∨y∈l):VfW w bV bS bT H N ⟨σ.st,upd σ.due i true⟩ R iv' l' (w1.setCell ⟨bV,12,none⟩ iv'):=by
 obtain⟨o1,o2,o3,o4,o5⟩:=hB
 have hsz:=h.size
 have hiv:∀ k,iv.ownBlock=some k→bT≤k∧k<wr.heap.size:=h.its.lt'
 have hbV:w1.heap[bV]? = wr.heap[bV]?:=hf bV (by omega) (fun e=>by have:=hiv _ e;omega)
 have hbS:w1.heap[bS]? = wr.heap[bS]?:=hf bS (by omega) (fun e=>by have:=hiv _ e;omega)
 have hk:∀ k,k≠bV→(w1.setCell ⟨bV,12,none⟩ iv').heap[k]? = w1.heap[k]?:=fun k hk=>heap_setCell_other w1 ⟨bV,12,none⟩ k _ hk
 exact {
  old:=(h.old.trans (hs.mono (by omega))).setCell o1 _
  size:=by have:=hs.size;simp;omega
  box:=((h.box.of_block hbV).set 12 iv').congr (fun j hj=>by
   unfold vfV
   by_cases e:j=12
   ·rw[if_pos e,if_pos e]
   ·rw[if_neg e,if_neg e,if_neg e])
  sts:=h.sts.of_block ((hk bS (fun e=>o3 e.symm)).trans hbS)
  own:=fun j s hj hst=>by
   obtain⟨k1,k2⟩:=h.own j s hj hst
   obtain⟨d1,d2⟩:=h.dis j hj
   refine⟨k1.sameBlock (fun k e=>?_),k2.sameBlock (fun k e=>?_)⟩
   ·have:=k1.lt' k e
    rw[hk k (by omega),hf k this.2 (fun e2=>d1 k e2 e)]
   ·have:=k2.lt' k e
    rw[hk k (by omega),hf k this.2 (fun e2=>d2 k e2 e)]
  none_:=h.none_
  inj:=h.inj
  its:=ho.sameBlock (fun k e=>hk k (fun e2=>by have:=ho.lt' k e;omega))
  dis:=fun j hj=>by
   obtain⟨d1,d2⟩:=h.dis j hj
   obtain⟨r1,r2⟩:=h.rowLt hj
   refine⟨fun k e1 e2=>?_,fun k e1 e2=>?_⟩
   ·rcases hn k e1 with e | e
    ·exact d1 k e e2
    ·have:=r1 k e2;omega
   ·rcases hn k e1 with e | e
    ·exact d2 k e e2
    ·have:=r2 k e2;omega
  dec:=hd
  due:=fun y=>by
   rw[hm y,h.due y]
   show _↔∃ j:Nat,y=j∧upd σ.due i true j=true
   constructor
   ·rintro(rfl | ⟨j,rfl,hj⟩)
    ·exact⟨i,rfl,by simp[upd]⟩
    ·refine⟨j,rfl,?_⟩
     unfold upd
     split
     ·rfl
     ·exact hj
   ·rintro⟨j,rfl,hj⟩
    by_cases e:j=i
    ·subst e;exact .inl rfl
    ·unfold upd at hj
     rw[if_neg e]at hj
     exact .inr ⟨j,rfl,hj⟩ }
theorem VfW.take {G m cap:Nat}(h:VfW w bV bS bT H N σ R (.slice (some ⟨G,0,none⟩) (m+1) cap) l wr)(hB:VfB w bV bS bT)(hl:l.length=m+1){a:Nat}(ha:l[m]?.getD 0=(a:Int)) :
  VfW w bV bS bT H N ⟨σ.st,upd σ.due a false⟩ R (.slice (some ⟨G,0,none⟩) m cap) (l.take m) (wr.setCell ⟨bV,12,none⟩ (.slice (some ⟨G,0,none⟩) m cap)):=by
 obtain⟨o1,o2,o3,o4,o5⟩:=hB
 have hsz:=h.size
 have hk:∀ k,k≠bV→(wr.setCell ⟨bV,12,none⟩ (.slice (some ⟨G,0,none⟩) m cap)).heap[k]? = wr.heap[k]?:=fun k hk=>heap_setCell_other wr ⟨bV,12,none⟩ k _ hk
 exact {
  old:=h.old.setCell o1 _
  size:=by simp;omega
  box:=(h.box.set 12 _).congr (fun j hj=>by
   unfold vfV
   by_cases e:j=12
   ·rw[if_pos e,if_pos e]
   ·rw[if_neg e,if_neg e,if_neg e])
  sts:=h.sts.of_block (hk bS (fun e=>o3 e.symm))
  own:=fun j s hj hst=>by
   obtain⟨k1,k2⟩:=h.own j s hj hst
   exact⟨k1.setOther o4,k2.setOther o4⟩
  none_:=h.none_
  inj:=h.inj
  its:=by
   have ho:=h.its.setOther (D:=bV) (j:=12) (u:=.slice (some ⟨G,0,none⟩) m cap) o4
   rcases ho.2 with⟨e,_⟩ | ⟨g,c,cur,e,h1,h2,h3,h4,h5,h6⟩
   ·cases e
   ·injection e with e1 e2 e3
    injection e1 with e1;injection e1 with e1
    subst e1;subst e3
    refine⟨by simp,.inr ⟨G,cap,cur,by simp;omega,h1,h2,by simp;omega,h4,h5,?_⟩⟩
    rw[Nat.mul_one]at h6 ⊢
    rw[List.map_take,←h6,List.take_take]
    congr 1
    simp
  dis:=fun j hj=>h.dis j hj
  dec:=fun r s hrs hs=>by
   rw[List.length_take]at hs
   rw[List.getElem?_take,List.getElem?_take,if_pos (by omega),if_pos (by omega)]
   exact h.dec r s hrs (by omega)
  due:=fun y=>by
   have hmem:y∈l.take m↔y∈l∧y≠(a:Int):=by
    constructor
    ·intro hy
     refine⟨List.mem_of_mem_take hy,fun e=>?_⟩
     obtain⟨j,hj,rfl⟩:=List.getElem_of_mem hy
     have hj':j<m:=by rw[List.length_take]at hj;omega
     have:=h.dec j m hj' (by omega)
     rw[ha,List.getElem?_eq_getElem (by omega)]at this
     rw[List.getElem_take]at e
     change (a:Int)<l[j]at this
     omega
    ·rintro⟨hy,hne⟩
     obtain⟨j,hj,rfl⟩:=List.getElem_of_mem hy
     have hjm:j≠m:=fun e=>by
      subst e
      rw[List.getElem?_eq_getElem hj]at ha
      exact hne ha
     rw[List.mem_iff_getElem]
     exact⟨j,by rw[List.length_take];omega,List.getElem_take⟩
   rw[hmem,h.due y]
   show _↔∃ j:Nat,y=j∧upd σ.due a false j=true
   constructor
   ·rintro⟨⟨j,rfl,hj⟩,hne⟩
    refine⟨j,rfl,?_⟩
    unfold upd
    rw[if_neg (by omega)]
    exact hj
   ·rintro⟨j,rfl,hj⟩
    unfold upd at hj
    by_cases e:j=a
    ·rw[if_pos e]at hj;cases hj
    ·rw[if_neg e]at hj
     exact⟨⟨j,rfl,hj⟩,by omega⟩ }
theorem VfW.least (h:VfW w bV bS bT H N σ R iv l wr){R0:Nat}(hm:MOk R0 N σ){m:Nat}(hl:l.length=m+1):∃ a:Nat,l[m]?.getD 0=(a:Int)∧LeastDue σ N a:=by
 have hmem:l[m]?.getD 0∈l:=by rw[List.getElem?_eq_getElem (by omega)];exact List.getElem_mem _
 obtain⟨a,e,ha⟩:=(h.due _).1 hmem
 refine⟨a,e,(hm.due a ha).1,ha,fun b hb=>?_⟩
 cases hd:σ.due b with
 | false=>rfl
 | true=>
  have hbm:((b:Nat):Int)∈l:=(h.due _).2 ⟨b,rfl,hd⟩
  obtain⟨j,hj,ej⟩:=List.getElem_of_mem hbm
  by_cases c:j=m
  ·subst c
   rw[List.getElem?_eq_getElem hj]at e
   change l[j]=(a:Int)at e
   omega
  ·have:=h.dec j m (by omega) (by omega)
   rw[e,List.getElem?_eq_getElem hj]at this
   change (a:Int)<l[j]at this
   omega
theorem VfW.nodue (h:VfW w bV bS bT H N σ R iv l wr)(hl:l.length=0):NoDue σ N:=fun b hb=>by
 cases hd:σ.due b with
 | false=>rfl
 | true=>
  have hbm:((b:Nat):Int)∈l:=(h.due _).2 ⟨b,rfl,hd⟩
  rw[List.eq_nil_of_length_eq_zero hl]at hbm
  cases hbm
theorem VfW.setSt (h:VfW w bV bS bT H N σ R iv l wr)(hB:VfB w bV bS bT)(i:Nat)(s:StD)(tv gv:Value)(h1:OwnI wr bT tv s.types)(h2:OwnG wr bT gv s.guards)(d1:∀ j,j<N→Dis (R j).1 tv∧Dis (R j).2 gv)(d2:Dis iv tv∧Dis iv gv) :
  VfW w bV bS bT H N ⟨upd σ.st i (some s),σ.due⟩ (upd R i (tv,gv)) iv l (((wr.setCell ⟨bS,i * 3,none⟩ (.bool true)).setCell ⟨bS,i * 3+1,none⟩ tv).setCell ⟨bS,i * 3+2,none⟩ gv):=by
 obtain⟨o1,o2,o3,o4,o5⟩:=hB
 have hk:∀ k,k≠bS→(((wr.setCell ⟨bS,i * 3,none⟩ (.bool true)).setCell ⟨bS,i * 3+1,none⟩ tv).setCell ⟨bS,i * 3+2,none⟩ gv).heap[k]? = wr.heap[k]?:=fun k hk=>by
  rw[heap_setCell_other _ ⟨bS,_,none⟩ _ _ hk,heap_setCell_other _ ⟨bS,_,none⟩ _ _ hk,heap_setCell_other _ ⟨bS,_,none⟩ _ _ hk]
 exact {
  old:=((h.old.setCell o2 _).setCell o2 _).setCell o2 _
  size:=by have:=h.size;simpa using this
  box:=h.box.of_block (hk bV o3)
  sts:=by
   refine(((h.sts.set (i * 3) _).set (i * 3+1) _).set (i * 3+2) _).congr fun j hj=>?_
   show(if j=i * 3+2 then gv else if j=i * 3+1 then tv else if j=i * 3 then .bool true else stV σ R j)=stV ⟨upd σ.st i (some s),σ.due⟩ (upd R i (tv,gv)) j
   unfold stV upd
   by_cases e:j / 3=i
   ·by_cases e0:j % 3=0
    ·rw[if_neg (by omega),if_neg (by omega),if_pos (by omega),if_pos e0]
     simp[e]
    ·by_cases e1:j % 3=1
     ·rw[if_neg (by omega),if_pos (by omega),if_neg e0,if_pos e1]
      simp[e]
     ·rw[if_pos (by omega),if_neg e0,if_neg e1]
      simp[e]
   ·rw[if_neg (by omega),if_neg (by omega),if_neg (by omega)]
    simp[e]
  own:=fun j t hj ht=>by
   change upd σ.st i (some s) j=some t at ht
   unfold upd at ht ⊢
   by_cases e:j=i
   ·rw[if_pos e]at ht ⊢
    cases ht
    exact⟨((h1.setOther o5).setOther o5).setOther o5,((h2.setOther o5).setOther o5).setOther o5⟩
   ·rw[if_neg e]at ht ⊢
    obtain⟨k1,k2⟩:=h.own j t hj ht
    exact⟨((k1.setOther o5).setOther o5).setOther o5,((k2.setOther o5).setOther o5).setOther o5⟩
  none_:=fun j hj hn=>by
   change upd σ.st i (some s) j=none at hn
   unfold upd at hn ⊢
   by_cases e:j=i
   ·rw[if_pos e]at hn;cases hn
   ·rw[if_neg e]at hn ⊢;exact h.none_ j hj hn
  inj:=fun j j' hj hj' hne=>by
   unfold upd
   by_cases e:j=i
   ·by_cases e':j'=i
    ·omega
    ·rw[if_pos e,if_neg e']
     exact⟨(d1 j' hj').1.symm,(d1 j' hj').2.symm⟩
   ·by_cases e':j'=i
    ·rw[if_neg e,if_pos e'];exact d1 j hj
    ·rw[if_neg e,if_neg e'];exact h.inj j j' hj hj' hne
  its:=((h.its.setOther o5).setOther o5).setOther o5
  dis:=fun j hj=>by
   unfold upd
   split
   ·exact d2
   ·exact h.dis j hj
  dec:=h.dec
  due:=h.due }
theorem VfW.reached (h:VfW w bV bS bT H N σ R iv l wr){i:Nat}(hi:i<N):wr.cell? ⟨bS,i * 3,none⟩=some (.bool (σ.st i).isSome)∧wr.cell? ⟨bS,i * 3+1,none⟩=some (R i).1∧wr.cell? ⟨bS,i * 3+2,none⟩=some (R i).2:=by
 refine⟨?_,?_,?_⟩
 ·rw[h.sts.cell (i:=i * 3) (by omega)]
  unfold stV
  rw[if_pos (by omega),show i * 3 / 3=i by omega]
 ·rw[h.sts.cell (i:=i * 3+1) (by omega)]
  unfold stV
  rw[if_neg (by omega),if_pos (by omega),show(i * 3+1) / 3=i by omega]
 ·rw[h.sts.cell (i:=i * 3+2) (by omega)]
  unfold stV
  rw[if_neg (by omega),if_neg (by omega),show(i * 3+2) / 3=i by omega]
end
structure RcF (bV bS N:Nat)(R R':Nat→Value×Value)(iv iv':Value)(wr w':World):Prop where
 same:∀ k,k<wr.heap.size→k≠bV→k≠bS→iv.ownBlock≠some k→w'.heap[k]? = wr.heap[k]?
 new:∀ k,iv'.ownBlock=some k→iv.ownBlock=some k∨wr.heap.size≤k
 size:wr.heap.size≤w'.heap.size
 rows:∀ j k,j<N→(((R' j).1.ownBlock=some k→(R j).1.ownBlock=some k∨wr.heap.size≤k)∧((R' j).2.ownBlock=some k→(R j).2.ownBlock=some k∨wr.heap.size≤k))
def RcPost (w:World)(bV bS bT:Nat)(H:Nat→Value)(N:Nat)(σ:Mst)(R:Nat→Value×Value)(iv:Value)(i:Nat)(s:StD)(wr:World)(e:Ending)(w':World):Prop:=
 (oneM σ (i,s)=none∧e=.returned (.bool false)∧Below wr.heap.size wr w') ∨
 (∃ σ' R' iv' l',oneM σ (i,s)=some σ'∧e=.returned (.bool true)∧VfW w bV bS bT H N σ' R' iv' l' w'∧RcF bV bS N R R' iv iv' wr w')
theorem reach_any (w:World)(bV bS bT:Nat)(H:Nat→Value)(N R0:Nat)(σ:Mst)(R:Nat→Value×Value)(iv:Value)(l:List Int)(i:Nat)(s:StD)(a ag:Option Addr)(c cg:Nat)(S:Nat→Prop)(wr:World)
  (h:VfW w bV bS bT H N σ R iv l wr)(hB:VfB w bV bS bT)(hm:MOk R0 N σ)(hi:i<N)(hN:N≤6000)(hR0:R0≤250)(ht:IntsAt wr S a s.types)(hg:GusAt wr S ag s.guards)(hS:∀ b,S b→b<wr.heap.size)(hl1:s.types.length≤1000)(hl2:s.guards.length≤1000) :
  Calls Tryz.prog 39 #[.pointer (some ⟨bV,0,none⟩),.int .i64 (i:Int),.slice a s.types.length c,.slice ag s.guards.length cg] wr (RcPost w bV bS bT H N σ R iv i s wr):=by
 obtain⟨tt,gg⟩:=s
 dsimp only at ht hg hl1 hl2 ⊢
 obtain⟨q0,q1,q2⟩:=h.reached hi
 have k11:wr.cell? ⟨bV,11,none⟩=some (.slice (some ⟨bS,0,none⟩) N N):=h.box.cell (i:=11) (by omega)
 have k12:wr.cell? ⟨bV,12,none⟩=some iv:=h.box.cell (i:=12) (by omega)
 have hbV:=h.box.lt
 have hbS:=h.sts.lt
 have hiN:(i:Int)<N:=by omega
 have hlen:=h.len hm
 cases est:σ.st i with
 | some s0=>
  rw[est]at q0
  obtain⟨o1,o2⟩:=h.own i s0 hi est
  obtain⟨m1,m2,m3⟩:=(hm.st i s0 est).2
  obtain⟨a1,c1,e1,I1⟩:=o1.ints (by omega)
  obtain⟨a2,c2,e2,I2⟩:=o2.gus (by omega)
  rw[e1]at q1
  rw[e2]at q2
  have E1:Hid (Calls Tryz.prog 71 #[.slice a1 s0.types.length c1,.slice a tt.length c] wr (AlPost (decide (s0.types=tt)) wr)):=
   equalInts_any a1 a s0.types tt c1 c (fun b=>b<wr.heap.size) wr (I1.mono (fun b h=>h.2)) (ht.mono hS) (fun b h=>h)
  have E2:Hid (∀ w1,Below wr.heap.size wr w1→Calls Tryz.prog 72 #[.slice a2 s0.guards.length c2,.slice ag gg.length cg] w1 (AlPost (sameGs s0.guards gg) w1)):=fun w1 hb=>
   equalGus_any a2 ag s0.guards gg c2 cg (fun b=>b<wr.heap.size) w1 ((I2.mono (fun b h=>h.2)).same (.of_below hb (fun b h=>h))) ((hg.mono hS).same (.of_below hb (fun b h=>h))) (fun b h=>Nat.lt_of_lt_of_le h hb.size) _ sameGs_iff
  have HV:=hide h
  have EST:=hide est
  clear ht hg hS o1 o2 I1 I2 h e1 e2 est m1 m2 m3
  by_cases ct:s0.types=tt
  ·have hde:decide (s0.types=tt)=true:=decide_eq_true ct
   rw[hde]at E1
   have CT:=hide ct
   clear ct hde
   go_enter Tryz.func39,Tryz.ntmps39
   go_wp2_with fail
   refine(unhide E1).mono ?_
   rintro e w1 ⟨rfl,hb1⟩
   have q2':w1.cell? ⟨bS,i * 3+2,none⟩=some (.slice a2 s0.guards.length c2):=(hb1.cell (p:=⟨bS,i * 3+2,none⟩) hbS).trans q2
   have hbS1:bS<w1.heap.size:=Nat.lt_of_lt_of_le hbS hb1.size
   have E3:=hide (unhide E2 w1 hb1)
   have HB1:=hide hb1
   clear hb1 E2
   go_wp2_with fail
   refine(unhide E3).mono ?_
   rintro e w2 ⟨rfl,hb2⟩
   have HB2:Hid (Below wr.heap.size wr w2):=HB1.out.trans (hb2.mono HB1.out.size)
   clear hb2
   go_wp2_with fail
   go_ret
   cases cg':sameGs s0.guards gg with
   | true=>
    refine .inr ⟨σ,R,iv,l,oneM_same EST.out ⟨CT.out,sameGs_iff.1 cg'⟩,rfl,HV.out.below HB2.out,⟨fun k hk _ _ _=>HB2.out.block k hk,fun k hk=>.inl hk,HB2.out.size,fun j k hj=>⟨fun hk=>.inl hk,fun hk=>.inl hk⟩⟩⟩
   | false=>
    refine .inl ⟨oneM_else EST.out (fun hh=>?_),rfl,HB2.out⟩
    have:=sameGs_iff.2 hh.2
    change sameGs s0.guards gg=true at this
    rw[cg']at this
    cases this
  ·have hde:decide (s0.types=tt)=false:=decide_eq_false ct
   rw[hde]at E1
   have CT:=hide ct
   clear ct hde
   go_enter Tryz.func39,Tryz.ntmps39
   go_wp2_with fail
   refine(unhide E1).mono ?_
   rintro e w1 ⟨rfl,hb1⟩
   go_wp2_with fail
   go_ret
   exact .inl ⟨oneM_else EST.out (fun hh=>CT.out hh.1),rfl,hb1⟩
 | none=>
  rw[est]at q0
  obtain⟨tv,w1,r1,O1,b1⟩:=appI_run a tt c S wr ht (by omega)
  obtain⟨gv,w2,r2,O2,b2⟩:=appG_run ag gg cg S w1 (hg.same (.of_below b1 hS)) (by omega)
  obtain⟨a3,c3,rfl⟩:=O1.lenV
  obtain⟨a4,c4,rfl⟩:=O2.lenV
  have b12:Below wr.heap.size wr w2:=b1.trans (b2.mono b1.size)
  have h2:=h.below b12
  have hT:=h.size
  have O1':OwnI w2 bT (.slice a3 tt.length c3) tt:=(O1.base_le hT).below b2
  have O2':OwnG w2 bT (.slice a4 gg.length c4) gg:=O2.base_le (Nat.le_trans hT b1.size)
  have fr1:∀ k,(Value.slice a3 tt.length c3).ownBlock=some k→wr.heap.size≤k:=fun k hk=>(O1.lt' k hk).1
  have fr2:∀ k,(Value.slice a4 gg.length c4).ownBlock=some k→wr.heap.size≤k:=fun k hk=>Nat.le_trans b1.size (O2.lt' k hk).1
  have h3:=h2.setSt hB i ⟨tt,gg⟩ _ _ O1' O2' (fun j hj=>⟨fun k e1 e2=>by have:=(h.rowLt hj).1 k e1;have:=fr1 k e2;omega,fun k e1 e2=>by have:=(h.rowLt hj).2 k e1;have:=fr2 k e2;omega⟩) ⟨fun k e1 e2=>by have:=h.its.lt' k e1;have:=fr1 k e2;omega,fun k e1 e2=>by have:=h.its.lt' k e1;have:=fr2 k e2;omega⟩
  obtain⟨p0,p1,p2⟩:=h2.reached hi
  have z0:=h2.sts.frozen (i * 3);have z1:=h2.sts.frozen (i * 3+1);have z2:=h2.sts.frozen (i * 3+2)
  have hbS2:=h2.sts.lt
  have hbV2:=h2.box.lt
  have hiv:iv.ownBlock≠some bV:=fun e=>by have:=h.its.lt' _ e;have:=hB.o4;omega
  have hni:(i:Int) ∉ l:=fun hh=>by
   obtain⟨j,ej,hj⟩:=(h.due _).1 hh
   have:j=i:=by omega
   subst this
   exact(hm.due j hj).2 est
  have PU:Hid (Calls Tryz.prog 73 #[.pointer (some ⟨bV,12,none⟩),.int .i64 (i:Int)] (((w2.setCell ⟨bS,i * 3,none⟩ (.bool true)).setCell ⟨bS,i * 3+1,none⟩ (.slice a3 tt.length c3)).setCell ⟨bS,i * 3+2,none⟩ (.slice a4 gg.length c4)) (SetPost bV 12 bT iv l (i:Int) (((w2.setCell ⟨bS,i * 3,none⟩ (.bool true)).setCell ⟨bS,i * 3+1,none⟩ (.slice a3 tt.length c3)).setCell ⟨bS,i * 3+2,none⟩ (.slice a4 gg.length c4)))):=
   setPut_any bV 12 bT iv l (i:Int) _ (h3.box.cell (i:=12) (by omega)) (h3.box.frozen 12) h3.its h3.size h3.dec hni (by omega) hiv
  have FR:Hid ((∀ k,(Value.slice a3 tt.length c3).ownBlock=some k→wr.heap.size≤k)∧∀ k,(Value.slice a4 gg.length c4).ownBlock=some k→wr.heap.size≤k):=⟨fr1,fr2⟩
  have AR1:=hide r1
  have AR2:=hide r2
  have H3:=hide h3
  have HB:=hide hB
  have B12:=hide b12
  have NEW:Hid (oneM σ (i,⟨tt,gg⟩)=some ⟨upd σ.st i (some ⟨tt,gg⟩),upd σ.due i true⟩):=oneM_new est
  have hk2:Hid (∀ k,k≠bS→(((w2.setCell ⟨bS,i * 3,none⟩ (.bool true)).setCell ⟨bS,i * 3+1,none⟩ (.slice a3 tt.length c3)).setCell ⟨bS,i * 3+2,none⟩ (.slice a4 gg.length c4)).heap[k]? = w2.heap[k]?):=fun k hk=>by
   rw[heap_setCell_other _ ⟨bS,_,none⟩ _ _ hk,heap_setCell_other _ ⟨bS,_,none⟩ _ _ hk,heap_setCell_other _ ⟨bS,_,none⟩ _ _ hk]
  have hsz3:Hid ((((w2.setCell ⟨bS,i * 3,none⟩ (.bool true)).setCell ⟨bS,i * 3+1,none⟩ (.slice a3 tt.length c3)).setCell ⟨bS,i * 3+2,none⟩ (.slice a4 gg.length c4)).heap.size=w2.heap.size):=by show _=_;simp
  have HDEC:=hide h.dec
  have HNI:=hide hni
  have est':=hide est
  clear h h2 h3 hB hm ht hg hS O1 O2 O1' O2' fr1 fr2 b1 b2 b12 hiv hni q1 q2 est r1 r2
  go_enter Tryz.func39,Tryz.ntmps39
  go_wp2_with (first
   | (at_builtin;refine wpList_append_run rfl _ _ 63 rfl _ _ rfl rfl (unhide AR1) ?_)
   | (at_builtin;refine wpList_append_run rfl _ _ 64 rfl _ _ rfl rfl (unhide AR2) ?_))
  refine(unhide PU).mono ?_
  rintro e w5 ⟨rfl,w4,iv',k,rfl,hp,ho,hf,hn,hb⟩
  have FIN:Hid (RcPost w bV bS bT H N σ R iv i ⟨tt,gg⟩ wr (.returned (.bool true)) (w4.setCell ⟨bV,12,none⟩ iv')):=by
   refine .inr ⟨_,_,iv',insI l (i:Int) k,NEW.out,rfl,(H3.out).put HB.out hi ho hf hn hb (insI_dec HDEC.out hp HNI.out) (fun y=>insI_mem),⟨fun q hq n1 n2 n3=>?_,fun q hq=>?_,?_,fun j q hj=>?_⟩⟩
   ·have hs12:=B12.out.size
    rw[heap_setCell_other w4 ⟨bV,12,none⟩ q _ n1,hf q (by rw[hsz3.out];omega) n3,hk2.out q n2]
    exact B12.out.block q hq
   ·have hs12:=B12.out.size
    exact(hn q hq).imp_right (fun hh=>by rw[hsz3.out]at hh;omega)
   ·have hs12:=B12.out.size
    have:=hb.size
    rw[hsz3.out]at this
    simp
    omega
   ·unfold upd
    split
    ·exact⟨fun hk=>.inr (FR.out.1 q hk),fun hk=>.inr (FR.out.2 q hk)⟩
    ·exact⟨fun hk=>.inl hk,fun hk=>.inl hk⟩
  clear hp ho hf hn hb PU
  go_wp2_with fail
  go_ret
  exact FIN.out
def jumpSt (n:InsD)(s:StD)(t:List Int)(g:List GuD):StD:=if n.op=31 then⟨handC n s.types,s.guards⟩else if n.op=41 then⟨t.set n.fc.toNat (tyAt s.types n.fc.toNat),g⟩else⟨t,g⟩
def jumpL (n:InsD)(s:StD)(t:List Int)(g:List GuD):List (Nat×StD):=match targT n with
 | none=>[]
 | some y=>[(y.toNat,jumpSt n s t g)]
theorem follow_is (n:InsD)(a:Nat)(s:StD)(t:List Int)(g:List GuD):followC n a s t g=(if goesC n then[(a+1,⟨t,g⟩)]else[])++jumpL n s t g:=by
 unfold followC
 congr 1
 unfold jumpL targT jumpSt
 by_cases c1:n.op=19
 ·simp[c1]
 by_cases c2:n.op=31
 ·simp[c2]
 by_cases c3:n.op=41
 ·simp[c3]
 by_cases c4:n.op=20∨n.op=21∨n.op=38∨n.op=39
 ·rw[if_neg c1,if_pos c4,if_neg (by omega),if_pos (by omega),if_neg c2,if_neg c3]
 ·rw[if_neg c1,if_neg c4,if_neg c3,if_neg c2,if_neg (by omega),if_neg (by omega)]
def stepT (l:List ProtoD)(n:InsD)(a:Nat)(σ:Mst)(s:StD):(Int×Nat) ⊕ Mst:=
 match readC l n s.types with
 | none=>.inl (10,a)
 | some r=>
  match changeC n s.guards with
  | none=>.inl (11,a)
  | some g=>
   if keptC n s.guards r.taken s.types (writeC n r.types)then
    match allM (followC n a s (writeC n r.types) g) σ with
    | .inl at_=>.inl (13,at_)
    | .inr σ'=>.inr σ'
   else .inl (12,a)
theorem stepM_T {l:List ProtoD}{x:ProtoD}{σ:Mst}{a:Nat}{s:StD}(h:σ.st a=some s):stepM l x σ a=stepT l (inD x a) a ⟨σ.st,upd σ.due a false⟩ s:=by
 unfold stepM;rw[h];rfl
theorem stepT_10 {l:List ProtoD}{n:InsD}{a:Nat}{σ:Mst}{s:StD}(h1:readC l n s.types=none):stepT l n a σ s=.inl (10,a):=by
 unfold stepT;rw[h1]
theorem stepT_11 {l:List ProtoD}{n:InsD}{a:Nat}{σ:Mst}{s:StD}{r:RdS}(h1:readC l n s.types=some r)(h2:changeC n s.guards=none):stepT l n a σ s=.inl (11,a):=by
 unfold stepT;rw[h1]
 show(match changeC n s.guards with | none=>_ | some g=>_)=_;rw[h2]
theorem stepT_12 {l:List ProtoD}{n:InsD}{a:Nat}{σ:Mst}{s:StD}{r:RdS}{g:List GuD}(h1:readC l n s.types=some r)(h2:changeC n s.guards=some g)(h3:¬keptC n s.guards r.taken s.types (writeC n r.types)=true):stepT l n a σ s=.inl (12,a):=by
 unfold stepT;rw[h1]
 show(match changeC n s.guards with | none=>_ | some g=>_)=_;rw[h2]
 show(if _ then _ else _)=_;rw[if_neg h3]
theorem stepT_go {l:List ProtoD}{n:InsD}{a:Nat}{σ:Mst}{s:StD}{r:RdS}{g:List GuD}(h1:readC l n s.types=some r)(h2:changeC n s.guards=some g)(h3:keptC n s.guards r.taken s.types (writeC n r.types)=true):stepT l n a σ s=(match allM ((if goesC n then[(a+1,⟨writeC n r.types,g⟩)]else[])++jumpL n s (writeC n r.types) g) σ with | .inl y=>.inl (13,y) | .inr σ'=>.inr σ'):=by
 unfold stepT;rw[h1]
 show(match changeC n s.guards with | none=>_ | some g=>_)=_;rw[h2]
 show(if _ then _ else _)=_;rw[if_pos h3,follow_is]
theorem step_end {n:InsD}{a:Nat}{σ:Mst}{s:StD}{t:List Int}{g:List GuD}(hg:goesC n=true)(h1:oneM σ (a+1,⟨t,g⟩)=none):(match allM ((if goesC n then[(a+1,⟨t,g⟩)]else[])++jumpL n s t g) σ with | .inl y=>(Sum.inl (13,y):(Int×Nat) ⊕ Mst) | .inr σ'=>.inr σ')=.inl (13,a+1):=by
 rw[if_pos hg,List.singleton_append,allM_bad h1]
theorem step_one {n:InsD}{a:Nat}{σ σ2:Mst}{s:StD}{t:List Int}{g:List GuD}(h:(goesC n=true∧oneM σ (a+1,⟨t,g⟩)=some σ2)∨(goesC n=false∧σ2=σ)):(match allM ((if goesC n then[(a+1,⟨t,g⟩)]else[])++jumpL n s t g) σ with | .inl y=>(Sum.inl (13,y):(Int×Nat) ⊕ Mst) | .inr σ'=>.inr σ')=(match allM (jumpL n s t g) σ2 with | .inl y=>(Sum.inl (13,y):(Int×Nat) ⊕ Mst) | .inr σ'=>.inr σ'):=by
 rcases h with⟨h1,h2⟩ | ⟨h1,rfl⟩
 ·rw[if_pos h1,allM_app _ (allM_one h2)]
 ·rw[if_neg (by rw[h1];decide),List.nil_append]
theorem jump_none {n:InsD}{σ:Mst}{s:StD}{t:List Int}{g:List GuD}(h:targT n=none):(match allM (jumpL n s t g) σ with | .inl y=>(Sum.inl (13,y):(Int×Nat) ⊕ Mst) | .inr σ'=>.inr σ')=.inr σ:=by
 unfold jumpL;rw[h];rfl
theorem jump_bad {n:InsD}{σ:Mst}{s:StD}{t:List Int}{g:List GuD}{y:Int}(h:targT n=some y)(h1:oneM σ (y.toNat,jumpSt n s t g)=none):(match allM (jumpL n s t g) σ with | .inl y=>(Sum.inl (13,y):(Int×Nat) ⊕ Mst) | .inr σ'=>.inr σ')=.inl (13,y.toNat):=by
 unfold jumpL;rw[h]
 show(match allM [(y.toNat,jumpSt n s t g)] σ with | .inl y=>_ | .inr σ'=>_)=_
 rw[allM_bad h1]
theorem jump_ok {n:InsD}{σ σ2:Mst}{s:StD}{t:List Int}{g:List GuD}{y:Int}(h:targT n=some y)(h1:oneM σ (y.toNat,jumpSt n s t g)=some σ2):(match allM (jumpL n s t g) σ with | .inl y=>(Sum.inl (13,y):(Int×Nat) ⊕ Mst) | .inr σ'=>.inr σ')=.inr σ2:=by
 unfold jumpL;rw[h]
 show(match allM [(y.toNat,jumpSt n s t g)] σ with | .inl y=>_ | .inr σ'=>_)=_
 rw[allM_one h1]
structure InsFit (l:List ProtoD)(n:InsD)(a R0 N:Nat):Prop where
 op:1≤n.op∧n.op≤42
 fit:∀ k,k<4→FldFits (iRole n.op.toNat k) (insF n k) R0
 ups:RdUps l n R0
 put:∀ ty,ty.length=R0→∀ q,q∈(readsT l n ty).puts→q.1<R0
 inf:InFit n a R0 N
 try_:n.op=31→0≤n.fb∧n.fb+2≤R0
 keep:n.op=33∨n.op=34→0≤n.fa
 each:n.op=41→0≤n.fc∧n.fc<R0
 targ:∀ y,targT n=some y→0≤y∧y.toNat<N
theorem fld_of {n:ProtoD}{np:Nat}{x:Int}{r:Nat}(hr:r≤23)(h:sFits n np x (mapR r)=true)(hn:0≤n.regs):FldFits r x n.regs.toNat:=by
 have hc:r=0∨r=1∨r=2∨r=3∨r=4∨r=5∨r=6∨r=7∨r=8∨r=9∨r=10∨r=11∨r=12∨r=13∨r=14∨r=15∨r=16∨r=17∨r=18∨r=19∨r=20∨r=21∨r=22∨r=23:=by omega
 unfold FldFits
 rcases hc with rfl | rfl | rfl | rfl | rfl | rfl | rfl | rfl | rfl | rfl | rfl | rfl | rfl | rfl | rfl | rfl | rfl | rfl | rfl | rfl | rfl | rfl | rfl | rfl
 all_goals first
  | (refine⟨fun e=>?_,fun e=>?_,fun e=>?_,fun e=>?_,fun e=>?_⟩<;>exact absurd e (by omega))
  | (have:=sIn_true (show sIn x (-n.regs) (n.regs-1)=true from h);refine⟨fun e=>?_,fun e=>?_,fun e=>?_,fun e=>?_,fun e=>?_⟩<;>omega)
  | (have:=sIn_true (show sIn x 0 (n.regs-1)=true from h);refine⟨fun e=>?_,fun e=>?_,fun e=>?_,fun e=>?_,fun e=>?_⟩<;>omega)
  | (have:=sIn_true (show sIn x 0 (n.regs-2)=true from h);refine⟨fun e=>?_,fun e=>?_,fun e=>?_,fun e=>?_,fun e=>?_⟩<;>omega)
  | (have:=sIn_true (show sIn x 0 (n.regs-3)=true from h);refine⟨fun e=>?_,fun e=>?_,fun e=>?_,fun e=>?_,fun e=>?_⟩<;>omega)
theorem put_of {n:ProtoD}{np:Nat}{x:Int}{r:Nat}(hr:r≤23)(h:sFits n np x (mapR r)=true)(hn:0≤n.regs):∀ q,q∈putsOf r x→q.1<n.regs.toNat:=by
 intro q hq
 unfold putsOf at hq
 by_cases c1:r=19
 ·rw[if_pos c1,List.mem_singleton]at hq
  subst c1;subst hq
  have:=sIn_true (show sIn x 0 (n.regs-2)=true from h)
  show x.toNat+1<_
  omega
 rw[if_neg c1]at hq
 have go:(r=20∨r=21∨r=22∨r=23)→x.toNat<n.regs.toNat:=fun e=>by
  have h2:sIn x 0 (n.regs-1)=true:=by rcases e with rfl | rfl | rfl | rfl<;>exact h
  have:=sIn_true h2
  omega
 by_cases c2:r=20
 ·rw[if_pos c2,List.mem_singleton]at hq;subst hq;exact go (by omega)
 rw[if_neg c2]at hq
 by_cases c3:r=21
 ·rw[if_pos c3,List.mem_singleton]at hq;subst hq;exact go (by omega)
 rw[if_neg c3]at hq
 by_cases c4:r=22
 ·rw[if_pos c4,List.mem_singleton]at hq;subst hq;exact go (by omega)
 rw[if_neg c4]at hq
 by_cases c5:r=23
 ·rw[if_pos c5,List.mem_singleton]at hq;subst hq;exact go (by omega)
 rw[if_neg c5]at hq;cases hq
theorem insFit_of {l:List ProtoD}{p a:Nat}(hk:WkOk l p)(ha:a<(prD l p).ins.length):InsFit l (inD (prD l p) a) a (prD l p).regs.toNat (prD l p).ins.length:=by
 have h:=hk.ins a ha
 have hr:=hk.regs.1
 obtain⟨hop,hf,_⟩:=ins_shape h
 obtain⟨ta,tb⟩:=shape_at h
 have hinf:=shape_fit h ha hr
 have hups:=hk.made a ha
 generalize inD (prD l p) a=n at *
 obtain⟨op,ho⟩:∃ op:Nat,n.op=op:=⟨n.op.toNat,by omega⟩
 have h43:op<43:=by omega
 have hm:=iRole_map op h43 (by omega)
 rw[ho,hm]at hf
 change ∀ k,k<4→sFits (prD l p) l.length (insF n k) (([mapR (iRole op 0),mapR (iRole op 1),mapR (iRole op 2),mapR (iRole op 3)]:List Nat)[k]?.getD 0)=true at hf
 have hf':∀ k,k<4→sFits (prD l p) l.length (insF n k) (mapR (iRole op k))=true:=fun k hk=>by
  have:=hf k hk
  have hc:k=0∨k=1∨k=2∨k=3:=by omega
  rcases hc with rfl | rfl | rfl | rfl<;>exact this
 have hle:∀ k,k<4→iRole op k≤23:=fun k hk=>iRole_le op h43 k hk
 have htoN:n.op.toNat=op:=by omega
 refine⟨hop,fun k hk=>?_,hups,fun ty hty q hq=>?_,hinf,fun e=>?_,fun e=>?_,fun e=>?_,fun y hy=>?_⟩
 ·rw[htoN];exact fld_of (hle k hk) (hf' k hk) hr
 ·have hp:(readsT l n ty).puts=putsOf (iRole op 0) n.fa++putsOf (iRole op 1) n.fb++putsOf (iRole op 2) n.fc++putsOf (iRole op 3) n.fd:=by
   have hff:=fieldsT_puts ho h43 (start ty)
   have e:(start ty).puts=[]:=rfl
   rw[e,List.nil_append]at hff
   unfold readsT
   split
   ·rw[(upsT_puts _ _ _).1];exact hff
   ·exact hff
  rw[hp]at hq
  simp only[List.mem_append]at hq
  rcases hq with((hq | hq) | hq) | hq
  ·exact put_of (hle 0 (by omega)) (hf' 0 (by omega)) hr q hq
  ·exact put_of (hle 1 (by omega)) (hf' 1 (by omega)) hr q hq
  ·exact put_of (hle 2 (by omega)) (hf' 2 (by omega)) hr q hq
  ·exact put_of (hle 3 (by omega)) (hf' 3 (by omega)) hr q hq
 ·have:op=31:=by omega
  subst this
  have:=sIn_true (show sIn n.fb 0 ((prD l p).regs-2)=true from hf' 1 (by omega))
  omega
 ·rcases e with e | e
  ·have:op=33:=by omega
   subst this
   exact(sIn_true (show sIn n.fa 0 (prD l p).regs=true from hf' 0 (by omega))).1
  ·have:op=34:=by omega
   subst this
   exact(sIn_true (show sIn n.fa 0 (prD l p).regs=true from hf' 0 (by omega))).1
 ·have:op=41:=by omega
  subst this
  have:=sIn_true (show sIn n.fc 0 ((prD l p).regs-1)=true from hf' 2 (by omega))
  omega
 ·unfold targT at hy
  by_cases c1:n.op=19∨n.op=31
  ·rw[if_pos c1]at hy
   cases hy
   have:=ta c1
   omega
  rw[if_neg c1]at hy
  by_cases c2:n.op=20∨n.op=21∨n.op=38∨n.op=39∨n.op=41
  ·rw[if_pos c2]at hy
   cases hy
   have:=tb c2
   omega
  ·rw[if_neg c2]at hy;cases hy
theorem zeros_get:∀ k:Nat,([0,0,0,0]:List Nat)[k]?.getD 0=0
 | 0=>rfl
 | 1=>rfl
 | 2=>rfl
 | 3=>rfl
 | _+4=>rfl
theorem rdUpto_zero (n:InsD)(s:RdS):∀ k,rdUpto [0,0,0,0] n s k=some s
 | 0=>rfl
 | k+1=>by
  change (match rdUpto [0,0,0,0] n s k with | none=>none | some s'=>rdF (([0,0,0,0]:List Nat)[k]?.getD 0) (insF n k) s')=some s
  rw[rdUpto_zero n s k,zeros_get k]
  change rdF 0 (insF n k) s=some s
  unfold rdF
  rw[if_pos (by decide)]
theorem read32 {l:List ProtoD}{n:InsD}{t:List Int}{r:RdS}(h:n.op=32)(hr:readC l n t=some r):writeC n r.types=t:=by
 have e:rolesC n.op=some [0,0,0,0]:=by rw[h];decide
 have h4:rdUpto ((rolesC n.op).getD []) n ⟨t,[],[]⟩ 4=some ⟨t,[],[]⟩:=by
  rw[e]
  exact rdUpto_zero n _ 4
 unfold readC at hr
 rw[h4]at hr
 change (if _ then _ else _)=_ at hr
 rw[if_neg (by rw[h];intro c;exact absurd c.1 (by decide))]at hr
 cases hr
 unfold writeC
 rw[e,h]
 rfl
def offV (bV bS:Nat)(iv:Value)(k:Nat):Prop:=k≠bV∧k≠bS∧iv.ownBlock≠some k
structure StF (w1:World)(Z:Nat→Prop)(bT bF bX bA:Nat)(n:InsD)(s:StD)(tA gA:Value)(wr:World):Prop where
 frm:∀ k,k<bF→Z k→wr.heap[k]? = w1.heap[k]?
 res:wr.rowIs bF 27 3 (fun _=>.int .i64 0)
 ins:wr.rowIs bX 60 5 (fun j=>[Value.int .i64 n.op,.int .i64 n.fa,.int .i64 n.fb,.int .i64 n.fc,.int .i64 n.fd][j]?.getD (.bool false))
 st:wr.rowIs bA 66 3 (fun j=>[Value.bool true,tA,gA][j]?.getD (.bool false))
 ty:OwnI wr bT tA s.types
 gu:OwnG wr bT gA s.guards
section
variable {w1:World} {Z:Nat→Prop} {bT bF bX bA:Nat} {n:InsD} {s:StD} {tA gA:Value} {wr w2:World}
theorem StF.frame (h:StF w1 Z bT bF bX bA n s tA gA wr)(P:Nat→Prop)(hs:∀ k,k<wr.heap.size→P k→w2.heap[k]? = wr.heap[k]?)(p1:P bF)(p2:P bX)(p3:P bA)(p4:∀ k,tA.ownBlock=some k→P k)(p5:∀ k,gA.ownBlock=some k→P k)(p6:∀ k,k<bF→Z k→P k):StF w1 Z bT bF bX bA n s tA gA w2 where
 frm:=fun k hk hz=>(hs k (Nat.lt_trans hk h.res.lt) (p6 k hk hz)).trans (h.frm k hk hz)
 res:=h.res.of_block (hs _ h.res.lt p1)
 ins:=h.ins.of_block (hs _ h.ins.lt p2)
 st:=h.st.of_block (hs _ h.st.lt p3)
 ty:=h.ty.sameBlock (fun k e=>hs k (h.ty.lt' k e).2 (p4 k e))
 gu:=h.gu.sameBlock (fun k e=>hs k (h.gu.lt' k e).2 (p5 k e))
theorem StF.below (h:StF w1 Z bT bF bX bA n s tA gA wr)(hb:Below wr.heap.size wr w2):StF w1 Z bT bF bX bA n s tA gA w2:=
 h.frame (fun _=>True) (fun k hk _=>hb.block k hk) trivial trivial trivial (fun _ _=>trivial) (fun _ _=>trivial) (fun _ _ _=>trivial)
theorem TcW.frame {bt B:Nat}{t:TD}{tv sv kv pv:Value}(h:TcW bt B t tv sv kv pv wr)(P:Nat→Prop)(hs:∀ k,k<wr.heap.size→P k→w2.heap[k]? = wr.heap[k]?)(hP:∀ k,B≤k→k<wr.heap.size→P k):TcW bt B t tv sv kv pv w2:=
 {h with
  row:=h.row.of_block (hs _ h.row.lt (hP _ h.ge h.row.lt))
  ty:=h.ty.sameBlock (fun k e=>hs k (h.ty.lt' k e).2 (hP k (h.ty.lt' k e).1 (h.ty.lt' k e).2))
  se:=h.se.sameBlock (fun k e=>hs k (h.se.lt' k e).2 (hP k (h.se.lt' k e).1 (h.se.lt' k e).2))
  ta:=h.ta.sameBlock (fun k e=>hs k (h.ta.lt' k e).2 (hP k (h.ta.lt' k e).1 (h.ta.lt' k e).2))
  pu:=h.pu.sameBlock (fun k e=>hs k (h.pu.lt' k e).2 (hP k (h.pu.lt' k e).1 (h.pu.lt' k e).2)) }
theorem VfW.other {w:World}{bV bS:Nat}{H:Nat→Value}{N:Nat}{σ:Mst}{R:Nat→Value×Value}{iv:Value}{l:List Int}(h:VfW w bV bS bT H N σ R iv l wr)(D j:Nat)(u:Value)(h0:w.heap.size≤D)(h1:D≠bV)(h2:D≠bS)(h3:iv.ownBlock≠some D)(h4:∀ i,i<N→(R i).1.ownBlock≠some D∧(R i).2.ownBlock≠some D):VfW w bV bS bT H N σ R iv l (wr.setCell ⟨D,j,none⟩ u):=by
 have hk:∀ k,k≠D→(wr.setCell ⟨D,j,none⟩ u).heap[k]? = wr.heap[k]?:=fun k hk=>heap_setCell_other wr ⟨D,j,none⟩ k _ hk
 exact { h with
  old:=h.old.setCell h0 _
  size:=by have:=h.size;simpa using this
  box:=h.box.of_block (hk bV (fun e=>h1 e.symm))
  sts:=h.sts.of_block (hk bS (fun e=>h2 e.symm))
  own:=fun i s hi hs=>⟨(h.own i s hi hs).1.sameBlock (fun k e=>hk k (fun e2=>(h4 i hi).1 (by rw[←e2];exact e))),(h.own i s hi hs).2.sameBlock (fun k e=>hk k (fun e2=>(h4 i hi).2 (by rw[←e2];exact e)))⟩
  its:=h.its.sameBlock (fun k e=>hk k (fun e2=>h3 (by rw[←e2];exact e))) }
end
end Go.Proofs.YtmjcpapdncfkpaaGreatDoor
