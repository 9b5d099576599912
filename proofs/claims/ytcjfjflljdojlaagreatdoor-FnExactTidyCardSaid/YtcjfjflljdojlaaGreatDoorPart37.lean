import Derived.Test.YtcjfjflljdojlaaGreatDoorPart36
import Derived.Test.YtcjfjflljdojlaaGreatDoorPart25
import Derived.Test.YtcjfjflljdojlaaGreatDoorPart32
import Derived.Deep.Cut
import Derived.Deep.LoopGhost
set_option linter.unusedSimpArgs false
set_option linter.unusedVariables false
set_option maxHeartbeats 4000000
set_option maxRecDepth 100000
namespace Go.Proofs.YtcjfjflljdojlaaGreatDoor
theorem DP {l:List ak}{n:aA}(h1:1<=n.op)(h2:n.op<=42)(ty t0:List Int):fV (eL l n ty).puts t0 (eL l n ty).puts.length=bh n t0:=by
 obtain⟨op,ho⟩:∃ op:Nat,n.op=op:=⟨n.op.toNat,by omega⟩;have mj:op<43:=by omega
 have hp:(eL l n ty).puts=fF (aC op 0) n.fa++fF (aC op 1) n.fb++fF (aC op 2) n.fc++fF (aC op 3) n.fd:=by
  have hf:=qq ho mj (start ty);have e:(start ty).puts=[]:=rfl;rw[e,List.nil_append]at hf;unfold eL;split
  ·rw[(iQ _ _ _).1];exact hf
  ·exact hf
 exact Cn ho mj (by omega) t0 _ hp
theorem rL {l:List ak}{n:aA}(h1:1<=n.op)(h2:n.op<=42)(ty:List Int):(fP l n ty).wrong=true↔bI l n ty=none:=by
 have h:=rP (l:=l) h1 h2 ty;show(eL l n ty).wrong=true↔_;cases e:bI l n ty with
 | none=>rw[e]at h;exact⟨fun _=>rfl,fun _=>h⟩
 | some s=>rw[e]at h;exact⟨(fun hw=>by rw[h.1]at hw;cases hw),(fun hh=>by cases hh)⟩
theorem Kl {l:List ak}{n:aA}(h1:1<=n.op)(h2:n.op<=42){ty:List Int}{r:gX}(hr:bI l n ty=some r):(fP l n ty).wrong=false/\(fP l n ty).types=bh n r.types/\(fP l n ty).taken=r.taken:=by
 have h:=rP (l:=l) h1 h2 ty;rw[hr]at h;refine⟨h.1,?_,h.2.2⟩;show fV (eL l n ty).puts (eL l n ty).types (eL l n ty).puts.length=_;rw[DP h1 h2,h.2.1]
def fh (g:List bg):Nat->Int
 | 0=>0
 | k+1=>if(g[k]?.getD bg.z).tr then max (fh g k) (g[k]?.getD bg.z).keep else fh g k
def eW (g:List bg):Int:=fh g g.length
theorem sb (g:List bg):∀ k,0<=fh g k
 | 0=>Int.le_refl _
 | k+1=>by
  have:=sb g k;unfold fh;split<;>omega
theorem yD (g:List bg):∀ k i,i<k->(g[i]?.getD bg.z).tr=true->(g[i]?.getD bg.z).keep<=fh g k
 | 0,i,h,_=>absurd h (Nat.not_lt_zero _)
 | k+1,i,h,ht=>by
  unfold fh;by_cases e:i=k
  ·aj e;rw[if_pos ht];omega
  ·have:=yD g k i (by omega) ht;split<;>omega
theorem nT (g:List bg):∀ k,fh g k=0\/∃ i,i<k/\(g[i]?.getD bg.z).tr=true/\fh g k=(g[i]?.getD bg.z).keep
 | 0=>.inl rfl
 | k+1=>by
  unfold fh;by_cases c:(g[k]?.getD bg.z).tr=true
  ·rw[if_pos c];by_cases m:fh g k<=(g[k]?.getD bg.z).keep
   ·exact .inr ⟨k,by omega,c,by omega⟩
   ·rw[show max (fh g k) (g[k]?.getD bg.z).keep=fh g k by omega];rcases nT g k with h | ⟨i,h1,h2,h3⟩
    ·exact .inl h
    ·exact .inr ⟨i,by omega,h2,h3⟩
  ·rw[if_neg c];rcases nT g k with h | ⟨i,h1,h2,h3⟩
   ·exact .inl h
   ·exact .inr ⟨i,by omega,h2,h3⟩
theorem MH {g:List bg}{R:Nat}(hk:∀ i,i<g.length->(g[i]?.getD bg.z).keep<=R):eW g<=R:=by
 unfold eW;rcases nT g g.length with h | ⟨i,h1,_,h3⟩
 ·rw[h];omega
 ·rw[h3];exact hk i h1
def Ci (g:List bg)(taken:List Nat)(bef beh:List Int):Prop:=(∀ r,r∈taken->¬(r:Int)<eW g)/\∀ r:Nat,(r:Int)<eW g->bb bef r=bb beh r
theorem Dn {n:aA}{g:List bg}{taken:List Nat}{bef beh:List Int}(h32:n.op=32->beh=bef):kY n g taken bef beh=true↔Ci g taken bef beh:=by
 rw[re];constructor
 ·intro h;refine⟨fun r hr ax=>?_,fun r ax=>?_⟩
  ·rcases nT g g.length with e | ⟨i,h1,h2,h3⟩
   ·unfold eW at ax;omega
   ·have:=(h i h1 h2).1 r hr;unfold eW at ax;rw[h3]at ax;exact this ax
  ·rcases nT g g.length with e | ⟨i,h1,h2,h3⟩
   ·unfold eW at ax;omega
   ·unfold eW at ax;rw[h3]at ax;rcases(h i h1 h2).2 with c | c
    ·rw[h32 c.1]
    ·exact c r ax
 ·rintro⟨h1,h2⟩ i hi ht;have hg:=yD g g.length i hi ht;refine⟨fun r hr ax=>h1 r hr ?_,.inr fun r ax=>h2 r ?_⟩
  ·unfold eW;omega
  ·unfold eW;omega
def iN (g:List bg):bg:=g[g.length-1]?.getD bg.z
def iz (n:aA)(g:List bg):Bool:=
 if n.op=31 then decide ((g.length:Int)<50)&&decide (eW g<=n.fb)
 else if n.op=33 then decide ((g.length:Int)<50)&&decide (eW g<=n.fa)
 else if n.op=34 then(decide (0<g.length) && !(iN g).tr)&&decide (eW g<=n.fa)
 else if n.op=35\/n.op=36 then decide (0<g.length) && !(iN g).tr
 else if n.op=32 then decide (0<g.length)&&(iN g).tr
 else true
def dn (n:aA)(g:List bg):List bg:=
 if n.op=31 then g++[⟨true,n.fb,n.fa⟩]
 else if n.op=33 then g++[⟨false,n.fa,0⟩]
 else if n.op=34 then g.set (g.length-1) { iN g with keep:=n.fa }
 else if n.op=32\/n.op=36 then g.take (g.length-1)
 else g
theorem oS {g:List bg}{x:Int}(hx:0<=x):dS g x=decide (eW g<=x):=by
 rw[Bool.eq_iff_iff];unfold dS;simp only[Bool.not_eq_true',decide_eq_true_eq];constructor
 ·intro h;rcases nT g g.length with e | ⟨i,h1,h2,h3⟩
  ·unfold eW;omega
  ·unfold eW;rw[h3];by_cases c:x<(g[i]?.getD bg.z).keep
   ·exfalso
    have:(g.any fun y=>y.tr&&decide (x<y.keep))=true:=by
     rw[List.any_eq_true];refine⟨g[i]?.getD bg.z,by rw[g_ h1];exact List.getElem_mem h1,?_⟩;simp[h2,c]
    rw[h]at this;cases this
   ·omega
 ·intro h;cases e:(g.any fun y=>y.tr&&decide (x<y.keep))with
  | false=>rfl
  | true=>
   rw[List.any_eq_true]at e;obtain⟨y,hy,hc⟩:=e;simp only[Bool.and_eq_true,decide_eq_true_eq]at hc;obtain⟨i,hi,rfl⟩:=List.getElem_of_mem hy;have hg:=yD g g.length i hi (by rw[g_ hi];exact hc.1);rw[g_ hi]at hg;have hg:g[i].keep<=fh g g.length:=hg;unfold eW at h;omega
theorem Gi {n:aA}{g:List bg}(hb:n.op=31->0<=n.fb)(ha:n.op=33\/n.op=34->0<=n.fa):aQ n g=if iz n g=true then some (dn n g)else none:=by
 unfold aQ iz dn;by_cases c1:n.op=31
 ·rw[if_pos c1,if_pos c1,if_pos c1,oS (hb c1)];simp only[Bool.and_eq_true,decide_eq_true_eq];by_cases c:g.length<50/\eW g<=n.fb
  ·rw[if_pos c,if_pos ⟨by omega,c.2⟩]
  ·rw[if_neg c,if_neg (fun h=>c ⟨by omega,h.2⟩)]
 rw[if_neg c1,if_neg c1,if_neg c1];by_cases c2:n.op=33
 ·rw[if_pos c2,if_pos c2,if_pos c2,oS (ha (.inl c2))];simp only[Bool.and_eq_true,decide_eq_true_eq];by_cases c:g.length<50/\eW g<=n.fa
  ·rw[if_pos c,if_pos ⟨by omega,c.2⟩]
  ·rw[if_neg c,if_neg (fun h=>c ⟨by omega,h.2⟩)]
 rw[if_neg c2,if_neg c2,if_neg c2];have Hy:0<g.length↔¬g.length=0:=by omega
 by_cases c3:n.op=32
 ·cases Ef:(g[g.length-1]?.getD bg.z).tr<;>by_cases hl:g.length=0<;>simp[iN,Ef,hl,c3,Hy]
 by_cases c4:n.op=34
 ·have tu:=oS (g:=g) (ha (.inr c4));by_cases hh:eW g<=n.fa
  ·rw[decide_eq_true hh]at tu;cases Ef:(g[g.length-1]?.getD bg.z).tr<;>by_cases hl:g.length=0<;>simp[iN,Ef,hl,c4,Hy,tu,hh]
  ·rw[decide_eq_false hh]at tu;cases Ef:(g[g.length-1]?.getD bg.z).tr<;>by_cases hl:g.length=0<;>simp[iN,Ef,hl,c4,Hy,tu,hh]
 by_cases c5:n.op=35
 ·cases Ef:(g[g.length-1]?.getD bg.z).tr<;>by_cases hl:g.length=0<;>simp[iN,Ef,hl,c5,Hy]
 by_cases c6:n.op=36
 ·cases Ef:(g[g.length-1]?.getD bg.z).tr<;>by_cases hl:g.length=0<;>simp[iN,Ef,hl,c6,Hy]
 simp[c3,c4,c5,c6]
end Go.Proofs.YtcjfjflljdojlaaGreatDoor
namespace Go.Proofs.YtcjfjflljdojlaaGreatDoor
open Go.RowKit
def O8 (x:Nat×Int):List Value:=[i_ (x.1:Int),i_ x.2]
def lY (w:World)(base:Nat)(v:Value)(t:List (Nat×Int)):Prop:=w.ownsRow base 205 2 v t.length (t.flatMap O8)
theorem Nb:(Tryz.prog.info? 205).map (fun i=>(i.zero,i.size,i.bytes))=some (some (.agg #[i_ 0,i_ 0]),2,16):=by kernel_rfl
section
variable {w w':World} {base:Nat} {v:Value} {t:List (Nat×Int)}
theorem lY.push {x:Nat×Int}(h:w.ownsRow base 205 2 v (t.length+1) (t.flatMap O8++O8 x)):lY w base v (t++[x]):=by
 unfold lY;rw[List.length_append,List.flatMap_append];simpa using h
theorem lY.sameBlock (h:lY w base v t)(hb:∀ k,v.ownBlock=some k->w'.heap[k]? = w.heap[k]?):lY w' base v t:=by
 refine⟨h.1,?_⟩;rcases h.2 with hn | ⟨g,cap,gi,rfl,h1,hg,h2⟩
 ·exact .inl hn
 ·exact .inr ⟨g,cap,gi,rfl,h1,(hb g rfl).trans hg,h2⟩
theorem lY.lt' (h:lY w base v t)(k:Nat)(hk:v.ownBlock=some k):base<=k/\k<w.heap.size:=by
 rcases h.2 with⟨rfl,_⟩ | ⟨g,cap,gi,rfl,h1,hg,_⟩
 ·cases hk
 ·obtain rfl:g=k:=Option.some.inj hk;exact⟨h1,(Array.getElem?_eq_some_iff.1 hg).1⟩
theorem lY.lenV (h:lY w base v t):∃ a c,v=.slice a t.length c:=by
 rcases h.2 with⟨rfl,h0⟩ | ⟨g,cap,gi,rfl,_⟩
 ·rw[h0];exact⟨none,0,rfl⟩
 ·exact⟨_,_,rfl⟩
theorem lY.alloc (h:lY w base v t)(o:Obj):lY (w.alloc o) base v t:=World.ownsRow.alloc h o
theorem Nl (t:List (Nat×Int)):∀(j i:Nat),j<t.length->i<2->(t.flatMap O8)[j * 2+i]? = (O8 (t[j]?.getD (0,0)))[i]?:=by
 induction t with
 | nil=>intro j i hj;cases hj
 | cons x t ih=>
  intro j i hj hi;have aP:(O8 x).length=2:=rfl;cases j with
  | zero=>
   rw[List.flatMap_cons,List.getElem?_append_left (by rw[aP];omega)];simp
  | succ j=>
   rw[List.flatMap_cons,List.getElem?_append_right (by rw[aP];omega),aP,show(j+1) * 2+i-2=j * 2+i by omega];exact ih j i (by simpa using hj) hi
theorem lY.at (h:lY w base v t)(h0:0<t.length):∃ g cap,v=.slice (some (a_ g 0)) t.length cap/\base<=g/\g<w.heap.size/\∀ j,j<t.length->w.cell? (a_ g (j * 2))=some (i_ ((t[j]?.getD (0,0)).1:Int))/\w.cell? (a_ g (j * 2+1))=some (i_ (t[j]?.getD (0,0)).2):=by
 rcases h.2 with⟨_,h1⟩ | ⟨g,cap,gi,rfl,hb,hg,h2⟩
 ·omega
 ·refine⟨g,cap,rfl,hb,(Array.getElem?_eq_some_iff.1 hg).1,fun j hj=>?_⟩;have h3:∀ i,i<2->w.cell? (a_ g (j * 2+i))=(O8 (t[j]?.getD (0,0)))[i]?:=fun i hi=>by
   rw[World.ownsRow.cellAt h (j * 2+i) (by omega),Nl t j i hj hi]
  exact⟨h3 0 (by omega),h3 1 (by omega)⟩
end
def qR (u v:Value):Prop:=∀ k,u.ownBlock=some k->v.ownBlock≠some k
theorem qR.symm {u v:Value}(h:qR u v):qR v u:=fun k h1 h2=>h k h2 h1
structure iy (bt B:Nat)(t:TD)(tv sv kv pv:Value)(wr:World):Prop where
 ge:B<=bt
 row:wr.rowIs bt 174 5 (fun j=>[tv,sv,kv,pv,.bool t.wrong][j]?.getD (.bool false))
 ty:ar wr B tv t.types
 se:ar wr B sv (aH t.seen)
 ta:ar wr B kv (aH t.taken)
 pu:lY wr B pv t.puts
 bt0:tv.ownBlock≠some bt
 bs:sv.ownBlock≠some bt
 bk:kv.ownBlock≠some bt
 bp:pv.ownBlock≠some bt
 dts:qR tv sv
 dtk:qR tv kv
 dtp:qR tv pv
 dsk:qR sv kv
 dsp:qR sv pv
 dkp:qR kv pv
structure gZ (bt:Nat)(V V':List Value)(wr w':World):Prop where
 same:∀ k,k<wr.heap.size->k≠bt->(∀ v,v∈V->v.ownBlock≠some k)->w'.heap[k]? = wr.heap[k]?
 new:∀ k,k<wr.heap.size->(∀ v,v∈V->v.ownBlock≠some k)->∀ v,v∈V'->v.ownBlock≠some k
 size:wr.heap.size<=w'.heap.size
theorem gZ.refl (bt:Nat)(V:List Value)(w:World):gZ bt V V w w:=⟨fun _ _ _ _=>rfl,fun _ _ h=>h,n_⟩
theorem gZ.trans {bt:Nat}{V V' V2:List Value}{w w' w2:World}(h:gZ bt V V' w w')(k:gZ bt V' V2 w' w2):gZ bt V V2 w w2:=
 ⟨fun i hi hb hv=>(k.same i (l_ hi h.size) hb (h.new i hi hv)).trans (h.same i hi hb hv),fun i hi hv=>k.new i (l_ hi h.size) (h.new i hi hv),Nat.le_trans h.size k.size⟩
theorem gZ.of_below {bt:Nat}{V:List Value}{w w':World}(h:b_ w w'):gZ bt V V w w':=⟨fun k hk _ _=>h.block k hk,fun _ _ h=>h,h.size⟩
theorem gZ.setBox {bt o:Nat}{V:List Value}{w:World}(v:Value):gZ bt V V w (w.setCell (a_ bt o) v):=⟨fun k _ hb _=>heap_setCell_other w (a_ bt o) k _ hb,fun _ _ h=>h,by simp⟩
theorem gZ.setRow {bt g n cap o:Nat}{V:List Value}{w:World}(v:Value)(hg:Value.slice (some (a_ g 0)) n cap∈V):gZ bt V V w (w.setCell (a_ g o) v):=
 ⟨fun k _ _ hv=>heap_setCell_other w (a_ g o) k _ (fun e=>hv _ hg (by rw[show k=g from e];rfl)),fun _ _ h=>h,by simp⟩
section
variable {bt B:Nat} {t:TD} {tv sv kv pv:Value} {wr w2:World}
theorem iy.cells (h:iy bt B t tv sv kv pv wr):wr.cell? (a_ bt 0)=some tv/\wr.cell? (a_ bt 1)=some sv/\wr.cell? (a_ bt 2)=some kv/\wr.cell? (a_ bt 3)=some pv/\wr.cell? (a_ bt 4)=some (.bool t.wrong):=
 ⟨h.row.cell (i:=0) (by omega),h.row.cell (i:=1) (by omega),h.row.cell (i:=2) (by omega),h.row.cell (i:=3) (by omega),h.row.cell (i:=4) (by omega)⟩
theorem iy.below (h:iy bt B t tv sv kv pv wr)(hb:b_ wr w2):iy bt B t tv sv kv pv w2:=
 {h with
  row:=h.row.of_block (hb.block _ h.row.lt)
  ty:=h.ty.below hb
  se:=h.se.below hb
  ta:=h.ta.below hb
  pu:=h.pu.sameBlock (fun k hk=>hb.block k (h.pu.lt' k hk).2) }
theorem iy.flag (h:iy bt B t tv sv kv pv wr)(b:Bool):iy bt B ⟨t.types,t.seen,t.taken,t.puts,b⟩ tv sv kv pv (wr.setCell (a_ bt 4) (.bool b)):=by
 have hk:∀ k,k≠bt->(wr.setCell (a_ bt 4) (.bool b)).heap[k]? = wr.heap[k]?:=fun k hk=>heap_setCell_other wr (a_ bt 4) k _ hk;exact {
  ge:=h.ge
  row:=(h.row.set 4 _).congr (fun j hj=>by
   have hc:j=0\/j=1\/j=2\/j=3\/j=4:=by omega
   rcases hc with rfl | rfl | rfl | rfl | rfl<;>rfl)
  ty:=h.ty.sameBlock (fun k e=>hk k (fun c=>h.bt0 (c ▸ e)))
  se:=h.se.sameBlock (fun k e=>hk k (fun c=>h.bs (c ▸ e)))
  ta:=h.ta.sameBlock (fun k e=>hk k (fun c=>h.bk (c ▸ e)))
  pu:=h.pu.sameBlock (fun k e=>hk k (fun c=>h.bp (c ▸ e)))
  bt0:=h.bt0,bs:=h.bs,bk:=h.bk,bp:=h.bp,dts:=h.dts,dtk:=h.dtk,dtp:=h.dtp,dsk:=h.dsk,dsp:=h.dsp,dkp:=h.dkp }
theorem iy.setType {g n cap:Nat}(h:iy bt B t (.slice (some (a_ g 0)) n cap) sv kv pv wr)(hn:n=t.types.length)(j:Nat)(x:Int):iy bt B ⟨t.types.set j x,t.seen,t.taken,t.puts,t.wrong⟩ (.slice (some (a_ g 0)) n cap) sv kv pv (wr.setCell (a_ g j) (i_ x)):=by
 have hk:∀ k,k≠g->(wr.setCell (a_ g j) (i_ x)).heap[k]? = wr.heap[k]?:=fun k hk=>heap_setCell_other wr (a_ g j) k _ hk;have hg:(Value.slice (some (a_ g 0)) n cap).ownBlock=some g:=rfl;exact {
  ge:=h.ge
  row:=h.row.of_block (hk bt (fun e=>h.bt0 (by rw[hg,e])))
  ty:=h.ty.set hn j x
  se:=h.se.sameBlock (fun k e=>hk k (fun c=>h.dts g hg (c ▸ e)))
  ta:=h.ta.sameBlock (fun k e=>hk k (fun c=>h.dtk g hg (c ▸ e)))
  pu:=h.pu.sameBlock (fun k e=>hk k (fun c=>h.dtp g hg (c ▸ e)))
  bt0:=h.bt0,bs:=h.bs,bk:=h.bk,bp:=h.bp,dts:=h.dts,dtk:=h.dtk,dtp:=h.dtp,dsk:=h.dsk,dsp:=h.dsp,dkp:=h.dkp }
theorem iy.seen (h:iy bt B t tv sv kv pv wr){o:Obj}{gn n2 lr:Nat}{v2:Value}{x:Nat}(hv:v2=.slice (some (a_ gn 0)) n2 lr)(hg:(wr.alloc o).grownBy w2 sv.ownBlock)(ho:ar w2 B v2 (aH (t.seen++[x])))(fY:sv.ownBlock=some gn\/gn=wr.heap.size+1) :
  iy bt B ⟨t.types,t.seen++[x],t.taken,t.puts,t.wrong⟩ tv v2 kv pv (w2.setCell (a_ bt 1) v2)/\Below B wr (w2.setCell (a_ bt 1) v2)/\gZ bt [tv,sv,kv,pv] [tv,v2,kv,pv] wr (w2.setCell (a_ bt 1) v2):=by
 have cZ:∀ k,k<wr.heap.size->sv.ownBlock≠some k->w2.heap[k]? = wr.heap[k]?:=fun k hk ei=>by
  rw[hg.block k (by simp;omega) (fun e=>ei e.symm)];exact Below.heap_alloc wr o k hk
 have wi:=h.row.lt;have hs:∀ k,k≠bt->(w2.setCell (a_ bt 1) v2).heap[k]? = w2.heap[k]?:=fun k hk=>heap_setCell_other w2 (a_ bt 1) k _ hk;have bo:v2.ownBlock=some gn:=by rw[hv];rfl
 have Lx:v2.ownBlock≠some bt:=by
  rw[bo];intro e;have e:=Option.some.inj e;rcases fY with c | c
  ·exact h.bs (by rw[c,e])
  ·omega
 have new:∀{u:Value},qR u sv->(∀ k,u.ownBlock=some k->k<wr.heap.size)->qR u v2:=fun {u} hd hl k h1 h2=>by
  rw[bo]at h2;have e:=Option.some.inj h2;rcases fY with c | c
  ·exact hd k h1 (by rw[c,e])
  ·have:=hl k h1;omega
 have hB:∀ k,sv.ownBlock=some k->B<=k:=fun k hk=>(h.se.lt' k hk).1;refine⟨{
  ge:=h.ge
  row:=((h.row.of_block (cZ bt wi h.bs)).set 1 _).congr (fun j hj=>by
   have hc:j=0\/j=1\/j=2\/j=3\/j=4:=by omega
   rcases hc with rfl | rfl | rfl | rfl | rfl<;>rfl)
  ty:=h.ty.sameBlock (fun k e=>(hs k (fun c=>h.bt0 (c ▸ e))).trans (cZ k (h.ty.lt' k e).2 (h.dts k e)))
  se:=ho.sameBlock (fun k e=>hs k (fun c=>Lx (c ▸ e)))
  ta:=h.ta.sameBlock (fun k e=>(hs k (fun c=>h.bk (c ▸ e))).trans (cZ k (h.ta.lt' k e).2 (h.dsk.symm k e)))
  pu:=h.pu.sameBlock (fun k e=>(hs k (fun c=>h.bp (c ▸ e))).trans (cZ k (h.pu.lt' k e).2 (h.dsp.symm k e)))
  bt0:=h.bt0
  bs:=Lx
  bk:=h.bk
  bp:=h.bp
  dts:=new h.dts (fun k e=>(h.ty.lt' k e).2)
  dtk:=h.dtk
  dtp:=h.dtp
  dsk:=(new h.dsk.symm (fun k e=>(h.ta.lt' k e).2)).symm
  dsp:=(new h.dsp.symm (fun k e=>(h.pu.lt' k e).2)).symm
  dkp:=h.dkp
  },?_,?_⟩
 rotate_left
 ·refine⟨fun k hk hb hv=>(hs k hb).trans (cZ k hk (hv _ (by simp))),fun k hk hv v hm=>?_,by have:=hg.size;simp at this ⊢;omega⟩;simp only[List.mem_cons,List.mem_nil_iff,or_false]at hm;have Bh:v2.ownBlock≠some k:=by
   rw[bo];intro e;have e:=Option.some.inj e;rcases fY with c | c
   ·exact hv sv (by simp) (by rw[c,e])
   ·omega
  rcases hm with rfl | rfl | rfl | rfl
  all_goals first | exact Bh | exact hv _ (by simp)
 refine Below.setCell ?_ h.ge _;exact((r_.alloc (by have:=h.ge;omega) o).grown hg (by simp;have:=h.ge;omega) (fun k hk=>hB k hk))
theorem iy.taken (h:iy bt B t tv sv kv pv wr){o:Obj}{gn n2 lr:Nat}{v2:Value}{x:Nat}(hv:v2=.slice (some (a_ gn 0)) n2 lr)(hg:(wr.alloc o).grownBy w2 kv.ownBlock)(ho:ar w2 B v2 (aH (t.taken++[x])))(fY:kv.ownBlock=some gn\/gn=wr.heap.size+1) :
  iy bt B ⟨t.types,t.seen,t.taken++[x],t.puts,t.wrong⟩ tv sv v2 pv (w2.setCell (a_ bt 2) v2)/\Below B wr (w2.setCell (a_ bt 2) v2)/\gZ bt [tv,sv,kv,pv] [tv,sv,v2,pv] wr (w2.setCell (a_ bt 2) v2):=by
 have cZ:∀ k,k<wr.heap.size->kv.ownBlock≠some k->w2.heap[k]? = wr.heap[k]?:=fun k hk ei=>by
  rw[hg.block k (by simp;omega) (fun e=>ei e.symm)];exact Below.heap_alloc wr o k hk
 have wi:=h.row.lt;have hs:∀ k,k≠bt->(w2.setCell (a_ bt 2) v2).heap[k]? = w2.heap[k]?:=fun k hk=>heap_setCell_other w2 (a_ bt 2) k _ hk;have bo:v2.ownBlock=some gn:=by rw[hv];rfl
 have Lx:v2.ownBlock≠some bt:=by
  rw[bo];intro e;have e:=Option.some.inj e;rcases fY with c | c
  ·exact h.bk (by rw[c,e])
  ·omega
 have new:∀{u:Value},qR u kv->(∀ k,u.ownBlock=some k->k<wr.heap.size)->qR u v2:=fun {u} hd hl k h1 h2=>by
  rw[bo]at h2;have e:=Option.some.inj h2;rcases fY with c | c
  ·exact hd k h1 (by rw[c,e])
  ·have:=hl k h1;omega
 have hB:∀ k,kv.ownBlock=some k->B<=k:=fun k hk=>(h.ta.lt' k hk).1;refine⟨{
  ge:=h.ge
  row:=((h.row.of_block (cZ bt wi h.bk)).set 2 _).congr (fun j hj=>by
   have hc:j=0\/j=1\/j=2\/j=3\/j=4:=by omega
   rcases hc with rfl | rfl | rfl | rfl | rfl<;>rfl)
  ty:=h.ty.sameBlock (fun k e=>(hs k (fun c=>h.bt0 (c ▸ e))).trans (cZ k (h.ty.lt' k e).2 (h.dtk k e)))
  se:=h.se.sameBlock (fun k e=>(hs k (fun c=>h.bs (c ▸ e))).trans (cZ k (h.se.lt' k e).2 (h.dsk k e)))
  ta:=ho.sameBlock (fun k e=>hs k (fun c=>Lx (c ▸ e)))
  pu:=h.pu.sameBlock (fun k e=>(hs k (fun c=>h.bp (c ▸ e))).trans (cZ k (h.pu.lt' k e).2 (h.dkp.symm k e)))
  bt0:=h.bt0
  bs:=h.bs
  bk:=Lx
  bp:=h.bp
  dts:=h.dts
  dtk:=new h.dtk (fun k e=>(h.ty.lt' k e).2)
  dtp:=h.dtp
  dsk:=new h.dsk (fun k e=>(h.se.lt' k e).2)
  dsp:=h.dsp
  dkp:=(new h.dkp.symm (fun k e=>(h.pu.lt' k e).2)).symm
  },?_,?_⟩
 rotate_left
 ·refine⟨fun k hk hb hv=>(hs k hb).trans (cZ k hk (hv _ (by simp))),fun k hk hv v hm=>?_,by have:=hg.size;simp at this ⊢;omega⟩;simp only[List.mem_cons,List.mem_nil_iff,or_false]at hm;have Bh:v2.ownBlock≠some k:=by
   rw[bo];intro e;have e:=Option.some.inj e;rcases fY with c | c
   ·exact hv kv (by simp) (by rw[c,e])
   ·omega
  rcases hm with rfl | rfl | rfl | rfl
  all_goals first | exact Bh | exact hv _ (by simp)
 refine Below.setCell ?_ h.ge _;exact((r_.alloc (by have:=h.ge;omega) o).grown hg (by simp;have:=h.ge;omega) (fun k hk=>hB k hk))
theorem iy.puts (h:iy bt B t tv sv kv pv wr){o:Obj}{gn n2 lr:Nat}{v2:Value}{x:Nat×Int}(hv:v2=.slice (some (a_ gn 0)) n2 lr)(hg:(wr.alloc o).grownBy w2 pv.ownBlock)(ho:lY w2 B v2 (t.puts++[x]))(fY:pv.ownBlock=some gn\/gn=wr.heap.size+1) :
  iy bt B ⟨t.types,t.seen,t.taken,t.puts++[x],t.wrong⟩ tv sv kv v2 (w2.setCell (a_ bt 3) v2)/\Below B wr (w2.setCell (a_ bt 3) v2)/\gZ bt [tv,sv,kv,pv] [tv,sv,kv,v2] wr (w2.setCell (a_ bt 3) v2):=by
 have cZ:∀ k,k<wr.heap.size->pv.ownBlock≠some k->w2.heap[k]? = wr.heap[k]?:=fun k hk ei=>by
  rw[hg.block k (by simp;omega) (fun e=>ei e.symm)];exact Below.heap_alloc wr o k hk
 have wi:=h.row.lt;have hs:∀ k,k≠bt->(w2.setCell (a_ bt 3) v2).heap[k]? = w2.heap[k]?:=fun k hk=>heap_setCell_other w2 (a_ bt 3) k _ hk;have bo:v2.ownBlock=some gn:=by rw[hv];rfl
 have Lx:v2.ownBlock≠some bt:=by
  rw[bo];intro e;have e:=Option.some.inj e;rcases fY with c | c
  ·exact h.bp (by rw[c,e])
  ·omega
 have new:∀{u:Value},qR u pv->(∀ k,u.ownBlock=some k->k<wr.heap.size)->qR u v2:=fun {u} hd hl k h1 h2=>by
  rw[bo]at h2;have e:=Option.some.inj h2;rcases fY with c | c
  ·exact hd k h1 (by rw[c,e])
  ·have:=hl k h1;omega
 have hB:∀ k,pv.ownBlock=some k->B<=k:=fun k hk=>(h.pu.lt' k hk).1;refine⟨{
  ge:=h.ge
  row:=((h.row.of_block (cZ bt wi h.bp)).set 3 _).congr (fun j hj=>by
   have hc:j=0\/j=1\/j=2\/j=3\/j=4:=by omega
   rcases hc with rfl | rfl | rfl | rfl | rfl<;>rfl)
  ty:=h.ty.sameBlock (fun k e=>(hs k (fun c=>h.bt0 (c ▸ e))).trans (cZ k (h.ty.lt' k e).2 (h.dtp k e)))
  se:=h.se.sameBlock (fun k e=>(hs k (fun c=>h.bs (c ▸ e))).trans (cZ k (h.se.lt' k e).2 (h.dsp k e)))
  ta:=h.ta.sameBlock (fun k e=>(hs k (fun c=>h.bk (c ▸ e))).trans (cZ k (h.ta.lt' k e).2 (h.dkp k e)))
  pu:=ho.sameBlock (fun k e=>hs k (fun c=>Lx (c ▸ e)))
  bt0:=h.bt0
  bs:=h.bs
  bk:=h.bk
  bp:=Lx
  dts:=h.dts
  dtk:=h.dtk
  dtp:=new h.dtp (fun k e=>(h.ty.lt' k e).2)
  dsk:=h.dsk
  dsp:=new h.dsp (fun k e=>(h.se.lt' k e).2)
  dkp:=new h.dkp (fun k e=>(h.ta.lt' k e).2)
  },?_,?_⟩
 rotate_left
 ·refine⟨fun k hk hb hv=>(hs k hb).trans (cZ k hk (hv _ (by simp))),fun k hk hv v hm=>?_,by have:=hg.size;simp at this ⊢;omega⟩;simp only[List.mem_cons,List.mem_nil_iff,or_false]at hm;have Bh:v2.ownBlock≠some k:=by
   rw[bo];intro e;have e:=Option.some.inj e;rcases fY with c | c
   ·exact hv pv (by simp) (by rw[c,e])
   ·omega
  rcases hm with rfl | rfl | rfl | rfl
  all_goals first | exact Bh | exact hv _ (by simp)
 refine Below.setCell ?_ h.ge _;exact((r_.alloc (by have:=h.ge;omega) o).grown hg (by simp;have:=h.ge;omega) (fun k hk=>hB k hk))
end
theorem JF {t:TD}{reg:Nat}{kind:Int}{b:Bool}(h:b=(t.wrong||bb t.types reg != kind)):dL reg kind t=⟨t.types,t.seen++[reg],t.taken,t.puts,b⟩:=by rw[h];rfl
def yo (bt B:Nat)(t:TD)(tv sv kv pv:Value)(wr:World)(e:Ending)(w':World):Prop:=e=.returned (.tuple #[])/\∃ Og,iy bt B t tv Og kv pv w'/\Below B wr w'/\gZ bt [tv,sv,kv,pv] [tv,Og,kv,pv] wr w'
theorem Nh (bt B:Nat)(t:TD)(tv sv kv pv:Value)(reg:Nat)(kind:Int)(wr:World)(h:iy bt B t tv sv kv pv wr)(pn:reg<t.types.length)(aP:t.types.length<=250)(wn:t.seen.length<=1000) :
  c_ 146 #[.pointer (some (a_ bt 0)),i_ (reg:Int),i_ kind] wr (yo bt B (dL reg kind t) tv sv kv pv wr):=by
 obtain⟨i0,hi,dE,cT,dB⟩:=aN dT;obtain⟨g,cap,rfl,xg,wq,aE⟩:=h.ty.at (by omega);have cr:=aE reg pn;obtain⟨c0,c1,c2,c3,c4⟩:=h.cells;have z4:=h.row.frozen 4;have hl:=h.row.lt;have wk:Hid (∀ b,b=(t.wrong||bb t.types reg != kind)->iy bt B ⟨t.types,t.seen,t.taken,t.puts,b⟩ (.slice (some (a_ g 0)) t.types.length cap) sv kv pv (wr.setCell (a_ bt 4) (.bool b))/\dL reg kind t=⟨t.types,t.seen++[reg],t.taken,t.puts,b⟩):=fun b hb=>⟨h.flag b,JF hb⟩;have Un:Hid (∀ v,Below B wr (wr.setCell (a_ bt 4) v)):=fun v=>r_.setCell h.ge _;have gV:Hid (bb t.types reg=t.types[reg]?.getD 0):=rfl;have uY:Hid ((aH t.seen).length<=1048576):=by show _<=_;rw[ba];omega
 have Rc:=af h.ge;clear aE h;obtain⟨ty,eA⟩:∃ ty,t.types[reg]?.getD 0=ty:=⟨_,rfl⟩;rw[eA]at cr gV;clear eA;have Om:(reg:Int)<t.types.length:=by omega
 obtain⟨nt,BA⟩:∃ nt,t.types.length=nt:=⟨_,rfl⟩;rw[BA]at wk pn aP Om;rw[BA];rw[BA]at c0;have KEY:∀ b,b=(t.wrong||bb t.types reg != kind)->True:=fun _ _=>trivial;go_enter Tryz.func146,Tryz.ntmps146;obtain⟨b,hb⟩:∃ b,b=(t.wrong||bb t.types reg != kind):=⟨_,rfl⟩;obtain⟨hF,hE⟩:=aa wk b hb;have HF:=af hF;have HE:=af hE;rw[gV.out]at hb;clear hF hE wk KEY BA;have h3:(t.wrong=false/\ty=kind)\/(t.wrong=false/\ty≠kind)\/t.wrong=true:=by
  by_cases hk:ty=kind<;>cases t.wrong<;>simp[hk]
 refine h3.elim (fun h=>?p1) (fun h=>h.elim (fun h=>?p2) (fun h=>?p3))
 case' p1=>
  obtain⟨hw,hk⟩:=h;rw[hw]at hb c4;have jz:b=false:=by rw[hb,hk];simp
  aj jz
  have ei:(ty != kind)=false:=by simpa using hk
  aj hk
  clear hb hw h3
  go_upto_region 1 with fail
  clear c0 c1 c2 c3 c4 z4 cr;have dM:=af (aa Un (.bool false));have rH:Hid (gZ bt [.slice (some (a_ g 0)) nt cap,sv,kv,pv] [.slice (some (a_ g 0)) nt cap,sv,kv,pv] wr (wr.setCell (a_ bt 4) (.bool false))):=gZ.setBox _;clear Un;generalize wr.setCell (a_ bt 4) (.bool false)=w1 at *
 case' p2=>
  obtain⟨hw,hk⟩:=h;rw[hw]at hb c4;have jz:b=true:=by rw[hb];simpa using hk
  aj jz
  have ei:(ty != kind)=true:=by simpa using hk
  clear hb hw hk h3
  go_upto_region 1 with fail
  clear c0 c1 c2 c3 c4 z4 cr;have dM:=af (aa Un (.bool true));have rH:Hid (gZ bt [.slice (some (a_ g 0)) nt cap,sv,kv,pv] [.slice (some (a_ g 0)) nt cap,sv,kv,pv] wr (wr.setCell (a_ bt 4) (.bool true))):=gZ.setBox _;clear Un;generalize wr.setCell (a_ bt 4) (.bool true)=w1 at *
 case' p3=>
  rw[h]at hb c4;have jz:b=true:=by rw[hb];rfl
  aj jz
  clear hb h h3
  go_upto_region 1 with fail
  clear c0 c1 c2 c3 c4 z4 cr;have dM:=af (aa Un (.bool true));have rH:Hid (gZ bt [.slice (some (a_ g 0)) nt cap,sv,kv,pv] [.slice (some (a_ g 0)) nt cap,sv,kv,pv] wr (wr.setCell (a_ bt 4) (.bool true))):=gZ.setBox _;clear Un;generalize wr.setCell (a_ bt 4) (.bool true)=w1 at *
 all_goals
  obtain⟨c0,c1,c2,c3,c4⟩:=(aa HF).cells;have Tu:=(aa HF).row.lt;clear c0 c2 c3 c4;go_wp2_with (first
   | (at_builtin;refine wpList_append_lies _ rfl _ _ 70 rfl B 3 i0 (i_ 0) 1 8 Tryz.underlying70 hi dE cT dB rfl (by decide) _ _ _ rfl ((aa HF).se.alloc _) (a_ w1.heap.size 0) 1 1 [i_ (reg:Int)] rfl rfl ?c1 ?c2 (by decide) ?c3 ?c4 ?c5 (w1.heap.size+1) (by simp) ?_)
   | go_in)
  all_goals try (case c1=>
   intro j u hj
   match j,hj with
   | 0,hj=>simp at hj;aj hj;simp[Addr.add,go_sem])
  all_goals try (case c2=>first | rfl | (intro u hu;simp at hu;aj hu;rfl))
  all_goals try (case c3=>have:=uY.out;unfold maxLen;omega)
  all_goals try (case c4=>have:=uY.out;omega)
  all_goals try (case c5=>first | omega | (simp;omega) | (have:=Rc.out;simp;omega))
  intro g3 cap3 w3 hown3 hgrow3 hat3 hlt3;have O3:Hid (ar w3 B (.slice (some (a_ g3 0)) ((aH t.seen).length+1) cap3) (aH (t.seen++[reg]))):=by show ar _ _ _ _;rw[f9];exact ar.push hown3
  have eM:=(aa HF).seen (x:=reg) rfl hgrow3 (aa O3) (by simpa using hat3);have bl:w3.heap[bt]? = w1.heap[bt]?:=by
   rw[hgrow3.block bt (by simp;omega) (fun e=>(aa HF).bs e.symm)];exact Below.heap_alloc w1 _ bt Tu
  have s1:w3.cell? (a_ bt 1)=some sv:=(World.cell?_of_block (a:=(a_ bt 1)) bl).trans c1;have z1:w3.frozen? (a_ bt 1)=false:=((aa HF).row.of_block bl).frozen 1;have YN:bt<w3.heap.size:=World.block_lt_of_cell? _ _ s1;have nJ:=af eM;clear eM bl hown3 hgrow3 hat3 O3 c1;go_wp2_with fail
  go_end0
  exact⟨rfl,_,by rw[HE.out];exact(aa nJ).1,dM.out.trans (aa nJ).2.1,rH.out.trans (aa nJ).2.2⟩
def Qt (x:Int)(l:List Int)(w:World)(e:Ending)(w':World):Prop:=∃ k:Int,e=.returned (i_ k)/\(0<=k↔x∈l)/\w'=w
theorem Gz (x:Int)(l:List Int)(a:o_)(c:Nat)(S:Nat->Prop)(w:World)(hs:aR w S a l)(hl:l.length<=1000000):c_ 162 #[.slice a l.length c,i_ x] w (Qt x l w):=by
 have HS:=af hs;clear hs;go_enter Tryz.func162,Tryz.ntmps162;go_wp2_with fail
 go_loopg [8] l.length (fun gg i wr=>∃ q:Nat,q+gg=l.length/\i=i_ q/\wr=w/\Hid (∀ j,j<q->l[j]?.getD 0≠x))
 case atStart=>exact⟨0,by omega,rfl,rfl,fun j h=>absurd h (Nat.not_lt_zero _)⟩
 case round=>
  obtain⟨q,hq,rfl,rfl,bN⟩:=hrel;by_cases ax:q<l.length
  ·obtain⟨b,off,rfl,_,hc⟩:=(aa HS).2 (by omega);have cq:=hc q ax;have hm:l[q]?.getD 0∈l:=by rw[g_ ax];exact List.getElem_mem ax
   have HM:=af hm;have HX:Hid (l[q]?.getD 0≠x->∀ j,j<q+1->l[j]?.getD 0≠x):=fun h j hj=>by
    by_cases e:j=q
    ·aj e;exact h
    ·exact bN.out j (by omega)
   clear hc hm bN;generalize l[q]?.getD 0=y at *;by_cases hy:x=y
   ·aj hy
    have hb:(x==x)=true:=by simp
    go_wp2_with fail
    go_ret;exact⟨q,rfl,⟨fun _=>HM.out,fun _=>by omega⟩,rfl⟩
   ·have hb:(x==y)=false:=by simpa using hy
    have NX:=af (aa HX (fun e=>hy e.symm));clear hy HX;go_wp2_with fail
    go_roundg (l.length-(q+1))
    case measure=>omega
    case rel=>exact⟨q+1,by omega,by go_num,rfl,NX⟩
  ·have HNO:Hid (¬x∈l):=fun hm=>by
    obtain⟨j,hj,e⟩:=List.getElem_of_mem hm;have:=bN.out j (by omega);rw[g_ hj]at this;exact this e
   go_wp2_with fail
   go_ret;exact⟨-1,rfl,⟨fun h=>absurd h (by omega),fun h=>absurd h HNO.out⟩,rfl⟩
theorem yw (x:Int)(l:List Int)(a:o_)(c:Nat)(S:Nat->Prop)(w:World)(hs:aR w S a l)(hl:l.length<=1000000):c_ 160 #[.slice a l.length c,i_ x] w fun e w'=>e=.returned (.bool (l.contains x))/\w'=w:=by
 go_enter Tryz.func160,Tryz.ntmps160;go_wp2_with fail
 refine(Gz x l a c S w hs hl).mono ?_;rintro e w1 ⟨k,rfl,hk,rfl⟩;have hb:l.contains x=decide (0<=k):=by
  rw[Bool.eq_iff_iff];simp[hk]
 have HB:=af hb;clear hb hk;by_cases h0:0<=k
 ·have HC:Hid (l.contains x=true):=by show _=_;rw[HB.out];exact decide_eq_true h0
  clear HB;go_wp2_with fail
  go_ret;exact⟨by rw[HC.out];rfl,rfl⟩
 ·have HC:Hid (l.contains x=false):=by show _=_;rw[HB.out];exact decide_eq_false h0
  clear HB;go_wp2_with fail
  go_ret;exact⟨by rw[HC.out];show Ending.returned (.bool (decide (0<=k)))=_;rw[decide_eq_false (by omega)],rfl⟩
def E7 (bt B:Nat)(t:TD)(tv sv kv pv:Value)(wr:World)(e:Ending)(w':World):Prop:=e=.returned (.tuple #[])/\∃ iP,iy bt B t tv sv kv iP w'/\Below B wr w'/\gZ bt [tv,sv,kv,pv] [tv,sv,kv,iP] wr w'
theorem My (bt B:Nat)(t:TD)(tv sv kv pv:Value)(reg:Nat)(kind:Int)(wr:World)(h:iy bt B t tv sv kv pv wr)(rE:t.puts.length<=1000) :
  c_ 157 #[.pointer (some (a_ bt 0)),i_ (reg:Int),i_ kind] wr (E7 bt B (pU reg kind t) tv sv kv pv wr):=by
 obtain⟨i0,hi,dE,cT,dB⟩:=aN Nb;obtain⟨c0,c1,c2,c3,c4⟩:=h.cells;have hl:=h.row.lt;have HF:=af h;have Rc:=af h.ge;clear c0 c1 c2 c4 h;go_enter Tryz.func157,Tryz.ntmps157;go_wp2_with (first
  | (at_builtin;refine wpList_append_lies _ rfl _ _ 172 rfl B 205 i0 (.agg #[i_ 0,i_ 0]) 2 16 Tryz.underlying172 hi dE cT dB rfl (by decide) _ _ _ rfl ((aa HF).pu.alloc _) (a_ wr.heap.size 0) 1 1 [i_ (reg:Int),i_ kind] rfl rfl ?c1 ?c2 (by decide) ?c3 ?c4 ?c5 (wr.heap.size+1) (by simp) ?_)
  | go_in)
 all_goals try (case c1=>intro j u hj;rcases j with _ | _ | _<;>simp at hj<;>(aj hj;simp[Addr.add,go_sem]))
 all_goals try (case c2=>first | rfl | (intro u hu;simp at hu;rcases hu with rfl | rfl<;>rfl))
 all_goals try (case c3=>unfold maxLen;omega)
 all_goals try (case c4=>omega)
 all_goals try (case c5=>first | omega | (simp;omega) | (have:=Rc.out;simp;omega))
 intro g3 cap3 w3 hown3 hgrow3 hat3 hlt3;have O3:Hid (lY w3 B (.slice (some (a_ g3 0)) (t.puts.length+1) cap3) (t.puts++[(reg,kind)])):=lY.push hown3;have eM:=(aa HF).puts (x:=(reg,kind)) rfl hgrow3 (aa O3) (by simpa using hat3);have bl:w3.heap[bt]? = wr.heap[bt]?:=by
  rw[hgrow3.block bt (by simp;omega) (fun e=>(aa HF).bp e.symm)];exact Below.heap_alloc wr _ bt hl
 have s3:w3.cell? (a_ bt 3)=some pv:=(World.cell?_of_block (a:=(a_ bt 3)) bl).trans c3;have z3:w3.frozen? (a_ bt 3)=false:=((aa HF).row.of_block bl).frozen 3;have YN:bt<w3.heap.size:=World.block_lt_of_cell? _ _ s3;have nJ:=af eM;clear eM bl hown3 hgrow3 hat3 O3 c3;go_wp2_with fail
 go_end0
 exact⟨rfl,_,(aa nJ).1,(aa nJ).2.1,(aa nJ).2.2⟩
def xy (bt B:Nat)(t:TD)(tv sv kv pv:Value)(wr:World)(e:Ending)(w':World):Prop:=e=.returned (.tuple #[])/\∃ Q7,iy bt B t tv sv Q7 pv w'/\Below B wr w'/\gZ bt [tv,sv,kv,pv] [tv,sv,Q7,pv] wr w'
theorem Dt (bt B:Nat)(t:TD)(tv sv kv pv:Value)(reg:Nat)(kind:Int)(wr:World)(h:iy bt B t tv sv kv pv wr)(pn:reg<t.types.length)(aP:t.types.length<=250) :
  c_ 156 #[.pointer (some (a_ bt 0)),i_ (reg:Int),i_ kind] wr (xy bt B (gL (reg:Int) kind t) tv sv kv pv wr):=by
 have gV:Hid (bb t.types reg=t.types[reg]?.getD 0):=rfl;obtain⟨g,cap,rfl,xg,wq,aE⟩:=h.ty.at (by omega);have cr:=aE reg pn;obtain⟨c0,c1,c2,c3,c4⟩:=h.cells;have z4:=h.row.frozen 4;have hl:=h.row.lt;have HE:Hid (∀ b,b=(t.wrong||bb t.types reg != kind)->gL (reg:Int) kind t=⟨t.types,t.seen,t.taken,t.puts,b⟩):=fun b hb=>by
  unfold gL;rw[if_pos (by omega),hb];rfl
 have wk:Hid (∀ b,iy bt B ⟨t.types,t.seen,t.taken,t.puts,b⟩ (.slice (some (a_ g 0)) t.types.length cap) sv kv pv (wr.setCell (a_ bt 4) (.bool b))/\Below B wr (wr.setCell (a_ bt 4) (.bool b))):=fun b=>⟨h.flag b,r_.setCell h.ge _⟩;clear aE h c1 c2 c3;obtain⟨ty,eA⟩:∃ ty,t.types[reg]?.getD 0=ty:=⟨_,rfl⟩;rw[eA]at cr gV;clear eA;have Om:(reg:Int)<t.types.length:=by omega
 obtain⟨nt,BA⟩:∃ nt,t.types.length=nt:=⟨_,rfl⟩;rw[BA]at wk pn aP Om c0;rw[BA];clear BA;rw[gV.out]at HE;go_enter Tryz.func156,Tryz.ntmps156;cases hw:t.wrong
 ·rw[hw]at HE c4;by_cases hk:ty=kind
  ·have ei:(ty != kind)=false:=by simpa using hk
   aj hk
   have qB:=af (aa HE false (by simp));clear HE hw;go_wp2_with fail
   exact bodyPost_ret (results_none rfl _ _ _) rfl ⟨rfl,kv,by rw[qB.out];exact(aa wk false).1,(aa wk false).2,gZ.setBox _⟩
  ·have ei:(ty != kind)=true:=by simpa using hk
   have qB:=af (aa HE true (by simp[ei]));clear HE hw hk;go_wp2_with fail
   exact bodyPost_ret (results_none rfl _ _ _) rfl ⟨rfl,kv,by rw[qB.out];exact(aa wk true).1,(aa wk true).2,gZ.setBox _⟩
 ·rw[hw]at HE c4;have qB:=af (aa HE true (by simp));clear HE hw;go_wp2_with fail
  exact bodyPost_ret (results_none rfl _ _ _) rfl ⟨rfl,kv,by rw[qB.out];exact(aa wk true).1,(aa wk true).2,gZ.setBox _⟩
theorem vq (l:List Nat)(x:Nat):(aH l).contains (x:Int)=l.contains x:=by
 rw[Bool.eq_iff_iff];simp only[List.contains_iff_mem,aH,List.mem_map];constructor
 ·rintro⟨y,hy,e⟩;have:y=x:=Int.ofNat.inj e;rw[<-this];exact hy
 ·intro h;exact⟨x,h,rfl⟩
theorem Dv (bt B:Nat)(t:TD)(tv sv kv pv:Value)(x:Int)(reg:Nat)(kind:Int)(wr:World)(h:iy bt B t tv sv kv pv wr)(hx:x<0)(pp:(-1:Int)-x=reg)(pn:reg<t.types.length)(aP:t.types.length<=250)(wn:t.seen.length<=1000)(KY:t.taken.length<=1000) :
  c_ 156 #[.pointer (some (a_ bt 0)),i_ x,i_ kind] wr (xy bt B (gL x kind t) tv sv kv pv wr):=by
 obtain⟨i0,hi,dE,cT,dB⟩:=aN dT;have gV:Hid (bb t.types reg=t.types[reg]?.getD 0):=rfl;obtain⟨g,cap,rfl,xg,wq,aE⟩:=h.ty.at (by omega);obtain⟨sa,sc,eS,iS⟩:=h.se.ints (by rw[ba];omega);rw[ba]at eS
 aj eS
 have cr:=aE reg pn;obtain⟨c0,c1,c2,c3,c4⟩:=h.cells;have z4:=h.row.frozen 4;have hl:=h.row.lt;have HE:Hid (∀ b,b=(t.wrong||bb t.types reg != kind||t.seen.contains reg)->gL x kind t=⟨t.types.set reg 0,t.seen,t.taken++[reg],t.puts,b⟩):=fun b hb=>by
  unfold gL;rw[if_neg (by omega),show(-1-x).toNat=reg by omega,hb]
 have wk:Hid (∀ b,iy bt B ⟨t.types,t.seen,t.taken,t.puts,b⟩ (.slice (some (a_ g 0)) t.types.length cap) (.slice sa t.seen.length sc) kv pv (wr.setCell (a_ bt 4) (.bool b))/\Below B wr (wr.setCell (a_ bt 4) (.bool b))):=fun b=>⟨h.flag b,r_.setCell h.ge _⟩;have CT:Hid (c_ 160 #[.slice sa t.seen.length sc,i_ (reg:Int)] wr fun e w'=>e=.returned (.bool (t.seen.contains reg))/\w'=wr):=by
  have hh:=yw (reg:Int) (aH t.seen) sa sc _ wr iS (by rw[ba];omega);rw[ba,vq]at hh;exact hh
 have uY:Hid ((aH t.taken).length<=1048576):=by show _<=_;rw[ba];omega
 have Rc:=af h.ge;have HGB:Hid (B<=g):=xg;clear aE h c2 c3 iS;obtain⟨ty,eA⟩:∃ ty,t.types[reg]?.getD 0=ty:=⟨_,rfl⟩;rw[eA]at cr gV;clear eA;have Om:(reg:Int)<t.types.length:=by omega
 obtain⟨nt,BA⟩:∃ nt,t.types.length=nt:=⟨_,rfl⟩;have TY:=af BA;rw[BA]at wk pn aP Om c0;rw[BA];clear BA;rw[gV.out]at HE;go_enter Tryz.func156,Tryz.ntmps156;have h4:(t.wrong=false/\ty=kind/\t.seen.contains reg=false)\/(t.wrong=false/\ty=kind/\t.seen.contains reg=true)\/(t.wrong=false/\ty≠kind)\/t.wrong=true:=by
  by_cases hk:ty=kind<;>cases t.wrong<;>cases t.seen.contains reg<;>simp[hk]
 refine h4.elim (fun h=>?p1) (fun h=>h.elim (fun h=>?p2) (fun h=>h.elim (fun h=>?p3) (fun h=>?p4)))
 case' p1=>
  obtain⟨hw,hk,hc⟩:=h;have ei:(ty != kind)=false:=by simpa using hk
  rw[hw,hc]at HE;rw[hw]at c4;rw[hc]at CT
  aj hk
  have qB:=af (aa HE false (by simp));clear HE hw hc h4;go_wp2_with fail
  refine(aa CT).mono ?_;rintro e w0 ⟨rfl,Wc⟩;rw[Wc];clear Wc
  go_upto_region 4 with fail
  clear c0 c1 c4 z4 cr CT;obtain⟨hF,zc⟩:=aa wk false;have HF:=af hF;have dM:=af zc;have rH:Hid (gZ bt [.slice (some (a_ g 0)) nt cap,.slice sa t.seen.length sc,kv,pv] [.slice (some (a_ g 0)) nt cap,.slice sa t.seen.length sc,kv,pv] wr (wr.setCell (a_ bt 4) (.bool false))):=gZ.setBox _;clear hF zc wk;generalize wr.setCell (a_ bt 4) (.bool false)=w1 at *
 case' p2=>
  obtain⟨hw,hk,hc⟩:=h;have ei:(ty != kind)=false:=by simpa using hk
  rw[hw,hc]at HE;rw[hw]at c4;rw[hc]at CT
  aj hk
  have qB:=af (aa HE true (by simp));clear HE hw hc h4;go_wp2_with fail
  refine(aa CT).mono ?_;rintro e w0 ⟨rfl,Wc⟩;rw[Wc];clear Wc
  go_upto_region 4 with fail
  clear c0 c1 c4 z4 cr CT;obtain⟨hF,zc⟩:=aa wk true;have HF:=af hF;have dM:=af zc;have rH:Hid (gZ bt [.slice (some (a_ g 0)) nt cap,.slice sa t.seen.length sc,kv,pv] [.slice (some (a_ g 0)) nt cap,.slice sa t.seen.length sc,kv,pv] wr (wr.setCell (a_ bt 4) (.bool true))):=gZ.setBox _;clear hF zc wk;generalize wr.setCell (a_ bt 4) (.bool true)=w1 at *
 case' p3=>
  obtain⟨hw,hk⟩:=h;have ei:(ty != kind)=true:=by simpa using hk
  rw[hw]at HE c4;have qB:=af (aa HE true (by simp[ei]));clear HE hw hk h4
  go_upto_region 4 with fail
  clear c0 c1 c4 z4 cr CT;obtain⟨hF,zc⟩:=aa wk true;have HF:=af hF;have dM:=af zc;have rH:Hid (gZ bt [.slice (some (a_ g 0)) nt cap,.slice sa t.seen.length sc,kv,pv] [.slice (some (a_ g 0)) nt cap,.slice sa t.seen.length sc,kv,pv] wr (wr.setCell (a_ bt 4) (.bool true))):=gZ.setBox _;clear hF zc wk;generalize wr.setCell (a_ bt 4) (.bool true)=w1 at *
 case' p4=>
  rw[h]at HE c4;have qB:=af (aa HE true (by simp));clear HE h h4
  go_upto_region 4 with fail
  clear c0 c1 c4 z4 cr CT;obtain⟨hF,zc⟩:=aa wk true;have HF:=af hF;have dM:=af zc;have rH:Hid (gZ bt [.slice (some (a_ g 0)) nt cap,.slice sa t.seen.length sc,kv,pv] [.slice (some (a_ g 0)) nt cap,.slice sa t.seen.length sc,kv,pv] wr (wr.setCell (a_ bt 4) (.bool true))):=gZ.setBox _;clear hF zc wk;generalize wr.setCell (a_ bt 4) (.bool true)=w1 at *
 all_goals
  obtain⟨c0,c1,c2,c3,c4⟩:=(aa HF).cells;have Tu:=(aa HF).row.lt;clear c1 c3 c4;go_wp2_with (first
   | (at_builtin;refine wpList_append_lies _ rfl _ _ 70 rfl B 3 i0 (i_ 0) 1 8 Tryz.underlying70 hi dE cT dB rfl (by decide) _ _ _ rfl ((aa HF).ta.alloc _) (a_ w1.heap.size 0) 1 1 [i_ (reg:Int)] rfl rfl ?c1 ?c2 (by decide) ?c3 ?c4 ?c5 (w1.heap.size+1) (by simp) ?_)
   | go_in)
  all_goals try (case c1=>
   intro j u hj
   match j,hj with
   | 0,hj=>simp at hj;aj hj;simp[Addr.add,go_sem])
  all_goals try (case c2=>first | rfl | (intro u hu;simp at hu;aj hu;rfl))
  all_goals try (case c3=>have:=uY.out;unfold maxLen;omega)
  all_goals try (case c4=>have:=uY.out;omega)
  all_goals try (case c5=>first | omega | (simp;omega) | (have:=Rc.out;simp;omega))
  intro g3 cap3 w3 hown3 hgrow3 hat3 hlt3;have O3:Hid (ar w3 B (.slice (some (a_ g3 0)) ((aH t.taken).length+1) cap3) (aH (t.taken++[reg]))):=by show ar _ _ _ _;rw[f9];exact ar.push hown3
  obtain⟨eM,Sz,Pm⟩:=(aa HF).taken (x:=reg) rfl hgrow3 (aa O3) (by simpa using hat3);have bl:w3.heap[bt]? = w1.heap[bt]?:=by
   rw[hgrow3.block bt (by simp;omega) (fun e=>(aa HF).bk e.symm)];exact Below.heap_alloc w1 _ bt Tu
  have s2:w3.cell? (a_ bt 2)=some kv:=(World.cell?_of_block (a:=(a_ bt 2)) bl).trans c2;have z2:w3.frozen? (a_ bt 2)=false:=((aa HF).row.of_block bl).frozen 2;have YN:bt<w3.heap.size:=World.block_lt_of_cell? _ _ s2;have nJ:=af eM;have ZP:=af Sz;have ZI:=af Pm;clear eM Sz Pm bl hown3 hgrow3 hat3 O3 c0 c2
  go_upto_region 5 with fail
  clear s2 z2 YN;generalize w3.setCell (a_ bt 2) (.slice (some (a_ g3 0)) ((aH t.taken).length+1) cap3)=w4 at *;obtain⟨c0,c1,c2,c3,c4⟩:=(aa nJ).cells;have hl4:=(aa nJ).row.lt;obtain⟨g',iM,jE,_,fm,aE⟩:=(aa nJ).ty.at (by show 0<t.types.length;have:=TY.out;omega);have gQ:g'=g:=by injection jE with h;injection h with h;exact(congrArg Addr.block h).symm
  have cr:=aE reg (by show reg<t.types.length;have:=TY.out;omega);rw[gQ]at cr fm;have zr:=(aa nJ).ty.frozen TY.out.symm reg;have V0:=af ((aa nJ).setType TY.out.symm reg 0);clear c1 c2 c3 c4 jE aE gQ;go_wp2_with fail
  go_end0
  exact⟨rfl,_,by rw[qB.out];exact aa V0,(dM.out.trans (aa ZP)).trans (r_.setCell HGB.out _),(rH.out.trans ZI.out).trans (gZ.setRow (n:=nt) (cap:=cap) _ (by simp))⟩
end Go.Proofs.YtcjfjflljdojlaaGreatDoor
