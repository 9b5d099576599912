import Derived.Test.YtcjfjflljdojlaaGreatDoorPart28
set_option linter.all false
set_option maxHeartbeats 4000000
set_option maxRecDepth 100000
namespace Go.Proofs.YtcjfjflljdojlaaGreatDoor
theorem DL {l:List aj}{n:az}(h1:1<=n.op)(h2:n.op<=42)(ty t0:List Int):fT (eK l n ty).v t0 (eK l n ty).v.length=bg n t0:=by
 obtain⟨op,ho⟩:∃ op:Nat,n.op=op:=⟨n.op.toNat,by omega⟩;have mi:op<43:=by omega
 have hp:(eK l n ty).v=fG (aA op 0) n.fa++fG (aA op 1) n.fb++fG (aA op 2) n.fc++fG (aA op 3) n.fd:=by{have hf:=pN ho mi (start ty);have e:(start ty).v=[]:=rfl;rw[e,List.nil_append]at hf;unfold eK;split;{rw[(i9 _ _ _).1];exact hf};{exact hf}};exact DH ho mi (by omega) t0 _ hp
theorem sj {l:List aj}{n:az}(h1:1<=n.op)(h2:n.op<=42)(ty:List Int):(fO l n ty).h=true↔bH l n ty=none:=by
 have h:=rY (l:=l) h1 h2 ty;show(eK l n ty).h=true↔_;cases e:bH l n ty with
 | none=>rw[e]at h;exact⟨fun _=>rfl,fun _=>h⟩
 | some s=>rw[e]at h;exact⟨(fun hw=>by rw[h.1]at hw;cases hw),(fun hh=>by cases hh)⟩
theorem JI {l:List aj}{n:az}(h1:1<=n.op)(h2:n.op<=42){ty:List Int}{r:gY}(hr:bH l n ty=some r):(fO l n ty).h=false/\(fO l n ty).d=bg n r.d/\(fO l n ty).p=r.p:=by
 have h:=rY (l:=l) h1 h2 ty;rw[hr]at h;refine⟨h.1,?_,h.2.2⟩;show fT (eK l n ty).v (eK l n ty).d (eK l n ty).v.length=_;rw[DL h1 h2,h.2.1]
def fj (g:List bc):Nat->Int
 | 0=>0
 | k+1=>if(g[k]?.getD bc.z).tr then max (fj g k) (g[k]?.getD bc.z).keep else fj g k
def eQ (g:List bc):Int:=fj g g.length
theorem rV (g:List bc):∀ k,0<=fj g k
 | 0=>Int.le_refl _
 | k+1=>by
  have:=rV g k;unfold fj;split<;>omega
theorem yu (g:List bc):∀ k i,i<k->(g[i]?.getD bc.z).tr=true->(g[i]?.getD bc.z).keep<=fj g k
 | 0,i,h,_=>zcc h (bW _)
 | k+1,i,h,ht=>by
  unfold fj;by_cases e:i=k
  ·subst e;rw[zca ht];omega
  ·have:=yu g k i (by omega) ht;split<;>omega
theorem nW (g:List bc):∀ k,fj g k=0\/∃ i,i<k/\(g[i]?.getD bc.z).tr=true/\fj g k=(g[i]?.getD bc.z).keep
 | 0=>.inl rfl
 | k+1=>by
  unfold fj;by_cases c:(g[k]?.getD bc.z).tr=true
  ·rw[zca c];by_cases m:fj g k<=(g[k]?.getD bc.z).keep
   ·exact .inr ⟨k,by omega,c,by omega⟩
   ·rw[show max (fj g k) (g[k]?.getD bc.z).keep=fj g k by omega];rcases nW g k with h | ⟨i,h1,h2,h3⟩
    ·exact .inl h
    ·exact .inr ⟨i,by omega,h2,h3⟩
  ·rw[zcb c];rcases nW g k with h | ⟨i,h1,h2,h3⟩
   ·exact .inl h
   ·exact .inr ⟨i,by omega,h2,h3⟩
theorem Na {g:List bc}{R:Nat}(hk:∀ i,i<g.length->(g[i]?.getD bc.z).keep<=R):eQ g<=R:=by
 unfold eQ;rcases nW g g.length with h | ⟨i,h1,_,h3⟩;{rw[h];omega};{rw[h3];exact hk i h1}
def Cs (g:List bc)(taken:List Nat)(bef beh:List Int):Prop:=(∀ r,r∈taken->¬(r:Int)<eQ g)/\∀ r:Nat,(r:Int)<eQ g->ba bef r=ba beh r
theorem BV {n:az}{g:List bc}{taken:List Nat}{bef beh:List Int}(h32:n.op=32->beh=bef):lj n g taken bef beh=true↔Cs g taken bef beh:=by
 rw[qQ];constructor;{intro h;refine⟨fun r hr au=>?_,fun r au=>?_⟩;{rcases nW g g.length with e | ⟨i,h1,h2,h3⟩;{unfold eQ at au;omega};{have:=(h i h1 h2).1 r hr;unfold eQ at au;rw[h3]at au;exact this au}};{rcases nW g g.length with e | ⟨i,h1,h2,h3⟩;{unfold eQ at au;omega};{unfold eQ at au;rw[h3]at au;rcases(h i h1 h2).2 with c | c;{rw[h32 c.1]};{exact c r au}}}};{rintro⟨h1,h2⟩ i hi ht;have hg:=yu g g.length i hi ht;refine⟨fun r hr au=>h1 r hr ?_,.inr fun r au=>h2 r ?_⟩;{unfold eQ;omega};{unfold eQ;omega}}
def iN (g:List bc):bc:=g[g.length-1]?.getD bc.z
def iD (n:az)(g:List bc):Bool:=
 if n.op=31 then decide ((g.length:Int)<50)&&decide (eQ g<=n.fb)
 else if n.op=33 then decide ((g.length:Int)<50)&&decide (eQ g<=n.fa)
 else if n.op=34 then(decide (0<g.length) && !(iN g).tr)&&decide (eQ g<=n.fa)
 else if n.op=35\/n.op=36 then decide (0<g.length) && !(iN g).tr
 else if n.op=32 then decide (0<g.length)&&(iN g).tr
 else true
def dm (n:az)(g:List bc):List bc:=
 if n.op=31 then g++[⟨true,n.fb,n.fa⟩]
 else if n.op=33 then g++[⟨false,n.fa,0⟩]
 else if n.op=34 then g.set (g.length-1) { iN g with keep:=n.fa }
 else if n.op=32\/n.op=36 then g.take (g.length-1)
 else g
theorem oP {g:List bc}{x:Int}(hx:0<=x):dS g x=decide (eQ g<=x):=by
 rw[Bool.eq_iff_iff];unfold dS;simp only[Bool.not_eq_true',decide_eq_true_eq];constructor;{intro h;rcases nW g g.length with e | ⟨i,h1,h2,h3⟩;{unfold eQ;omega};{unfold eQ;rw[h3];by_cases c:x<(g[i]?.getD bc.z).keep;{exfalso;have:(g.any fun y=>y.tr&&decide (x<y.keep))=true:=by{rw[List.any_eq_true];refine⟨g[i]?.getD bc.z,by rw[g_ h1];exact zab h1,?_⟩;simp[h2,c]};rw[h]at this;cases this};{omega}}}
 ·intro h;cases e:(g.any fun y=>y.tr&&decide (x<y.keep))with
  | false=>rfl
  | true=>
   rw[List.any_eq_true]at e;obtain⟨y,hy,hc⟩:=e;simp only[Bool.and_eq_true,decide_eq_true_eq]at hc;obtain⟨i,hi,rfl⟩:=zaf hy;have hg:=yu g g.length i hi (by rw[g_ hi];exact hc.1);rw[g_ hi]at hg;have hg:g[i].keep<=fj g g.length:=hg;unfold eQ at h;omega
theorem Gm {n:az}{g:List bc}(hb:n.op=31->0<=n.fb)(ha:n.op=33\/n.op=34->0<=n.fa):aP n g=if iD n g=true then some (dm n g)else none:=by
 unfold aP iD dm;by_cases c1:n.op=31;{rw[zca c1,zca c1,zca c1,oP (hb c1)];simp only[Bool.and_eq_true,decide_eq_true_eq];by_cases c:g.length<50/\eQ g<=n.fb;{rw[zca c,zca ⟨by omega,c.2⟩]};{rw[zcb c,zcb (fun h=>c ⟨by omega,h.2⟩)]}};rw[zcb c1,zcb c1,zcb c1];by_cases c2:n.op=33;{rw[zca c2,zca c2,zca c2,oP (ha (.inl c2))];simp only[Bool.and_eq_true,decide_eq_true_eq];by_cases c:g.length<50/\eQ g<=n.fa;{rw[zca c,zca ⟨by omega,c.2⟩]};{rw[zcb c,zcb (fun h=>c ⟨by omega,h.2⟩)]}};rw[zcb c2,zcb c2,zcb c2];have Hh:0<g.length↔¬g.length=0:=by{omega};by_cases c3:n.op=32;{cases Eg:(g[g.length-1]?.getD bc.z).tr<;>by_cases hl:g.length=0<;>simp[iN,Eg,hl,c3,Hh]};by_cases c4:n.op=34;{have tj:=oP (g:=g) (ha (.inr c4));by_cases hh:eQ g<=n.fa;{rw[zbb hh]at tj;cases Eg:(g[g.length-1]?.getD bc.z).tr<;>by_cases hl:g.length=0<;>simp[iN,Eg,hl,c4,Hh,tj,hh]};{rw[zba hh]at tj;cases Eg:(g[g.length-1]?.getD bc.z).tr<;>by_cases hl:g.length=0<;>simp[iN,Eg,hl,c4,Hh,tj,hh]}};by_cases c5:n.op=35;{cases Eg:(g[g.length-1]?.getD bc.z).tr<;>by_cases hl:g.length=0<;>simp[iN,Eg,hl,c5,Hh]};by_cases c6:n.op=36;{cases Eg:(g[g.length-1]?.getD bc.z).tr<;>by_cases hl:g.length=0<;>simp[iN,Eg,hl,c6,Hh]};simp[c3,c4,c5,c6]
end Go.Proofs.YtcjfjflljdojlaaGreatDoor
namespace Go.Proofs.YtcjfjflljdojlaaGreatDoor
open Go.RowKit
def O6 (x:Nat×Int):List Value:=[i_ (x.1:Int),i_ x.2]
def lZ (w:w_)(base:Nat)(v:Value)(t:List (Nat×Int)):Prop:=w.ownsRow base 205 2 v t.length (t.flatMap O6)
theorem Mh:(Tryz.prog.info? 205).map (fun i=>(i.zero,i.size,i.bytes))=some (some (.agg #[i_ 0,i_ 0]),2,16):=by kernel_rfl
section
variable {w w':w_} {base:Nat} {v:Value} {t:List (Nat×Int)}
theorem lZ.push {x:Nat×Int}(h:w.ownsRow base 205 2 v (t.length+1) (t.flatMap O6++O6 x)):lZ w base v (t++[x]):=by
 unfold lZ;rw[zad,List.flatMap_append];simpa using h
theorem lZ.sameBlock (h:lZ w base v t)(hb:∀ k,v.ownBlock=some k->w'.heap[k]? = w.heap[k]?):lZ w' base v t:=by
 refine⟨h.1,?_⟩;rcases h.2 with hn | ⟨g,cap,gh,rfl,h1,hg,h2⟩;{exact .inl hn};{exact .inr ⟨g,cap,gh,rfl,h1,(hb g rfl).trans hg,h2⟩}
theorem lZ.lt' (h:lZ w base v t)(k:Nat)(hk:v.ownBlock=some k):base<=k/\k<w.heap.size:=by
 rcases h.2 with⟨rfl,_⟩ | ⟨g,cap,gh,rfl,h1,hg,_⟩;{cases hk};{obtain rfl:g=k:=Option.some.inj hk;exact⟨h1,(zbc.1 hg).1⟩}
theorem lZ.lenV (h:lZ w base v t):∃ a c,v=.slice a t.length c:=by
 rcases h.2 with⟨rfl,h0⟩ | ⟨g,cap,gh,rfl,_⟩;{rw[h0];exact⟨none,0,rfl⟩};{exact⟨_,_,rfl⟩}
theorem lZ.alloc (h:lZ w base v t)(o:Obj):lZ (w.alloc o) base v t:=World.ownsRow.alloc h o
theorem MD (t:List (Nat×Int)):∀(j i:Nat),j<t.length->i<2->(t.flatMap O6)[j * 2+i]? = (O6 (t[j]?.getD (0,0)))[i]?:=by
 induction t with
 | nil=>intro j i hj;cases hj
 | cons x t ih=>
  intro j i hj hi;have aO:(O6 x).length=2:=rfl;cases j with
  | zero=>
   rw[List.flatMap_cons,List.getElem?_append_left (by rw[aO];omega)];simp
  | succ j=>
   rw[List.flatMap_cons,List.getElem?_append_right (by rw[aO];omega),aO,show(j+1) * 2+i-2=j * 2+i by omega];exact ih j i (by simpa using hj) hi
theorem lZ.at (h:lZ w base v t)(h0:0<t.length):∃ g cap,v=s_ g 0 t.length cap/\base<=g/\g<w.heap.size/\∀ j,j<t.length->w.cell? (a_ g (j * 2))=some (i_ ((t[j]?.getD (0,0)).1:Int))/\w.cell? (a_ g (j * 2+1))=some (i_ (t[j]?.getD (0,0)).2):=by
 rcases h.2 with⟨_,h1⟩ | ⟨g,cap,gh,rfl,hb,hg,h2⟩;{omega}
 ·refine⟨g,cap,rfl,hb,(zbc.1 hg).1,fun j hj=>?_⟩;have h3:∀ i,i<2->w.cell? (a_ g (j * 2+i))=(O6 (t[j]?.getD (0,0)))[i]?:=fun i hi=>by
   rw[World.ownsRow.cellAt h (j * 2+i) (by omega),MD t j i hj hi]
  exact⟨h3 0 (by omega),h3 1 (by omega)⟩
end
def rh (u v:Value):Prop:=∀ k,u.ownBlock=some k->v.ownBlock≠some k
theorem rh.symm {u v:Value}(h:rh u v):rh v u:=fun k h1 h2=>h k h2 h1
structure iw (bt B:Nat)(t:TD)(tv sv kv pv:Value)(wr:w_):Prop where
 ge:B<=bt
 row:wr.rowIs bt 174 5 (fun j=>[tv,sv,kv,pv,.bool t.h][j]?.getD (.bool false))
 ty:ao wr B tv t.d
 se:ao wr B sv (aG t.y)
 ta:ao wr B kv (aG t.p)
 pu:lZ wr B pv t.v
 bt0:tv.ownBlock≠some bt
 bs:sv.ownBlock≠some bt
 bk:kv.ownBlock≠some bt
 bp:pv.ownBlock≠some bt
 dts:rh tv sv
 dtk:rh tv kv
 dtp:rh tv pv
 dsk:rh sv kv
 dsp:rh sv pv
 dkp:rh kv pv
structure gZ (bt:Nat)(V V':List Value)(wr w':w_):Prop where
 same:∀ k,k<wr.heap.size->k≠bt->(∀ v,v∈V->v.ownBlock≠some k)->w'.heap[k]? = wr.heap[k]?
 new:∀ k,k<wr.heap.size->(∀ v,v∈V->v.ownBlock≠some k)->∀ v,v∈V'->v.ownBlock≠some k
 size:wr.heap.size<=w'.heap.size
theorem gZ.refl (bt:Nat)(V:List Value)(w:w_):gZ bt V V w w:=⟨fun _ _ _ _=>rfl,fun _ _ h=>h,n_⟩
theorem gZ.trans {bt:Nat}{V V' V2:List Value}{w w' w2:w_}(h:gZ bt V V' w w')(k:gZ bt V' V2 w' w2):gZ bt V V2 w w2:=
 ⟨fun i hi hb hv=>(k.same i (l_ hi h.size) hb (h.new i hi hv)).trans (h.same i hi hb hv),fun i hi hv=>k.new i (l_ hi h.size) (h.new i hi hv),zah h.size k.size⟩
theorem gZ.of_below {bt:Nat}{V:List Value}{w w':w_}(h:b_ w w'):gZ bt V V w w':=⟨fun k hk _ _=>h.block k hk,fun _ _ h=>h,h.size⟩
theorem gZ.setBox {bt o:Nat}{V:List Value}{w:w_}(v:Value):gZ bt V V w (w.setCell (a_ bt o) v):=⟨fun k _ hb _=>zbg w (a_ bt o) k _ hb,fun _ _ h=>h,by simp⟩
theorem gZ.setRow {bt g n cap o:Nat}{V:List Value}{w:w_}(v:Value)(hg:Value.slice (some (a_ g 0)) n cap∈V):gZ bt V V w (w.setCell (a_ g o) v):=
 ⟨fun k _ _ hv=>zbg w (a_ g o) k _ (fun e=>hv _ hg (by rw[show k=g from e];rfl)),fun _ _ h=>h,by simp⟩
section
variable {bt B:Nat} {t:TD} {tv sv kv pv:Value} {wr w2:w_}
theorem iw.cells (h:iw bt B t tv sv kv pv wr):wr.cell? (a_ bt 0)=some tv/\wr.cell? (a_ bt 1)=some sv/\wr.cell? (a_ bt 2)=some kv/\wr.cell? (a_ bt 3)=some pv/\wr.cell? (a_ bt 4)=some (.bool t.h):=
 ⟨h.row.cell (i:=0) (by omega),h.row.cell (i:=1) (by omega),h.row.cell (i:=2) (by omega),h.row.cell (i:=3) (by omega),h.row.cell (i:=4) (by omega)⟩
theorem iw.below (h:iw bt B t tv sv kv pv wr)(hb:b_ wr w2):iw bt B t tv sv kv pv w2:=
 {h with
  row:=h.row.of_block (hb.block _ h.row.lt)
  ty:=h.ty.below hb
  se:=h.se.below hb
  ta:=h.ta.below hb
  pu:=h.pu.sameBlock (fun k hk=>hb.block k (h.pu.lt' k hk).2) }
theorem iw.flag (h:iw bt B t tv sv kv pv wr)(b:Bool):iw bt B ⟨t.d,t.y,t.p,t.v,b⟩ tv sv kv pv (wr.setCell (a_ bt 4) (.bool b)):=by
 have hk:∀ k,k≠bt->(wr.setCell (a_ bt 4) (.bool b)).heap[k]? = wr.heap[k]?:=fun k hk=>zbg wr (a_ bt 4) k _ hk;exact {
  ge:=h.ge
  row:=(h.row.set 4 _).congr (fun j hj=>by
   have hc:j=0\/j=1\/j=2\/j=3\/j=4:=by omega
   rcases hc with rfl | rfl | rfl | rfl | rfl<;>rfl)
  ty:=h.ty.sameBlock (fun k e=>hk k (fun c=>h.bt0 (c ▸ e)))
  se:=h.se.sameBlock (fun k e=>hk k (fun c=>h.bs (c ▸ e)))
  ta:=h.ta.sameBlock (fun k e=>hk k (fun c=>h.bk (c ▸ e)))
  pu:=h.pu.sameBlock (fun k e=>hk k (fun c=>h.bp (c ▸ e)))
  bt0:=h.bt0,bs:=h.bs,bk:=h.bk,bp:=h.bp,dts:=h.dts,dtk:=h.dtk,dtp:=h.dtp,dsk:=h.dsk,dsp:=h.dsp,dkp:=h.dkp }
theorem iw.setType {g n cap:Nat}(h:iw bt B t (s_ g 0 n cap) sv kv pv wr)(hn:n=t.d.length)(j:Nat)(x:Int):iw bt B ⟨t.d.set j x,t.y,t.p,t.v,t.h⟩ (s_ g 0 n cap) sv kv pv (wr.setCell (a_ g j) (i_ x)):=by
 have hk:∀ k,k≠g->(wr.setCell (a_ g j) (i_ x)).heap[k]? = wr.heap[k]?:=fun k hk=>zbg wr (a_ g j) k _ hk;have hg:(Value.slice (some (a_ g 0)) n cap).ownBlock=some g:=rfl;exact {
  ge:=h.ge
  row:=h.row.of_block (hk bt (fun e=>h.bt0 (by rw[hg,e])))
  ty:=h.ty.set hn j x
  se:=h.se.sameBlock (fun k e=>hk k (fun c=>h.dts g hg (c ▸ e)))
  ta:=h.ta.sameBlock (fun k e=>hk k (fun c=>h.dtk g hg (c ▸ e)))
  pu:=h.pu.sameBlock (fun k e=>hk k (fun c=>h.dtp g hg (c ▸ e)))
  bt0:=h.bt0,bs:=h.bs,bk:=h.bk,bp:=h.bp,dts:=h.dts,dtk:=h.dtk,dtp:=h.dtp,dsk:=h.dsk,dsp:=h.dsp,dkp:=h.dkp }
theorem iw.y (h:iw bt B t tv sv kv pv wr){o:Obj}{gn n2 lq:Nat}{v2:Value}{x:Nat}(hv:v2=s_ gn 0 n2 lq)(hg:(wr.alloc o).grownBy w2 sv.ownBlock)(ho:ao w2 B v2 (aG (t.y++[x])))(fW:sv.ownBlock=some gn\/gn=wr.heap.size+1) :
  iw bt B ⟨t.d,t.y++[x],t.p,t.v,t.h⟩ tv v2 kv pv (w2.setCell (a_ bt 1) v2)/\Below B wr (w2.setCell (a_ bt 1) v2)/\gZ bt [tv,sv,kv,pv] [tv,v2,kv,pv] wr (w2.setCell (a_ bt 1) v2):=by
 have cY:∀ k,k<wr.heap.size->sv.ownBlock≠some k->w2.heap[k]? = wr.heap[k]?:=fun k hk eh=>by
  rw[hg.block k (by simp;omega) (fun e=>eh e.symm)];exact Below.heap_alloc wr o k hk
 have we:=h.row.lt;have hs:∀ k,k≠bt->(w2.setCell (a_ bt 1) v2).heap[k]? = w2.heap[k]?:=fun k hk=>zbg w2 (a_ bt 1) k _ hk;have bj:v2.ownBlock=some gn:=by rw[hv];rfl
 have KE:v2.ownBlock≠some bt:=by rw[bj];intro e;have e:=Option.some.inj e;rcases fW with c | c;{exact h.bs (by rw[c,e])};{omega}
 have new:∀{u:Value},rh u sv->(∀ k,u.ownBlock=some k->k<wr.heap.size)->rh u v2:=fun {u} hd hl k h1 h2=>by
  rw[bj]at h2;have e:=Option.some.inj h2;rcases fW with c | c;{exact hd k h1 (by rw[c,e])};{have:=hl k h1;omega}
 have hB:∀ k,sv.ownBlock=some k->B<=k:=fun k hk=>(h.se.lt' k hk).1;refine⟨{
  ge:=h.ge
  row:=((h.row.of_block (cY bt we h.bs)).set 1 _).congr (fun j hj=>by
   have hc:j=0\/j=1\/j=2\/j=3\/j=4:=by omega
   rcases hc with rfl | rfl | rfl | rfl | rfl<;>rfl)
  ty:=h.ty.sameBlock (fun k e=>(hs k (fun c=>h.bt0 (c ▸ e))).trans (cY k (h.ty.lt' k e).2 (h.dts k e)))
  se:=ho.sameBlock (fun k e=>hs k (fun c=>KE (c ▸ e)))
  ta:=h.ta.sameBlock (fun k e=>(hs k (fun c=>h.bk (c ▸ e))).trans (cY k (h.ta.lt' k e).2 (h.dsk.symm k e)))
  pu:=h.pu.sameBlock (fun k e=>(hs k (fun c=>h.bp (c ▸ e))).trans (cY k (h.pu.lt' k e).2 (h.dsp.symm k e)))
  bt0:=h.bt0
  bs:=KE
  bk:=h.bk
  bp:=h.bp
  dts:=new h.dts (fun k e=>(h.ty.lt' k e).2)
  dtk:=h.dtk
  dtp:=h.dtp
  dsk:=(new h.dsk.symm (fun k e=>(h.ta.lt' k e).2)).symm
  dsp:=(new h.dsp.symm (fun k e=>(h.pu.lt' k e).2)).symm
  dkp:=h.dkp
  },?_,?_⟩
 rotate_left;{refine⟨fun k hk hb hv=>(hs k hb).trans (cY k hk (hv _ (by simp))),fun k hk hv v hm=>?_,by have:=hg.size;simp at this ⊢;omega⟩;simp only[List.mem_cons,List.mem_nil_iff,or_false]at hm;have A8:v2.ownBlock≠some k:=by{rw[bj];intro e;have e:=Option.some.inj e;rcases fW with c | c;{exact hv sv (by simp) (by rw[c,e])};{omega}};rcases hm with rfl | rfl | rfl | rfl;all_goals first | exact A8 | exact hv _ (by simp)};refine Below.setCell ?_ h.ge _;exact((r_.alloc (by have:=h.ge;omega) o).grown hg (by simp;have:=h.ge;omega) (fun k hk=>hB k hk))
theorem iw.p (h:iw bt B t tv sv kv pv wr){o:Obj}{gn n2 lq:Nat}{v2:Value}{x:Nat}(hv:v2=s_ gn 0 n2 lq)(hg:(wr.alloc o).grownBy w2 kv.ownBlock)(ho:ao w2 B v2 (aG (t.p++[x])))(fW:kv.ownBlock=some gn\/gn=wr.heap.size+1) :
  iw bt B ⟨t.d,t.y,t.p++[x],t.v,t.h⟩ tv sv v2 pv (w2.setCell (a_ bt 2) v2)/\Below B wr (w2.setCell (a_ bt 2) v2)/\gZ bt [tv,sv,kv,pv] [tv,sv,v2,pv] wr (w2.setCell (a_ bt 2) v2):=by
 have cY:∀ k,k<wr.heap.size->kv.ownBlock≠some k->w2.heap[k]? = wr.heap[k]?:=fun k hk eh=>by
  rw[hg.block k (by simp;omega) (fun e=>eh e.symm)];exact Below.heap_alloc wr o k hk
 have we:=h.row.lt;have hs:∀ k,k≠bt->(w2.setCell (a_ bt 2) v2).heap[k]? = w2.heap[k]?:=fun k hk=>zbg w2 (a_ bt 2) k _ hk;have bj:v2.ownBlock=some gn:=by rw[hv];rfl
 have KE:v2.ownBlock≠some bt:=by rw[bj];intro e;have e:=Option.some.inj e;rcases fW with c | c;{exact h.bk (by rw[c,e])};{omega}
 have new:∀{u:Value},rh u kv->(∀ k,u.ownBlock=some k->k<wr.heap.size)->rh u v2:=fun {u} hd hl k h1 h2=>by
  rw[bj]at h2;have e:=Option.some.inj h2;rcases fW with c | c;{exact hd k h1 (by rw[c,e])};{have:=hl k h1;omega}
 have hB:∀ k,kv.ownBlock=some k->B<=k:=fun k hk=>(h.ta.lt' k hk).1;refine⟨{
  ge:=h.ge
  row:=((h.row.of_block (cY bt we h.bk)).set 2 _).congr (fun j hj=>by
   have hc:j=0\/j=1\/j=2\/j=3\/j=4:=by omega
   rcases hc with rfl | rfl | rfl | rfl | rfl<;>rfl)
  ty:=h.ty.sameBlock (fun k e=>(hs k (fun c=>h.bt0 (c ▸ e))).trans (cY k (h.ty.lt' k e).2 (h.dtk k e)))
  se:=h.se.sameBlock (fun k e=>(hs k (fun c=>h.bs (c ▸ e))).trans (cY k (h.se.lt' k e).2 (h.dsk k e)))
  ta:=ho.sameBlock (fun k e=>hs k (fun c=>KE (c ▸ e)))
  pu:=h.pu.sameBlock (fun k e=>(hs k (fun c=>h.bp (c ▸ e))).trans (cY k (h.pu.lt' k e).2 (h.dkp.symm k e)))
  bt0:=h.bt0
  bs:=h.bs
  bk:=KE
  bp:=h.bp
  dts:=h.dts
  dtk:=new h.dtk (fun k e=>(h.ty.lt' k e).2)
  dtp:=h.dtp
  dsk:=new h.dsk (fun k e=>(h.se.lt' k e).2)
  dsp:=h.dsp
  dkp:=(new h.dkp.symm (fun k e=>(h.pu.lt' k e).2)).symm
  },?_,?_⟩
 rotate_left;{refine⟨fun k hk hb hv=>(hs k hb).trans (cY k hk (hv _ (by simp))),fun k hk hv v hm=>?_,by have:=hg.size;simp at this ⊢;omega⟩;simp only[List.mem_cons,List.mem_nil_iff,or_false]at hm;have A8:v2.ownBlock≠some k:=by{rw[bj];intro e;have e:=Option.some.inj e;rcases fW with c | c;{exact hv kv (by simp) (by rw[c,e])};{omega}};rcases hm with rfl | rfl | rfl | rfl;all_goals first | exact A8 | exact hv _ (by simp)};refine Below.setCell ?_ h.ge _;exact((r_.alloc (by have:=h.ge;omega) o).grown hg (by simp;have:=h.ge;omega) (fun k hk=>hB k hk))
theorem iw.v (h:iw bt B t tv sv kv pv wr){o:Obj}{gn n2 lq:Nat}{v2:Value}{x:Nat×Int}(hv:v2=s_ gn 0 n2 lq)(hg:(wr.alloc o).grownBy w2 pv.ownBlock)(ho:lZ w2 B v2 (t.v++[x]))(fW:pv.ownBlock=some gn\/gn=wr.heap.size+1) :
  iw bt B ⟨t.d,t.y,t.p,t.v++[x],t.h⟩ tv sv kv v2 (w2.setCell (a_ bt 3) v2)/\Below B wr (w2.setCell (a_ bt 3) v2)/\gZ bt [tv,sv,kv,pv] [tv,sv,kv,v2] wr (w2.setCell (a_ bt 3) v2):=by
 have cY:∀ k,k<wr.heap.size->pv.ownBlock≠some k->w2.heap[k]? = wr.heap[k]?:=fun k hk eh=>by
  rw[hg.block k (by simp;omega) (fun e=>eh e.symm)];exact Below.heap_alloc wr o k hk
 have we:=h.row.lt;have hs:∀ k,k≠bt->(w2.setCell (a_ bt 3) v2).heap[k]? = w2.heap[k]?:=fun k hk=>zbg w2 (a_ bt 3) k _ hk;have bj:v2.ownBlock=some gn:=by rw[hv];rfl
 have KE:v2.ownBlock≠some bt:=by rw[bj];intro e;have e:=Option.some.inj e;rcases fW with c | c;{exact h.bp (by rw[c,e])};{omega}
 have new:∀{u:Value},rh u pv->(∀ k,u.ownBlock=some k->k<wr.heap.size)->rh u v2:=fun {u} hd hl k h1 h2=>by
  rw[bj]at h2;have e:=Option.some.inj h2;rcases fW with c | c;{exact hd k h1 (by rw[c,e])};{have:=hl k h1;omega}
 have hB:∀ k,pv.ownBlock=some k->B<=k:=fun k hk=>(h.pu.lt' k hk).1;refine⟨{
  ge:=h.ge
  row:=((h.row.of_block (cY bt we h.bp)).set 3 _).congr (fun j hj=>by
   have hc:j=0\/j=1\/j=2\/j=3\/j=4:=by omega
   rcases hc with rfl | rfl | rfl | rfl | rfl<;>rfl)
  ty:=h.ty.sameBlock (fun k e=>(hs k (fun c=>h.bt0 (c ▸ e))).trans (cY k (h.ty.lt' k e).2 (h.dtp k e)))
  se:=h.se.sameBlock (fun k e=>(hs k (fun c=>h.bs (c ▸ e))).trans (cY k (h.se.lt' k e).2 (h.dsp k e)))
  ta:=h.ta.sameBlock (fun k e=>(hs k (fun c=>h.bk (c ▸ e))).trans (cY k (h.ta.lt' k e).2 (h.dkp k e)))
  pu:=ho.sameBlock (fun k e=>hs k (fun c=>KE (c ▸ e)))
  bt0:=h.bt0
  bs:=h.bs
  bk:=h.bk
  bp:=KE
  dts:=h.dts
  dtk:=h.dtk
  dtp:=new h.dtp (fun k e=>(h.ty.lt' k e).2)
  dsk:=h.dsk
  dsp:=new h.dsp (fun k e=>(h.se.lt' k e).2)
  dkp:=new h.dkp (fun k e=>(h.ta.lt' k e).2)
  },?_,?_⟩
 rotate_left;{refine⟨fun k hk hb hv=>(hs k hb).trans (cY k hk (hv _ (by simp))),fun k hk hv v hm=>?_,by have:=hg.size;simp at this ⊢;omega⟩;simp only[List.mem_cons,List.mem_nil_iff,or_false]at hm;have A8:v2.ownBlock≠some k:=by{rw[bj];intro e;have e:=Option.some.inj e;rcases fW with c | c;{exact hv pv (by simp) (by rw[c,e])};{omega}};rcases hm with rfl | rfl | rfl | rfl;all_goals first | exact A8 | exact hv _ (by simp)};refine Below.setCell ?_ h.ge _;exact((r_.alloc (by have:=h.ge;omega) o).grown hg (by simp;have:=h.ge;omega) (fun k hk=>hB k hk))
end
theorem Kd {t:TD}{reg:Nat}{kind:Int}{b:Bool}(h:b=(t.h||ba t.d reg != kind)):dK reg kind t=⟨t.d,t.y++[reg],t.p,t.v,b⟩:=by rw[h];rfl
def yi (bt B:Nat)(t:TD)(tv sv kv pv:Value)(wr:w_)(e:Ending)(w':w_):Prop:=e=.returned (.tuple #[])/\∃ OB,iw bt B t tv OB kv pv w'/\Below B wr w'/\gZ bt [tv,sv,kv,pv] [tv,OB,kv,pv] wr w'
theorem Mx (bt B:Nat)(t:TD)(tv sv kv pv:Value)(reg:Nat)(kind:Int)(wr:w_)(h:iw bt B t tv sv kv pv wr)(pp:reg<t.d.length)(aO:t.d.length<=250)(wi:t.y.length<=1000) :
  c_ 146 #[.pointer (some (a_ bt 0)),i_ (reg:Int),i_ kind] wr (yi bt B (dK reg kind t) tv sv kv pv wr):=by
 obtain⟨i0,hi,dE,cS,dA⟩:=aM dR;obtain⟨g,cap,rfl,xi,wq,aC⟩:=h.ty.at (by omega);have cr:=aC reg pp;obtain⟨c0,c1,c2,c3,c4⟩:=h.cells;have z4:=h.row.frozen 4;have hl:=h.row.lt;have wl:H_ (∀ b,b=(t.h||ba t.d reg != kind)->iw bt B ⟨t.d,t.y,t.p,t.v,b⟩ (s_ g 0 t.d.length cap) sv kv pv (wr.setCell (a_ bt 4) (.bool b))/\dK reg kind t=⟨t.d,t.y++[reg],t.p,t.v,b⟩):=fun b hb=>⟨h.flag b,Kd hb⟩;have Tl:H_ (∀ v,Below B wr (wr.setCell (a_ bt 4) v)):=fun v=>r_.setCell h.ge _;have gU:H_ (ba t.d reg=t.d[reg]?.getD 0):=rfl;have vd:H_ ((aG t.y).length<=1048576):=by show _<=_;rw[aZ];omega
 have Rf:=af h.ge;clear aC h;obtain⟨ty,ey⟩:∃ ty,t.d[reg]?.getD 0=ty:=⟨_,rfl⟩;rw[ey]at cr gU;clear ey;have Oh:(reg:Int)<t.d.length:=by omega
 obtain⟨nt,BL⟩:∃ nt,t.d.length=nt:=⟨_,rfl⟩;rw[BL]at wl pp aO Oh;rw[BL];rw[BL]at c0;have KEY:∀ b,b=(t.h||ba t.d reg != kind)->True:=fun _ _=>trivial;go_enter Tryz.func146,Tryz.ntmps146;obtain⟨b,hb⟩:∃ b,b=(t.h||ba t.d reg != kind):=⟨_,rfl⟩;obtain⟨hF,hE⟩:=aa wl b hb;have HF:=af hF;have HE:=af hE;rw[gU.o]at hb;clear hF hE wl KEY BL;have h3:(t.h=false/\ty=kind)\/(t.h=false/\ty≠kind)\/t.h=true:=by
  by_cases hk:ty=kind<;>cases t.h<;>simp[hk]
 refine h3.elim (fun h=>?p1) (fun h=>h.elim (fun h=>?p2) (fun h=>?p3));(case' p1=>obtain⟨hw,hk⟩:=h;rw[hw]at hb c4;have jz:b=false:=by{rw[hb,hk];simp};subst jz;have eh:(ty != kind)=false:=by{simpa using hk};subst hk;clear hb hw h3;go_upto_region 1 with fail;clear c0 c1 c2 c3 c4 z4 cr;have dL:=af (aa Tl (.bool false));have rB:H_ (gZ bt [s_ g 0 nt cap,sv,kv,pv] [s_ g 0 nt cap,sv,kv,pv] wr (wr.setCell (a_ bt 4) (.bool false))):=gZ.setBox _;clear Tl;generalize wr.setCell (a_ bt 4) (.bool false)=w1 at *);(case' p2=>obtain⟨hw,hk⟩:=h;rw[hw]at hb c4;have jz:b=true:=by{rw[hb];simpa using hk};subst jz;have eh:(ty != kind)=true:=by{simpa using hk};clear hb hw hk h3;go_upto_region 1 with fail;clear c0 c1 c2 c3 c4 z4 cr;have dL:=af (aa Tl (.bool true));have rB:H_ (gZ bt [s_ g 0 nt cap,sv,kv,pv] [s_ g 0 nt cap,sv,kv,pv] wr (wr.setCell (a_ bt 4) (.bool true))):=gZ.setBox _;clear Tl;generalize wr.setCell (a_ bt 4) (.bool true)=w1 at *);(case' p3=>rw[h]at hb c4;have jz:b=true:=by{rw[hb];rfl};subst jz;clear hb h h3;go_upto_region 1 with fail;clear c0 c1 c2 c3 c4 z4 cr;have dL:=af (aa Tl (.bool true));have rB:H_ (gZ bt [s_ g 0 nt cap,sv,kv,pv] [s_ g 0 nt cap,sv,kv,pv] wr (wr.setCell (a_ bt 4) (.bool true))):=gZ.setBox _;clear Tl;generalize wr.setCell (a_ bt 4) (.bool true)=w1 at *);all_goals
  obtain⟨c0,c1,c2,c3,c4⟩:=(aa HF).cells;have TI:=(aa HF).row.lt;clear c0 c2 c3 c4;go_wp2_with (first
   | (at_builtin;refine wpList_append_lies _ rfl _ _ 70 rfl B 3 i0 (i_ 0) 1 8 Tryz.underlying70 hi dE cS dA rfl (by decide) _ _ _ rfl ((aa HF).se.alloc _) (a_ w1.heap.size 0) 1 1 [i_ (reg:Int)] rfl rfl ?c1 ?c2 (by decide) ?c3 ?c4 ?c5 (w1.heap.size+1) (by simp) ?_)
   | go_in)
  all_goals try (case c1=>
   intro j u hj
   match j,hj with
   | 0,hj=>simp at hj;subst hj;simp[Addr.add,go_sem])
  (all_goals try (case c2=>first | rfl | (intro u hu;simp at hu;subst hu;rfl)));(all_goals try (case c3=>have:=vd.o;unfold maxLen;omega));(all_goals try (case c4=>have:=vd.o;omega));(all_goals try (case c5=>first | omega | (simp;omega) | (have:=Rf.o;simp;omega)));intro g3 cap3 w3 hown3 hgrow3 hat3 hlt3;have O3:H_ (ao w3 B (s_ g3 0 ((aG t.y).length+1) cap3) (aG (t.y++[reg]))):=by{show ao _ _ _ _;rw[fZ];exact ao.push hown3};have eL:=(aa HF).y (x:=reg) rfl hgrow3 (aa O3) (by simpa using hat3);have bl:w3.heap[bt]? = w1.heap[bt]?:=by{rw[hgrow3.block bt (by simp;omega) (fun e=>(aa HF).bs e.symm)];exact Below.heap_alloc w1 _ bt TI};have s1:w3.cell? (a_ bt 1)=some sv:=(zbe (a:=(a_ bt 1)) bl).trans c1;have z1:w3.frozen? (a_ bt 1)=false:=((aa HF).row.of_block bl).frozen 1;have Ya:bt<w3.heap.size:=zbd _ _ s1;have nJ:=af eL;clear eL bl hown3 hgrow3 hat3 O3 c1;go_wp2;go_end0;exact⟨rfl,_,by rw[HE.o];exact(aa nJ).1,dL.o.trans (aa nJ).2.1,rB.o.trans (aa nJ).2.2⟩
def Qx (x:Int)(l:List Int)(w:w_)(e:Ending)(w':w_):Prop:=∃ k:Int,e=.returned (i_ k)/\(0<=k↔x∈l)/\w'=w
theorem GM (x:Int)(l:List Int)(a:o_)(c:Nat)(S:Nat->Prop)(w:w_)(hs:aQ w S a l)(hl:l.length<=1000000):c_ 162 #[.slice a l.length c,i_ x] w (Qx x l w):=by
 have HS:=af hs;clear hs;go_enter Tryz.func162,Tryz.ntmps162;go_wp2
 go_loopg [8] l.length (fun gg i wr=>∃ q:Nat,q+gg=l.length/\i=i_ q/\wr=w/\H_ (∀ j,j<q->l[j]?.getD 0≠x));(case atStart=>exact⟨0,by omega,rfl,rfl,fun j h=>zcc h (bW _)⟩);case round=>obtain⟨q,hq,rfl,rfl,bK⟩:=hrel;by_cases au:q<l.length;{obtain⟨b,off,rfl,_,hc⟩:=(aa HS).2 (by omega);have cq:=hc q au;have hm:l[q]?.getD 0∈l:=by{rw[g_ au];exact zab au};have HM:=af hm;have HX:H_ (l[q]?.getD 0≠x->∀ j,j<q+1->l[j]?.getD 0≠x):=fun h j hj=>by{by_cases e:j=q;{subst e;exact h};{exact bK.o j (by omega)}};clear hc hm bK;generalize l[q]?.getD 0=y at *;by_cases hy:x=y;{subst hy;have hb:(x==x)=true:=by{simp};go_wp2;go_ret;exact⟨q,rfl,⟨fun _=>HM.o,fun _=>by omega⟩,rfl⟩};{have hb:(x==y)=false:=by{simpa using hy};have NX:=af (aa HX (fun e=>hy e.symm));clear hy HX;go_wp2;go_roundg (l.length-(q+1));(case measure=>omega);case rel=>exact⟨q+1,by omega,by go_num,rfl,NX⟩}};{have HNO:H_ (¬x∈l):=fun hm=>by{obtain⟨j,hj,e⟩:=zaf hm;have:=bK.o j (by omega);rw[g_ hj]at this;exact this e};go_wp2;go_ret;exact⟨-1,rfl,⟨fun h=>zcc h (by omega),fun h=>zcc h HNO.o⟩,rfl⟩}
theorem yH (x:Int)(l:List Int)(a:o_)(c:Nat)(S:Nat->Prop)(w:w_)(hs:aQ w S a l)(hl:l.length<=1000000):c_ 160 #[.slice a l.length c,i_ x] w fun e w'=>e=.returned (.bool (l.contains x))/\w'=w:=by
 go_enter Tryz.func160,Tryz.ntmps160;go_wp2_with fail;refine(GM x l a c S w hs hl).mono ?_;rintro e w1 ⟨k,rfl,hk,rfl⟩;have hb:l.contains x=decide (0<=k):=by{rw[Bool.eq_iff_iff];simp[hk]};have HB:=af hb;clear hb hk;by_cases h0:0<=k;{have HC:H_ (l.contains x=true):=by{show _=_;rw[HB.o];exact zbb h0};clear HB;go_wp2;go_ret;exact⟨by rw[HC.o];rfl,rfl⟩};{have HC:H_ (l.contains x=false):=by{show _=_;rw[HB.o];exact zba h0};clear HB;go_wp2;go_ret;exact⟨by rw[HC.o];show Ending.returned (.bool (decide (0<=k)))=_;rw[zba (by omega)],rfl⟩}
def EC (bt B:Nat)(t:TD)(tv sv kv pv:Value)(wr:w_)(e:Ending)(w':w_):Prop:=e=.returned (.tuple #[])/\∃ iO,iw bt B t tv sv kv iO w'/\Below B wr w'/\gZ bt [tv,sv,kv,pv] [tv,sv,kv,iO] wr w'
theorem MX (bt B:Nat)(t:TD)(tv sv kv pv:Value)(reg:Nat)(kind:Int)(wr:w_)(h:iw bt B t tv sv kv pv wr)(ry:t.v.length<=1000) :
  c_ 157 #[.pointer (some (a_ bt 0)),i_ (reg:Int),i_ kind] wr (EC bt B (pC reg kind t) tv sv kv pv wr):=by
 obtain⟨i0,hi,dE,cS,dA⟩:=aM Mh;obtain⟨c0,c1,c2,c3,c4⟩:=h.cells;have hl:=h.row.lt;have HF:=af h;have Rf:=af h.ge;clear c0 c1 c2 c4 h;go_enter Tryz.func157,Tryz.ntmps157;go_wp2_with (first
  | (at_builtin;refine wpList_append_lies _ rfl _ _ 172 rfl B 205 i0 (.agg #[i_ 0,i_ 0]) 2 16 Tryz.underlying172 hi dE cS dA rfl (by decide) _ _ _ rfl ((aa HF).pu.alloc _) (a_ wr.heap.size 0) 1 1 [i_ (reg:Int),i_ kind] rfl rfl ?c1 ?c2 (by decide) ?c3 ?c4 ?c5 (wr.heap.size+1) (by simp) ?_)
  | go_in)
 (all_goals try (case c1=>intro j u hj;rcases j with _ | _ | _<;>simp at hj<;>(subst hj;simp[Addr.add,go_sem])));(all_goals try (case c2=>first | rfl | (intro u hu;simp at hu;rcases hu with rfl | rfl<;>rfl)));(all_goals try (case c3=>unfold maxLen;omega));(all_goals try (case c4=>omega));(all_goals try (case c5=>first | omega | (simp;omega) | (have:=Rf.o;simp;omega)));intro g3 cap3 w3 hown3 hgrow3 hat3 hlt3;have O3:H_ (lZ w3 B (s_ g3 0 (t.v.length+1) cap3) (t.v++[(reg,kind)])):=lZ.push hown3;have eL:=(aa HF).v (x:=(reg,kind)) rfl hgrow3 (aa O3) (by simpa using hat3);have bl:w3.heap[bt]? = wr.heap[bt]?:=by{rw[hgrow3.block bt (by simp;omega) (fun e=>(aa HF).bp e.symm)];exact Below.heap_alloc wr _ bt hl};have s3:w3.cell? (a_ bt 3)=some pv:=(zbe (a:=(a_ bt 3)) bl).trans c3;have z3:w3.frozen? (a_ bt 3)=false:=((aa HF).row.of_block bl).frozen 3;have Ya:bt<w3.heap.size:=zbd _ _ s3;have nJ:=af eL;clear eL bl hown3 hgrow3 hat3 O3 c3;go_wp2;go_end0;exact⟨rfl,_,(aa nJ).1,(aa nJ).2.1,(aa nJ).2.2⟩
def xF (bt B:Nat)(t:TD)(tv sv kv pv:Value)(wr:w_)(e:Ending)(w':w_):Prop:=e=.returned (.tuple #[])/\∃ Rh,iw bt B t tv sv Rh pv w'/\Below B wr w'/\gZ bt [tv,sv,kv,pv] [tv,sv,Rh,pv] wr w'
theorem Cq (bt B:Nat)(t:TD)(tv sv kv pv:Value)(reg:Nat)(kind:Int)(wr:w_)(h:iw bt B t tv sv kv pv wr)(pp:reg<t.d.length)(aO:t.d.length<=250) :
  c_ 156 #[.pointer (some (a_ bt 0)),i_ (reg:Int),i_ kind] wr (xF bt B (gL (reg:Int) kind t) tv sv kv pv wr):=by
 have gU:H_ (ba t.d reg=t.d[reg]?.getD 0):=rfl;obtain⟨g,cap,rfl,xi,wq,aC⟩:=h.ty.at (by omega);have cr:=aC reg pp;obtain⟨c0,c1,c2,c3,c4⟩:=h.cells;have z4:=h.row.frozen 4;have hl:=h.row.lt;have HE:H_ (∀ b,b=(t.h||ba t.d reg != kind)->gL (reg:Int) kind t=⟨t.d,t.y,t.p,t.v,b⟩):=fun b hb=>by unfold gL;rw[zca (by omega),hb];rfl
 have wl:H_ (∀ b,iw bt B ⟨t.d,t.y,t.p,t.v,b⟩ (s_ g 0 t.d.length cap) sv kv pv (wr.setCell (a_ bt 4) (.bool b))/\Below B wr (wr.setCell (a_ bt 4) (.bool b))):=fun b=>⟨h.flag b,r_.setCell h.ge _⟩;clear aC h c1 c2 c3;obtain⟨ty,ey⟩:∃ ty,t.d[reg]?.getD 0=ty:=⟨_,rfl⟩;rw[ey]at cr gU;clear ey;have Oh:(reg:Int)<t.d.length:=by omega
 obtain⟨nt,BL⟩:∃ nt,t.d.length=nt:=⟨_,rfl⟩;rw[BL]at wl pp aO Oh c0;rw[BL];clear BL;rw[gU.o]at HE;go_enter Tryz.func156,Tryz.ntmps156;cases hw:t.h
 {rw[hw]at HE c4;by_cases hk:ty=kind;{have eh:(ty != kind)=false:=by{simpa using hk};subst hk;have qw:=af (aa HE false (by simp));clear HE hw;go_wp2_with fail;exact zcd (results_none rfl _ _ _) rfl ⟨rfl,kv,by rw[qw.o];exact(aa wl false).1,(aa wl false).2,gZ.setBox _⟩};{have eh:(ty != kind)=true:=by{simpa using hk};have qw:=af (aa HE true (by simp[eh]));clear HE hw hk;go_wp2_with fail;exact zcd (results_none rfl _ _ _) rfl ⟨rfl,kv,by rw[qw.o];exact(aa wl true).1,(aa wl true).2,gZ.setBox _⟩}};{rw[hw]at HE c4;have qw:=af (aa HE true (by simp));clear HE hw;go_wp2_with fail;exact zcd (results_none rfl _ _ _) rfl ⟨rfl,kv,by rw[qw.o];exact(aa wl true).1,(aa wl true).2,gZ.setBox _⟩}
theorem vJ (l:List Nat)(x:Nat):(aG l).contains (x:Int)=l.contains x:=by
 rw[Bool.eq_iff_iff];simp only[List.contains_iff_mem,aG,List.mem_map];constructor;{rintro⟨y,hy,e⟩;have:y=x:=Int.ofNat.inj e;rw[<-this];exact hy};{intro h;exact⟨x,h,rfl⟩}
theorem Dm (bt B:Nat)(t:TD)(tv sv kv pv:Value)(x:Int)(reg:Nat)(kind:Int)(wr:w_)(h:iw bt B t tv sv kv pv wr)(hx:x<0)(pk:(-1:Int)-x=reg)(pp:reg<t.d.length)(aO:t.d.length<=250)(wi:t.y.length<=1000)(KH:t.p.length<=1000) :
  c_ 156 #[.pointer (some (a_ bt 0)),i_ x,i_ kind] wr (xF bt B (gL x kind t) tv sv kv pv wr):=by
 obtain⟨i0,hi,dE,cS,dA⟩:=aM dR;have gU:H_ (ba t.d reg=t.d[reg]?.getD 0):=rfl;obtain⟨g,cap,rfl,xi,wq,aC⟩:=h.ty.at (by omega);obtain⟨sa,sc,eS,iS⟩:=h.se.ints (by rw[aZ];omega);rw[aZ]at eS;subst eS;have cr:=aC reg pp;obtain⟨c0,c1,c2,c3,c4⟩:=h.cells;have z4:=h.row.frozen 4;have hl:=h.row.lt;have HE:H_ (∀ b,b=(t.h||ba t.d reg != kind||t.y.contains reg)->gL x kind t=⟨t.d.set reg 0,t.y,t.p++[reg],t.v,b⟩):=fun b hb=>by{unfold gL;rw[zcb (by omega),show(-1-x).toNat=reg by omega,hb]};have wl:H_ (∀ b,iw bt B ⟨t.d,t.y,t.p,t.v,b⟩ (s_ g 0 t.d.length cap) (.slice sa t.y.length sc) kv pv (wr.setCell (a_ bt 4) (.bool b))/\Below B wr (wr.setCell (a_ bt 4) (.bool b))):=fun b=>⟨h.flag b,r_.setCell h.ge _⟩;have CT:H_ (c_ 160 #[.slice sa t.y.length sc,i_ (reg:Int)] wr fun e w'=>e=.returned (.bool (t.y.contains reg))/\w'=wr):=by{have hh:=yH (reg:Int) (aG t.y) sa sc _ wr iS (by rw[aZ];omega);rw[aZ,vJ]at hh;exact hh};have vd:H_ ((aG t.p).length<=1048576):=by show _<=_;rw[aZ];omega
 have Rf:=af h.ge;have HGB:H_ (B<=g):=xi;clear aC h c2 c3 iS;obtain⟨ty,ey⟩:∃ ty,t.d[reg]?.getD 0=ty:=⟨_,rfl⟩;rw[ey]at cr gU;clear ey;have Oh:(reg:Int)<t.d.length:=by omega
 obtain⟨nt,BL⟩:∃ nt,t.d.length=nt:=⟨_,rfl⟩;have Ti:=af BL;rw[BL]at wl pp aO Oh c0;rw[BL];clear BL;rw[gU.o]at HE;go_enter Tryz.func156,Tryz.ntmps156;have h4:(t.h=false/\ty=kind/\t.y.contains reg=false)\/(t.h=false/\ty=kind/\t.y.contains reg=true)\/(t.h=false/\ty≠kind)\/t.h=true:=by
  by_cases hk:ty=kind<;>cases t.h<;>cases t.y.contains reg<;>simp[hk]
 refine h4.elim (fun h=>?p1) (fun h=>h.elim (fun h=>?p2) (fun h=>h.elim (fun h=>?p3) (fun h=>?p4)));(case' p1=>obtain⟨hw,hk,hc⟩:=h;have eh:(ty != kind)=false:=by{simpa using hk};rw[hw,hc]at HE;rw[hw]at c4;rw[hc]at CT;subst hk;have qw:=af (aa HE false (by simp));clear HE hw hc h4;go_wp2_with fail;refine(aa CT).mono ?_;rintro e w0 ⟨rfl,Xu⟩;rw[Xu];clear Xu;go_upto_region 4 with fail;clear c0 c1 c4 z4 cr CT;obtain⟨hF,zh⟩:=aa wl false;have HF:=af hF;have dL:=af zh;have rB:H_ (gZ bt [s_ g 0 nt cap,.slice sa t.y.length sc,kv,pv] [s_ g 0 nt cap,.slice sa t.y.length sc,kv,pv] wr (wr.setCell (a_ bt 4) (.bool false))):=gZ.setBox _;clear hF zh wl;generalize wr.setCell (a_ bt 4) (.bool false)=w1 at *);(case' p2=>obtain⟨hw,hk,hc⟩:=h;have eh:(ty != kind)=false:=by{simpa using hk};rw[hw,hc]at HE;rw[hw]at c4;rw[hc]at CT;subst hk;have qw:=af (aa HE true (by simp));clear HE hw hc h4;go_wp2_with fail;refine(aa CT).mono ?_;rintro e w0 ⟨rfl,Xu⟩;rw[Xu];clear Xu;go_upto_region 4 with fail;clear c0 c1 c4 z4 cr CT;obtain⟨hF,zh⟩:=aa wl true;have HF:=af hF;have dL:=af zh;have rB:H_ (gZ bt [s_ g 0 nt cap,.slice sa t.y.length sc,kv,pv] [s_ g 0 nt cap,.slice sa t.y.length sc,kv,pv] wr (wr.setCell (a_ bt 4) (.bool true))):=gZ.setBox _;clear hF zh wl;generalize wr.setCell (a_ bt 4) (.bool true)=w1 at *);(case' p3=>obtain⟨hw,hk⟩:=h;have eh:(ty != kind)=true:=by{simpa using hk};rw[hw]at HE c4;have qw:=af (aa HE true (by simp[eh]));clear HE hw hk h4;go_upto_region 4 with fail;clear c0 c1 c4 z4 cr CT;obtain⟨hF,zh⟩:=aa wl true;have HF:=af hF;have dL:=af zh;have rB:H_ (gZ bt [s_ g 0 nt cap,.slice sa t.y.length sc,kv,pv] [s_ g 0 nt cap,.slice sa t.y.length sc,kv,pv] wr (wr.setCell (a_ bt 4) (.bool true))):=gZ.setBox _;clear hF zh wl;generalize wr.setCell (a_ bt 4) (.bool true)=w1 at *);(case' p4=>rw[h]at HE c4;have qw:=af (aa HE true (by simp));clear HE h h4;go_upto_region 4 with fail;clear c0 c1 c4 z4 cr CT;obtain⟨hF,zh⟩:=aa wl true;have HF:=af hF;have dL:=af zh;have rB:H_ (gZ bt [s_ g 0 nt cap,.slice sa t.y.length sc,kv,pv] [s_ g 0 nt cap,.slice sa t.y.length sc,kv,pv] wr (wr.setCell (a_ bt 4) (.bool true))):=gZ.setBox _;clear hF zh wl;generalize wr.setCell (a_ bt 4) (.bool true)=w1 at *);all_goals
  obtain⟨c0,c1,c2,c3,c4⟩:=(aa HF).cells;have TI:=(aa HF).row.lt;clear c1 c3 c4;go_wp2_with (first
   | (at_builtin;refine wpList_append_lies _ rfl _ _ 70 rfl B 3 i0 (i_ 0) 1 8 Tryz.underlying70 hi dE cS dA rfl (by decide) _ _ _ rfl ((aa HF).ta.alloc _) (a_ w1.heap.size 0) 1 1 [i_ (reg:Int)] rfl rfl ?c1 ?c2 (by decide) ?c3 ?c4 ?c5 (w1.heap.size+1) (by simp) ?_)
   | go_in)
  all_goals try (case c1=>
   intro j u hj
   match j,hj with
   | 0,hj=>simp at hj;subst hj;simp[Addr.add,go_sem])
  (all_goals try (case c2=>first | rfl | (intro u hu;simp at hu;subst hu;rfl)));(all_goals try (case c3=>have:=vd.o;unfold maxLen;omega));(all_goals try (case c4=>have:=vd.o;omega));(all_goals try (case c5=>first | omega | (simp;omega) | (have:=Rf.o;simp;omega)));intro g3 cap3 w3 hown3 hgrow3 hat3 hlt3;have O3:H_ (ao w3 B (s_ g3 0 ((aG t.p).length+1) cap3) (aG (t.p++[reg]))):=by{show ao _ _ _ _;rw[fZ];exact ao.push hown3};obtain⟨eL,RQ,Pr⟩:=(aa HF).p (x:=reg) rfl hgrow3 (aa O3) (by simpa using hat3);have bl:w3.heap[bt]? = w1.heap[bt]?:=by{rw[hgrow3.block bt (by simp;omega) (fun e=>(aa HF).bk e.symm)];exact Below.heap_alloc w1 _ bt TI};have s2:w3.cell? (a_ bt 2)=some kv:=(zbe (a:=(a_ bt 2)) bl).trans c2;have z2:w3.frozen? (a_ bt 2)=false:=((aa HF).row.of_block bl).frozen 2;have Ya:bt<w3.heap.size:=zbd _ _ s2;have nJ:=af eL;have Zf:=af RQ;have aaa:=af Pr;clear eL RQ Pr bl hown3 hgrow3 hat3 O3 c0 c2;go_upto_region 5 with fail;clear s2 z2 Ya;generalize w3.setCell (a_ bt 2) (s_ g3 0 ((aG t.p).length+1) cap3)=w4 at *;obtain⟨c0,c1,c2,c3,c4⟩:=(aa nJ).cells;have hl4:=(aa nJ).row.lt;obtain⟨g',iL,jE,_,fl,aC⟩:=(aa nJ).ty.at (by show 0<t.d.length;have:=Ti.o;omega);have gP:g'=g:=by{injection jE with h;injection h with h;exact(congrArg Addr.block h).symm};have cr:=aC reg (by show reg<t.d.length;have:=Ti.o;omega);rw[gP]at cr fl;have zr:=(aa nJ).ty.frozen Ti.o.symm reg;have WO:=af ((aa nJ).setType Ti.o.symm reg 0);clear c1 c2 c3 c4 jE aC gP;go_wp2;go_end0;exact⟨rfl,_,by rw[qw.o];exact aa WO,(dL.o.trans (aa Zf)).trans (r_.setCell HGB.o _),(rB.o.trans aaa.o).trans (gZ.setRow (n:=nt) (cap:=cap) _ (by simp))⟩
end Go.Proofs.YtcjfjflljdojlaaGreatDoor
