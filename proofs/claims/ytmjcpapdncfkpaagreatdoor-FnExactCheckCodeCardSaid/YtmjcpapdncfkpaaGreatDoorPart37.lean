import Derived.Test.YtmjcpapdncfkpaaGreatDoorPart36
import Derived.Test.YtmjcpapdncfkpaaGreatDoorPart25
import Derived.Test.YtmjcpapdncfkpaaGreatDoorPart32
import Derived.Deep.Cut
import Derived.Deep.LoopGhost
set_option linter.unusedSimpArgs false
set_option linter.unusedVariables false
set_option maxHeartbeats 4000000
set_option maxRecDepth 100000
namespace Go.Proofs.YtmjcpapdncfkpaaGreatDoor
theorem touch_puts {l:List ProtoD}{n:InsD}(h1:1≤n.op)(h2:n.op≤42)(ty t0:List Int):putsT (readsT l n ty).puts t0 (readsT l n ty).puts.length=writeC n t0:=by
 obtain⟨op,ho⟩:∃ op:Nat,n.op=op:=⟨n.op.toNat,by omega⟩
 have h43:op<43:=by omega
 have hp:(readsT l n ty).puts=putsOf (iRole op 0) n.fa++putsOf (iRole op 1) n.fb++putsOf (iRole op 2) n.fc++putsOf (iRole op 3) n.fd:=by
  have hf:=fieldsT_puts ho h43 (start ty)
  have e:(start ty).puts=[]:=rfl
  rw[e,List.nil_append]at hf
  unfold readsT
  split
  ·rw[(upsT_puts _ _ _).1];exact hf
  ·exact hf
 exact puts_write ho h43 (by omega) t0 _ hp
theorem touch_wrong {l:List ProtoD}{n:InsD}(h1:1≤n.op)(h2:n.op≤42)(ty:List Int):(touchT l n ty).wrong=true↔readC l n ty=none:=by
 have h:=trelW_reads (l:=l) h1 h2 ty
 show(readsT l n ty).wrong=true↔_
 cases e:readC l n ty with
 | none=>rw[e]at h;exact⟨fun _=>rfl,fun _=>h⟩
 | some s=>rw[e]at h;exact⟨(fun hw=>by rw[h.1]at hw;cases hw),(fun hh=>by cases hh)⟩
theorem touch_is {l:List ProtoD}{n:InsD}(h1:1≤n.op)(h2:n.op≤42){ty:List Int}{r:RdS}(hr:readC l n ty=some r):(touchT l n ty).wrong=false∧(touchT l n ty).types=writeC n r.types∧(touchT l n ty).taken=r.taken:=by
 have h:=trelW_reads (l:=l) h1 h2 ty
 rw[hr]at h
 refine⟨h.1,?_,h.2.2⟩
 show putsT (readsT l n ty).puts (readsT l n ty).types (readsT l n ty).puts.length=_
 rw[touch_puts h1 h2,h.2.1]
def highTo (g:List GuD):Nat→Int
 | 0=>0
 | k+1=>if(g[k]?.getD GuD.z).tr then max (highTo g k) (g[k]?.getD GuD.z).keep else highTo g k
def highI (g:List GuD):Int:=highTo g g.length
theorem high_nonneg (g:List GuD):∀ k,0≤highTo g k
 | 0=>Int.le_refl _
 | k+1=>by
  have:=high_nonneg g k
  unfold highTo
  split<;>omega
theorem high_ge (g:List GuD):∀ k i,i<k→(g[i]?.getD GuD.z).tr=true→(g[i]?.getD GuD.z).keep≤highTo g k
 | 0,i,h,_=>absurd h (Nat.not_lt_zero _)
 | k+1,i,h,ht=>by
  unfold highTo
  by_cases e:i=k
  ·subst e;rw[if_pos ht];omega
  ·have:=high_ge g k i (by omega) ht
   split<;>omega
theorem high_is (g:List GuD):∀ k,highTo g k=0∨∃ i,i<k∧(g[i]?.getD GuD.z).tr=true∧highTo g k=(g[i]?.getD GuD.z).keep
 | 0=>.inl rfl
 | k+1=>by
  unfold highTo
  by_cases c:(g[k]?.getD GuD.z).tr=true
  ·rw[if_pos c]
   by_cases m:highTo g k≤(g[k]?.getD GuD.z).keep
   ·exact .inr ⟨k,by omega,c,by omega⟩
   ·rw[show max (highTo g k) (g[k]?.getD GuD.z).keep=highTo g k by omega]
    rcases high_is g k with h | ⟨i,h1,h2,h3⟩
    ·exact .inl h
    ·exact .inr ⟨i,by omega,h2,h3⟩
  ·rw[if_neg c]
   rcases high_is g k with h | ⟨i,h1,h2,h3⟩
   ·exact .inl h
   ·exact .inr ⟨i,by omega,h2,h3⟩
theorem high_le {g:List GuD}{R:Nat}(hk:∀ i,i<g.length→(g[i]?.getD GuD.z).keep≤R):highI g≤R:=by
 unfold highI
 rcases high_is g g.length with h | ⟨i,h1,_,h3⟩
 ·rw[h];omega
 ·rw[h3];exact hk i h1
def keepsI (g:List GuD)(taken:List Nat)(bef beh:List Int):Prop:=(∀ r,r∈taken→¬(r:Int)<highI g)∧∀ r:Nat,(r:Int)<highI g→tyAt bef r=tyAt beh r
theorem kept_keeps {n:InsD}{g:List GuD}{taken:List Nat}{bef beh:List Int}(h32:n.op=32→beh=bef):keptC n g taken bef beh=true↔keepsI g taken bef beh:=by
 rw[keptC_iff]
 constructor
 ·intro h
  refine⟨fun r hr hlt=>?_,fun r hlt=>?_⟩
  ·rcases high_is g g.length with e | ⟨i,h1,h2,h3⟩
   ·unfold highI at hlt;omega
   ·have:=(h i h1 h2).1 r hr
    unfold highI at hlt
    rw[h3]at hlt
    exact this hlt
  ·rcases high_is g g.length with e | ⟨i,h1,h2,h3⟩
   ·unfold highI at hlt;omega
   ·unfold highI at hlt
    rw[h3]at hlt
    rcases(h i h1 h2).2 with c | c
    ·rw[h32 c.1]
    ·exact c r hlt
 ·rintro⟨h1,h2⟩ i hi ht
  have hg:=high_ge g g.length i hi ht
  refine⟨fun r hr hlt=>h1 r hr ?_,.inr fun r hlt=>h2 r ?_⟩
  ·unfold highI;omega
  ·unfold highI;omega
def lastG (g:List GuD):GuD:=g[g.length-1]?.getD GuD.z
def allowI (n:InsD)(g:List GuD):Bool:=
 if n.op=31 then decide ((g.length:Int)<50)&&decide (highI g≤n.fb)
 else if n.op=33 then decide ((g.length:Int)<50)&&decide (highI g≤n.fa)
 else if n.op=34 then(decide (0<g.length) && !(lastG g).tr)&&decide (highI g≤n.fa)
 else if n.op=35∨n.op=36 then decide (0<g.length) && !(lastG g).tr
 else if n.op=32 then decide (0<g.length)&&(lastG g).tr
 else true
def behindI (n:InsD)(g:List GuD):List GuD:=
 if n.op=31 then g++[⟨true,n.fb,n.fa⟩]
 else if n.op=33 then g++[⟨false,n.fa,0⟩]
 else if n.op=34 then g.set (g.length-1) { lastG g with keep:=n.fa }
 else if n.op=32∨n.op=36 then g.take (g.length-1)
 else g
theorem above_high {g:List GuD}{x:Int}(hx:0≤x):aboveC g x=decide (highI g≤x):=by
 rw[Bool.eq_iff_iff]
 unfold aboveC
 simp only[Bool.not_eq_true',decide_eq_true_eq]
 constructor
 ·intro h
  rcases high_is g g.length with e | ⟨i,h1,h2,h3⟩
  ·unfold highI;omega
  ·unfold highI
   rw[h3]
   by_cases c:x<(g[i]?.getD GuD.z).keep
   ·exfalso
    have:(g.any fun y=>y.tr&&decide (x<y.keep))=true:=by
     rw[List.any_eq_true]
     refine⟨g[i]?.getD GuD.z,by rw[List.getElem?_eq_getElem h1];exact List.getElem_mem h1,?_⟩
     simp[h2,c]
    rw[h]at this
    cases this
   ·omega
 ·intro h
  cases e:(g.any fun y=>y.tr&&decide (x<y.keep))with
  | false=>rfl
  | true=>
   rw[List.any_eq_true]at e
   obtain⟨y,hy,hc⟩:=e
   simp only[Bool.and_eq_true,decide_eq_true_eq]at hc
   obtain⟨i,hi,rfl⟩:=List.getElem_of_mem hy
   have hg:=high_ge g g.length i hi (by rw[List.getElem?_eq_getElem hi];exact hc.1)
   rw[List.getElem?_eq_getElem hi]at hg
   have hg:g[i].keep≤highTo g g.length:=hg
   unfold highI at h
   omega
theorem change_is {n:InsD}{g:List GuD}(hb:n.op=31→0≤n.fb)(ha:n.op=33∨n.op=34→0≤n.fa):changeC n g=if allowI n g=true then some (behindI n g)else none:=by
 unfold changeC allowI behindI
 by_cases c1:n.op=31
 ·rw[if_pos c1,if_pos c1,if_pos c1,above_high (hb c1)]
  simp only[Bool.and_eq_true,decide_eq_true_eq]
  by_cases c:g.length<50∧highI g≤n.fb
  ·rw[if_pos c,if_pos ⟨by omega,c.2⟩]
  ·rw[if_neg c,if_neg (fun h=>c ⟨by omega,h.2⟩)]
 rw[if_neg c1,if_neg c1,if_neg c1]
 by_cases c2:n.op=33
 ·rw[if_pos c2,if_pos c2,if_pos c2,above_high (ha (.inl c2))]
  simp only[Bool.and_eq_true,decide_eq_true_eq]
  by_cases c:g.length<50∧highI g≤n.fa
  ·rw[if_pos c,if_pos ⟨by omega,c.2⟩]
  ·rw[if_neg c,if_neg (fun h=>c ⟨by omega,h.2⟩)]
 rw[if_neg c2,if_neg c2,if_neg c2]
 have hpos:0<g.length↔¬g.length=0:=by omega
 by_cases c3:n.op=32
 ·cases htr:(g[g.length-1]?.getD GuD.z).tr<;>by_cases hl:g.length=0<;>simp[lastG,htr,hl,c3,hpos]
 by_cases c4:n.op=34
 ·have hab:=above_high (g:=g) (ha (.inr c4))
  by_cases hh:highI g≤n.fa
  ·rw[decide_eq_true hh]at hab
   cases htr:(g[g.length-1]?.getD GuD.z).tr<;>by_cases hl:g.length=0<;>simp[lastG,htr,hl,c4,hpos,hab,hh]
  ·rw[decide_eq_false hh]at hab
   cases htr:(g[g.length-1]?.getD GuD.z).tr<;>by_cases hl:g.length=0<;>simp[lastG,htr,hl,c4,hpos,hab,hh]
 by_cases c5:n.op=35
 ·cases htr:(g[g.length-1]?.getD GuD.z).tr<;>by_cases hl:g.length=0<;>simp[lastG,htr,hl,c5,hpos]
 by_cases c6:n.op=36
 ·cases htr:(g[g.length-1]?.getD GuD.z).tr<;>by_cases hl:g.length=0<;>simp[lastG,htr,hl,c6,hpos]
 simp[c3,c4,c5,c6]
end Go.Proofs.YtmjcpapdncfkpaaGreatDoor
namespace Go.Proofs.YtmjcpapdncfkpaaGreatDoor
open Go.RowKit
def hpV (x:Nat×Int):List Value:=[.int .i64 (x.1:Int),.int .i64 x.2]
def OwnP (w:World)(base:Nat)(v:Value)(t:List (Nat×Int)):Prop:=w.ownsRow base 170 2 v t.length (t.flatMap hpV)
theorem info_hp:(Tryz.prog.info? 170).map (fun i=>(i.zero,i.size,i.bytes))=some (some (.agg #[.int .i64 0,.int .i64 0]),2,16):=by kernel_rfl
section
variable {w w':World} {base:Nat} {v:Value} {t:List (Nat×Int)}
theorem OwnP.push {x:Nat×Int}(h:w.ownsRow base 170 2 v (t.length+1) (t.flatMap hpV++hpV x)):OwnP w base v (t++[x]):=by
 unfold OwnP
 rw[List.length_append,List.flatMap_append]
 simpa using h
theorem OwnP.sameBlock (h:OwnP w base v t)(hb:∀ k,v.ownBlock=some k→w'.heap[k]? = w.heap[k]?):OwnP w' base v t:=by
 refine⟨h.1,?_⟩
 rcases h.2 with hn | ⟨g,cap,cur,rfl,h1,hg,h2⟩
 ·exact .inl hn
 ·exact .inr ⟨g,cap,cur,rfl,h1,(hb g rfl).trans hg,h2⟩
theorem OwnP.lt' (h:OwnP w base v t)(k:Nat)(hk:v.ownBlock=some k):base≤k∧k<w.heap.size:=by
 rcases h.2 with⟨rfl,_⟩ | ⟨g,cap,cur,rfl,h1,hg,_⟩
 ·cases hk
 ·obtain rfl:g=k:=Option.some.inj hk
  exact⟨h1,(Array.getElem?_eq_some_iff.1 hg).1⟩
theorem OwnP.lenV (h:OwnP w base v t):∃ a c,v=.slice a t.length c:=by
 rcases h.2 with⟨rfl,h0⟩ | ⟨g,cap,cur,rfl,_⟩
 ·rw[h0];exact⟨none,0,rfl⟩
 ·exact⟨_,_,rfl⟩
theorem OwnP.alloc (h:OwnP w base v t)(o:Obj):OwnP (w.alloc o) base v t:=World.ownsRow.alloc h o
theorem hpV_get (t:List (Nat×Int)):∀(j i:Nat),j<t.length→i<2→(t.flatMap hpV)[j * 2+i]? = (hpV (t[j]?.getD (0,0)))[i]?:=by
 induction t with
 | nil=>intro j i hj;cases hj
 | cons x t ih=>
  intro j i hj hi
  have hlen:(hpV x).length=2:=rfl
  cases j with
  | zero=>
   rw[List.flatMap_cons,List.getElem?_append_left (by rw[hlen];omega)]
   simp
  | succ j=>
   rw[List.flatMap_cons,List.getElem?_append_right (by rw[hlen];omega),hlen,show(j+1) * 2+i-2=j * 2+i by omega]
   exact ih j i (by simpa using hj) hi
theorem OwnP.at (h:OwnP w base v t)(h0:0<t.length):∃ g cap,v=.slice (some ⟨g,0,none⟩) t.length cap∧base≤g∧g<w.heap.size∧∀ j,j<t.length→w.cell? ⟨g,j * 2,none⟩=some (.int .i64 ((t[j]?.getD (0,0)).1:Int))∧w.cell? ⟨g,j * 2+1,none⟩=some (.int .i64 (t[j]?.getD (0,0)).2):=by
 rcases h.2 with⟨_,h1⟩ | ⟨g,cap,cur,rfl,hb,hg,h2⟩
 ·omega
 ·refine⟨g,cap,rfl,hb,(Array.getElem?_eq_some_iff.1 hg).1,fun j hj=>?_⟩
  have h3:∀ i,i<2→w.cell? ⟨g,j * 2+i,none⟩=(hpV (t[j]?.getD (0,0)))[i]?:=fun i hi=>by
   rw[World.ownsRow.cellAt h (j * 2+i) (by omega),hpV_get t j i hj hi]
  exact⟨h3 0 (by omega),h3 1 (by omega)⟩
end
def Dis (u v:Value):Prop:=∀ k,u.ownBlock=some k→v.ownBlock≠some k
theorem Dis.symm {u v:Value}(h:Dis u v):Dis v u:=fun k h1 h2=>h k h2 h1
structure TcW (bt B:Nat)(t:TD)(tv sv kv pv:Value)(wr:World):Prop where
 ge:B≤bt
 row:wr.rowIs bt 133 5 (fun j=>[tv,sv,kv,pv,.bool t.wrong][j]?.getD (.bool false))
 ty:OwnI wr B tv t.types
 se:OwnI wr B sv (natI t.seen)
 ta:OwnI wr B kv (natI t.taken)
 pu:OwnP wr B pv t.puts
 bt0:tv.ownBlock≠some bt
 bs:sv.ownBlock≠some bt
 bk:kv.ownBlock≠some bt
 bp:pv.ownBlock≠some bt
 dts:Dis tv sv
 dtk:Dis tv kv
 dtp:Dis tv pv
 dsk:Dis sv kv
 dsp:Dis sv pv
 dkp:Dis kv pv
structure Frm (bt:Nat)(V V':List Value)(wr w':World):Prop where
 same:∀ k,k<wr.heap.size→k≠bt→(∀ v,v∈V→v.ownBlock≠some k)→w'.heap[k]? = wr.heap[k]?
 new:∀ k,k<wr.heap.size→(∀ v,v∈V→v.ownBlock≠some k)→∀ v,v∈V'→v.ownBlock≠some k
 size:wr.heap.size≤w'.heap.size
theorem Frm.refl (bt:Nat)(V:List Value)(w:World):Frm bt V V w w:=⟨fun _ _ _ _=>rfl,fun _ _ h=>h,Nat.le_refl _⟩
theorem Frm.trans {bt:Nat}{V V' V2:List Value}{w w' w2:World}(h:Frm bt V V' w w')(k:Frm bt V' V2 w' w2):Frm bt V V2 w w2:=
 ⟨fun i hi hb hv=>(k.same i (Nat.lt_of_lt_of_le hi h.size) hb (h.new i hi hv)).trans (h.same i hi hb hv),fun i hi hv=>k.new i (Nat.lt_of_lt_of_le hi h.size) (h.new i hi hv),Nat.le_trans h.size k.size⟩
theorem Frm.of_below {bt:Nat}{V:List Value}{w w':World}(h:Below w.heap.size w w'):Frm bt V V w w':=⟨fun k hk _ _=>h.block k hk,fun _ _ h=>h,h.size⟩
theorem Frm.setBox {bt o:Nat}{V:List Value}{w:World}(v:Value):Frm bt V V w (w.setCell ⟨bt,o,none⟩ v):=⟨fun k _ hb _=>heap_setCell_other w ⟨bt,o,none⟩ k _ hb,fun _ _ h=>h,by simp⟩
theorem Frm.setRow {bt g n cap o:Nat}{V:List Value}{w:World}(v:Value)(hg:Value.slice (some ⟨g,0,none⟩) n cap∈V):Frm bt V V w (w.setCell ⟨g,o,none⟩ v):=
 ⟨fun k _ _ hv=>heap_setCell_other w ⟨g,o,none⟩ k _ (fun e=>hv _ hg (by rw[show k=g from e];rfl)),fun _ _ h=>h,by simp⟩
section
variable {bt B:Nat} {t:TD} {tv sv kv pv:Value} {wr w2:World}
theorem TcW.cells (h:TcW bt B t tv sv kv pv wr):wr.cell? ⟨bt,0,none⟩=some tv∧wr.cell? ⟨bt,1,none⟩=some sv∧wr.cell? ⟨bt,2,none⟩=some kv∧wr.cell? ⟨bt,3,none⟩=some pv∧wr.cell? ⟨bt,4,none⟩=some (.bool t.wrong):=
 ⟨h.row.cell (i:=0) (by omega),h.row.cell (i:=1) (by omega),h.row.cell (i:=2) (by omega),h.row.cell (i:=3) (by omega),h.row.cell (i:=4) (by omega)⟩
theorem TcW.below (h:TcW bt B t tv sv kv pv wr)(hb:Below wr.heap.size wr w2):TcW bt B t tv sv kv pv w2:=
 {h with
  row:=h.row.of_block (hb.block _ h.row.lt)
  ty:=h.ty.below hb
  se:=h.se.below hb
  ta:=h.ta.below hb
  pu:=h.pu.sameBlock (fun k hk=>hb.block k (h.pu.lt' k hk).2) }
theorem TcW.flag (h:TcW bt B t tv sv kv pv wr)(b:Bool):TcW bt B ⟨t.types,t.seen,t.taken,t.puts,b⟩ tv sv kv pv (wr.setCell ⟨bt,4,none⟩ (.bool b)):=by
 have hk:∀ k,k≠bt→(wr.setCell ⟨bt,4,none⟩ (.bool b)).heap[k]? = wr.heap[k]?:=fun k hk=>heap_setCell_other wr ⟨bt,4,none⟩ k _ hk
 exact {
  ge:=h.ge
  row:=(h.row.set 4 _).congr (fun j hj=>by
   have hc:j=0∨j=1∨j=2∨j=3∨j=4:=by omega
   rcases hc with rfl | rfl | rfl | rfl | rfl<;>rfl)
  ty:=h.ty.sameBlock (fun k e=>hk k (fun c=>h.bt0 (c ▸ e)))
  se:=h.se.sameBlock (fun k e=>hk k (fun c=>h.bs (c ▸ e)))
  ta:=h.ta.sameBlock (fun k e=>hk k (fun c=>h.bk (c ▸ e)))
  pu:=h.pu.sameBlock (fun k e=>hk k (fun c=>h.bp (c ▸ e)))
  bt0:=h.bt0,bs:=h.bs,bk:=h.bk,bp:=h.bp,dts:=h.dts,dtk:=h.dtk,dtp:=h.dtp,dsk:=h.dsk,dsp:=h.dsp,dkp:=h.dkp }
theorem TcW.setType {g n cap:Nat}(h:TcW bt B t (.slice (some ⟨g,0,none⟩) n cap) sv kv pv wr)(hn:n=t.types.length)(j:Nat)(x:Int):TcW bt B ⟨t.types.set j x,t.seen,t.taken,t.puts,t.wrong⟩ (.slice (some ⟨g,0,none⟩) n cap) sv kv pv (wr.setCell ⟨g,j,none⟩ (.int .i64 x)):=by
 have hk:∀ k,k≠g→(wr.setCell ⟨g,j,none⟩ (.int .i64 x)).heap[k]? = wr.heap[k]?:=fun k hk=>heap_setCell_other wr ⟨g,j,none⟩ k _ hk
 have hg:(Value.slice (some ⟨g,0,none⟩) n cap).ownBlock=some g:=rfl
 exact {
  ge:=h.ge
  row:=h.row.of_block (hk bt (fun e=>h.bt0 (by rw[hg,e])))
  ty:=h.ty.set hn j x
  se:=h.se.sameBlock (fun k e=>hk k (fun c=>h.dts g hg (c ▸ e)))
  ta:=h.ta.sameBlock (fun k e=>hk k (fun c=>h.dtk g hg (c ▸ e)))
  pu:=h.pu.sameBlock (fun k e=>hk k (fun c=>h.dtp g hg (c ▸ e)))
  bt0:=h.bt0,bs:=h.bs,bk:=h.bk,bp:=h.bp,dts:=h.dts,dtk:=h.dtk,dtp:=h.dtp,dsk:=h.dsk,dsp:=h.dsp,dkp:=h.dkp }
theorem TcW.seen (h:TcW bt B t tv sv kv pv wr){o:Obj}{gn n2 cap2:Nat}{v2:Value}{x:Nat}(hv:v2=.slice (some ⟨gn,0,none⟩) n2 cap2)(hg:(wr.alloc o).grownBy w2 sv.ownBlock)(ho:OwnI w2 B v2 (natI (t.seen++[x])))(hat:sv.ownBlock=some gn∨gn=wr.heap.size+1) :
  TcW bt B ⟨t.types,t.seen++[x],t.taken,t.puts,t.wrong⟩ tv v2 kv pv (w2.setCell ⟨bt,1,none⟩ v2)∧Below B wr (w2.setCell ⟨bt,1,none⟩ v2)∧Frm bt [tv,sv,kv,pv] [tv,v2,kv,pv] wr (w2.setCell ⟨bt,1,none⟩ v2):=by
 have hbl:∀ k,k<wr.heap.size→sv.ownBlock≠some k→w2.heap[k]? = wr.heap[k]?:=fun k hk hne=>by
  rw[hg.block k (by simp;omega) (fun e=>hne e.symm)]
  exact Below.heap_alloc wr o k hk
 have hrl:=h.row.lt
 have hs:∀ k,k≠bt→(w2.setCell ⟨bt,1,none⟩ v2).heap[k]? = w2.heap[k]?:=fun k hk=>heap_setCell_other w2 ⟨bt,1,none⟩ k _ hk
 have hb2:v2.ownBlock=some gn:=by rw[hv];rfl
 have hnb:v2.ownBlock≠some bt:=by
  rw[hb2]
  intro e
  have e:=Option.some.inj e
  rcases hat with c | c
  ·exact h.bs (by rw[c,e])
  ·omega
 have new:∀{u:Value},Dis u sv→(∀ k,u.ownBlock=some k→k<wr.heap.size)→Dis u v2:=fun {u} hd hl k h1 h2=>by
  rw[hb2]at h2
  have e:=Option.some.inj h2
  rcases hat with c | c
  ·exact hd k h1 (by rw[c,e])
  ·have:=hl k h1
   omega
 have hB:∀ k,sv.ownBlock=some k→B≤k:=fun k hk=>(h.se.lt' k hk).1
 refine⟨{
  ge:=h.ge
  row:=((h.row.of_block (hbl bt hrl h.bs)).set 1 _).congr (fun j hj=>by
   have hc:j=0∨j=1∨j=2∨j=3∨j=4:=by omega
   rcases hc with rfl | rfl | rfl | rfl | rfl<;>rfl)
  ty:=h.ty.sameBlock (fun k e=>(hs k (fun c=>h.bt0 (c ▸ e))).trans (hbl k (h.ty.lt' k e).2 (h.dts k e)))
  se:=ho.sameBlock (fun k e=>hs k (fun c=>hnb (c ▸ e)))
  ta:=h.ta.sameBlock (fun k e=>(hs k (fun c=>h.bk (c ▸ e))).trans (hbl k (h.ta.lt' k e).2 (h.dsk.symm k e)))
  pu:=h.pu.sameBlock (fun k e=>(hs k (fun c=>h.bp (c ▸ e))).trans (hbl k (h.pu.lt' k e).2 (h.dsp.symm k e)))
  bt0:=h.bt0
  bs:=hnb
  bk:=h.bk
  bp:=h.bp
  dts:=new h.dts (fun k e=>(h.ty.lt' k e).2)
  dtk:=h.dtk
  dtp:=h.dtp
  dsk:=(new h.dsk.symm (fun k e=>(h.ta.lt' k e).2)).symm
  dsp:=(new h.dsp.symm (fun k e=>(h.pu.lt' k e).2)).symm
  dkp:=h.dkp
  },?_,?_⟩
 rotate_left
 ·refine⟨fun k hk hb hv=>(hs k hb).trans (hbl k hk (hv _ (by simp))),fun k hk hv v hm=>?_,by have:=hg.size;simp at this ⊢;omega⟩
  simp only[List.mem_cons,List.mem_nil_iff,or_false]at hm
  have hnew:v2.ownBlock≠some k:=by
   rw[hb2]
   intro e
   have e:=Option.some.inj e
   rcases hat with c | c
   ·exact hv sv (by simp) (by rw[c,e])
   ·omega
  rcases hm with rfl | rfl | rfl | rfl
  all_goals first | exact hnew | exact hv _ (by simp)
 refine Below.setCell ?_ h.ge _
 exact(((Below.refl _ _).alloc (by have:=h.ge;omega) o).grown hg (by simp;have:=h.ge;omega) (fun k hk=>hB k hk))
theorem TcW.taken (h:TcW bt B t tv sv kv pv wr){o:Obj}{gn n2 cap2:Nat}{v2:Value}{x:Nat}(hv:v2=.slice (some ⟨gn,0,none⟩) n2 cap2)(hg:(wr.alloc o).grownBy w2 kv.ownBlock)(ho:OwnI w2 B v2 (natI (t.taken++[x])))(hat:kv.ownBlock=some gn∨gn=wr.heap.size+1) :
  TcW bt B ⟨t.types,t.seen,t.taken++[x],t.puts,t.wrong⟩ tv sv v2 pv (w2.setCell ⟨bt,2,none⟩ v2)∧Below B wr (w2.setCell ⟨bt,2,none⟩ v2)∧Frm bt [tv,sv,kv,pv] [tv,sv,v2,pv] wr (w2.setCell ⟨bt,2,none⟩ v2):=by
 have hbl:∀ k,k<wr.heap.size→kv.ownBlock≠some k→w2.heap[k]? = wr.heap[k]?:=fun k hk hne=>by
  rw[hg.block k (by simp;omega) (fun e=>hne e.symm)]
  exact Below.heap_alloc wr o k hk
 have hrl:=h.row.lt
 have hs:∀ k,k≠bt→(w2.setCell ⟨bt,2,none⟩ v2).heap[k]? = w2.heap[k]?:=fun k hk=>heap_setCell_other w2 ⟨bt,2,none⟩ k _ hk
 have hb2:v2.ownBlock=some gn:=by rw[hv];rfl
 have hnb:v2.ownBlock≠some bt:=by
  rw[hb2]
  intro e
  have e:=Option.some.inj e
  rcases hat with c | c
  ·exact h.bk (by rw[c,e])
  ·omega
 have new:∀{u:Value},Dis u kv→(∀ k,u.ownBlock=some k→k<wr.heap.size)→Dis u v2:=fun {u} hd hl k h1 h2=>by
  rw[hb2]at h2
  have e:=Option.some.inj h2
  rcases hat with c | c
  ·exact hd k h1 (by rw[c,e])
  ·have:=hl k h1
   omega
 have hB:∀ k,kv.ownBlock=some k→B≤k:=fun k hk=>(h.ta.lt' k hk).1
 refine⟨{
  ge:=h.ge
  row:=((h.row.of_block (hbl bt hrl h.bk)).set 2 _).congr (fun j hj=>by
   have hc:j=0∨j=1∨j=2∨j=3∨j=4:=by omega
   rcases hc with rfl | rfl | rfl | rfl | rfl<;>rfl)
  ty:=h.ty.sameBlock (fun k e=>(hs k (fun c=>h.bt0 (c ▸ e))).trans (hbl k (h.ty.lt' k e).2 (h.dtk k e)))
  se:=h.se.sameBlock (fun k e=>(hs k (fun c=>h.bs (c ▸ e))).trans (hbl k (h.se.lt' k e).2 (h.dsk k e)))
  ta:=ho.sameBlock (fun k e=>hs k (fun c=>hnb (c ▸ e)))
  pu:=h.pu.sameBlock (fun k e=>(hs k (fun c=>h.bp (c ▸ e))).trans (hbl k (h.pu.lt' k e).2 (h.dkp.symm k e)))
  bt0:=h.bt0
  bs:=h.bs
  bk:=hnb
  bp:=h.bp
  dts:=h.dts
  dtk:=new h.dtk (fun k e=>(h.ty.lt' k e).2)
  dtp:=h.dtp
  dsk:=new h.dsk (fun k e=>(h.se.lt' k e).2)
  dsp:=h.dsp
  dkp:=(new h.dkp.symm (fun k e=>(h.pu.lt' k e).2)).symm
  },?_,?_⟩
 rotate_left
 ·refine⟨fun k hk hb hv=>(hs k hb).trans (hbl k hk (hv _ (by simp))),fun k hk hv v hm=>?_,by have:=hg.size;simp at this ⊢;omega⟩
  simp only[List.mem_cons,List.mem_nil_iff,or_false]at hm
  have hnew:v2.ownBlock≠some k:=by
   rw[hb2]
   intro e
   have e:=Option.some.inj e
   rcases hat with c | c
   ·exact hv kv (by simp) (by rw[c,e])
   ·omega
  rcases hm with rfl | rfl | rfl | rfl
  all_goals first | exact hnew | exact hv _ (by simp)
 refine Below.setCell ?_ h.ge _
 exact(((Below.refl _ _).alloc (by have:=h.ge;omega) o).grown hg (by simp;have:=h.ge;omega) (fun k hk=>hB k hk))
theorem TcW.puts (h:TcW bt B t tv sv kv pv wr){o:Obj}{gn n2 cap2:Nat}{v2:Value}{x:Nat×Int}(hv:v2=.slice (some ⟨gn,0,none⟩) n2 cap2)(hg:(wr.alloc o).grownBy w2 pv.ownBlock)(ho:OwnP w2 B v2 (t.puts++[x]))(hat:pv.ownBlock=some gn∨gn=wr.heap.size+1) :
  TcW bt B ⟨t.types,t.seen,t.taken,t.puts++[x],t.wrong⟩ tv sv kv v2 (w2.setCell ⟨bt,3,none⟩ v2)∧Below B wr (w2.setCell ⟨bt,3,none⟩ v2)∧Frm bt [tv,sv,kv,pv] [tv,sv,kv,v2] wr (w2.setCell ⟨bt,3,none⟩ v2):=by
 have hbl:∀ k,k<wr.heap.size→pv.ownBlock≠some k→w2.heap[k]? = wr.heap[k]?:=fun k hk hne=>by
  rw[hg.block k (by simp;omega) (fun e=>hne e.symm)]
  exact Below.heap_alloc wr o k hk
 have hrl:=h.row.lt
 have hs:∀ k,k≠bt→(w2.setCell ⟨bt,3,none⟩ v2).heap[k]? = w2.heap[k]?:=fun k hk=>heap_setCell_other w2 ⟨bt,3,none⟩ k _ hk
 have hb2:v2.ownBlock=some gn:=by rw[hv];rfl
 have hnb:v2.ownBlock≠some bt:=by
  rw[hb2]
  intro e
  have e:=Option.some.inj e
  rcases hat with c | c
  ·exact h.bp (by rw[c,e])
  ·omega
 have new:∀{u:Value},Dis u pv→(∀ k,u.ownBlock=some k→k<wr.heap.size)→Dis u v2:=fun {u} hd hl k h1 h2=>by
  rw[hb2]at h2
  have e:=Option.some.inj h2
  rcases hat with c | c
  ·exact hd k h1 (by rw[c,e])
  ·have:=hl k h1
   omega
 have hB:∀ k,pv.ownBlock=some k→B≤k:=fun k hk=>(h.pu.lt' k hk).1
 refine⟨{
  ge:=h.ge
  row:=((h.row.of_block (hbl bt hrl h.bp)).set 3 _).congr (fun j hj=>by
   have hc:j=0∨j=1∨j=2∨j=3∨j=4:=by omega
   rcases hc with rfl | rfl | rfl | rfl | rfl<;>rfl)
  ty:=h.ty.sameBlock (fun k e=>(hs k (fun c=>h.bt0 (c ▸ e))).trans (hbl k (h.ty.lt' k e).2 (h.dtp k e)))
  se:=h.se.sameBlock (fun k e=>(hs k (fun c=>h.bs (c ▸ e))).trans (hbl k (h.se.lt' k e).2 (h.dsp k e)))
  ta:=h.ta.sameBlock (fun k e=>(hs k (fun c=>h.bk (c ▸ e))).trans (hbl k (h.ta.lt' k e).2 (h.dkp k e)))
  pu:=ho.sameBlock (fun k e=>hs k (fun c=>hnb (c ▸ e)))
  bt0:=h.bt0
  bs:=h.bs
  bk:=h.bk
  bp:=hnb
  dts:=h.dts
  dtk:=h.dtk
  dtp:=new h.dtp (fun k e=>(h.ty.lt' k e).2)
  dsk:=h.dsk
  dsp:=new h.dsp (fun k e=>(h.se.lt' k e).2)
  dkp:=new h.dkp (fun k e=>(h.ta.lt' k e).2)
  },?_,?_⟩
 rotate_left
 ·refine⟨fun k hk hb hv=>(hs k hb).trans (hbl k hk (hv _ (by simp))),fun k hk hv v hm=>?_,by have:=hg.size;simp at this ⊢;omega⟩
  simp only[List.mem_cons,List.mem_nil_iff,or_false]at hm
  have hnew:v2.ownBlock≠some k:=by
   rw[hb2]
   intro e
   have e:=Option.some.inj e
   rcases hat with c | c
   ·exact hv pv (by simp) (by rw[c,e])
   ·omega
  rcases hm with rfl | rfl | rfl | rfl
  all_goals first | exact hnew | exact hv _ (by simp)
 refine Below.setCell ?_ h.ge _
 exact(((Below.refl _ _).alloc (by have:=h.ge;omega) o).grown hg (by simp;have:=h.ge;omega) (fun k hk=>hB k hk))
end
theorem see_flag {t:TD}{reg:Nat}{kind:Int}{b:Bool}(h:b=(t.wrong||tyAt t.types reg != kind)):seeT reg kind t=⟨t.types,t.seen++[reg],t.taken,t.puts,b⟩:=by rw[h];rfl
def SeePost (bt B:Nat)(t:TD)(tv sv kv pv:Value)(wr:World)(e:Ending)(w':World):Prop:=e=.returned (.tuple #[])∧∃ sv',TcW bt B t tv sv' kv pv w'∧Below B wr w'∧Frm bt [tv,sv,kv,pv] [tv,sv',kv,pv] wr w'
theorem see_any (bt B:Nat)(t:TD)(tv sv kv pv:Value)(reg:Nat)(kind:Int)(wr:World)(h:TcW bt B t tv sv kv pv wr)(hreg:reg<t.types.length)(hlen:t.types.length≤250)(hsl:t.seen.length≤1000) :
  Calls Tryz.prog 105 #[.pointer (some ⟨bt,0,none⟩),.int .i64 (reg:Int),.int .i64 kind] wr (SeePost bt B (seeT reg kind t) tv sv kv pv wr):=by
 obtain⟨i0,hi,hz0,hz1,hz2⟩:=info_of info_i
 obtain⟨g,cap,rfl,hg1,hg2,hcc⟩:=h.ty.at (by omega)
 have cr:=hcc reg hreg
 obtain⟨c0,c1,c2,c3,c4⟩:=h.cells
 have z4:=h.row.frozen 4
 have hl:=h.row.lt
 have HFL:Hid (∀ b,b=(t.wrong||tyAt t.types reg != kind)→TcW bt B ⟨t.types,t.seen,t.taken,t.puts,b⟩ (.slice (some ⟨g,0,none⟩) t.types.length cap) sv kv pv (wr.setCell ⟨bt,4,none⟩ (.bool b))∧seeT reg kind t=⟨t.types,t.seen++[reg],t.taken,t.puts,b⟩):=fun b hb=>⟨h.flag b,see_flag hb⟩
 have HBF:Hid (∀ v,Below B wr (wr.setCell ⟨bt,4,none⟩ v)):=fun v=>(Below.refl _ _).setCell h.ge _
 have HTY:Hid (tyAt t.types reg=t.types[reg]?.getD 0):=rfl
 have hTL:Hid ((natI t.seen).length≤1048576):=by show _≤_;rw[natI_len];omega
 have HGE:=hide h.ge
 clear hcc h
 obtain⟨ty,hty⟩:∃ ty,t.types[reg]?.getD 0=ty:=⟨_,rfl⟩
 rw[hty]at cr HTY
 clear hty
 have hrI:(reg:Int)<t.types.length:=by omega
 obtain⟨nt,hnt⟩:∃ nt,t.types.length=nt:=⟨_,rfl⟩
 rw[hnt]at HFL hreg hlen hrI
 rw[hnt]
 rw[hnt]at c0
 have KEY:∀ b,b=(t.wrong||tyAt t.types reg != kind)→True:=fun _ _=>trivial
 go_enter Tryz.func105,Tryz.ntmps105
 obtain⟨b,hb⟩:∃ b,b=(t.wrong||tyAt t.types reg != kind):=⟨_,rfl⟩
 obtain⟨hF,hE⟩:=unhide HFL b hb
 have HF:=hide hF
 have HE:=hide hE
 rw[HTY.out]at hb
 clear hF hE HFL KEY hnt
 have h3:(t.wrong=false∧ty=kind)∨(t.wrong=false∧ty≠kind)∨t.wrong=true:=by
  by_cases hk:ty=kind<;>cases t.wrong<;>simp[hk]
 refine h3.elim (fun h=>?p1) (fun h=>h.elim (fun h=>?p2) (fun h=>?p3))
 case' p1=>
  obtain⟨hw,hk⟩:=h
  rw[hw]at hb c4
  have hbf:b=false:=by rw[hb,hk];simp
  subst hbf
  have hne:(ty != kind)=false:=by simpa using hk
  subst hk
  clear hb hw h3
  go_upto_region 1 with fail
  clear c0 c1 c2 c3 c4 z4 cr
  have HB1:=hide (unhide HBF (.bool false))
  have HR1:Hid (Frm bt [.slice (some ⟨g,0,none⟩) nt cap,sv,kv,pv] [.slice (some ⟨g,0,none⟩) nt cap,sv,kv,pv] wr (wr.setCell ⟨bt,4,none⟩ (.bool false))):=Frm.setBox _
  clear HBF
  generalize wr.setCell ⟨bt,4,none⟩ (.bool false)=w1 at *
 case' p2=>
  obtain⟨hw,hk⟩:=h
  rw[hw]at hb c4
  have hbf:b=true:=by rw[hb];simpa using hk
  subst hbf
  have hne:(ty != kind)=true:=by simpa using hk
  clear hb hw hk h3
  go_upto_region 1 with fail
  clear c0 c1 c2 c3 c4 z4 cr
  have HB1:=hide (unhide HBF (.bool true))
  have HR1:Hid (Frm bt [.slice (some ⟨g,0,none⟩) nt cap,sv,kv,pv] [.slice (some ⟨g,0,none⟩) nt cap,sv,kv,pv] wr (wr.setCell ⟨bt,4,none⟩ (.bool true))):=Frm.setBox _
  clear HBF
  generalize wr.setCell ⟨bt,4,none⟩ (.bool true)=w1 at *
 case' p3=>
  rw[h]at hb c4
  have hbf:b=true:=by rw[hb];rfl
  subst hbf
  clear hb h h3
  go_upto_region 1 with fail
  clear c0 c1 c2 c3 c4 z4 cr
  have HB1:=hide (unhide HBF (.bool true))
  have HR1:Hid (Frm bt [.slice (some ⟨g,0,none⟩) nt cap,sv,kv,pv] [.slice (some ⟨g,0,none⟩) nt cap,sv,kv,pv] wr (wr.setCell ⟨bt,4,none⟩ (.bool true))):=Frm.setBox _
  clear HBF
  generalize wr.setCell ⟨bt,4,none⟩ (.bool true)=w1 at *
 all_goals
  obtain⟨c0,c1,c2,c3,c4⟩:=(unhide HF).cells
  have hl1:=(unhide HF).row.lt
  clear c0 c2 c3 c4
  go_wp2_with (first
   | (at_builtin;refine wpList_append_lies _ rfl _ _ 63 rfl B 3 i0 (.int .i64 0) 1 8 Tryz.underlying63 hi hz0 hz1 hz2 rfl (by decide) _ _ _ rfl ((unhide HF).se.alloc _) ⟨w1.heap.size,0,none⟩ 1 1 [.int .i64 (reg:Int)] rfl rfl ?c1 ?c2 (by decide) ?c3 ?c4 ?c5 (w1.heap.size+1) (by simp) ?_)
   | go_in)
  all_goals try (case c1=>
   intro j u hj
   match j,hj with
   | 0,hj=>simp at hj;subst hj;simp[Addr.add,go_sem])
  all_goals try (case c2=>first | rfl | (intro u hu;simp at hu;subst hu;rfl))
  all_goals try (case c3=>have:=hTL.out;unfold maxLen;omega)
  all_goals try (case c4=>have:=hTL.out;omega)
  all_goals try (case c5=>first | omega | (simp;omega) | (have:=HGE.out;simp;omega))
  intro g3 cap3 w3 hown3 hgrow3 hat3 hlt3
  have O3:Hid (OwnI w3 B (.slice (some ⟨g3,0,none⟩) ((natI t.seen).length+1) cap3) (natI (t.seen++[reg]))):=by show OwnI _ _ _ _;rw[natI_push];exact OwnI.push hown3
  have FIN:=(unhide HF).seen (x:=reg) rfl hgrow3 (unhide O3) (by simpa using hat3)
  have bl:w3.heap[bt]? = w1.heap[bt]?:=by
   rw[hgrow3.block bt (by simp;omega) (fun e=>(unhide HF).bs e.symm)]
   exact Below.heap_alloc w1 _ bt hl1
  have s1:w3.cell? ⟨bt,1,none⟩=some sv:=(World.cell?_of_block (a:=⟨bt,1,none⟩) bl).trans c1
  have z1:w3.frozen? ⟨bt,1,none⟩=false:=((unhide HF).row.of_block bl).frozen 1
  have hl3:bt<w3.heap.size:=World.block_lt_of_cell? _ _ s1
  have HFIN:=hide FIN
  clear FIN bl hown3 hgrow3 hat3 O3 c1
  go_wp2_with fail
  go_end0
  exact⟨rfl,_,by rw[HE.out];exact(unhide HFIN).1,HB1.out.trans (unhide HFIN).2.1,HR1.out.trans (unhide HFIN).2.2⟩
def IxPost (x:Int)(l:List Int)(w:World)(e:Ending)(w':World):Prop:=∃ k:Int,e=.returned (.int .i64 k)∧(0≤k↔x∈l)∧w'=w
theorem index_any (x:Int)(l:List Int)(a:Option Addr)(c:Nat)(S:Nat→Prop)(w:World)(hs:IntsAt w S a l)(hl:l.length≤1000000):Calls Tryz.prog 125 #[.slice a l.length c,.int .i64 x] w (IxPost x l w):=by
 have HS:=hide hs
 clear hs
 go_enter Tryz.func125,Tryz.ntmps125
 go_wp2_with fail
 go_loopg [8] l.length (fun gg i wr=>∃ q:Nat,q+gg=l.length∧i=.int .i64 q∧wr=w∧Hid (∀ j,j<q→l[j]?.getD 0≠x))
 case atStart=>exact⟨0,by omega,rfl,rfl,fun j h=>absurd h (Nat.not_lt_zero _)⟩
 case round=>
  obtain⟨q,hq,rfl,rfl,hall⟩:=hrel
  by_cases hlt:q<l.length
  ·obtain⟨b,off,rfl,_,hc⟩:=(unhide HS).2 (by omega)
   have cq:=hc q hlt
   have hm:l[q]?.getD 0∈l:=by rw[List.getElem?_eq_getElem hlt];exact List.getElem_mem hlt
   have HM:=hide hm
   have HX:Hid (l[q]?.getD 0≠x→∀ j,j<q+1→l[j]?.getD 0≠x):=fun h j hj=>by
    by_cases e:j=q
    ·subst e;exact h
    ·exact hall.out j (by omega)
   clear hc hm hall
   generalize l[q]?.getD 0=y at *
   by_cases hy:x=y
   ·subst hy
    have hb:(x==x)=true:=by simp
    go_wp2_with fail
    go_ret
    exact⟨q,rfl,⟨fun _=>HM.out,fun _=>by omega⟩,rfl⟩
   ·have hb:(x==y)=false:=by simpa using hy
    have NX:=hide (unhide HX (fun e=>hy e.symm))
    clear hy HX
    go_wp2_with fail
    go_roundg (l.length-(q+1))
    case measure=>omega
    case rel=>exact⟨q+1,by omega,by go_num,rfl,NX⟩
  ·have HNO:Hid (¬x∈l):=fun hm=>by
    obtain⟨j,hj,e⟩:=List.getElem_of_mem hm
    have:=hall.out j (by omega)
    rw[List.getElem?_eq_getElem hj]at this
    exact this e
   go_wp2_with fail
   go_ret
   exact⟨-1,rfl,⟨fun h=>absurd h (by omega),fun h=>absurd h HNO.out⟩,rfl⟩
theorem contains_any (x:Int)(l:List Int)(a:Option Addr)(c:Nat)(S:Nat→Prop)(w:World)(hs:IntsAt w S a l)(hl:l.length≤1000000):Calls Tryz.prog 123 #[.slice a l.length c,.int .i64 x] w fun e w'=>e=.returned (.bool (l.contains x))∧w'=w:=by
 go_enter Tryz.func123,Tryz.ntmps123
 go_wp2_with fail
 refine(index_any x l a c S w hs hl).mono ?_
 rintro e w1 ⟨k,rfl,hk,rfl⟩
 have hb:l.contains x=decide (0≤k):=by
  rw[Bool.eq_iff_iff]
  simp[hk]
 have HB:=hide hb
 clear hb hk
 by_cases h0:0≤k
 ·have HC:Hid (l.contains x=true):=by show _=_;rw[HB.out];exact decide_eq_true h0
  clear HB
  go_wp2_with fail
  go_ret
  exact⟨by rw[HC.out];rfl,rfl⟩
 ·have HC:Hid (l.contains x=false):=by show _=_;rw[HB.out];exact decide_eq_false h0
  clear HB
  go_wp2_with fail
  go_ret
  exact⟨by rw[HC.out];show Ending.returned (.bool (decide (0≤k)))=_;rw[decide_eq_false (by omega)],rfl⟩
def PutPost (bt B:Nat)(t:TD)(tv sv kv pv:Value)(wr:World)(e:Ending)(w':World):Prop:=e=.returned (.tuple #[])∧∃ pv',TcW bt B t tv sv kv pv' w'∧Below B wr w'∧Frm bt [tv,sv,kv,pv] [tv,sv,kv,pv'] wr w'
theorem put_any (bt B:Nat)(t:TD)(tv sv kv pv:Value)(reg:Nat)(kind:Int)(wr:World)(h:TcW bt B t tv sv kv pv wr)(hpl:t.puts.length≤1000) :
  Calls Tryz.prog 119 #[.pointer (some ⟨bt,0,none⟩),.int .i64 (reg:Int),.int .i64 kind] wr (PutPost bt B (putT reg kind t) tv sv kv pv wr):=by
 obtain⟨i0,hi,hz0,hz1,hz2⟩:=info_of info_hp
 obtain⟨c0,c1,c2,c3,c4⟩:=h.cells
 have hl:=h.row.lt
 have HF:=hide h
 have HGE:=hide h.ge
 clear c0 c1 c2 c4 h
 go_enter Tryz.func119,Tryz.ntmps119
 go_wp2_with (first
  | (at_builtin;refine wpList_append_lies _ rfl _ _ 131 rfl B 170 i0 (.agg #[.int .i64 0,.int .i64 0]) 2 16 Tryz.underlying131 hi hz0 hz1 hz2 rfl (by decide) _ _ _ rfl ((unhide HF).pu.alloc _) ⟨wr.heap.size,0,none⟩ 1 1 [.int .i64 (reg:Int),.int .i64 kind] rfl rfl ?c1 ?c2 (by decide) ?c3 ?c4 ?c5 (wr.heap.size+1) (by simp) ?_)
  | go_in)
 all_goals try (case c1=>intro j u hj;rcases j with _ | _ | _<;>simp at hj<;>(subst hj;simp[Addr.add,go_sem]))
 all_goals try (case c2=>first | rfl | (intro u hu;simp at hu;rcases hu with rfl | rfl<;>rfl))
 all_goals try (case c3=>unfold maxLen;omega)
 all_goals try (case c4=>omega)
 all_goals try (case c5=>first | omega | (simp;omega) | (have:=HGE.out;simp;omega))
 intro g3 cap3 w3 hown3 hgrow3 hat3 hlt3
 have O3:Hid (OwnP w3 B (.slice (some ⟨g3,0,none⟩) (t.puts.length+1) cap3) (t.puts++[(reg,kind)])):=OwnP.push hown3
 have FIN:=(unhide HF).puts (x:=(reg,kind)) rfl hgrow3 (unhide O3) (by simpa using hat3)
 have bl:w3.heap[bt]? = wr.heap[bt]?:=by
  rw[hgrow3.block bt (by simp;omega) (fun e=>(unhide HF).bp e.symm)]
  exact Below.heap_alloc wr _ bt hl
 have s3:w3.cell? ⟨bt,3,none⟩=some pv:=(World.cell?_of_block (a:=⟨bt,3,none⟩) bl).trans c3
 have z3:w3.frozen? ⟨bt,3,none⟩=false:=((unhide HF).row.of_block bl).frozen 3
 have hl3:bt<w3.heap.size:=World.block_lt_of_cell? _ _ s3
 have HFIN:=hide FIN
 clear FIN bl hown3 hgrow3 hat3 O3 c3
 go_wp2_with fail
 go_end0
 exact⟨rfl,_,(unhide HFIN).1,(unhide HFIN).2.1,(unhide HFIN).2.2⟩
def RdPostT (bt B:Nat)(t:TD)(tv sv kv pv:Value)(wr:World)(e:Ending)(w':World):Prop:=e=.returned (.tuple #[])∧∃ kv',TcW bt B t tv sv kv' pv w'∧Below B wr w'∧Frm bt [tv,sv,kv,pv] [tv,sv,kv',pv] wr w'
theorem read_plain (bt B:Nat)(t:TD)(tv sv kv pv:Value)(reg:Nat)(kind:Int)(wr:World)(h:TcW bt B t tv sv kv pv wr)(hreg:reg<t.types.length)(hlen:t.types.length≤250) :
  Calls Tryz.prog 118 #[.pointer (some ⟨bt,0,none⟩),.int .i64 (reg:Int),.int .i64 kind] wr (RdPostT bt B (readT (reg:Int) kind t) tv sv kv pv wr):=by
 have HTY:Hid (tyAt t.types reg=t.types[reg]?.getD 0):=rfl
 obtain⟨g,cap,rfl,hg1,hg2,hcc⟩:=h.ty.at (by omega)
 have cr:=hcc reg hreg
 obtain⟨c0,c1,c2,c3,c4⟩:=h.cells
 have z4:=h.row.frozen 4
 have hl:=h.row.lt
 have HE:Hid (∀ b,b=(t.wrong||tyAt t.types reg != kind)→readT (reg:Int) kind t=⟨t.types,t.seen,t.taken,t.puts,b⟩):=fun b hb=>by
  unfold readT
  rw[if_pos (by omega),hb]
  rfl
 have HFL:Hid (∀ b,TcW bt B ⟨t.types,t.seen,t.taken,t.puts,b⟩ (.slice (some ⟨g,0,none⟩) t.types.length cap) sv kv pv (wr.setCell ⟨bt,4,none⟩ (.bool b))∧Below B wr (wr.setCell ⟨bt,4,none⟩ (.bool b))):=fun b=>⟨h.flag b,(Below.refl _ _).setCell h.ge _⟩
 clear hcc h c1 c2 c3
 obtain⟨ty,hty⟩:∃ ty,t.types[reg]?.getD 0=ty:=⟨_,rfl⟩
 rw[hty]at cr HTY
 clear hty
 have hrI:(reg:Int)<t.types.length:=by omega
 obtain⟨nt,hnt⟩:∃ nt,t.types.length=nt:=⟨_,rfl⟩
 rw[hnt]at HFL hreg hlen hrI c0
 rw[hnt]
 clear hnt
 rw[HTY.out]at HE
 go_enter Tryz.func118,Tryz.ntmps118
 cases hw:t.wrong
 ·rw[hw]at HE c4
  by_cases hk:ty=kind
  ·have hne:(ty != kind)=false:=by simpa using hk
   subst hk
   have HE2:=hide (unhide HE false (by simp))
   clear HE hw
   go_wp2_with fail
   exact bodyPost_ret (results_none rfl _ _ _) rfl ⟨rfl,kv,by rw[HE2.out];exact(unhide HFL false).1,(unhide HFL false).2,Frm.setBox _⟩
  ·have hne:(ty != kind)=true:=by simpa using hk
   have HE2:=hide (unhide HE true (by simp[hne]))
   clear HE hw hk
   go_wp2_with fail
   exact bodyPost_ret (results_none rfl _ _ _) rfl ⟨rfl,kv,by rw[HE2.out];exact(unhide HFL true).1,(unhide HFL true).2,Frm.setBox _⟩
 ·rw[hw]at HE c4
  have HE2:=hide (unhide HE true (by simp))
  clear HE hw
  go_wp2_with fail
  exact bodyPost_ret (results_none rfl _ _ _) rfl ⟨rfl,kv,by rw[HE2.out];exact(unhide HFL true).1,(unhide HFL true).2,Frm.setBox _⟩
theorem natI_contains (l:List Nat)(x:Nat):(natI l).contains (x:Int)=l.contains x:=by
 rw[Bool.eq_iff_iff]
 simp only[List.contains_iff_mem,natI,List.mem_map]
 constructor
 ·rintro⟨y,hy,e⟩
  have:y=x:=Int.ofNat.inj e
  rw[←this];exact hy
 ·intro h;exact⟨x,h,rfl⟩
theorem read_taken (bt B:Nat)(t:TD)(tv sv kv pv:Value)(x:Int)(reg:Nat)(kind:Int)(wr:World)(h:TcW bt B t tv sv kv pv wr)(hx:x<0)(hxr:(-1:Int)-x=reg)(hreg:reg<t.types.length)(hlen:t.types.length≤250)(hsl:t.seen.length≤1000)(htk:t.taken.length≤1000) :
  Calls Tryz.prog 118 #[.pointer (some ⟨bt,0,none⟩),.int .i64 x,.int .i64 kind] wr (RdPostT bt B (readT x kind t) tv sv kv pv wr):=by
 obtain⟨i0,hi,hz0,hz1,hz2⟩:=info_of info_i
 have HTY:Hid (tyAt t.types reg=t.types[reg]?.getD 0):=rfl
 obtain⟨g,cap,rfl,hg1,hg2,hcc⟩:=h.ty.at (by omega)
 obtain⟨sa,sc,eS,iS⟩:=h.se.ints (by rw[natI_len];omega)
 rw[natI_len]at eS
 subst eS
 have cr:=hcc reg hreg
 obtain⟨c0,c1,c2,c3,c4⟩:=h.cells
 have z4:=h.row.frozen 4
 have hl:=h.row.lt
 have HE:Hid (∀ b,b=(t.wrong||tyAt t.types reg != kind||t.seen.contains reg)→readT x kind t=⟨t.types.set reg 0,t.seen,t.taken++[reg],t.puts,b⟩):=fun b hb=>by
  unfold readT
  rw[if_neg (by omega),show(-1-x).toNat=reg by omega,hb]
 have HFL:Hid (∀ b,TcW bt B ⟨t.types,t.seen,t.taken,t.puts,b⟩ (.slice (some ⟨g,0,none⟩) t.types.length cap) (.slice sa t.seen.length sc) kv pv (wr.setCell ⟨bt,4,none⟩ (.bool b))∧Below B wr (wr.setCell ⟨bt,4,none⟩ (.bool b))):=fun b=>⟨h.flag b,(Below.refl _ _).setCell h.ge _⟩
 have CT:Hid (Calls Tryz.prog 123 #[.slice sa t.seen.length sc,.int .i64 (reg:Int)] wr fun e w'=>e=.returned (.bool (t.seen.contains reg))∧w'=wr):=by
  have hh:=contains_any (reg:Int) (natI t.seen) sa sc _ wr iS (by rw[natI_len];omega)
  rw[natI_len,natI_contains]at hh
  exact hh
 have hTL:Hid ((natI t.taken).length≤1048576):=by show _≤_;rw[natI_len];omega
 have HGE:=hide h.ge
 have HGB:Hid (B≤g):=hg1
 clear hcc h c2 c3 iS
 obtain⟨ty,hty⟩:∃ ty,t.types[reg]?.getD 0=ty:=⟨_,rfl⟩
 rw[hty]at cr HTY
 clear hty
 have hrI:(reg:Int)<t.types.length:=by omega
 obtain⟨nt,hnt⟩:∃ nt,t.types.length=nt:=⟨_,rfl⟩
 have HNT:=hide hnt
 rw[hnt]at HFL hreg hlen hrI c0
 rw[hnt]
 clear hnt
 rw[HTY.out]at HE
 go_enter Tryz.func118,Tryz.ntmps118
 have h4:(t.wrong=false∧ty=kind∧t.seen.contains reg=false)∨(t.wrong=false∧ty=kind∧t.seen.contains reg=true)∨(t.wrong=false∧ty≠kind)∨t.wrong=true:=by
  by_cases hk:ty=kind<;>cases t.wrong<;>cases t.seen.contains reg<;>simp[hk]
 refine h4.elim (fun h=>?p1) (fun h=>h.elim (fun h=>?p2) (fun h=>h.elim (fun h=>?p3) (fun h=>?p4)))
 case' p1=>
  obtain⟨hw,hk,hc⟩:=h
  have hne:(ty != kind)=false:=by simpa using hk
  rw[hw,hc]at HE
  rw[hw]at c4
  rw[hc]at CT
  subst hk
  have HE2:=hide (unhide HE false (by simp))
  clear HE hw hc h4
  go_wp2_with fail
  refine(unhide CT).mono ?_
  rintro e w0 ⟨rfl,hw0⟩
  rw[hw0]
  clear hw0
  go_upto_region 4 with fail
  clear c0 c1 c4 z4 cr CT
  obtain⟨hF,hB1⟩:=unhide HFL false
  have HF:=hide hF
  have HB1:=hide hB1
  have HR1:Hid (Frm bt [.slice (some ⟨g,0,none⟩) nt cap,.slice sa t.seen.length sc,kv,pv] [.slice (some ⟨g,0,none⟩) nt cap,.slice sa t.seen.length sc,kv,pv] wr (wr.setCell ⟨bt,4,none⟩ (.bool false))):=Frm.setBox _
  clear hF hB1 HFL
  generalize wr.setCell ⟨bt,4,none⟩ (.bool false)=w1 at *
 case' p2=>
  obtain⟨hw,hk,hc⟩:=h
  have hne:(ty != kind)=false:=by simpa using hk
  rw[hw,hc]at HE
  rw[hw]at c4
  rw[hc]at CT
  subst hk
  have HE2:=hide (unhide HE true (by simp))
  clear HE hw hc h4
  go_wp2_with fail
  refine(unhide CT).mono ?_
  rintro e w0 ⟨rfl,hw0⟩
  rw[hw0]
  clear hw0
  go_upto_region 4 with fail
  clear c0 c1 c4 z4 cr CT
  obtain⟨hF,hB1⟩:=unhide HFL true
  have HF:=hide hF
  have HB1:=hide hB1
  have HR1:Hid (Frm bt [.slice (some ⟨g,0,none⟩) nt cap,.slice sa t.seen.length sc,kv,pv] [.slice (some ⟨g,0,none⟩) nt cap,.slice sa t.seen.length sc,kv,pv] wr (wr.setCell ⟨bt,4,none⟩ (.bool true))):=Frm.setBox _
  clear hF hB1 HFL
  generalize wr.setCell ⟨bt,4,none⟩ (.bool true)=w1 at *
 case' p3=>
  obtain⟨hw,hk⟩:=h
  have hne:(ty != kind)=true:=by simpa using hk
  rw[hw]at HE c4
  have HE2:=hide (unhide HE true (by simp[hne]))
  clear HE hw hk h4
  go_upto_region 4 with fail
  clear c0 c1 c4 z4 cr CT
  obtain⟨hF,hB1⟩:=unhide HFL true
  have HF:=hide hF
  have HB1:=hide hB1
  have HR1:Hid (Frm bt [.slice (some ⟨g,0,none⟩) nt cap,.slice sa t.seen.length sc,kv,pv] [.slice (some ⟨g,0,none⟩) nt cap,.slice sa t.seen.length sc,kv,pv] wr (wr.setCell ⟨bt,4,none⟩ (.bool true))):=Frm.setBox _
  clear hF hB1 HFL
  generalize wr.setCell ⟨bt,4,none⟩ (.bool true)=w1 at *
 case' p4=>
  rw[h]at HE c4
  have HE2:=hide (unhide HE true (by simp))
  clear HE h h4
  go_upto_region 4 with fail
  clear c0 c1 c4 z4 cr CT
  obtain⟨hF,hB1⟩:=unhide HFL true
  have HF:=hide hF
  have HB1:=hide hB1
  have HR1:Hid (Frm bt [.slice (some ⟨g,0,none⟩) nt cap,.slice sa t.seen.length sc,kv,pv] [.slice (some ⟨g,0,none⟩) nt cap,.slice sa t.seen.length sc,kv,pv] wr (wr.setCell ⟨bt,4,none⟩ (.bool true))):=Frm.setBox _
  clear hF hB1 HFL
  generalize wr.setCell ⟨bt,4,none⟩ (.bool true)=w1 at *
 all_goals
  obtain⟨c0,c1,c2,c3,c4⟩:=(unhide HF).cells
  have hl1:=(unhide HF).row.lt
  clear c1 c3 c4
  go_wp2_with (first
   | (at_builtin;refine wpList_append_lies _ rfl _ _ 63 rfl B 3 i0 (.int .i64 0) 1 8 Tryz.underlying63 hi hz0 hz1 hz2 rfl (by decide) _ _ _ rfl ((unhide HF).ta.alloc _) ⟨w1.heap.size,0,none⟩ 1 1 [.int .i64 (reg:Int)] rfl rfl ?c1 ?c2 (by decide) ?c3 ?c4 ?c5 (w1.heap.size+1) (by simp) ?_)
   | go_in)
  all_goals try (case c1=>
   intro j u hj
   match j,hj with
   | 0,hj=>simp at hj;subst hj;simp[Addr.add,go_sem])
  all_goals try (case c2=>first | rfl | (intro u hu;simp at hu;subst hu;rfl))
  all_goals try (case c3=>have:=hTL.out;unfold maxLen;omega)
  all_goals try (case c4=>have:=hTL.out;omega)
  all_goals try (case c5=>first | omega | (simp;omega) | (have:=HGE.out;simp;omega))
  intro g3 cap3 w3 hown3 hgrow3 hat3 hlt3
  have O3:Hid (OwnI w3 B (.slice (some ⟨g3,0,none⟩) ((natI t.taken).length+1) cap3) (natI (t.taken++[reg]))):=by show OwnI _ _ _ _;rw[natI_push];exact OwnI.push hown3
  obtain⟨FIN,BFN,RFN⟩:=(unhide HF).taken (x:=reg) rfl hgrow3 (unhide O3) (by simpa using hat3)
  have bl:w3.heap[bt]? = w1.heap[bt]?:=by
   rw[hgrow3.block bt (by simp;omega) (fun e=>(unhide HF).bk e.symm)]
   exact Below.heap_alloc w1 _ bt hl1
  have s2:w3.cell? ⟨bt,2,none⟩=some kv:=(World.cell?_of_block (a:=⟨bt,2,none⟩) bl).trans c2
  have z2:w3.frozen? ⟨bt,2,none⟩=false:=((unhide HF).row.of_block bl).frozen 2
  have hl3:bt<w3.heap.size:=World.block_lt_of_cell? _ _ s2
  have HFIN:=hide FIN
  have HBFN:=hide BFN
  have HRFN:=hide RFN
  clear FIN BFN RFN bl hown3 hgrow3 hat3 O3 c0 c2
  go_upto_region 5 with fail
  clear s2 z2 hl3
  generalize w3.setCell ⟨bt,2,none⟩ (.slice (some ⟨g3,0,none⟩) ((natI t.taken).length+1) cap3)=w4 at *
  obtain⟨c0,c1,c2,c3,c4⟩:=(unhide HFIN).cells
  have hl4:=(unhide HFIN).row.lt
  obtain⟨g',cap',hv',_,hgl,hcc⟩:=(unhide HFIN).ty.at (by show 0<t.types.length;have:=HNT.out;omega)
  have hg':g'=g:=by injection hv' with h;injection h with h;exact(congrArg Addr.block h).symm
  have cr:=hcc reg (by show reg<t.types.length;have:=HNT.out;omega)
  rw[hg']at cr hgl
  have zr:=(unhide HFIN).ty.frozen HNT.out.symm reg
  have HLAST:=hide ((unhide HFIN).setType HNT.out.symm reg 0)
  clear c1 c2 c3 c4 hv' hcc hg'
  go_wp2_with fail
  go_end0
  exact⟨rfl,_,by rw[HE2.out];exact unhide HLAST,(HB1.out.trans (unhide HBFN)).trans ((Below.refl _ _).setCell HGB.out _),(HR1.out.trans HRFN.out).trans (Frm.setRow (n:=nt) (cap:=cap) _ (by simp))⟩
end Go.Proofs.YtmjcpapdncfkpaaGreatDoor
