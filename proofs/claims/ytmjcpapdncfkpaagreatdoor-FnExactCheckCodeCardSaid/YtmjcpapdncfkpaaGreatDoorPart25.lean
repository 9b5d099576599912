import Derived.Test.YtmjcpapdncfkpaaGreatDoorPart24
import Derived.Test.YtmjcpapdncfkpaaGreatDoorPart20
import Derived.Deep.AppendLies
import Derived.BigQuiet
set_option linter.unusedSimpArgs false
set_option linter.unusedVariables false
set_option maxHeartbeats 8000000
set_option maxRecDepth 100000
namespace Go.Proofs.YtmjcpapdncfkpaaGreatDoor
open Go.RowKit
section
variable {w w':World} {base base':Nat} {v:Value} {t:List Int}
theorem OwnI.lenV (h:OwnI w base v t):∃ a c,v=.slice a t.length c:=by
 rcases h.2 with⟨rfl,h0⟩ | ⟨g,cap,cur,rfl,_⟩
 ·rw[h0];exact⟨none,0,rfl⟩
 ·exact⟨_,_,rfl⟩
theorem OwnI.at (h:OwnI w base v t)(h0:0<t.length):∃ g cap,v=.slice (some ⟨g,0,none⟩) t.length cap∧base≤g∧g<w.heap.size∧∀ j,j<t.length→w.cell? ⟨g,j,none⟩=some (.int .i64 (t[j]?.getD 0)):=by
 rcases h.2 with⟨_,h1⟩ | ⟨g,cap,cur,rfl,hb,hg,h2⟩
 ·omega
 ·refine⟨g,cap,rfl,hb,(Array.getElem?_eq_some_iff.1 hg).1,fun j hj=>?_⟩
  have h3:=World.ownsRow.cellAt h j (by omega)
  rw[h3,List.getElem?_map,List.getElem?_eq_getElem hj]
  rfl
theorem OwnI.below (h:OwnI w base v t)(hb:Below w.heap.size w w'):OwnI w' base v t:=by
 refine⟨h.1,?_⟩
 rcases h.2 with hn | ⟨g,cap,cur,rfl,h1,hg,h2⟩
 ·exact .inl hn
 ·exact .inr ⟨g,cap,cur,rfl,h1,(hb.block g (Array.getElem?_eq_some_iff.1 hg).1).trans hg,h2⟩
theorem OwnI.base_le (h:OwnI w base v t)(hb:base'≤base):OwnI w base' v t:=by
 refine⟨h.1,?_⟩
 rcases h.2 with hn | ⟨g,cap,cur,rfl,h1,h2⟩
 ·exact .inl hn
 ·exact .inr ⟨g,cap,cur,rfl,Nat.le_trans hb h1,h2⟩
theorem OwnI.setOther (h:OwnI w base v t){D j:Nat}{u:Value}(hD:D<base):OwnI (w.setCell ⟨D,j,none⟩ u) base v t:=by
 refine⟨h.1,?_⟩
 rcases h.2 with hn | ⟨g,cap,cur,rfl,h1,hg,h2⟩
 ·exact .inl hn
 ·exact .inr ⟨g,cap,cur,rfl,h1,(heap_setCell_other w ⟨D,j,none⟩ g u (fun e=>by have e:g=D:=e;omega)).trans hg,h2⟩
theorem OwnI.kept (h:OwnI w base v t){row:Option Nat}(hg:w.grownBy w' row)(hne:v.ownBlock=none∨v.ownBlock≠row):OwnI w' base v t:=World.ownsRow.kept h hg hne
end
def unseen (seen:Nat→Bool)(n:Nat):Nat:=unv (fun x=>(seen x).toNat) n
theorem unseen_new {seen:Nat→Bool}{x n:Nat}(h:seen x=false)(hx:x<n):unseen (upd seen x true) n+1=unseen seen n:=by
 have e:(fun y=>(upd seen x true y).toNat)=upd (fun y=>(seen y).toNat) x 1:=funext fun y=>by
  unfold upd;split<;>rfl
 unfold unseen
 rw[e]
 exact unv_push (by rw[h];rfl) (by decide) n hx
theorem unseen_start (n:Nat):unseen (fun _=>false) n=n:=unv_zero n
def natI (l:List Nat):List Int:=l.map Int.ofNat
theorem natI_len (l:List Nat):(natI l).length=l.length:=by simp[natI]
theorem natI_get (l:List Nat)(j:Nat):(natI l)[j]?.getD 0=((l[j]?.getD 0:Nat):Int):=by
 unfold natI
 rw[List.getElem?_map]
 cases l[j]?<;>rfl
theorem natI_push (l:List Nat)(x:Nat):natI (l++[x])=natI l++[(x:Int)]:=by simp[natI]
def RndPost (E:Nat→List Nat)(at_:Nat)(w:World)(e:Ending)(w':World):Prop:=∃ r:Bool,e=.returned (.bool r)∧(r=true↔Ring E at_)∧Below w.heap.size w w'
structure RndW (w:World)(nm:ByteArray)(ln pr:Int)(rs:Bool)(rg:Int)(v5 v6 s7 v8:Value)(ni:Nat)(seen:Nat→Bool)(v:Value)(L:List Nat)(wr:World):Prop where
 old:Below w.heap.size w wr
 prot:Prot wr w.heap.size nm ln pr rs rg v5 v6 s7 v8
 row:wr.rowIs (w.heap.size+1) 4 ni (fun j=>.bool (seen j))
 own:OwnI wr (w.heap.size+2) v (natI L)
section
variable {w:World} {nm:ByteArray} {ln pr:Int} {rs:Bool} {rg:Int} {v5 v6 s7 v8:Value} {ni:Nat} {seen:Nat→Bool} {v v':Value} {L L':List Nat} {wr w2:World}
theorem RndW.below (h:RndW w nm ln pr rs rg v5 v6 s7 v8 ni seen v L wr)(hb:Below wr.heap.size wr w2):RndW w nm ln pr rs rg v5 v6 s7 v8 ni seen v L w2:=
 ⟨h.old.trans (hb.mono h.old.size),h.prot.keep hb (World.block_lt_of_cell? _ _ h.prot.1),h.row.of_block (hb.block _ h.row.lt),h.own.below hb⟩
theorem RndW.set (h:RndW w nm ln pr rs rg v5 v6 s7 v8 ni seen v L wr)(j:Nat):RndW w nm ln pr rs rg v5 v6 s7 v8 ni (upd seen j true) v L (wr.setCell ⟨w.heap.size+1,j,none⟩ (.bool true)) where
 old:=h.old.setCell (Nat.le_succ _) _
 prot:=h.prot.setOther (by omega) _
 row:=(h.row.set j _).congr fun i _=>by
  unfold upd
  by_cases e:i=j
  ·rw[if_pos e,if_pos e]
  ·rw[if_neg e,if_neg e]
 own:=h.own.setOther (by omega)
theorem RndW.push (h:RndW w nm ln pr rs rg v5 v6 s7 v8 ni seen v L wr){o:Obj}(hg:(wr.alloc o).grownBy w2 v.ownBlock)(ho:OwnI w2 (w.heap.size+2) v' (natI L')):RndW w nm ln pr rs rg v5 v6 s7 v8 ni seen v' L' w2:=by
 have hlt:∀ k,v.ownBlock=some k→w.heap.size+2≤k:=fun k hk=>(h.own.lt k hk).1
 have hr:=h.row.lt
 have hbl:∀ b,b<w.heap.size+2→w2.heap[b]? = wr.heap[b]?:=fun b hb=>by
  rw[hg.block b (by simp;omega) (fun e=>by have:=hlt b e.symm;omega)]
  exact Below.heap_alloc wr o b (by omega)
 refine⟨?_,?_,h.row.of_block (hbl _ (by omega)),ho⟩
 ·exact(h.old.alloc h.old.size o).grown hg (by simp;omega) (fun k hk=>by have:=hlt k hk;omega)
 ·obtain⟨p0,p1,p2,p3,p4,p5,p6,p7,p8⟩:=h.prot
  have e:∀ j,w2.cell? ⟨w.heap.size,j,none⟩=wr.cell? ⟨w.heap.size,j,none⟩:=fun j=>World.cell?_of_block (hbl _ (by show w.heap.size<_;omega))
  exact⟨(e 0).trans p0,(e 1).trans p1,(e 2).trans p2,(e 3).trans p3,(e 4).trans p4,(e 5).trans p5,(e 6).trans p6,(e 7).trans p7,(e 8).trans p8⟩
end
theorem l6round_any (E:Nat→List Nat)(at_ ni:Nat)(nm:ByteArray)(ln pr:Int)(rs:Bool)(rg:Int)(v5 v6 v8:Value)(a7:Option Addr)(c7:Nat)(w:World)(hn:ni≤6000)(hat:at_<ni)
  (hE:∀ j,j<ni→∀ y,y∈E j→y<ni)(hE2:∀ j,(E j).length≤2)
  (hsil:∀(W:World)(j:Nat),Below w.heap.size w W→j<ni→Calls Tryz.prog 55 #[.agg #[.string nm,.int .i64 ln,.int .i64 pr,.bool rs,.int .i64 rg,v5,v6,.slice a7 ni c7,v8],.int .i64 j] W fun e w'=>∃ v,e=.returned v∧OwnI w' W.heap.size v (natI (E j))∧Below W.heap.size W w') :
  Calls Tryz.prog 22 #[.agg #[.string nm,.int .i64 ln,.int .i64 pr,.bool rs,.int .i64 rg,v5,v6,.slice a7 ni c7,v8],.int .i64 at_] w (RndPost E at_ w):=by
 obtain⟨i0,hi,hz0,hz1,hz2⟩:=info_of info_i
 have hmk:=run_make_row' (P:=Tryz.prog) 52 4 (.bool false) 1 Tryz.underlying52 (by kernel_rfl) rfl .i64 .i64 ni (by omega) (by omega)
 have SIL:=hide hsil
 have HE:=hide hE
 have HE2:=hide hE2
 have W0:Hid (∀ W v,OwnI W (w.heap.size+2) v (natI (E at_))→Below (w.heap.size+2) ((w.alloc (.cells #[.string nm,.int .i64 ln,.int .i64 pr,.bool rs,.int .i64 rg,v5,v6,.slice a7 ni c7,v8] 58)).alloc (.cells (madeCells #[.bool false] ni) 4)) W→RndW w nm ln pr rs rg v5 v6 (.slice a7 ni c7) v8 ni (fun _=>false) v (E at_) W):=fun W v hv hW=>by
  refine⟨?_,?_,?_,hv⟩
  ·exact(((Below.refl _ _).alloc (Nat.le_refl _) _).alloc (by simp) _).trans (hW.mono (by omega))
  ·refine Prot.keep (W:=(w.alloc (.cells #[.string nm,.int .i64 ln,.int .i64 pr,.bool rs,.int .i64 rg,v5,v6,.slice a7 ni c7,v8] 58)).alloc (.cells (madeCells #[.bool false] ni) 4)) ?_ hW (by omega)
   refine⟨?_,?_,?_,?_,?_,?_,?_,?_,?_⟩<;>simp[go_sem]
  ·have h:=World.rowIs_made (w.alloc (.cells #[.string nm,.int .i64 ln,.int .i64 pr,.bool rs,.int .i64 rg,v5,v6,.slice a7 ni c7,v8] 58)) (.bool false) ni 4
   have h2:((w.alloc (.cells #[.string nm,.int .i64 ln,.int .i64 pr,.bool rs,.int .i64 rg,v5,v6,.slice a7 ni c7,v8] 58)).alloc (.cells (madeCells #[.bool false] ni) 4)).rowIs (w.heap.size+1) 4 ni (fun _=>.bool false):=by simpa using h
   exact h2.of_block (hW.block _ (by omega))
 have hA:∀ o1 o2,Below w.heap.size w ((w.alloc o1).alloc o2):=fun o1 o2=>((Below.refl _ _).alloc (Nat.le_refl _) o1).alloc (by simp) o2
 clear hsil hE hE2
 go_enter Tryz.func22,Tryz.ntmps22
 go_wp2_with fail
 refine(unhide SIL _ at_ (hA _ _) hat).mono ?_
 rintro e w1 ⟨v,rfl,hv,hb1⟩
 have hsz2:∀ o1 o2,((w.alloc o1).alloc o2).heap.size=w.heap.size+2:=fun _ _=>by simp
 rw[hsz2]at hb1 hv
 have R0:=hide (unhide W0 w1 v hv hb1)
 clear hb1 hv W0 hmk
 go_wp2_with fail
 go_loopg [6,7] ((E at_).length+3 * ni) (fun g v i wr=>∃(k:Nat) (L:List Nat) (seen:Nat→Bool),i=.int .i64 k∧RndW w nm ln pr rs rg v5 v6 (.slice a7 ni c7) v8 ni seen v L wr∧Hid (BInv E at_ L seen k)∧Hid (∀ y,y∈L→y<ni)∧k+g=L.length+3 * unseen seen ni∧k≤L.length∧L.length+2 * unseen seen ni≤2+2 * ni)
 case atStart=>exact⟨0,E at_,fun _=>false,rfl,unhide R0,BInv.start E at_,fun y hy=>unhide HE at_ hat y hy,by rw[unseen_start];omega,Nat.zero_le _,by rw[unseen_start];have:=unhide HE2 at_;omega⟩
 case round=>
  clear R0
  obtain⟨k,L,seen,rfl,hW,hI,hLt,hg,hkL,hbd⟩:=hrel
  obtain⟨av,cv,hav⟩:=hW.own.lenV
  rw[natI_len]at hav
  have hLL:L.length≤20000:=by omega
  by_cases hk:k<L.length
  ·obtain⟨gb,cap,hgv,hgb,hglt,hgc⟩:=hW.own.at (by rw[natI_len];omega)
   rw[natI_len]at hgv hgc
   have hck:=hgc k hk
   rw[natI_get]at hck
   obtain⟨x,hx⟩:∃ x,L[k]?.getD 0=x:=⟨_,rfl⟩
   have hxk:L[k]? = some x:=by rw[List.getElem?_eq_getElem hk]at hx ⊢;exact congrArg some hx
   have hxn:x<ni:=hLt.out x (List.mem_of_getElem? hxk)
   rw[hx]at hck
   have HXK:=hide hxk
   have hrow:=hW.row.cell (i:=x) hxn
   have hfr:=hW.row.frozen x
   have hrl:=hW.row.lt
   obtain⟨p0,p1,p2,p3,p4,p5,p6,p7,p8⟩:=hW.prot
   have HW:=hide hW
   have HGV:=hide hgv
   clear hgc hx hxk hav
   subst hgv
   by_cases hxa:x=at_
   ·have RR:Hid (Ring E at_):=hI.out.yes (by rw[←hxa];exact HXK.out)
    have hxi:((x:Int)==(at_:Int))=true:=by simp;omega
    have hxn2:(x==at_)=true:=by simpa using hxa
    clear hW hxa
    go_wp2_with fail
    go_ret
    show RndPost _ _ _ _ _
    exact⟨true,rfl,⟨fun _=>unhide RR,fun _=>rfl⟩,(unhide HW).old⟩
   have hxi:((x:Int)==(at_:Int))=false:=beq_eq_false_iff_ne.2 (by omega)
   have hxn2:(x==at_)=false:=beq_eq_false_iff_ne.2 hxa
   cases hsn:seen x
   case true=>
    have RR:Hid (BInv E at_ L seen (k+1)):=hI.out.again HXK.out hxa hsn
    rw[hsn]at hrow
    clear hW hxa hsn
    go_wp2_with fail
    go_roundg (L.length+3 * unseen seen ni-(k+1))
    case measure=>omega
    case rel=>exact⟨k+1,L,seen,by go_num,unhide HW,RR,hLt,by omega,by omega,hbd⟩
   rw[hsn]at hrow
   have RI:Hid (BInv E at_ (L++E x) (upd seen x true) (k+1)):=hI.out.new HXK.out hxa
   have HUN:=hide (unseen_new hsn hxn)
   have HWS:=hide (hW.set x)
   clear hW hxa hsn
   go_wp2_with fail
   refine(unhide SIL _ x (unhide HWS).old hxn).mono ?_
   rintro e w2 ⟨v2,rfl,hv2,hb2⟩
   have hW2:=(unhide HWS).below hb2
   obtain⟨a2,c2,ha2⟩:=hv2.lenV
   rw[natI_len]at ha2
   have hws2:(wr.setCell ⟨w.heap.size+1,x,none⟩ (.bool true)).heap.size=wr.heap.size:=by simp
   rw[hws2]at hv2
   have HV2:=hide hv2
   have HNB:Hid ((Value.slice (some ⟨gb,0,none⟩) L.length cap).ownBlock=none∨(Value.slice (some ⟨gb,0,none⟩) L.length cap).ownBlock≠v2.ownBlock):=.inr (fun e=>by
    have h1:=hv2.lt gb e.symm
    omega)
   have HA2:=hide ha2
   have HL2:=hide (unhide HE2 x)
   have HW2:=hide hW2
   have hgl2:gb<wr.heap.size:=hglt
   clear hv2 hb2 hW2
   subst ha2
   go_wp2_with fail
   clear p0 p1 p2 p3 p4 p5 p6 p7 p8 hck hrow hfr
   obtain⟨wo,rfl⟩:∃ wo,wo=wr:=⟨wr,rfl⟩
   go_loopg [6,43] (E x).length (fun g v i wr'=>∃(q:Nat),q+g=(E x).length∧i=.int .i64 q∧RndW w nm ln pr rs rg v5 v6 (.slice a7 ni c7) v8 ni (upd seen x true) v (L++(E x).take q) wr'∧OwnI wr' wo.heap.size (.slice a2 (E x).length c2) (natI (E x))∧Hid (v.ownBlock=none∨v.ownBlock≠(Value.slice a2 (E x).length c2).ownBlock))
   case atStart=>exact⟨0,by omega,rfl,by rw[List.take_zero,List.append_nil];exact unhide HW2,unhide HV2,unhide HNB⟩
   case round=>
    clear HW2 HV2
    obtain⟨q,hq,rfl,hWq,hv2,hne⟩:=hrel
    by_cases hql:q<(E x).length
    ·obtain⟨g2,cap2,hg2v,hg2b,hg2lt,hg2c⟩:=hv2.at (by rw[natI_len];omega)
     rw[natI_len]at hg2v hg2c
     have hcq:=hg2c q hql
     rw[natI_get]at hcq
     obtain⟨y,hy⟩:∃ y,(E x)[q]?.getD 0=y:=⟨_,rfl⟩
     have HTN:=hide (take_next (E x) q 0 hql)
     rw[hy]at hcq HTN
     clear hg2c hy
     have HLL:Hid ((natI (L++(E x).take q)).length≤1048576):=by
      show _≤_
      rw[natI_len,List.length_append,List.length_take]
      have:=HL2.out
      omega
     have HWQ:=hide hWq
     have HV2:=hide hv2
     have HOWN:=hide hWq.own
     have hws:=hWq.row.lt
     clear hWq hv2
     injection hg2v with hg2a hg2b' hg2c'
     subst hg2a
     obtain rfl:cap2=c2:=hg2c'.symm
     have hl2:=HL2.out
     go_wp2_with (first
      | (at_builtin;refine wpList_append_lies _ rfl _ _ 63 rfl (w.heap.size+2) 3 i0 (.int .i64 0) 1 8 Tryz.underlying63 hi hz0 hz1 hz2 rfl (by decide) _ _ _ rfl ((unhide HOWN).alloc _) ⟨wr.heap.size,0,none⟩ 1 1 [.int .i64 (y:Int)] rfl rfl ?c1 ?c2 (by decide) ?c3 ?c4 ?c5 (wr.heap.size+1) (by simp) ?_)
      | go_in)
     case c2=>rfl
     case c3=>have:=HLL.out;unfold maxLen;omega
     case c4=>have:=HLL.out;omega
     case c5=>omega
     intro g3 cap3 w3 hown' hgrow hat3 hlt3
     have hnl:=HLL.out
     have O3:Hid (∃ n3,OwnI w3 (w.heap.size+2) (.slice (some ⟨g3,0,none⟩) n3 cap3) (natI (L++(E x).take (q+1)))∧n3=(natI (L++(E x).take q)).length+1):=by
      refine⟨_,?_,rfl⟩
      rw[HTN.out,←List.append_assoc,natI_push]
      exact OwnI.push hown'
     obtain⟨n3,o3,hn3⟩:=O3.out
     have O4:=hide o3
     have R3:Hid (RndW w nm ln pr rs rg v5 v6 (.slice a7 ni c7) v8 ni (upd seen x true) (.slice (some ⟨g3,0,none⟩) n3 cap3) (L++(E x).take (q+1)) w3):=(unhide HWQ).push hgrow (unhide O4)
     have V3:Hid (OwnI w3 wo.heap.size (.slice (some ⟨g2,0,none⟩) (E x).length cap2) (natI (E x))):=OwnI.kept ((unhide HV2).below ((Below.refl _ _).alloc (Nat.le_refl _) _)) hgrow (.inr (fun e=>by
      rcases hne.out with h | h
      ·rw[h]at e;cases e
      ·exact h e.symm))
     have N3:Hid ((Value.slice (some ⟨g3,0,none⟩) n3 cap3).ownBlock=none∨(Value.slice (some ⟨g3,0,none⟩) n3 cap3).ownBlock≠(Value.slice (some ⟨g2,0,none⟩) (E x).length cap2).ownBlock):=.inr (fun e=>by
      have e:g3=g2:=by simpa[Value.ownBlock]using e
      rcases hat3 with h | h
      ·rcases hne.out with h2 | h2
       ·rw[h2]at h;cases h
       ·exact h2 (by rw[h,e];rfl)
      ·omega)
     rw[hn3]at R3 N3
     clear o3 O3 O4 hn3
     clear hown' hgrow hat3
     go_wp2_with fail
     go_roundg ((E x).length-(q+1))
     case measure=>omega
     case rel=>exact⟨q+1,by omega,by go_num,unhide R3,unhide V3,N3⟩
    ·have hqe:q=(E x).length:=by omega
     rw[hqe,List.take_length]at hWq
     have HWF:=hide hWq
     have hun:=HUN.out
     have hl2:=HL2.out
     have HLT:Hid (∀ y,y∈L++E x→y<ni):=fun y hy=>by
      rw[List.mem_append]at hy
      exact hy.elim (hLt.out y) (unhide HE x hxn y)
     clear hWq hv2 hqe
     go_wp2_with fail
     go_roundg (L.length+(E x).length+3 * unseen (upd seen x true) ni-(k+1))
     case measure=>omega
     case rel=>exact⟨k+1,L++E x,upd seen x true,by go_num,unhide HWF,RI,HLT,by rw[List.length_append];omega,by rw[List.length_append];omega,by rw[List.length_append];omega⟩
  ·have RR:Hid (¬Ring E at_):=hI.out.no (by omega)
   have HW:=hide hW
   subst hav
   clear hW
   go_wp2_with fail
   go_ret
   show RndPost _ _ _ _ _
   exact⟨false,rfl,⟨fun h=>Bool.noConfusion h,fun h=>absurd h (unhide RR)⟩,(unhide HW).old⟩
theorem list_eq_of {α:Type}{s t:List α}(d:α)(hl:s.length=t.length)(h:∀ j,j<s.length→s[j]?.getD d=t[j]?.getD d):s=t:=by
 apply List.ext_getElem hl
 intro j h1 h2
 have:=h j h1
 rw[List.getElem?_eq_getElem h1,List.getElem?_eq_getElem h2]at this
 exact this
def SamePost (t1 t2:List Int)(g1 g2:List GuD)(w:World)(e:Ending)(w':World):Prop:=∃ r:Bool,e=.returned (.bool r)∧(r=true↔t1=t2∧g1=g2)∧Below w.heap.size w w'
theorem same_no {t1 t2:List Int}{g1 g2:List GuD}{w w':World}(h:¬(t1=t2∧g1=g2))(hb:Below w.heap.size w w'):SamePost t1 t2 g1 g2 w (.returned (.bool false)) w':=⟨false,rfl,⟨fun h=>Bool.noConfusion h,fun h'=>absurd h' h⟩,hb⟩
theorem same_yes {t1 t2:List Int}{g1 g2:List GuD}{w w':World}(h:t1=t2∧g1=g2)(hb:Below w.heap.size w w'):SamePost t1 t2 g1 g2 w (.returned (.bool true)) w':=⟨true,rfl,⟨fun _=>h,fun _=>rfl⟩,hb⟩
theorem l6same_any (ra rb:Bool)(t1 t2:List Int)(g1 g2:List GuD)(a1 a2 b1 b2:Option Addr)(c1 c2 d1 d2:Nat)(S:Nat→Prop)(w:World)(h1:IntsAt w S a1 t1)(h2:GusAt w S a2 g1)(k1:IntsAt w S b1 t2)(k2:GusAt w S b2 g2)(hB:∀ b,S b→b<w.heap.size) :
  Calls Tryz.prog 30 #[.agg #[.bool ra,.slice a1 t1.length c1,.slice a2 g1.length c2],.agg #[.bool rb,.slice b1 t2.length d1,.slice b2 g2.length d2]] w (SamePost t1 t2 g1 g2 w):=by
 have hn1:=h1.1;have hn2:=h2.1;have hm1:=k1.1;have hm2:=k2.1
 have H1:=hide h1;have H2:=hide h2;have K1:=hide k1;have K2:=hide k2;have HB:=hide hB
 clear h1 h2 k1 k2 hB
 have hA:∀ o1 o2,Below w.heap.size w ((w.alloc o1).alloc o2):=fun o1 o2=>((Below.refl _ _).alloc (Nat.le_refl _) o1).alloc (by simp) o2
 by_cases e1:t1.length=t2.length
 case neg=>
  have RR:Hid (¬(t1=t2∧g1=g2)):=fun h=>e1 (by rw[h.1])
  have x1:((t1.length:Int) != (t2.length:Int))=true:=bne_iff_ne.2 (by omega)
  clear e1
  go_enter Tryz.func30,Tryz.ntmps30
  go_wp2_with fail
  go_ret
  exact same_no RR.out (hA _ _)
 by_cases e2:g1.length=g2.length
 case neg=>
  have RR:Hid (¬(t1=t2∧g1=g2)):=fun h=>e2 (by rw[h.2])
  have x1:((t1.length:Int) != (t2.length:Int))=false:=by rw[e1];simp
  have x2:((g1.length:Int) != (g2.length:Int))=true:=bne_iff_ne.2 (by omega)
  clear e1 e2
  go_enter Tryz.func30,Tryz.ntmps30
  go_wp2_with fail
  go_ret
  exact same_no RR.out (hA _ _)
 have x1:((t1.length:Int) != (t2.length:Int))=false:=by rw[e1];simp
 have x2:((g1.length:Int) != (g2.length:Int))=false:=by rw[e2];simp
 have E1:=hide e1;have E2:=hide e2
 have P0:Hid (∀ W,Below (w.heap.size+2) ((w.alloc (.cells #[.bool ra,.slice a1 t1.length c1,.slice a2 g1.length c2] 66)).alloc (.cells #[.bool rb,.slice b1 t2.length d1,.slice b2 g2.length d2] 66)) W→(W.cell? ⟨w.heap.size,1,none⟩=some (.slice a1 t1.length c1)∧W.cell? ⟨w.heap.size,2,none⟩=some (.slice a2 g1.length c2)∧W.cell? ⟨w.heap.size+1,1,none⟩=some (.slice b1 t2.length d1)∧W.cell? ⟨w.heap.size+1,2,none⟩=some (.slice b2 g2.length d2))∧Below w.heap.size w W):=fun W hW=>
  ⟨⟨by rw[hW.cell (p:=⟨w.heap.size,1,none⟩) (by simp)];simp[go_sem],by rw[hW.cell (p:=⟨w.heap.size,2,none⟩) (by simp)];simp[go_sem],by rw[hW.cell (p:=⟨w.heap.size+1,1,none⟩) (by simp)];simp[go_sem],by rw[hW.cell (p:=⟨w.heap.size+1,2,none⟩) (by simp)];simp[go_sem]⟩,(hA _ _).trans (hW.mono (by omega))⟩
 clear e1 e2
 go_enter Tryz.func30,Tryz.ntmps30
 go_wp2_with fail
 clear x1 x2
 go_loopg [26] t1.length (fun g i wr=>∃(k:Nat),k+g=t1.length∧i=.int .i64 k∧Below (w.heap.size+2) ((w.alloc (.cells #[.bool ra,.slice a1 t1.length c1,.slice a2 g1.length c2] 66)).alloc (.cells #[.bool rb,.slice b1 t2.length d1,.slice b2 g2.length d2] 66)) wr∧Hid (∀ j,j<k→t1[j]?.getD 0=t2[j]?.getD 0))
 case atStart=>exact⟨0,by omega,rfl,Below.refl _ _,fun j h=>absurd h (Nat.not_lt_zero _)⟩
 case round=>
  obtain⟨k,hk,rfl,hW,hall⟩:=hrel
  obtain⟨⟨m1,m2,m3,m4⟩,hb⟩:=unhide P0 wr hW
  have HW:=hide hW
  by_cases hlt:k<t1.length
  ·have hlt2:k<t2.length:=by rw[←E1.out];exact hlt
   obtain⟨b,off,rfl,hbS,hcc⟩:=((unhide H1).keep hb (unhide HB)).2 (by omega)
   have q1:=hcc k hlt
   clear hcc
   obtain⟨b',off',rfl,hbS',hcc⟩:=((unhide K1).keep hb (unhide HB)).2 (by omega)
   have q2:=hcc k hlt2
   clear hcc
   have NX:Hid (t1[k]?.getD 0=t2[k]?.getD 0→∀ j,j<k+1→t1[j]?.getD 0=t2[j]?.getD 0):=fun h j hj=>by
    by_cases e:j=k
    ·subst e;exact h
    ·exact hall.out j (by omega)
   have NF:Hid (t1[k]?.getD 0≠t2[k]?.getD 0→¬(t1=t2∧g1=g2)):=fun h h'=>h (by rw[h'.1])
   have HBB:=hide hb
   clear hall hW hb
   generalize t1[k]?.getD 0=y1 at *
   generalize t2[k]?.getD 0=y2 at *
   by_cases hy:y1=y2
   ·have RR:=hide (unhide NX hy)
    have hyb:(y1 != y2)=false:=by simpa using hy
    subst hy
    clear NX NF
    go_wp2_with fail
    go_quiet (fail)
    go_wp2_with fail
    go_roundg (t1.length-(k+1))
    case measure=>omega
    case rel=>exact⟨k+1,by omega,by go_num,(unhide HW).trans (below_drewN _ _ _),RR⟩
   ·have RR:=hide (unhide NF hy)
    have hyb:(y1 != y2)=true:=by simpa using hy
    clear NX NF hy
    go_wp2_with fail
    go_quiet (fail)
    go_wp2_with fail
    go_ret
    exact same_no RR.out ((unhide HBB).trans (below_drewN _ _ _))
  ·have TT:Hid (t1=t2):=list_eq_of 0 E1.out (fun j hj=>hall.out j (by omega))
   clear hall hb hW
   go_wp2_with fail
   go_loopg [44] g1.length (fun g i wr=>∃(k:Nat),k+g=g1.length∧i=.int .i64 k∧Below (w.heap.size+2) ((w.alloc (.cells #[.bool ra,.slice a1 t1.length c1,.slice a2 g1.length c2] 66)).alloc (.cells #[.bool rb,.slice b1 t2.length d1,.slice b2 g2.length d2] 66)) wr∧Hid (∀ j,j<k→g1[j]?.getD GuD.z=g2[j]?.getD GuD.z))
   case atStart=>exact⟨0,by omega,rfl,unhide HW,fun j h=>absurd h (Nat.not_lt_zero _)⟩
   case round=>
    clear m1 m2 m3 m4 HW
    obtain⟨k,hk,rfl,hW,hall⟩:=hrel
    obtain⟨⟨m1,m2,m3,m4⟩,hb⟩:=unhide P0 wr hW
    have HW:=hide hW
    by_cases hlt:k<g1.length
    ·have hlt2:k<g2.length:=by rw[←E2.out];exact hlt
     obtain⟨b,off,rfl,hbS,hcc⟩:=((unhide H2).keep hb (unhide HB)).2 (by omega)
     have q1:=hcc k hlt
     clear hcc
     obtain⟨b',off',rfl,hbS',hcc⟩:=((unhide K2).keep hb (unhide HB)).2 (by omega)
     have q2:=hcc k hlt2
     clear hcc
     have NX:Hid (g1[k]?.getD GuD.z=g2[k]?.getD GuD.z→∀ j,j<k+1→g1[j]?.getD GuD.z=g2[j]?.getD GuD.z):=fun h j hj=>by
      by_cases e:j=k
      ·subst e;exact h
      ·exact hall.out j (by omega)
     have NF:Hid (g1[k]?.getD GuD.z≠g2[k]?.getD GuD.z→¬(t1=t2∧g1=g2)):=fun h h'=>h (by rw[h'.2])
     have HBB:=hide hb
     clear hall hW hb
     generalize g1[k]?.getD GuD.z=y1 at *
     generalize g2[k]?.getD GuD.z=y2 at *
     have r0:=q1.tr;have r1:=q1.keep;have r2:=q1.hand
     have s0:=q2.tr;have s1:=q2.keep;have s2:=q2.hand
     clear q1 q2
     obtain⟨y1t,y1k,y1h⟩:=y1
     obtain⟨y2t,y2k,y2h⟩:=y2
     simp only at *
     by_cases hk1:y1k=y2k
     case neg=>
      have RR:=hide (unhide NF (fun h=>hk1 (by injection h)))
      have hb1:(y1k==y2k)=false:=beq_eq_false_iff_ne.2 hk1
      have hb2:(y1k != y2k)=true:=by simpa using hk1
      clear NX NF hk1
      go_wp2_with fail
      go_quiet (fail)
      go_wp2_with fail
      go_ret
      exact same_no RR.out ((unhide HBB).trans (below_drewN _ _ _))
     by_cases hk2:y1h=y2h
     case neg=>
      have RR:=hide (unhide NF (fun h=>hk2 (by injection h)))
      have hb1:(y1h==y2h)=false:=beq_eq_false_iff_ne.2 hk2
      have hb2:(y1h != y2h)=true:=by simpa using hk2
      clear NX NF hk2
      subst hk1
      go_wp2_with fail
      go_quiet (fail)
      go_wp2_with fail
      go_ret
      exact same_no RR.out ((unhide HBB).trans (below_drewN _ _ _))
     by_cases hk3:y1t=y2t
     case neg=>
      have RR:=hide (unhide NF (fun h=>hk3 (by injection h)))
      have hb1:(y1t==y2t)=false:=beq_eq_false_iff_ne.2 hk3
      have hb2:(y1t != y2t)=true:=by simpa using hk3
      clear NX NF hk3
      subst hk1 hk2
      go_wp2_with fail
      go_quiet (fail)
      go_wp2_with fail
      go_ret
      exact same_no RR.out ((unhide HBB).trans (below_drewN _ _ _))
     subst hk1 hk2 hk3
     have RR:=hide (unhide NX rfl)
     clear NX NF
     go_wp2_with fail
     go_quiet (fail)
     go_wp2_with fail
     go_roundg (g1.length-(k+1))
     case measure=>omega
     case rel=>exact⟨k+1,by omega,by go_num,(unhide HW).trans (below_drewN _ _ _),RR⟩
    ·have GG:Hid (g1=g2):=list_eq_of GuD.z E2.out (fun j hj=>hall.out j (by omega))
     clear hall hW
     go_wp2_with fail
     go_ret
     exact same_yes ⟨TT.out,GG.out⟩ hb
def TakenOk (taken:List Nat)(keep:Int):Prop:=∀ r,r∈taken→¬(r:Int)<keep
def SameTo (bef beh:List Int)(keep:Int):Prop:=∀ r:Nat,(r:Int)<keep→tyAt bef r=tyAt beh r
def AtEnd (op:Int)(i n:Nat):Prop:=op=32∧i+1=n
def KeptP (op:Int)(g:List GuD)(taken:List Nat)(bef beh:List Int)(i:Nat):Prop:=
 (g[i]?.getD GuD.z).tr=true→TakenOk taken (g[i]?.getD GuD.z).keep∧(AtEnd op i g.length∨SameTo bef beh (g[i]?.getD GuD.z).keep)
theorem keptC_iff {n:InsD}{g:List GuD}{taken:List Nat}{bef beh:List Int}:keptC n g taken bef beh=true↔∀ i,i<g.length→KeptP n.op g taken bef beh i:=by
 unfold keptC KeptP TakenOk SameTo AtEnd
 rw[List.all_eq_true]
 constructor
 ·intro h i hi htr
  have h1:=h i (by simpa using hi)
  simp only[htr,Bool.not_true,Bool.false_or,Bool.and_eq_true,List.all_eq_true,Bool.or_eq_true,decide_eq_true_eq,Bool.not_eq_true',decide_eq_false_iff_not,List.mem_range,beq_iff_eq]at h1
  refine⟨h1.1,h1.2.elim .inl (fun h2=>.inr (fun r hr=>h2 r (by omega)))⟩
 ·intro h i hi
  have hi:i<g.length:=by simpa using hi
  cases htr:(g[i]?.getD GuD.z).tr
  ·rfl
  ·have h1:=h i hi htr
   simp only[Bool.not_true,Bool.false_or,Bool.and_eq_true,List.all_eq_true,Bool.or_eq_true,decide_eq_true_eq,Bool.not_eq_true',decide_eq_false_iff_not,List.mem_range,beq_iff_eq]
   exact⟨h1.1,h1.2.elim .inl (fun h2=>.inr (fun r hr=>h2 r (by omega)))⟩
def KeptPost (op:Int)(g:List GuD)(taken:List Nat)(bef beh:List Int)(w:World)(e:Ending)(w':World):Prop:=∃ r:Bool,e=.returned (.bool r)∧(r=true↔∀ i,i<g.length→KeptP op g taken bef beh i)∧Below w.heap.size w w'
theorem kept_no {op:Int}{g:List GuD}{taken:List Nat}{bef beh:List Int}{w w':World}{i:Nat}(hi:i<g.length)(h:¬KeptP op g taken bef beh i)(hb:Below w.heap.size w w'):KeptPost op g taken bef beh w (.returned (.bool false)) w':=⟨false,rfl,⟨fun h=>Bool.noConfusion h,fun h'=>absurd (h' i hi) h⟩,hb⟩
theorem kept_yes {op:Int}{g:List GuD}{taken:List Nat}{bef beh:List Int}{w w':World}(h:∀ i,i<g.length→KeptP op g taken bef beh i)(hb:Below w.heap.size w w'):KeptPost op g taken bef beh w (.returned (.bool true)) w':=⟨true,rfl,⟨fun _=>h,fun _=>rfl⟩,hb⟩
theorem l6kept_any (op fa fb fc fd:Int)(g:List GuD)(taken:List Nat)(bef beh:List Int)(ag at_ ab ae:Option Addr)(cg ct cb ce:Nat)(S:Nat→Prop)(w:World)(h1:GusAt w S ag g)(h2:IntsAt w S at_ (natI taken))(h3:IntsAt w S ab bef)(h4:IntsAt w S ae beh)(hB:∀ b,S b→b<w.heap.size)
  (hl:bef.length=beh.length)(hk:∀ i,i<g.length→(g[i]?.getD GuD.z).keep≤bef.length)(hlen:bef.length≤250) :
  Calls Tryz.prog 27 #[.agg #[.int .i64 op,.int .i64 fa,.int .i64 fb,.int .i64 fc,.int .i64 fd],.slice ag g.length cg,.slice at_ taken.length ct,.slice ab bef.length cb,.slice ae beh.length ce] w (KeptPost op g taken bef beh w):=by
 have hn1:=h1.1;have hn2:=h2.1
 rw[natI_len]at hn2
 have H1:=hide h1;have H2:=hide h2;have H3:=hide h3;have H4:=hide h4;have HB:=hide hB;have HK:=hide hk;have HL:=hide hl
 clear h1 h2 h3 h4 hB hk hl
 have P0:Hid (∀ W,Below (w.heap.size+1) (w.alloc (.cells #[.int .i64 op,.int .i64 fa,.int .i64 fb,.int .i64 fc,.int .i64 fd] 60)) W→W.cell? ⟨w.heap.size,0,none⟩=some (.int .i64 op)∧Below w.heap.size w W):=fun W hW=>
  ⟨by rw[hW.cell (p:=⟨w.heap.size,0,none⟩) (by simp)];simp[go_sem],((Below.refl _ _).alloc (Nat.le_refl _) _).trans (hW.mono (by omega))⟩
 go_enter Tryz.func27,Tryz.ntmps27
 go_wp2_with fail
 go_loopg [18] g.length (fun gg i wr=>∃(k:Nat),k+gg=g.length∧i=.int .i64 k∧Below (w.heap.size+1) (w.alloc (.cells #[.int .i64 op,.int .i64 fa,.int .i64 fb,.int .i64 fc,.int .i64 fd] 60)) wr∧Hid (∀ j,j<k→KeptP op g taken bef beh j))
 case atStart=>exact⟨0,by omega,rfl,Below.refl _ _,fun j h=>absurd h (Nat.not_lt_zero _)⟩
 case round=>
  obtain⟨k,hk,rfl,hW,hall⟩:=hrel
  obtain⟨mo,hb⟩:=unhide P0 wr hW
  have HW:=hide hW
  have HBB:=hide hb
  have hws:w.heap.size<wr.heap.size:=by have:=hW.size;simp at this;omega
  by_cases hlt:k<g.length
  ·obtain⟨b,off,rfl,hbS,hcc⟩:=((unhide H1).keep hb (unhide HB)).2 (by omega)
   have q1:=hcc k hlt
   clear hcc
   have NX:Hid (KeptP op g taken bef beh k→∀ j,j<k+1→KeptP op g taken bef beh j):=fun h j hj=>by
    by_cases e:j=k
    ·subst e;exact h
    ·exact hall.out j (by omega)
   have NF:Hid (∀ w',¬KeptP op g taken bef beh k→Below w.heap.size w w'→KeptPost op g taken bef beh w (.returned (.bool false)) w'):=fun w' h hb'=>kept_no hlt h hb'
   have KD:Hid (KeptP op g taken bef beh k↔((g[k]?.getD GuD.z).tr=true→TakenOk taken (g[k]?.getD GuD.z).keep∧(AtEnd op k g.length∨SameTo bef beh (g[k]?.getD GuD.z).keep))):=Iff.rfl
   have hkk:=unhide HK k hlt
   clear hall hW hb
   generalize KeptP op g taken bef beh k=KP at *
   generalize g[k]?.getD GuD.z=y at *
   have r0:=q1.tr;have r1:=q1.keep;have r2:=q1.hand
   clear q1
   obtain⟨xt,xk,xh⟩:=y
   simp only at *
   have hbl:b<wr.heap.size:=Nat.lt_of_lt_of_le (unhide HB b hbS) (unhide HBB).size
   cases xt
   ·have RR:=hide (unhide NX (KD.out.2 (fun h=>Bool.noConfusion h)))
    clear NX NF KD
    go_wp2_with fail
    go_roundg (g.length-(k+1))
    case measure=>omega
    case rel=>exact⟨k+1,by omega,by go_num,(unhide HW).alloc (by omega) _,RR⟩
   have KT:Hid (TakenOk taken xk→(AtEnd op k g.length∨SameTo bef beh xk)→KP):=fun h1 h2=>KD.out.2 (fun _=>⟨h1,h2⟩)
   have KF:Hid (KP→TakenOk taken xk∧(AtEnd op k g.length∨SameTo bef beh xk)):=fun h=>KD.out.1 h rfl
   clear KD
   have P1:Hid (∀ W,Below (wr.heap.size+1) (wr.alloc (.cells #[.bool true,.int .i64 xk,.int .i64 xh] 112)) W→W.cell? ⟨wr.heap.size,1,none⟩=some (.int .i64 xk)∧W.cell? ⟨w.heap.size,0,none⟩=some (.int .i64 op)∧Below (w.heap.size+1) (w.alloc (.cells #[.int .i64 op,.int .i64 fa,.int .i64 fb,.int .i64 fc,.int .i64 fd] 60)) W):=fun W hW2=>
    ⟨by rw[hW2.cell (p:=⟨wr.heap.size,1,none⟩) (by simp)];simp[go_sem],by rw[hW2.cell (p:=⟨w.heap.size,0,none⟩) (by show w.heap.size<wr.heap.size+1;omega),Below.cell (B:=wr.heap.size) ((Below.refl _ _).alloc (Nat.le_refl _) _) (p:=⟨w.heap.size,0,none⟩) hws];exact mo,((unhide HW).alloc (by omega) _).trans (hW2.mono (by omega))⟩
   obtain⟨wo,rfl⟩:∃ wo,wo=wr:=⟨wr,rfl⟩
   go_wp2_with fail
   clear r0 r1 r2 mo
   go_loopg [28] taken.length (fun gg i wr=>∃(q:Nat),q+gg=taken.length∧i=.int .i64 q∧Below (wo.heap.size+1) (wo.alloc (.cells #[.bool true,.int .i64 xk,.int .i64 xh] 112)) wr∧Hid (∀ j,j<q→¬(((taken[j]?.getD 0:Nat):Int)<xk)))
   case atStart=>exact⟨0,by omega,rfl,Below.refl _ _,fun j h=>absurd h (Nat.not_lt_zero _)⟩
   case round=>
    obtain⟨q,hq,rfl,hWq,hok⟩:=hrel
    obtain⟨p1,p2,p3⟩:=unhide P1 wr hWq
    have HWQ:=hide hWq
    have HP3:=hide p3
    have hbq:=(unhide P0 wr p3).2
    have hwq:wo.heap.size<wr.heap.size:=by have:=hWq.size;simp at this;omega
    by_cases hql:q<taken.length
    ·obtain⟨b2,off2,rfl,hbS2,hcc⟩:=((unhide H2).keep hbq (unhide HB)).2 (by rw[natI_len];omega)
     rw[natI_len]at hcc
     have q2:=hcc q hql
     rw[natI_get]at q2
     clear hcc hWq p3
     obtain⟨y,hy⟩:∃ y,taken[q]?.getD 0=y:=⟨_,rfl⟩
     have hym:y∈taken:=by
      rw[List.getElem?_eq_getElem hql]at hy
      have hy:taken[q]=y:=hy
      rw[←hy];exact List.getElem_mem hql
     rw[hy]at q2
     by_cases hlk:(y:Int)<xk
     ·have RR:Hid (¬KP):=fun h=>(unhide KF h).1 y hym hlk
      have hd:decide ((y:Int)<xk)=true:=decide_eq_true hlk
      have RB:=hide hbq
      clear hbq
      go_wp2_with fail
      go_ret
      exact unhide NF _ RR.out (unhide RB)
     ·have NX2:Hid (∀ j,j<q+1→¬(((taken[j]?.getD 0:Nat):Int)<xk)):=fun j hj=>by
       by_cases e:j=q
       ·subst e;rw[hy];exact hlk
       ·exact hok.out j (by omega)
      have hd:decide ((y:Int)<xk)=false:=decide_eq_false hlk
      clear hbq hy hym
      go_wp2_with fail
      go_roundg (taken.length-(q+1))
      case measure=>omega
      case rel=>exact⟨q+1,by omega,by go_num,unhide HWQ,NX2⟩
    ·have TK:Hid (TakenOk taken xk):=fun r hr=>by
      obtain⟨j,hj,e⟩:=List.getElem_of_mem hr
      have h1:=hok.out j (by omega)
      rw[List.getElem?_eq_getElem hj,e]at h1
      exact h1
     clear hok hWq p3
     by_cases hend:op=32∧k+1=g.length
     ·have RR:=hide (unhide NX (unhide KT TK.out (.inl hend)))
      have x1:(op==32)=true:=by simpa using hend.1
      have x2:((k:Int)==(g.length:Int)-1)=true:=by have:=hend.2;simp;omega
      clear hend NX NF KT KF TK hbq
      go_wp2_with fail
      go_roundg (g.length-(k+1))
      case measure=>omega
      case rel=>exact⟨k+1,by omega,by go_num,unhide HP3,RR⟩
     ·have HEND:Hid (¬AtEnd op k g.length):=hend
      have XX:Hid ((op==32)=false∨((op==32)=true∧((k:Int)==(g.length:Int)-1)=false)):=by
       by_cases x:op=32
       ·exact .inr ⟨by simpa using x,beq_eq_false_iff_ne.2 (fun e=>hend ⟨x,by omega⟩)⟩
       ·exact .inl (beq_eq_false_iff_ne.2 x)
      have hkn:Hid (xk≤bef.length):=hkk
      clear hend hbq
      rcases XX.out with x1 | ⟨x1,x2⟩
      ·go_wp2_with fail
       go_loopg [15] xk.toNat (fun gg i wr=>∃(q:Nat),q+gg=xk.toNat∧i=.int .i64 q∧Below (wo.heap.size+1) (wo.alloc (.cells #[.bool true,.int .i64 xk,.int .i64 xh] 112)) wr∧Hid (∀ j,j<q→tyAt bef j=tyAt beh j))
       case atStart=>exact⟨0,by omega,rfl,unhide HWQ,fun j h=>absurd h (Nat.not_lt_zero _)⟩
       case round=>
        clear p1 p2 HWQ HP3 hwq
        obtain⟨q,hq,rfl,hWq,hok⟩:=hrel
        obtain⟨p1,p2,p3⟩:=unhide P1 wr hWq
        have HWQ:=hide hWq
        have HP3:=hide p3
        have hbq:=(unhide P0 wr p3).2
        have hwq:wo.heap.size<wr.heap.size:=by have:=hWq.size;simp at this;omega
        have hkn2:=hkn.out
        clear hWq p3
        by_cases hql:(q:Int)<xk
        ·have hqb:q<bef.length:=by omega
         have hqe:q<beh.length:=by have:=HL.out;omega
         obtain⟨b3,off3,rfl,hbS3,hcc⟩:=((unhide H3).keep hbq (unhide HB)).2 (by omega)
         have q3:=hcc q hqb
         clear hcc
         obtain⟨b4,off4,rfl,hbS4,hcc⟩:=((unhide H4).keep hbq (unhide HB)).2 (by omega)
         have q4:=hcc q hqe
         clear hcc
         have hle:=HL.out
         have NX3:Hid (bef[q]?.getD 0=beh[q]?.getD 0→∀ j,j<q+1→tyAt bef j=tyAt beh j):=fun h j hj=>by
          by_cases e:j=q
          ·subst e;exact h
          ·exact hok.out j (by omega)
         have NF3:Hid (bef[q]?.getD 0≠beh[q]?.getD 0→¬KP):=fun h h'=>by
          rcases(unhide KF h').2 with h2 | h2
          ·exact HEND.out h2
          ·exact h (h2 q hql)
         have RB:=hide hbq
         clear hbq hok
         generalize bef[q]?.getD 0=y1 at *
         generalize beh[q]?.getD 0=y2 at *
         by_cases hy:y1=y2
         ·have RR:=hide (unhide NX3 hy)
          have hyb:(y1 != y2)=false:=by simpa using hy
          subst hy
          clear NX3 NF3
          go_wp2_with fail
          go_quiet (fail)
          go_wp2_with fail
          go_roundg (xk.toNat-(q+1))
          case measure=>omega
          case rel=>exact⟨q+1,by omega,by go_num,(unhide HWQ).trans (below_drewN _ _ _),RR⟩
         ·have RR:=hide (unhide NF3 hy)
          have hyb:(y1 != y2)=true:=by simpa using hy
          clear NX3 NF3 hy
          go_wp2_with fail
          go_quiet (fail)
          go_wp2_with fail
          go_ret
          exact unhide NF _ RR.out ((unhide RB).trans (below_drewN _ _ _))
        ·have RR:=hide (unhide NX (unhide KT TK.out (.inr (fun r hr=>hok.out r (by omega)))))
         clear hok hbq NX NF KT KF TK
         go_wp2_with fail
         go_roundg (g.length-(k+1))
         case measure=>omega
         case rel=>exact⟨k+1,by omega,by go_num,unhide HP3,RR⟩
      ·go_wp2_with fail
       go_loopg [15] xk.toNat (fun gg i wr=>∃(q:Nat),q+gg=xk.toNat∧i=.int .i64 q∧Below (wo.heap.size+1) (wo.alloc (.cells #[.bool true,.int .i64 xk,.int .i64 xh] 112)) wr∧Hid (∀ j,j<q→tyAt bef j=tyAt beh j))
       case atStart=>exact⟨0,by omega,rfl,unhide HWQ,fun j h=>absurd h (Nat.not_lt_zero _)⟩
       case round=>
        clear p1 p2 HWQ HP3 hwq
        obtain⟨q,hq,rfl,hWq,hok⟩:=hrel
        obtain⟨p1,p2,p3⟩:=unhide P1 wr hWq
        have HWQ:=hide hWq
        have HP3:=hide p3
        have hbq:=(unhide P0 wr p3).2
        have hwq:wo.heap.size<wr.heap.size:=by have:=hWq.size;simp at this;omega
        have hkn2:=hkn.out
        clear hWq p3
        by_cases hql:(q:Int)<xk
        ·have hqb:q<bef.length:=by omega
         have hqe:q<beh.length:=by have:=HL.out;omega
         obtain⟨b3,off3,rfl,hbS3,hcc⟩:=((unhide H3).keep hbq (unhide HB)).2 (by omega)
         have q3:=hcc q hqb
         clear hcc
         obtain⟨b4,off4,rfl,hbS4,hcc⟩:=((unhide H4).keep hbq (unhide HB)).2 (by omega)
         have q4:=hcc q hqe
         clear hcc
         have hle:=HL.out
         have NX3:Hid (bef[q]?.getD 0=beh[q]?.getD 0→∀ j,j<q+1→tyAt bef j=tyAt beh j):=fun h j hj=>by
          by_cases e:j=q
          ·subst e;exact h
          ·exact hok.out j (by omega)
         have NF3:Hid (bef[q]?.getD 0≠beh[q]?.getD 0→¬KP):=fun h h'=>by
          rcases(unhide KF h').2 with h2 | h2
          ·exact HEND.out h2
          ·exact h (h2 q hql)
         have RB:=hide hbq
         clear hbq hok
         generalize bef[q]?.getD 0=y1 at *
         generalize beh[q]?.getD 0=y2 at *
         by_cases hy:y1=y2
         ·have RR:=hide (unhide NX3 hy)
          have hyb:(y1 != y2)=false:=by simpa using hy
          subst hy
          clear NX3 NF3
          go_wp2_with fail
          go_quiet (fail)
          go_wp2_with fail
          go_roundg (xk.toNat-(q+1))
          case measure=>omega
          case rel=>exact⟨q+1,by omega,by go_num,(unhide HWQ).trans (below_drewN _ _ _),RR⟩
         ·have RR:=hide (unhide NF3 hy)
          have hyb:(y1 != y2)=true:=by simpa using hy
          clear NX3 NF3 hy
          go_wp2_with fail
          go_quiet (fail)
          go_wp2_with fail
          go_ret
          exact unhide NF _ RR.out ((unhide RB).trans (below_drewN _ _ _))
        ·have RR:=hide (unhide NX (unhide KT TK.out (.inr (fun r hr=>hok.out r (by omega)))))
         clear hok hbq NX NF KT KF TK
         go_wp2_with fail
         go_roundg (g.length-(k+1))
         case measure=>omega
         case rel=>exact⟨k+1,by omega,by go_num,unhide HP3,RR⟩
  ·have RR:Hid (∀ i,i<g.length→KeptP op g taken bef beh i):=fun i hi=>hall.out i (by omega)
   clear hall hW
   go_wp2_with fail
   go_ret
   exact kept_yes RR.out hb
end Go.Proofs.YtmjcpapdncfkpaaGreatDoor
