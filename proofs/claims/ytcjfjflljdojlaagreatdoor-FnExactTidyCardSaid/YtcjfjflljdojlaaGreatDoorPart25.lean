import Derived.Test.YtcjfjflljdojlaaGreatDoorPart24
import Derived.Test.YtcjfjflljdojlaaGreatDoorPart20
import Derived.Deep.AppendLies
import Derived.BigQuiet
set_option linter.unusedSimpArgs false
set_option linter.unusedVariables false
set_option maxHeartbeats 8000000
set_option maxRecDepth 100000
namespace Go.Proofs.YtcjfjflljdojlaaGreatDoor
open Go.RowKit
section
variable {w w':World} {base base':Nat} {v:Value} {t:List Int}
theorem ar.lenV (h:ar w base v t):∃ a c,v=.slice a t.length c:=by
 rcases h.2 with⟨rfl,h0⟩ | ⟨g,cap,gi,rfl,_⟩
 ·rw[h0];exact⟨none,0,rfl⟩
 ·exact⟨_,_,rfl⟩
theorem ar.at (h:ar w base v t)(h0:0<t.length):∃ g cap,v=.slice (some ⟨g,0,none⟩) t.length cap/\base<=g/\g<w.heap.size/\∀ j,j<t.length->w.cell? ⟨g,j,none⟩=some (.int .i64 (t[j]?.getD 0)):=by
 rcases h.2 with⟨_,h1⟩ | ⟨g,cap,gi,rfl,hb,hg,h2⟩
 ·omega
 ·refine⟨g,cap,rfl,hb,(Array.getElem?_eq_some_iff.1 hg).1,fun j hj=>?_⟩;have h3:=World.ownsRow.cellAt h j (by omega);rw[h3,List.getElem?_map,List.getElem?_eq_getElem hj];rfl
theorem ar.below (h:ar w base v t)(hb:Below w.heap.size w w'):ar w' base v t:=by
 refine⟨h.1,?_⟩;rcases h.2 with hn | ⟨g,cap,gi,rfl,h1,hg,h2⟩
 ·exact .inl hn
 ·exact .inr ⟨g,cap,gi,rfl,h1,(hb.block g (Array.getElem?_eq_some_iff.1 hg).1).trans hg,h2⟩
theorem ar.base_le (h:ar w base v t)(hb:base'<=base):ar w base' v t:=by
 refine⟨h.1,?_⟩;rcases h.2 with hn | ⟨g,cap,gi,rfl,h1,h2⟩
 ·exact .inl hn
 ·exact .inr ⟨g,cap,gi,rfl,Nat.le_trans hb h1,h2⟩
theorem ar.setOther (h:ar w base v t){D j:Nat}{u:Value}(hD:D<base):ar (w.setCell ⟨D,j,none⟩ u) base v t:=by
 refine⟨h.1,?_⟩;rcases h.2 with hn | ⟨g,cap,gi,rfl,h1,hg,h2⟩
 ·exact .inl hn
 ·exact .inr ⟨g,cap,gi,rfl,h1,(heap_setCell_other w ⟨D,j,none⟩ g u (fun e=>by have e:g=D:=e;omega)).trans hg,h2⟩
theorem ar.kept (h:ar w base v t){row:Option Nat}(hg:w.grownBy w' row)(ei:v.ownBlock=none\/v.ownBlock≠row):ar w' base v t:=World.ownsRow.kept h hg ei
end
def mU (seen:Nat->Bool)(n:Nat):Nat:=vQ (fun x=>(seen x).toNat) n
theorem Cb {seen:Nat->Bool}{x n:Nat}(h:seen x=false)(hx:x<n):mU (bZ seen x true) n+1=mU seen n:=by
 have e:(fun y=>(bZ seen x true y).toNat)=bZ (fun y=>(seen y).toNat) x 1:=funext fun y=>by
  unfold bZ;split<;>rfl
 unfold mU;rw[e];exact qm (by rw[h];rfl) (by decide) n hx
theorem pQ (n:Nat):mU (fun _=>false) n=n:=tR n
def aH (l:List Nat):List Int:=l.map Int.ofNat
theorem ba (l:List Nat):(aH l).length=l.length:=by simp[aH]
theorem gS (l:List Nat)(j:Nat):(aH l)[j]?.getD 0=((l[j]?.getD 0:Nat):Int):=by
 unfold aH;rw[List.getElem?_map];cases l[j]?<;>rfl
theorem f9 (l:List Nat)(x:Nat):aH (l++[x])=aH l++[(x:Int)]:=by simp[aH]
def sZ (E:Nat->List Nat)(at_:Nat)(w:World)(e:Ending)(w':World):Prop:=∃ r:Bool,e=.returned (.bool r)/\(r=true↔iu E at_)/\Below w.heap.size w w'
structure qO (w:World)(nm:ByteArray)(ln pr:Int)(rs:Bool)(rg:Int)(v5 v6 s7 v8:Value)(ni:Nat)(seen:Nat->Bool)(v:Value)(L:List Nat)(wr:World):Prop where
 old:Below w.heap.size w wr
 prot:gN wr w.heap.size nm ln pr rs rg v5 v6 s7 v8
 row:wr.rowIs (w.heap.size+1) 4 ni (fun j=>.bool (seen j))
 own:ar wr (w.heap.size+2) v (aH L)
section
variable {w:World} {nm:ByteArray} {ln pr:Int} {rs:Bool} {rg:Int} {v5 v6 s7 v8:Value} {ni:Nat} {seen:Nat->Bool} {v v':Value} {L L':List Nat} {wr w2:World}
theorem qO.below (h:qO w nm ln pr rs rg v5 v6 s7 v8 ni seen v L wr)(hb:Below wr.heap.size wr w2):qO w nm ln pr rs rg v5 v6 s7 v8 ni seen v L w2:=
 ⟨h.old.trans (hb.mono h.old.size),h.prot.keep hb (World.block_lt_of_cell? _ _ h.prot.1),h.row.of_block (hb.block _ h.row.lt),h.own.below hb⟩
theorem qO.set (h:qO w nm ln pr rs rg v5 v6 s7 v8 ni seen v L wr)(j:Nat):qO w nm ln pr rs rg v5 v6 s7 v8 ni (bZ seen j true) v L (wr.setCell ⟨w.heap.size+1,j,none⟩ (.bool true)) where
 old:=h.old.setCell (Nat.le_succ _) _
 prot:=h.prot.setOther (by omega) _
 row:=(h.row.set j _).congr fun i _=>by
  unfold bZ;by_cases e:i=j
  ·rw[if_pos e,if_pos e]
  ·rw[if_neg e,if_neg e]
 own:=h.own.setOther (by omega)
theorem qO.push (h:qO w nm ln pr rs rg v5 v6 s7 v8 ni seen v L wr){o:Obj}(hg:(wr.alloc o).grownBy w2 v.ownBlock)(ho:ar w2 (w.heap.size+2) v' (aH L')):qO w nm ln pr rs rg v5 v6 s7 v8 ni seen v' L' w2:=by
 have ax:∀ k,v.ownBlock=some k->w.heap.size+2<=k:=fun k hk=>(h.own.lt k hk).1;have hr:=h.row.lt;have cZ:∀ b,b<w.heap.size+2->w2.heap[b]? = wr.heap[b]?:=fun b hb=>by
  rw[hg.block b (by simp;omega) (fun e=>by have:=ax b e.symm;omega)];exact Below.heap_alloc wr o b (by omega)
 refine⟨?_,?_,h.row.of_block (cZ _ (by omega)),ho⟩
 ·exact(h.old.alloc h.old.size o).grown hg (by simp;omega) (fun k hk=>by have:=ax k hk;omega)
 ·obtain⟨p0,p1,p2,p3,p4,p5,p6,p7,p8⟩:=h.prot;have e:∀ j,w2.cell? ⟨w.heap.size,j,none⟩=wr.cell? ⟨w.heap.size,j,none⟩:=fun j=>World.cell?_of_block (cZ _ (by show w.heap.size<_;omega));exact⟨(e 0).trans p0,(e 1).trans p1,(e 2).trans p2,(e 3).trans p3,(e 4).trans p4,(e 5).trans p5,(e 6).trans p6,(e 7).trans p7,(e 8).trans p8⟩
end
theorem A5 (E:Nat->List Nat)(at_ ni:Nat)(nm:ByteArray)(ln pr:Int)(rs:Bool)(rg:Int)(v5 v6 v8:Value)(a7:Option Addr)(c7:Nat)(w:World)(hn:ni<=6000)(fY:at_<ni)
  (hE:∀ j,j<ni->∀ y,y∈E j->y<ni)(hE2:∀ j,(E j).length<=2)
  (hsil:∀(W:World)(j:Nat),Below w.heap.size w W->j<ni->Calls Tryz.prog 102 #[.agg #[.string nm,.int .i64 ln,.int .i64 pr,.bool rs,.int .i64 rg,v5,v6,.slice a7 ni c7,v8],.int .i64 j] W fun e w'=>∃ v,e=.returned v/\ar w' W.heap.size v (aH (E j))/\Below W.heap.size W w') :
  Calls Tryz.prog 56 #[.agg #[.string nm,.int .i64 ln,.int .i64 pr,.bool rs,.int .i64 rg,v5,v6,.slice a7 ni c7,v8],.int .i64 at_] w (sZ E at_ w):=by
 obtain⟨i0,hi,dE,cT,dB⟩:=aN dT;have kH:=run_make_row' (P:=Tryz.prog) 68 4 (.bool false) 1 Tryz.underlying68 (by kernel_rfl) rfl .i64 .i64 ni (by omega) (by omega);have Yv:=af hsil;have HE:=af hE;have qB:=af hE2;have W0:Hid (∀ W v,ar W (w.heap.size+2) v (aH (E at_))->Below (w.heap.size+2) ((w.alloc (.cells #[.string nm,.int .i64 ln,.int .i64 pr,.bool rs,.int .i64 rg,v5,v6,.slice a7 ni c7,v8] 43)).alloc (.cells (madeCells #[.bool false] ni) 4)) W->qO w nm ln pr rs rg v5 v6 (.slice a7 ni c7) v8 ni (fun _=>false) v (E at_) W):=fun W v hv hW=>by
  refine⟨?_,?_,?_,hv⟩
  ·exact(((Below.refl _ _).alloc (Nat.le_refl _) _).alloc (by simp) _).trans (hW.mono (by omega))
  ·refine gN.keep (W:=(w.alloc (.cells #[.string nm,.int .i64 ln,.int .i64 pr,.bool rs,.int .i64 rg,v5,v6,.slice a7 ni c7,v8] 43)).alloc (.cells (madeCells #[.bool false] ni) 4)) ?_ hW (by omega);refine⟨?_,?_,?_,?_,?_,?_,?_,?_,?_⟩<;>simp[go_sem]
  ·have h:=World.rowIs_made (w.alloc (.cells #[.string nm,.int .i64 ln,.int .i64 pr,.bool rs,.int .i64 rg,v5,v6,.slice a7 ni c7,v8] 43)) (.bool false) ni 4;have h2:((w.alloc (.cells #[.string nm,.int .i64 ln,.int .i64 pr,.bool rs,.int .i64 rg,v5,v6,.slice a7 ni c7,v8] 43)).alloc (.cells (madeCells #[.bool false] ni) 4)).rowIs (w.heap.size+1) 4 ni (fun _=>.bool false):=by simpa using h
   exact h2.of_block (hW.block _ (by omega))
 have hA:∀ o1 o2,Below w.heap.size w ((w.alloc o1).alloc o2):=fun o1 o2=>((Below.refl _ _).alloc (Nat.le_refl _) o1).alloc (by simp) o2;clear hsil hE hE2;go_enter Tryz.func56,Tryz.ntmps56;go_wp2_with fail
 refine(aa Yv _ at_ (hA _ _) fY).mono ?_;rintro e w1 ⟨v,rfl,hv,au⟩;have Wk:∀ o1 o2,((w.alloc o1).alloc o2).heap.size=w.heap.size+2:=fun _ _=>by simp
 rw[Wk]at au hv;have R0:=af (aa W0 w1 v hv au);clear au hv W0 kH;go_wp2_with fail
 go_loopg [6,7] ((E at_).length+3 * ni) (fun g v i wr=>∃(k:Nat) (L:List Nat) (seen:Nat->Bool),i=.int .i64 k/\qO w nm ln pr rs rg v5 v6 (.slice a7 ni c7) v8 ni seen v L wr/\Hid (ow E at_ L seen k)/\Hid (∀ y,y∈L->y<ni)/\k+g=L.length+3 * mU seen ni/\k<=L.length/\L.length+2 * mU seen ni<=2+2 * ni)
 case atStart=>exact⟨0,E at_,fun _=>false,rfl,aa R0,ow.start E at_,fun y hy=>aa HE at_ fY y hy,by rw[pQ];omega,Nat.zero_le _,by rw[pQ];have:=aa qB at_;omega⟩
 case round=>
  clear R0;obtain⟨k,L,seen,rfl,hW,hI,ZZ,hg,hkL,XG⟩:=hrel;obtain⟨av,cv,OG⟩:=hW.own.lenV;rw[ba]at OG;have Zf:L.length<=20000:=by omega
  by_cases hk:k<L.length
  ·obtain⟨gb,cap,Ht,If,aao,Ps⟩:=hW.own.at (by rw[ba];omega);rw[ba]at Ht Ps;have Zw:=Ps k hk;rw[gS]at Zw;obtain⟨x,hx⟩:∃ x,L[k]?.getD 0=x:=⟨_,rfl⟩;have hxk:L[k]? = some x:=by rw[List.getElem?_eq_getElem hk]at hx ⊢;exact congrArg some hx
   have XW:x<ni:=ZZ.out x (List.mem_of_getElem? hxk);rw[hx]at Zw;have Zm:=af hxk;have bz:=hW.row.cell (i:=x) XW;have Sn:=hW.row.frozen x;have wi:=hW.row.lt;obtain⟨p0,p1,p2,p3,p4,p5,p6,p7,p8⟩:=hW.prot;have HW:=af hW;have Oh:=af Ht;clear Ps hx hxk OG
   aj Ht
   by_cases A8:x=at_
   ·have RR:Hid (iu E at_):=hI.out.yes (by rw[<-A8];exact Zm.out);have hxi:((x:Int)==(at_:Int))=true:=by simp;omega
    have Z0:(x==at_)=true:=by simpa using A8
    clear hW A8;go_wp2_with fail
    go_ret;show sZ _ _ _ _ _;exact⟨true,rfl,⟨fun _=>aa RR,fun _=>rfl⟩,(aa HW).old⟩
   have hxi:((x:Int)==(at_:Int))=false:=beq_eq_false_iff_ne.2 (by omega);have Z0:(x==at_)=false:=beq_eq_false_iff_ne.2 A8;cases hsn:seen x
   case true=>
    have RR:Hid (ow E at_ L seen (k+1)):=hI.out.again Zm.out A8 hsn;rw[hsn]at bz;clear hW A8 hsn;go_wp2_with fail
    go_roundg (L.length+3 * mU seen ni-(k+1))
    case measure=>omega
    case rel=>exact⟨k+1,L,seen,by go_num,aa HW,RR,ZZ,by omega,by omega,XG⟩
   rw[hsn]at bz;have RI:Hid (ow E at_ (L++E x) (bZ seen x true) (k+1)):=hI.out.new Zm.out A8;have HUN:=af (Cb hsn XW);have BR:=af (hW.set x);clear hW A8 hsn;go_wp2_with fail
   refine(aa Yv _ x (aa BR).old XW).mono ?_;rintro e w2 ⟨v2,rfl,vk,bo⟩;have hW2:=(aa BR).below bo;obtain⟨a2,c2,ha2⟩:=vk.lenV;rw[ba]at ha2;have aaQ:(wr.setCell ⟨w.heap.size+1,x,none⟩ (.bool true)).heap.size=wr.heap.size:=by simp
   rw[aaQ]at vk;have Im:=af vk;have Z9:Hid ((Value.slice (some ⟨gb,0,none⟩) L.length cap).ownBlock=none\/(Value.slice (some ⟨gb,0,none⟩) L.length cap).ownBlock≠v2.ownBlock):=.inr (fun e=>by
    have h1:=vk.lt gb e.symm;omega)
   have HA2:=af ha2;have Zs:=af (aa qB x);have lD:=af hW2;have hgl2:gb<wr.heap.size:=aao;clear vk bo hW2
   aj ha2
   go_wp2_with fail
   clear p0 p1 p2 p3 p4 p5 p6 p7 p8 Zw bz Sn;obtain⟨wo,rfl⟩:∃ wo,wo=wr:=⟨wr,rfl⟩;go_loopg [6,43] (E x).length (fun g v i wr'=>∃(q:Nat),q+g=(E x).length/\i=.int .i64 q/\qO w nm ln pr rs rg v5 v6 (.slice a7 ni c7) v8 ni (bZ seen x true) v (L++(E x).take q) wr'/\ar wr' wo.heap.size (.slice a2 (E x).length c2) (aH (E x))/\Hid (v.ownBlock=none\/v.ownBlock≠(Value.slice a2 (E x).length c2).ownBlock))
   case atStart=>exact⟨0,by omega,rfl,by rw[List.take_zero,List.append_nil];exact aa lD,aa Im,aa Z9⟩
   case round=>
    clear lD Im;obtain⟨q,hq,rfl,jG,vk,ei⟩:=hrel;by_cases fw:q<(E x).length
    ·obtain⟨g2,lr,V1,hg2b,hg2lt,SS⟩:=vk.at (by rw[ba];omega);rw[ba]at V1 SS;have hcq:=SS q fw;rw[gS]at hcq;obtain⟨y,hy⟩:∃ y,(E x)[q]?.getD 0=y:=⟨_,rfl⟩;have Th:=af (qT (E x) q 0 fw);rw[hy]at hcq Th;clear SS hy;have Sa:Hid ((aH (L++(E x).take q)).length<=1048576):=by
      show _<=_;rw[ba,List.length_append,List.length_take];have:=Zs.out;omega
     have Kt:=af jG;have Im:=af vk;have mF:=af jG.own;have En:=jG.row.lt;clear jG vk;injection V1 with hg2a hg2b' hg2c'
     aj hg2a
     obtain rfl:lr=c2:=hg2c'.symm;have wg:=Zs.out;go_wp2_with (first
      | (at_builtin;refine wpList_append_lies _ rfl _ _ 70 rfl (w.heap.size+2) 3 i0 (.int .i64 0) 1 8 Tryz.underlying70 hi dE cT dB rfl (by decide) _ _ _ rfl ((aa mF).alloc _) ⟨wr.heap.size,0,none⟩ 1 1 [.int .i64 (y:Int)] rfl rfl ?c1 ?c2 (by decide) ?c3 ?c4 ?c5 (wr.heap.size+1) (by simp) ?_)
      | go_in)
     case c2=>rfl
     case c3=>have:=Sa.out;unfold maxLen;omega
     case c4=>have:=Sa.out;omega
     case c5=>omega
     intro g3 cap3 w3 dj hgrow hat3 hlt3;have Bp:=Sa.out;have O3:Hid (∃ n3,ar w3 (w.heap.size+2) (.slice (some ⟨g3,0,none⟩) n3 cap3) (aH (L++(E x).take (q+1)))/\n3=(aH (L++(E x).take q)).length+1):=by
      refine⟨_,?_,rfl⟩;rw[Th.out,<-List.append_assoc,f9];exact ar.push dj
     obtain⟨n3,o3,KN⟩:=O3.out;have O4:=af o3;have R3:Hid (qO w nm ln pr rs rg v5 v6 (.slice a7 ni c7) v8 ni (bZ seen x true) (.slice (some ⟨g3,0,none⟩) n3 cap3) (L++(E x).take (q+1)) w3):=(aa Kt).push hgrow (aa O4);have V3:Hid (ar w3 wo.heap.size (.slice (some ⟨g2,0,none⟩) (E x).length lr) (aH (E x))):=ar.kept ((aa Im).below ((Below.refl _ _).alloc (Nat.le_refl _) _)) hgrow (.inr (fun e=>by
      rcases ei.out with h | h
      ·rw[h]at e;cases e
      ·exact h e.symm))
     have N3:Hid ((Value.slice (some ⟨g3,0,none⟩) n3 cap3).ownBlock=none\/(Value.slice (some ⟨g3,0,none⟩) n3 cap3).ownBlock≠(Value.slice (some ⟨g2,0,none⟩) (E x).length lr).ownBlock):=.inr (fun e=>by
      have e:g3=g2:=by simpa[Value.ownBlock]using e
      rcases hat3 with h | h
      ·rcases ei.out with h2 | h2
       ·rw[h2]at h;cases h
       ·exact h2 (by rw[h,e];rfl)
      ·omega)
     rw[KN]at R3 N3;clear o3 O3 O4 KN;clear dj hgrow hat3;go_wp2_with fail
     go_roundg ((E x).length-(q+1))
     case measure=>omega
     case rel=>exact⟨q+1,by omega,by go_num,aa R3,aa V3,N3⟩
    ·have mz:q=(E x).length:=by omega
     rw[mz,List.take_length]at jG;have Sw:=af jG;have hun:=HUN.out;have wg:=Zs.out;have HLT:Hid (∀ y,y∈L++E x->y<ni):=fun y hy=>by
      rw[List.mem_append]at hy;exact hy.elim (ZZ.out y) (aa HE x XW y)
     clear jG vk mz;go_wp2_with fail
     go_roundg (L.length+(E x).length+3 * mU (bZ seen x true) ni-(k+1))
     case measure=>omega
     case rel=>exact⟨k+1,L++E x,bZ seen x true,by go_num,aa Sw,RI,HLT,by rw[List.length_append];omega,by rw[List.length_append];omega,by rw[List.length_append];omega⟩
  ·have RR:Hid (¬iu E at_):=hI.out.no (by omega);have HW:=af hW
   aj OG
   clear hW;go_wp2_with fail
   go_ret;show sZ _ _ _ _ _;exact⟨false,rfl,⟨fun h=>Bool.noConfusion h,fun h=>absurd h (aa RR)⟩,(aa HW).old⟩
theorem lT {α:Type}{s t:List α}(d:α)(hl:s.length=t.length)(h:∀ j,j<s.length->s[j]?.getD d=t[j]?.getD d):s=t:=by
 apply List.ext_getElem hl
 intro j h1 h2;have:=h j h1;rw[g_ h1,g_ h2]at this;exact this
def pV (t1 t2:List Int)(g1 g2:List bg)(w:World)(e:Ending)(w':World):Prop:=∃ r:Bool,e=.returned (.bool r)/\(r=true↔t1=t2/\g1=g2)/\b_ w w'
theorem oh {t1 t2:List Int}{g1 g2:List bg}{w w':World}(h:¬(t1=t2/\g1=g2))(hb:b_ w w'):pV t1 t2 g1 g2 w (.returned (.bool false)) w':=⟨false,rfl,⟨fun h=>Bool.noConfusion h,fun h'=>absurd h' h⟩,hb⟩
theorem Ju {t1 t2:List Int}{g1 g2:List bg}{w w':World}(h:t1=t2/\g1=g2)(hb:b_ w w'):pV t1 t2 g1 g2 w (.returned (.bool true)) w':=⟨true,rfl,⟨fun _=>h,fun _=>rfl⟩,hb⟩
theorem Db (ra rb:Bool)(t1 t2:List Int)(g1 g2:List bg)(a1 a2 b1 b2:o_)(c1 c2 d1 d2:Nat)(S:Nat->Prop)(w:World)(h1:aR w S a1 t1)(h2:bx w S a2 g1)(k1:aR w S b1 t2)(k2:bx w S b2 g2)(hB:∀ b,S b->b<w.heap.size) :
  c_ 64 #[.agg #[.bool ra,.slice a1 t1.length c1,.slice a2 g1.length c2],.agg #[.bool rb,.slice b1 t2.length d1,.slice b2 g2.length d2]] w (pV t1 t2 g1 g2 w):=by
 have RA:=h1.1;have PH:=h2.1;have pm:=k1.1;have hm2:=k2.1;have H1:=af h1;have H2:=af h2;have K1:=af k1;have K2:=af k2;have HB:=af hB;clear h1 h2 k1 k2 hB;have hA:∀ o1 o2,b_ w ((w.alloc o1).alloc o2):=fun o1 o2=>(r_.alloc n_ o1).alloc (by simp) o2;by_cases e1:t1.length=t2.length
 case neg=>
  have RR:Hid (¬(t1=t2/\g1=g2)):=fun h=>e1 (by rw[h.1]);have x1:((t1.length:Int) != (t2.length:Int))=true:=bne_iff_ne.2 (by omega);clear e1;go_enter Tryz.func64,Tryz.ntmps64;go_wp2_with fail
  go_ret;exact oh RR.out (hA _ _)
 by_cases e2:g1.length=g2.length
 case neg=>
  have RR:Hid (¬(t1=t2/\g1=g2)):=fun h=>e2 (by rw[h.2]);have x1:((t1.length:Int) != (t2.length:Int))=false:=by rw[e1];simp
  have x2:((g1.length:Int) != (g2.length:Int))=true:=bne_iff_ne.2 (by omega);clear e1 e2;go_enter Tryz.func64,Tryz.ntmps64;go_wp2_with fail
  go_ret;exact oh RR.out (hA _ _)
 have x1:((t1.length:Int) != (t2.length:Int))=false:=by rw[e1];simp
 have x2:((g1.length:Int) != (g2.length:Int))=false:=by rw[e2];simp
 have E1:=af e1;have E2:=af e2;have P0:Hid (∀ W,Below (w.heap.size+2) ((w.alloc (.cells #[.bool ra,.slice a1 t1.length c1,.slice a2 g1.length c2] 97)).alloc (.cells #[.bool rb,.slice b1 t2.length d1,.slice b2 g2.length d2] 97)) W->(W.cell? (a_ w.heap.size 1)=some (.slice a1 t1.length c1)/\W.cell? (a_ w.heap.size 2)=some (.slice a2 g1.length c2)/\W.cell? (a_ (w.heap.size+1) 1)=some (.slice b1 t2.length d1)/\W.cell? (a_ (w.heap.size+1) 2)=some (.slice b2 g2.length d2))/\b_ w W):=fun W hW=>
  ⟨⟨by rw[hW.cell (p:=(a_ w.heap.size 1)) (by simp)];simp[go_sem],by rw[hW.cell (p:=(a_ w.heap.size 2)) (by simp)];simp[go_sem],by rw[hW.cell (p:=(a_ (w.heap.size+1) 1)) (by simp)];simp[go_sem],by rw[hW.cell (p:=(a_ (w.heap.size+1) 2)) (by simp)];simp[go_sem]⟩,(hA _ _).trans (hW.mono (by omega))⟩
 clear e1 e2;go_enter Tryz.func64,Tryz.ntmps64;go_wp2_with fail
 clear x1 x2;go_loopg [26] t1.length (fun g i wr=>∃(k:Nat),k+g=t1.length/\i=i_ k/\Below (w.heap.size+2) ((w.alloc (.cells #[.bool ra,.slice a1 t1.length c1,.slice a2 g1.length c2] 97)).alloc (.cells #[.bool rb,.slice b1 t2.length d1,.slice b2 g2.length d2] 97)) wr/\Hid (∀ j,j<k->t1[j]?.getD 0=t2[j]?.getD 0))
 case atStart=>exact⟨0,by omega,rfl,r_,fun j h=>absurd h (Nat.not_lt_zero _)⟩
 case round=>
  obtain⟨k,hk,rfl,hW,bN⟩:=hrel;obtain⟨⟨m1,m2,m3,m4⟩,hb⟩:=aa P0 wr hW;have HW:=af hW;by_cases ax:k<t1.length
  ·have ws:k<t2.length:=by rw[<-E1.out];exact ax
   obtain⟨b,off,rfl,jF,aE⟩:=((aa H1).keep hb (aa HB)).2 (by omega);have q1:=aE k ax;clear aE;obtain⟨b',jM,rfl,RM,aE⟩:=((aa K1).keep hb (aa HB)).2 (by omega);have q2:=aE k ws;clear aE;have NX:Hid (t1[k]?.getD 0=t2[k]?.getD 0->∀ j,j<k+1->t1[j]?.getD 0=t2[j]?.getD 0):=fun h j hj=>by
    by_cases e:j=k
    ·aj e;exact h
    ·exact bN.out j (by omega)
   have NF:Hid (t1[k]?.getD 0≠t2[k]?.getD 0->¬(t1=t2/\g1=g2)):=fun h h'=>h (by rw[h'.1]);have oH:=af hb;clear bN hW hb;generalize t1[k]?.getD 0=y1 at *;generalize t2[k]?.getD 0=y2 at *;by_cases hy:y1=y2
   ·have RR:=af (aa NX hy);have TX:(y1 != y2)=false:=by simpa using hy
    aj hy
    clear NX NF;go_wp2_with fail
    go_quiet (fail)
    go_wp2_with fail
    go_roundg (t1.length-(k+1))
    case measure=>omega
    case rel=>exact⟨k+1,by omega,by go_num,(aa HW).trans (ay _ _ _),RR⟩
   ·have RR:=af (aa NF hy);have TX:(y1 != y2)=true:=by simpa using hy
    clear NX NF hy;go_wp2_with fail
    go_quiet (fail)
    go_wp2_with fail
    go_ret;exact oh RR.out ((aa oH).trans (ay _ _ _))
  ·have TT:Hid (t1=t2):=lT 0 E1.out (fun j hj=>bN.out j (by omega));clear bN hb hW;go_wp2_with fail
   go_loopg [44] g1.length (fun g i wr=>∃(k:Nat),k+g=g1.length/\i=i_ k/\Below (w.heap.size+2) ((w.alloc (.cells #[.bool ra,.slice a1 t1.length c1,.slice a2 g1.length c2] 97)).alloc (.cells #[.bool rb,.slice b1 t2.length d1,.slice b2 g2.length d2] 97)) wr/\Hid (∀ j,j<k->g1[j]?.getD bg.z=g2[j]?.getD bg.z))
   case atStart=>exact⟨0,by omega,rfl,aa HW,fun j h=>absurd h (Nat.not_lt_zero _)⟩
   case round=>
    clear m1 m2 m3 m4 HW;obtain⟨k,hk,rfl,hW,bN⟩:=hrel;obtain⟨⟨m1,m2,m3,m4⟩,hb⟩:=aa P0 wr hW;have HW:=af hW;by_cases ax:k<g1.length
    ·have ws:k<g2.length:=by rw[<-E2.out];exact ax
     obtain⟨b,off,rfl,jF,aE⟩:=((aa H2).keep hb (aa HB)).2 (by omega);have q1:=aE k ax;clear aE;obtain⟨b',jM,rfl,RM,aE⟩:=((aa K2).keep hb (aa HB)).2 (by omega);have q2:=aE k ws;clear aE;have NX:Hid (g1[k]?.getD bg.z=g2[k]?.getD bg.z->∀ j,j<k+1->g1[j]?.getD bg.z=g2[j]?.getD bg.z):=fun h j hj=>by
      by_cases e:j=k
      ·aj e;exact h
      ·exact bN.out j (by omega)
     have NF:Hid (g1[k]?.getD bg.z≠g2[k]?.getD bg.z->¬(t1=t2/\g1=g2)):=fun h h'=>h (by rw[h'.2]);have oH:=af hb;clear bN hW hb;generalize g1[k]?.getD bg.z=y1 at *;generalize g2[k]?.getD bg.z=y2 at *;have r0:=q1.tr;have r1:=q1.keep;have r2:=q1.hand;have s0:=q2.tr;have s1:=q2.keep;have s2:=q2.hand;clear q1 q2;obtain⟨QI,Ra,QD⟩:=y1;obtain⟨QZ,QW,Ss⟩:=y2;simp only at *;by_cases kN:Ra=QW
     case neg=>
      have RR:=af (aa NF (fun h=>kN (by injection h)));have au:(Ra==QW)=false:=beq_eq_false_iff_ne.2 kN;have bo:(Ra != QW)=true:=by simpa using kN
      clear NX NF kN;go_wp2_with fail
      go_quiet (fail)
      go_wp2_with fail
      go_ret;exact oh RR.out ((aa oH).trans (ay _ _ _))
     by_cases vm:QD=Ss
     case neg=>
      have RR:=af (aa NF (fun h=>vm (by injection h)));have au:(QD==Ss)=false:=beq_eq_false_iff_ne.2 vm;have bo:(QD != Ss)=true:=by simpa using vm
      clear NX NF vm
      aj kN
      go_wp2_with fail
      go_quiet (fail)
      go_wp2_with fail
      go_ret;exact oh RR.out ((aa oH).trans (ay _ _ _))
     by_cases hk3:QI=QZ
     case neg=>
      have RR:=af (aa NF (fun h=>hk3 (by injection h)));have au:(QI==QZ)=false:=beq_eq_false_iff_ne.2 hk3;have bo:(QI != QZ)=true:=by simpa using hk3
      clear NX NF hk3
      aj kN vm
      go_wp2_with fail
      go_quiet (fail)
      go_wp2_with fail
      go_ret;exact oh RR.out ((aa oH).trans (ay _ _ _))
     aj kN vm hk3
     have RR:=af (aa NX rfl);clear NX NF;go_wp2_with fail
     go_quiet (fail)
     go_wp2_with fail
     go_roundg (g1.length-(k+1))
     case measure=>omega
     case rel=>exact⟨k+1,by omega,by go_num,(aa HW).trans (ay _ _ _),RR⟩
    ·have GG:Hid (g1=g2):=lT bg.z E2.out (fun j hj=>bN.out j (by omega));clear bN hW;go_wp2_with fail
     go_ret;exact Ju ⟨TT.out,GG.out⟩ hb
def nW (taken:List Nat)(keep:Int):Prop:=∀ r,r∈taken->¬(r:Int)<keep
def uU (bef beh:List Int)(keep:Int):Prop:=∀ r:Nat,(r:Int)<keep->bb bef r=bb beh r
def wN (op:Int)(i n:Nat):Prop:=op=32/\i+1=n
def mp (op:Int)(g:List bg)(taken:List Nat)(bef beh:List Int)(i:Nat):Prop:=
 (g[i]?.getD bg.z).tr=true->nW taken (g[i]?.getD bg.z).keep/\(wN op i g.length\/uU bef beh (g[i]?.getD bg.z).keep)
theorem re {n:aA}{g:List bg}{taken:List Nat}{bef beh:List Int}:kY n g taken bef beh=true↔∀ i,i<g.length->mp n.op g taken bef beh i:=by
 unfold kY mp nW uU wN;rw[List.all_eq_true];constructor
 ·intro h i hi Ef;have h1:=h i (by simpa using hi);simp only[Ef,Bool.not_true,Bool.false_or,Bool.and_eq_true,List.all_eq_true,Bool.or_eq_true,decide_eq_true_eq,Bool.not_eq_true',decide_eq_false_iff_not,List.mem_range,beq_iff_eq]at h1;refine⟨h1.1,h1.2.elim .inl (fun h2=>.inr (fun r hr=>h2 r (by omega)))⟩
 ·intro h i hi;have hi:i<g.length:=by simpa using hi
  cases Ef:(g[i]?.getD bg.z).tr
  ·rfl
  ·have h1:=h i hi Ef;simp only[Bool.not_true,Bool.false_or,Bool.and_eq_true,List.all_eq_true,Bool.or_eq_true,decide_eq_true_eq,Bool.not_eq_true',decide_eq_false_iff_not,List.mem_range,beq_iff_eq];exact⟨h1.1,h1.2.elim .inl (fun h2=>.inr (fun r hr=>h2 r (by omega)))⟩
def nC (op:Int)(g:List bg)(taken:List Nat)(bef beh:List Int)(w:World)(e:Ending)(w':World):Prop:=∃ r:Bool,e=.returned (.bool r)/\(r=true↔∀ i,i<g.length->mp op g taken bef beh i)/\b_ w w'
theorem Nq {op:Int}{g:List bg}{taken:List Nat}{bef beh:List Int}{w w':World}{i:Nat}(hi:i<g.length)(h:¬mp op g taken bef beh i)(hb:b_ w w'):nC op g taken bef beh w (.returned (.bool false)) w':=⟨false,rfl,⟨fun h=>Bool.noConfusion h,fun h'=>absurd (h' i hi) h⟩,hb⟩
theorem IL {op:Int}{g:List bg}{taken:List Nat}{bef beh:List Int}{w w':World}(h:∀ i,i<g.length->mp op g taken bef beh i)(hb:b_ w w'):nC op g taken bef beh w (.returned (.bool true)) w':=⟨true,rfl,⟨fun _=>h,fun _=>rfl⟩,hb⟩
theorem B9 (op fa fb fc fd:Int)(g:List bg)(taken:List Nat)(bef beh:List Int)(ag at_ ab ae:o_)(cg ct cb ce:Nat)(S:Nat->Prop)(w:World)(h1:bx w S ag g)(h2:aR w S at_ (aH taken))(h3:aR w S ab bef)(h4:aR w S ae beh)(hB:∀ b,S b->b<w.heap.size)
  (hl:bef.length=beh.length)(hk:∀ i,i<g.length->(g[i]?.getD bg.z).keep<=bef.length)(aP:bef.length<=250) :
  c_ 61 #[.agg #[i_ op,i_ fa,i_ fb,i_ fc,i_ fd],.slice ag g.length cg,.slice at_ taken.length ct,.slice ab bef.length cb,.slice ae beh.length ce] w (nC op g taken bef beh w):=by
 have RA:=h1.1;have PH:=h2.1;rw[ba]at PH;have H1:=af h1;have H2:=af h2;have H3:=af h3;have H4:=af h4;have HB:=af hB;have HK:=af hk;have HL:=af hl;clear h1 h2 h3 h4 hB hk hl;have P0:Hid (∀ W,Below (w.heap.size+1) (w.alloc (.cells #[i_ op,i_ fa,i_ fb,i_ fc,i_ fd] 51)) W->W.cell? (a_ w.heap.size 0)=some (i_ op)/\b_ w W):=fun W hW=>
  ⟨by rw[hW.cell (p:=(a_ w.heap.size 0)) (by simp)];simp[go_sem],(r_.alloc n_ _).trans (hW.mono (by omega))⟩
 go_enter Tryz.func61,Tryz.ntmps61;go_wp2_with fail
 go_loopg [18] g.length (fun gg i wr=>∃(k:Nat),k+gg=g.length/\i=i_ k/\Below (w.heap.size+1) (w.alloc (.cells #[i_ op,i_ fa,i_ fb,i_ fc,i_ fd] 51)) wr/\Hid (∀ j,j<k->mp op g taken bef beh j))
 case atStart=>exact⟨0,by omega,rfl,r_,fun j h=>absurd h (Nat.not_lt_zero _)⟩
 case round=>
  obtain⟨k,hk,rfl,hW,bN⟩:=hrel;obtain⟨mo,hb⟩:=aa P0 wr hW;have HW:=af hW;have oH:=af hb;have En:w.heap.size<wr.heap.size:=by have:=hW.size;simp at this;omega
  by_cases ax:k<g.length
  ·obtain⟨b,off,rfl,jF,aE⟩:=((aa H1).keep hb (aa HB)).2 (by omega);have q1:=aE k ax;clear aE;have NX:Hid (mp op g taken bef beh k->∀ j,j<k+1->mp op g taken bef beh j):=fun h j hj=>by
    by_cases e:j=k
    ·aj e;exact h
    ·exact bN.out j (by omega)
   have NF:Hid (∀ w',¬mp op g taken bef beh k->b_ w w'->nC op g taken bef beh w (.returned (.bool false)) w'):=fun w' h dW=>Nq ax h dW;have KD:Hid (mp op g taken bef beh k↔((g[k]?.getD bg.z).tr=true->nW taken (g[k]?.getD bg.z).keep/\(wN op k g.length\/uU bef beh (g[k]?.getD bg.z).keep))):=Iff.rfl;have zd:=aa HK k ax;clear bN hW hb;generalize mp op g taken bef beh k=KP at *;generalize g[k]?.getD bg.z=y at *;have r0:=q1.tr;have r1:=q1.keep;have r2:=q1.hand;clear q1;obtain⟨xt,xk,xh⟩:=y;simp only at *;have cZ:b<wr.heap.size:=l_ (aa HB b jF) (aa oH).size;cases xt
   ·have RR:=af (aa NX (KD.out.2 (fun h=>Bool.noConfusion h)));clear NX NF KD;go_wp2_with fail
    go_roundg (g.length-(k+1))
    case measure=>omega
    case rel=>exact⟨k+1,by omega,by go_num,(aa HW).alloc (by omega) _,RR⟩
   have KT:Hid (nW taken xk->(wN op k g.length\/uU bef beh xk)->KP):=fun h1 h2=>KD.out.2 (fun _=>⟨h1,h2⟩);have KF:Hid (KP->nW taken xk/\(wN op k g.length\/uU bef beh xk)):=fun h=>KD.out.1 h rfl;clear KD;have P1:Hid (∀ W,Below (wr.heap.size+1) (wr.alloc (.cells #[.bool true,i_ xk,i_ xh] 154)) W->W.cell? (a_ wr.heap.size 1)=some (i_ xk)/\W.cell? (a_ w.heap.size 0)=some (i_ op)/\Below (w.heap.size+1) (w.alloc (.cells #[i_ op,i_ fa,i_ fb,i_ fc,i_ fd] 51)) W):=fun W hW2=>
    ⟨by rw[hW2.cell (p:=(a_ wr.heap.size 1)) (by simp)];simp[go_sem],by rw[hW2.cell (p:=(a_ w.heap.size 0)) (by show w.heap.size<wr.heap.size+1;omega),Below.cell (B:=wr.heap.size) (r_.alloc n_ _) (p:=(a_ w.heap.size 0)) En];exact mo,((aa HW).alloc (by omega) _).trans (hW2.mono (by omega))⟩
   obtain⟨wo,rfl⟩:∃ wo,wo=wr:=⟨wr,rfl⟩;go_wp2_with fail
   clear r0 r1 r2 mo;go_loopg [28] taken.length (fun gg i wr=>∃(q:Nat),q+gg=taken.length/\i=i_ q/\Below (wo.heap.size+1) (wo.alloc (.cells #[.bool true,i_ xk,i_ xh] 154)) wr/\Hid (∀ j,j<q->¬(((taken[j]?.getD 0:Nat):Int)<xk)))
   case atStart=>exact⟨0,by omega,rfl,r_,fun j h=>absurd h (Nat.not_lt_zero _)⟩
   case round=>
    obtain⟨q,hq,rfl,jG,dZ⟩:=hrel;obtain⟨p1,p2,p3⟩:=aa P1 wr jG;have Kt:=af jG;have LY:=af p3;have we:=(aa P0 wr p3).2;have Yj:wo.heap.size<wr.heap.size:=by have:=jG.size;simp at this;omega
    by_cases fw:q<taken.length
    ·obtain⟨b2,Eo,rfl,abo,aE⟩:=((aa H2).keep we (aa HB)).2 (by rw[ba];omega);rw[ba]at aE;have q2:=aE q fw;rw[gS]at q2;clear aE jG p3;obtain⟨y,hy⟩:∃ y,taken[q]?.getD 0=y:=⟨_,rfl⟩;have Uc:y∈taken:=by
      rw[g_ fw]at hy;have hy:taken[q]=y:=hy;rw[<-hy];exact List.getElem_mem fw
     rw[hy]at q2;by_cases hlk:(y:Int)<xk
     ·have RR:Hid (¬KP):=fun h=>(aa KF h).1 y Uc hlk;have hd:decide ((y:Int)<xk)=true:=decide_eq_true hlk;have RB:=af we;clear we;go_wp2_with fail
      go_ret;exact aa NF _ RR.out (aa RB)
     ·have Wj:Hid (∀ j,j<q+1->¬(((taken[j]?.getD 0:Nat):Int)<xk)):=fun j hj=>by
       by_cases e:j=q
       ·aj e;rw[hy];exact hlk
       ·exact dZ.out j (by omega)
      have hd:decide ((y:Int)<xk)=false:=decide_eq_false hlk;clear we hy Uc;go_wp2_with fail
      go_roundg (taken.length-(q+1))
      case measure=>omega
      case rel=>exact⟨q+1,by omega,by go_num,aa Kt,Wj⟩
    ·have TK:Hid (nW taken xk):=fun r hr=>by
      obtain⟨j,hj,e⟩:=List.getElem_of_mem hr;have h1:=dZ.out j (by omega);rw[g_ hj,e]at h1;exact h1
     clear dZ jG p3;by_cases hend:op=32/\k+1=g.length
     ·have RR:=af (aa NX (aa KT TK.out (.inl hend)));have x1:(op==32)=true:=by simpa using hend.1
      have x2:((k:Int)==(g.length:Int)-1)=true:=by have:=hend.2;simp;omega
      clear hend NX NF KT KF TK we;go_wp2_with fail
      go_roundg (g.length-(k+1))
      case measure=>omega
      case rel=>exact⟨k+1,by omega,by go_num,aa LY,RR⟩
     ·have WN:Hid (¬wN op k g.length):=hend;have XX:Hid ((op==32)=false\/((op==32)=true/\((k:Int)==(g.length:Int)-1)=false)):=by
       by_cases x:op=32
       ·exact .inr ⟨by simpa using x,beq_eq_false_iff_ne.2 (fun e=>hend ⟨x,by omega⟩)⟩
       ·exact .inl (beq_eq_false_iff_ne.2 x)
      have hkn:Hid (xk<=bef.length):=zd;clear hend we;rcases XX.out with x1 | ⟨x1,x2⟩
      ·go_wp2_with fail
       go_loopg [15] xk.toNat (fun gg i wr=>∃(q:Nat),q+gg=xk.toNat/\i=i_ q/\Below (wo.heap.size+1) (wo.alloc (.cells #[.bool true,i_ xk,i_ xh] 154)) wr/\Hid (∀ j,j<q->bb bef j=bb beh j))
       case atStart=>exact⟨0,by omega,rfl,aa Kt,fun j h=>absurd h (Nat.not_lt_zero _)⟩
       case round=>
        clear p1 p2 Kt LY Yj;obtain⟨q,hq,rfl,jG,dZ⟩:=hrel;obtain⟨p1,p2,p3⟩:=aa P1 wr jG;have Kt:=af jG;have LY:=af p3;have we:=(aa P0 wr p3).2;have Yj:wo.heap.size<wr.heap.size:=by have:=jG.size;simp at this;omega
        have aaZ:=hkn.out;clear jG p3;by_cases fw:(q:Int)<xk
        ·have hqb:q<bef.length:=by omega
         have mz:q<beh.length:=by have:=HL.out;omega
         obtain⟨b3,VI,rfl,Oq,aE⟩:=((aa H3).keep we (aa HB)).2 (by omega);have q3:=aE q hqb;clear aE;obtain⟨b4,aad,rfl,aa9,aE⟩:=((aa H4).keep we (aa HB)).2 (by omega);have q4:=aE q mz;clear aE;have pw:=HL.out;have QE:Hid (bef[q]?.getD 0=beh[q]?.getD 0->∀ j,j<q+1->bb bef j=bb beh j):=fun h j hj=>by
          by_cases e:j=q
          ·aj e;exact h
          ·exact dZ.out j (by omega)
         have So:Hid (bef[q]?.getD 0≠beh[q]?.getD 0->¬KP):=fun h h'=>by
          rcases(aa KF h').2 with h2 | h2
          ·exact WN.out h2
          ·exact h (h2 q fw)
         have RB:=af we;clear we dZ;generalize bef[q]?.getD 0=y1 at *;generalize beh[q]?.getD 0=y2 at *;by_cases hy:y1=y2
         ·have RR:=af (aa QE hy);have TX:(y1 != y2)=false:=by simpa using hy
          aj hy
          clear QE So;go_wp2_with fail
          go_quiet (fail)
          go_wp2_with fail
          go_roundg (xk.toNat-(q+1))
          case measure=>omega
          case rel=>exact⟨q+1,by omega,by go_num,(aa Kt).trans (ay _ _ _),RR⟩
         ·have RR:=af (aa So hy);have TX:(y1 != y2)=true:=by simpa using hy
          clear QE So hy;go_wp2_with fail
          go_quiet (fail)
          go_wp2_with fail
          go_ret;exact aa NF _ RR.out ((aa RB).trans (ay _ _ _))
        ·have RR:=af (aa NX (aa KT TK.out (.inr (fun r hr=>dZ.out r (by omega)))));clear dZ we NX NF KT KF TK;go_wp2_with fail
         go_roundg (g.length-(k+1))
         case measure=>omega
         case rel=>exact⟨k+1,by omega,by go_num,aa LY,RR⟩
      ·go_wp2_with fail
       go_loopg [15] xk.toNat (fun gg i wr=>∃(q:Nat),q+gg=xk.toNat/\i=i_ q/\Below (wo.heap.size+1) (wo.alloc (.cells #[.bool true,i_ xk,i_ xh] 154)) wr/\Hid (∀ j,j<q->bb bef j=bb beh j))
       case atStart=>exact⟨0,by omega,rfl,aa Kt,fun j h=>absurd h (Nat.not_lt_zero _)⟩
       case round=>
        clear p1 p2 Kt LY Yj;obtain⟨q,hq,rfl,jG,dZ⟩:=hrel;obtain⟨p1,p2,p3⟩:=aa P1 wr jG;have Kt:=af jG;have LY:=af p3;have we:=(aa P0 wr p3).2;have Yj:wo.heap.size<wr.heap.size:=by have:=jG.size;simp at this;omega
        have aaZ:=hkn.out;clear jG p3;by_cases fw:(q:Int)<xk
        ·have hqb:q<bef.length:=by omega
         have mz:q<beh.length:=by have:=HL.out;omega
         obtain⟨b3,VI,rfl,Oq,aE⟩:=((aa H3).keep we (aa HB)).2 (by omega);have q3:=aE q hqb;clear aE;obtain⟨b4,aad,rfl,aa9,aE⟩:=((aa H4).keep we (aa HB)).2 (by omega);have q4:=aE q mz;clear aE;have pw:=HL.out;have QE:Hid (bef[q]?.getD 0=beh[q]?.getD 0->∀ j,j<q+1->bb bef j=bb beh j):=fun h j hj=>by
          by_cases e:j=q
          ·aj e;exact h
          ·exact dZ.out j (by omega)
         have So:Hid (bef[q]?.getD 0≠beh[q]?.getD 0->¬KP):=fun h h'=>by
          rcases(aa KF h').2 with h2 | h2
          ·exact WN.out h2
          ·exact h (h2 q fw)
         have RB:=af we;clear we dZ;generalize bef[q]?.getD 0=y1 at *;generalize beh[q]?.getD 0=y2 at *;by_cases hy:y1=y2
         ·have RR:=af (aa QE hy);have TX:(y1 != y2)=false:=by simpa using hy
          aj hy
          clear QE So;go_wp2_with fail
          go_quiet (fail)
          go_wp2_with fail
          go_roundg (xk.toNat-(q+1))
          case measure=>omega
          case rel=>exact⟨q+1,by omega,by go_num,(aa Kt).trans (ay _ _ _),RR⟩
         ·have RR:=af (aa So hy);have TX:(y1 != y2)=true:=by simpa using hy
          clear QE So hy;go_wp2_with fail
          go_quiet (fail)
          go_wp2_with fail
          go_ret;exact aa NF _ RR.out ((aa RB).trans (ay _ _ _))
        ·have RR:=af (aa NX (aa KT TK.out (.inr (fun r hr=>dZ.out r (by omega)))));clear dZ we NX NF KT KF TK;go_wp2_with fail
         go_roundg (g.length-(k+1))
         case measure=>omega
         case rel=>exact⟨k+1,by omega,by go_num,aa LY,RR⟩
  ·have RR:Hid (∀ i,i<g.length->mp op g taken bef beh i):=fun i hi=>bN.out i (by omega);clear bN hW;go_wp2_with fail
   go_ret;exact IL RR.out hb
end Go.Proofs.YtcjfjflljdojlaaGreatDoor
