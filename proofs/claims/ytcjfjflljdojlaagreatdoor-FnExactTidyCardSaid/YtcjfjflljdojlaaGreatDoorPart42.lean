import Derived.Test.YtcjfjflljdojlaaGreatDoorPart41
import Derived.Laws.CopyOwn
import Derived.Test.YtcjfjflljdojlaaGreatDoorPart34
set_option linter.unusedSimpArgs false
set_option linter.unusedVariables false
set_option maxHeartbeats 4000000
set_option maxRecDepth 100000
namespace Go.Proofs.YtcjfjflljdojlaaGreatDoor
open Go.RowKit
theorem zG {w:World}{base g:Nat}{l:List Int}(hb:base<=g)(hl:l.length<=1000000)(h:w.heap[g]? = some (.cells (l.map (Value.int .i64)).toArray 3 (0,0))):ar w base (.slice (some (a_ g 0)) l.length l.length) l:=by
 refine⟨by simp,.inr ⟨g,l.length,_,rfl,hb,h,n_,by unfold maxLen;omega,by simp,?_⟩⟩;rw[Nat.mul_one];exact List.take_of_length_le (by simp)
theorem yx {l:List Int}{K:Nat}(hK:K<=l.length):splice (List.replicate l.length (Value.int .i64 0)) 0 ((l.take K).map (Value.int .i64))=(l.take K++List.replicate (l.length-K) 0).map (Value.int .i64):=by
 unfold splice;rw[List.map_append,List.map_replicate,List.take_zero,List.nil_append,List.drop_replicate,List.length_map,List.length_take,Nat.zero_add,Nat.min_eq_left hK]
theorem lc (n:aA)(K:Nat)(hn:n.fb=(K:Int))(a:o_)(ty:List Int)(c:Nat)(S:Nat->Prop)(w:World)(hs:aR w S a ty)(hB:∀ b,S b->b<w.heap.size)(hl:ty.length<=250)(hc:ty.length<=c)(hK:K+2<=ty.length) :
  c_ 125 #[.slice a ty.length c,i_ (K:Int)] w (kf (dI n ty) w):=by
 have kH:=run_make_row' (P:=Tryz.prog) 70 3 (i_ 0) 8 Tryz.underlying70 (by kernel_rfl) rfl .i64 .i64 ty.length (by omega) (by omega);have hH:dI n ty=((ty.take K++List.replicate (ty.length-K) 0).set K 1).set (K+1) 1:=by
  unfold dI;rw[hn];rfl
 rw[hH];obtain⟨b,off,rfl,jF,aE⟩:=hs.2 (by omega);have cZ:=hB b jF;have SL:=nU (k:=K) (c:=c) (n:=ty.length) (a:=some (a_ b off));have hA:∀ o,b_ w (w.alloc o):=fun o=>r_.alloc n_ o;have HG:Hid ((w.alloc (.cells (madeCells #[i_ 0] ty.length) 3)).heap[w.heap.size]? = some (.cells (List.replicate ty.length (Value.int .i64 0)).toArray 3 (0,0))):=by
  show _=_;rw[Go.Deep.blk_alloc_new,<-toList_madeCells_one,Array.toArray_toList]
 have HS:Hid (∀ j v,((ty.take K).map (Value.int .i64))[j]? = some v->(w.alloc (.cells (madeCells #[i_ 0] ty.length) 3)).cell? (((a_ b off):Addr).add j)=some v):=fun j v hj=>by
  rw[List.getElem?_map]at hj;by_cases qC:j<K
  ·rw[List.getElem?_take_of_lt qC,g_ (by omega)]at hj;have h1:=aE j (by omega);rw[g_ (by omega)]at h1;have e:((a_ b off):Addr).add j=(a_ b (off+j)):=by simp[Addr.add]
   rw[e,Below.cell (B:=w.heap.size) (hA _) (p:=(a_ b (off+j))) cZ,h1];exact hj
  ·rw[List.getElem?_eq_none (by rw[List.length_take];omega)]at hj;cases hj
 have HA:=af (hA (.cells (madeCells #[i_ 0] ty.length) 3));have SP:=af (yx (l:=ty) (K:=K) (by omega));have hm:(List.map (Value.int .i64) (ty.take K)).length=K:=by simp;omega
 have HM:=af hm;have hKc:K<=c:=by omega
 have YF:=fun w=>nU w (some (a_ b off)) ty.length c K hKc;have Ia:=run_copy_row (P:=Tryz.prog) (w.alloc (.cells (madeCells #[i_ 0] ty.length) 3)) 70 70 3 3 w.heap.size 0 ty.length ty.length (a_ b off) K c (List.replicate ty.length (Value.int .i64 0)).toArray 3 ((ty.take K).map (Value.int .i64)) Tryz.underlying70 (by kernel_rfl) HG.out (by rw[hm];show K=min K ty.length;omega) HS.out (by rw[hm];simp;omega) (fun u hu=>by rw[List.mem_map]at hu;obtain⟨x,_,rfl⟩:=hu;rfl);have eX:(List.replicate ty.length (Value.int .i64 0)).toArray.toList.take 0++(ty.take K).map (Value.int .i64)++(List.replicate ty.length (Value.int .i64 0)).toArray.toList.drop (0+((ty.take K).map (Value.int .i64)).length)=(ty.take K++List.replicate (ty.length-K) 0).map (Value.int .i64):=by
  rw[<-SP.out];unfold splice;rw[List.append_assoc]
 rw[eX]at Ia;have lD:Hid (((w.alloc (.cells (madeCells #[i_ 0] ty.length) 3)).setRow w.heap.size ((ty.take K++List.replicate (ty.length-K) 0).map (Value.int .i64)).toArray).heap[w.heap.size]? = some (.cells ((ty.take K++List.replicate (ty.length-K) 0).map (Value.int .i64)).toArray 3 (0,0))):=setRow_heap _ _ _ _ _ _ HG.out;have fN:=af (below_setRow HA.out n_ ((ty.take K++List.replicate (ty.length-K) 0).map (Value.int .i64)).toArray);generalize (w.alloc (.cells (madeCells #[i_ 0] ty.length) 3)).setRow w.heap.size ((ty.take K++List.replicate (ty.length-K) 0).map (Value.int .i64)).toArray=w2 at *;rw[hm]at Ia;have wq:=lD;have bo:=fN.out;clear hs hB aE jF hH hA SL hm lD fN eX;have hL:(ty.take K++List.replicate (ty.length-K) (0:Int)).length=ty.length:=by simp;omega
 have ho:ar w2 w.heap.size (.slice (some (a_ w.heap.size 0)) ty.length ty.length) (ty.take K++List.replicate (ty.length-K) (0:Int)):=by
  have:=zG (base:=w.heap.size) n_ (by omega) wq.out
  rwa [hL]at this
 generalize ty.take K++List.replicate (ty.length-K) (0:Int)=L at *;have Br:=bo.size;have O2:=af (ho.set hL.symm K 1);have hL2:(L.set K 1).length=ty.length:=by rw[List.length_set];exact hL
 have O3:=af ((aa O2).set hL2.symm (K+1) 1);obtain⟨g',iM,e',_,hlt',aE⟩:=ho.at (by omega);injection e' with e1 e2 e3;injection e1 with e1;injection e1 with e1;aj e1;clear e2 e3;have x1:=aE K (by omega);have x2:=aE (K+1) (by omega);have z1:=ho.frozen hL.symm K;have z2:=ho.frozen hL.symm (K+1);have B3:Hid (b_ w ((w2.setCell (a_ w.heap.size K) (i_ 1)).setCell (a_ w.heap.size (K+1)) (i_ 1))):=(bo.setCell (p:=(a_ w.heap.size K)) n_ _).setCell (p:=(a_ w.heap.size (K+1))) n_ _;generalize L[K]?.getD 0=q1 at *;generalize L[K+1]?.getD 0=q2 at *;clear aE ho wq bo HG HS SP HA hL hL2 O2;go_enter Tryz.func125,Tryz.ntmps125;go_wp2_with fail
 go_ret;exact⟨_,rfl,O3.out,B3.out⟩
theorem ux (x:ak)(nm:ByteArray)(ln:Int)(pr rg:Nat)(rs:Bool)(v5 v6 v7 v8:Value)(w:World)(Ix:x.params=(pr:Int))(ko:x.regs=(rg:Int))(cM:x.rest=rs)(pw:pr<=rg)(uX:rs=true->pr<rg)(hl:rg<=250) :
  c_ 78 #[.agg #[.string nm,i_ ln,i_ (pr:Int),.bool rs,i_ (rg:Int),v5,v6,v7,v8]] w (kf (dA x) w):=by
 have kH:=run_make_row' (P:=Tryz.prog) 70 3 (i_ 0) 8 Tryz.underlying70 (by kernel_rfl) rfl .i64 .i64 rg (by omega) (by omega);have FG:Hid (∀ j,j<rg->(dA x)[j]?.getD 0=if j<pr then 1 else if rs=true/\j=pr then 3 else 0):=fun j hj=>by
  rw[wu x (by omega) j (by omega),Ix,cM];by_cases c:j<pr
  ·rw[if_pos (by omega),if_pos c]
  ·rw[if_neg (by omega),if_neg c];by_cases c2:rs=true/\j=pr
   ·rw[if_pos c2,if_pos ⟨c2.1,by omega⟩]
   ·rw[if_neg c2,if_neg (fun h=>c2 ⟨h.1,by omega⟩)]
 have FL:Hid ((dA x).length=rg):=by show _=_;rw[qM,ko];rfl
 have QJ:=af uX;generalize dA x=ft at *;have hA:b_ w ((w.alloc (.cells #[.string nm,i_ ln,i_ (pr:Int),.bool rs,i_ (rg:Int),v5,v6,v7,v8] 43)).alloc (.cells (madeCells #[i_ 0] rg) 3)):=(r_.alloc n_ _).alloc (by simp) _;have HA:=af hA;have R0:Hid (((w.alloc (.cells #[.string nm,i_ ln,i_ (pr:Int),.bool rs,i_ (rg:Int),v5,v6,v7,v8] 43)).alloc (.cells (madeCells #[i_ 0] rg) 3)).rowIs (w.heap.size+1) 3 rg (fun _=>i_ 0)):=by
  have h:=World.rowIs_made (w.alloc (.cells #[.string nm,i_ ln,i_ (pr:Int),.bool rs,i_ (rg:Int),v5,v6,v7,v8] 43)) (i_ 0) rg 3;rw[show ∀ o,(w.alloc o).heap.size=w.heap.size+1 from fun _=>by simp]at h;exact h
 have C0:Hid (∀ W,Below (w.heap.size+1) ((w.alloc (.cells #[.string nm,i_ ln,i_ (pr:Int),.bool rs,i_ (rg:Int),v5,v6,v7,v8] 43)).alloc (.cells (madeCells #[i_ 0] rg) 3)) W->W.cell? (a_ w.heap.size 2)=some (i_ (pr:Int))/\W.cell? (a_ w.heap.size 3)=some (.bool rs)):=fun W hW=>
  ⟨(hW.cell (p:=(a_ w.heap.size 2)) (by simp)).trans (by simp[go_sem]),(hW.cell (p:=(a_ w.heap.size 3)) (by simp)).trans (by simp[go_sem])⟩
 clear Ix ko cM uX hA;go_enter Tryz.func78,Tryz.ntmps78;go_wp2_with fail
 clear kH;generalize (w.alloc (.cells #[.string nm,i_ ln,i_ (pr:Int),.bool rs,i_ (rg:Int),v5,v6,v7,v8] 43)).alloc (.cells (madeCells #[i_ 0] rg) 3)=w0 at *;go_loopg [10] pr (fun gg i wr=>∃ r:Nat,r+gg=pr/\i=i_ r/\Below (w.heap.size+1) w0 wr/\wr.rowIs (w.heap.size+1) 3 rg (fun j=>i_ (if j<r then 1 else 0)))
 case atStart=>exact⟨0,by omega,rfl,r_,(aa R0).congr (fun j hj=>by simp)⟩
 case round=>
  obtain⟨r,hr,rfl,hW,bz⟩:=hrel;obtain⟨q2,q3⟩:=aa C0 _ hW;have yP:w.heap.size<wr.heap.size:=World.block_lt_of_cell? _ _ q2;have Xc:=bz.lt;by_cases ax:r<pr
  ·have hg:=bz.cell (i:=r) (by omega);have hz:=bz.frozen r;have Om:(r:Int)<rg:=by omega
   have lz:=af (hW.setCell (p:=(a_ (w.heap.size+1) r)) n_ (i_ 1));have rH:Hid ((wr.setCell (a_ (w.heap.size+1) r) (i_ 1)).rowIs (w.heap.size+1) 3 rg (fun j=>i_ (if j<r+1 then 1 else 0))):=(bz.set r _).congr (fun j hj=>by
    by_cases e:j=r
    ·aj e;simp
    ·have:(j<r+1)=(j<r):=by apply propext;omega
     simp[e,this])
   clear hW bz;go_wp2_with fail
   go_roundg (pr-(r+1))
   case measure=>omega
   case rel=>exact⟨r+1,by omega,by go_num,aa lz,aa rH⟩
  ·have hrp:r=pr:=by omega
   aj hrp
   have HB:Hid (b_ w wr):=HA.out.trans (hW.mono (by omega));have nK:=af bz;clear hW bz;cases rs
   ·have mF:Hid (ar wr w.heap.size (.slice (some (a_ (w.heap.size+1) 0)) rg rg) ft):=l9 (aa nK) FL.out (by omega) (by omega) (fun j hj=>by
     rw[aa FG j hj];by_cases c:j<r
     ·rw[if_pos c,if_pos c]
     ·rw[if_neg c,if_neg c,if_neg (fun h=>Bool.noConfusion h.1)])
    go_wp2_with fail
    go_ret;exact⟨_,rfl,mF.out,HB.out⟩
   ·have hrr:r<rg:=QJ.out rfl;have hg:=(aa nK).cell (i:=r) hrr;have hz:=(aa nK).frozen r;have Om:(r:Int)<rg:=by omega
    have fN:=af ((aa HB).setCell (p:=(a_ (w.heap.size+1) r)) (by show w.heap.size<=w.heap.size+1;omega) (i_ 3));have mF:Hid (ar (wr.setCell (a_ (w.heap.size+1) r) (i_ 3)) w.heap.size (.slice (some (a_ (w.heap.size+1) 0)) rg rg) ft):=l9 ((aa nK).set r _) FL.out (by omega) (by omega) (fun j hj=>by
     rw[aa FG j hj];show(if j=r then Value.int .i64 3 else i_ (if j<r then 1 else 0))=_;by_cases c:j<r
     ·rw[if_neg (by omega),if_pos c,if_pos c]
     ·by_cases c2:j=r
      ·rw[if_pos c2,if_neg c,if_pos ⟨rfl,c2⟩]
      ·rw[if_neg c2,if_neg c,if_neg c,if_neg (fun h=>c2 h.2)])
    clear nK;go_wp2_with fail
    go_ret;exact⟨_,rfl,mF.out,fN.out⟩
def I9 (bv o G m cap:Nat)(y:Int)(w:World)(e:Ending)(w':World):Prop:=e=.returned (i_ y)/\w'=w.setCell (a_ bv o) (.slice (some (a_ G 0)) m cap)
theorem Jl (bv o G m cap:Nat)(y:Int)(w:World)(hv:w.cell? (a_ bv o)=some (.slice (some (a_ G 0)) (m+1) cap))(hz:w.frozen? (a_ bv o)=false)(hy:w.cell? (a_ G m)=some (i_ y))(hc:m+1<=cap)(hm:m<1000000) :
  c_ 80 #[.pointer (some (a_ bv o))] w (I9 bv o G m cap y w):=by
 have Hn:bv<w.heap.size:=World.block_lt_of_cell? _ _ hv;have hG:G<w.heap.size:=World.block_lt_of_cell? _ _ hy;have YF:=fun w=>nU w (some (a_ G 0)) (m+1) cap m (by omega);go_enter Tryz.func80,Tryz.ntmps80;go_wp2_with fail
 go_ret;exact⟨rfl,rfl⟩
theorem iR (bv:Nat)(p code at_:Int)(w:World)(hv:w.cell? (a_ bv 1)=some (i_ p)) :
  c_ 82 #[.pointer (some (a_ bv 0)),i_ code,i_ at_] w fun e w'=>e=.returned (.agg #[i_ code,i_ p,i_ at_])/\b_ w w':=by
 have Hn:bv<w.heap.size:=World.block_lt_of_cell? _ _ hv;have hA:∀ o,b_ w (w.alloc o):=fun o=>r_.alloc n_ o;go_enter Tryz.func82,Tryz.ntmps82;go_wp2_with fail
 refine bodyPost_ret (v:=.agg #[i_ code,i_ p,i_ at_]) (by simp[results,Tryz.results82,go_sem]) rfl ⟨rfl,?_⟩
 first | exact r_ | exact hA _ | exact(hA _).trans (ay _ _ _)
theorem Ce (x:Int)(w:World):c_ 153 #[i_ x] w fun e w'=>e=.returned (.bool false)/\w'=w:=by
 go_enter Tryz.func153,Tryz.ntmps153;go_wp2_with fail
 go_ret;exact⟨al (by simp),rfl⟩
def lG (x y:Int):Int:=if x<y then -1 else if y<x then 1 else 0
theorem AN (x y:Int)(w:World):c_ 142 #[i_ x,i_ y] w fun e w'=>e=.returned (i_ (lG x y))/\w'=w:=by
 have N:=af Ce;by_cases h1:x<y
 ·have R:Hid (lG x y=-1):=if_pos h1;have d1:decide (x<y)=true:=decide_eq_true h1;generalize lG x y=r at *;go_enter Tryz.func142,Tryz.ntmps142;go_wp2_with fail
  refine(aa N x _).mono ?_;rintro e w1 ⟨rfl,rfl⟩;go_wp2_with fail
  refine(aa N y _).mono ?_;rintro e w2 ⟨rfl,rfl⟩;go_wp2_with fail
  go_ret;exact⟨by rw[R.out];rfl,rfl⟩
 by_cases h2:y<x
 ·have R:Hid (lG x y=1):=by show lG x y=1;unfold lG;rw[if_neg h1,if_pos h2]
  have d1:decide (x<y)=false:=decide_eq_false h1;have d2:decide (y<x)=true:=decide_eq_true h2;generalize lG x y=r at *;go_enter Tryz.func142,Tryz.ntmps142;go_wp2_with fail
  refine(aa N x _).mono ?_;rintro e w1 ⟨rfl,rfl⟩;go_wp2_with fail
  refine(aa N y _).mono ?_;rintro e w2 ⟨rfl,rfl⟩;go_wp2_with fail
  go_ret;exact⟨by rw[R.out];rfl,rfl⟩
 ·have R:Hid (lG x y=0):=by show lG x y=0;unfold lG;rw[if_neg h1,if_neg h2]
  have d1:decide (x<y)=false:=decide_eq_false h1;have d2:decide (y<x)=false:=decide_eq_false h2;generalize lG x y=r at *;go_enter Tryz.func142,Tryz.ntmps142;go_wp2_with fail
  refine(aa N x _).mono ?_;rintro e w1 ⟨rfl,rfl⟩;go_wp2_with fail
  refine(aa N y _).mono ?_;rintro e w2 ⟨rfl,rfl⟩;go_wp2_with fail
  go_ret;exact⟨by rw[R.out];rfl,rfl⟩
theorem rQ (item x:Int)(w:World):c_ 141 #[i_ item,i_ x] w fun e w'=>e=.returned (i_ (lG x item))/\w'=w:=by
 have N:=af (AN x item);generalize lG x item=r at *;go_enter Tryz.func141,Tryz.ntmps141;go_wp2_with fail
 refine(aa N _).mono ?_;rintro e w1 ⟨rfl,rfl⟩;go_wp2_with fail
 go_ret;exact⟨rfl,rfl⟩
def OY (l:List Int):Prop:=∀ r s,r<s->s<l.length->l[s]?.getD 0<l[r]?.getD 0
structure pS (l:List Int)(x:Int)(k:Nat):Prop where
 le:k<=l.length
 gt:∀ r,r<k->x<l[r]?.getD 0
 ng:∀ r,k<=r->r<l.length->l[r]?.getD 0<=x
def IK (l:List Int)(x:Int)(w:World)(e:Ending)(w':World):Prop:=∃ k:Nat,pS l x k/\e=.returned (.tuple #[i_ (k:Int),.bool (decide (k<l.length/\l[k]?.getD 0=x))])/\b_ w w'
theorem Qr (x y:Int):decide (lG x y<0)=decide (x<y):=by
 unfold lG;by_cases h1:x<y
 ·rw[if_pos h1,decide_eq_true h1];rfl
 ·rw[if_neg h1,decide_eq_false h1];by_cases h2:y<x
  ·rw[if_pos h2];rfl
  ·rw[if_neg h2];rfl
theorem Qj (x y:Int):(lG x y==0)=decide (y=x):=by
 unfold lG;by_cases h1:x<y
 ·rw[if_pos h1,decide_eq_false (by omega)];rfl
 ·rw[if_neg h1];by_cases h2:y<x
  ·rw[if_pos h2,decide_eq_false (by omega)];rfl
  ·rw[if_neg h2,decide_eq_true (by omega)];rfl
theorem Dc (a:o_)(l:List Int)(c:Nat)(x:Int)(S:Nat->Prop)(w:World)(hs:aR w S a l)(hB:∀ b,S b->b<w.heap.size)(hl:l.length<=1000000)(hd:OY l) :
  c_ 140 #[.slice a l.length c,i_ x,.func (.func 141) #[] #[]] w (IK l x w):=by
 have HS:=af hs;have oH:=af hB;have HD:=af hd;clear hs hB hd;go_enter Tryz.func140,Tryz.ntmps140;go_wp2_with fail
 go_loopg [9,10] l.length (fun gg i j wr=>∃ p q:Nat,p+gg=q/\q<=l.length/\i=i_ p/\j=i_ q/\b_ w wr/\Hid (∀ r,r<p->x<l[r]?.getD 0)/\Hid (∀ r,q<=r->r<l.length->l[r]?.getD 0<=x))
 case atStart=>exact⟨0,l.length,by omega,n_,rfl,rfl,r_,fun r h=>absurd h (Nat.not_lt_zero _),fun r h1 h2=>absurd h2 (by omega)⟩
 case round=>
  obtain⟨p,q,hpq,fw,rfl,rfl,hb,Pd,Yc⟩:=hrel;by_cases ax:p<q
  ·obtain⟨b,off,rfl,jF,aE⟩:=((aa HS).same (.of_below hb (aa oH))).2 (by omega);have cZ:b<wr.heap.size:=l_ (aa oH b jF) hb.size;obtain⟨h,hh⟩:∃ h,h=(p+q) / 2:=⟨_,rfl⟩;have hmid:((p:Int)+(q:Int)) / 2=(h:Int):=by omega
   have q1:=aE h (by omega);have Sc:h<l.length:=by omega
   have hph:p<=h:=by omega
   have hhq:h<q:=by omega
   have lq:=af hb;have LO:Hid (x<l[h]?.getD 0->∀ r,r<h+1->x<l[r]?.getD 0):=fun hx r hr=>by
    by_cases e:r=h
    ·aj e;exact hx
    ·have:=HD.out r h (by omega) Sc;omega
   have HI:Hid (¬x<l[h]?.getD 0->∀ r,h<=r->r<l.length->l[r]?.getD 0<=x):=fun hx r hr wi=>by
    by_cases e:r=h
    ·aj e;omega
    ·have:=HD.out h r (by omega) wi;omega
   clear aE hb jF hh;generalize l[h]?.getD 0=y at *;have CP:=af (rQ y x);have CD:=af (Qr x y);generalize lG x y=cm at *;by_cases hx:x<y
   ·have d:decide (cm<0)=true:=by rw[CD.out];exact decide_eq_true hx
    have RR:=af (aa LO hx);clear LO HI CD hx Pd;go_wp2_with fail
    refine(aa CP _).mono ?_;rintro e w1 ⟨rfl,rfl⟩;go_wp2_with fail
    go_roundg (q-(h+1))
    case measure=>omega
    case rel=>exact⟨h+1,q,by omega,fw,by go_num,rfl,lq.out,RR,Yc⟩
   ·have d:decide (cm<0)=false:=by rw[CD.out];exact decide_eq_false hx
    have RR:=af (aa HI hx);clear LO HI CD hx Yc;go_wp2_with fail
    refine(aa CP _).mono ?_;rintro e w1 ⟨rfl,rfl⟩;go_wp2_with fail
    go_roundg (h-p)
    case measure=>omega
    case rel=>exact⟨p,h,by omega,by omega,rfl,rfl,lq.out,Pd,RR⟩
  ·obtain rfl:p=q:=by omega
   have PL:Hid (pS l x p):=⟨fw,Pd.out,Yc.out⟩;clear Pd Yc;by_cases rE:p<l.length
   ·obtain⟨b,off,rfl,jF,aE⟩:=((aa HS).same (.of_below hb (aa oH))).2 (by omega);have cZ:b<wr.heap.size:=l_ (aa oH b jF) hb.size;have q1:=aE p rE;have lq:=af hb;have RR:Hid (decide (p<l.length/\l[p]?.getD 0=x)=decide (l[p]?.getD 0=x)):=decide_eq_decide.2 ⟨fun h=>h.2,fun h=>⟨rE,h⟩⟩;clear aE hb jF;generalize hy:l[p]?.getD 0=y at *;have HY:=af hy;clear hy;have CP:=af (rQ y x);have CD:=af (Qj x y);generalize lG x y=cm at *;go_wp2_with fail
    refine(aa CP _).mono ?_;rintro e w1 ⟨rfl,rfl⟩;go_wp2_with fail
    go_ret2
    exact⟨p,PL.out,by rw[HY.out,RR.out,<-CD.out];rfl,lq.out⟩
   ·have RR:Hid (decide (p<l.length/\l[p]?.getD 0=x)=false):=decide_eq_false (fun h=>rE h.1);go_wp2_with fail
    go_ret2
    exact⟨p,PL.out,by rw[RR.out];rfl,hb⟩
end Go.Proofs.YtcjfjflljdojlaaGreatDoor
