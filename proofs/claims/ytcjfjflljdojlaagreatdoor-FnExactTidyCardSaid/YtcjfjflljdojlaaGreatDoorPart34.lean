import Derived.Test.YtcjfjflljdojlaaGreatDoorPart33
import Derived.Laws.CopyOwn
set_option linter.all false
set_option maxHeartbeats 4000000
set_option maxRecDepth 100000
namespace Go.Proofs.YtcjfjflljdojlaaGreatDoor
open Go.RowKit
theorem AP {w:w_}{base g:Nat}{l:List Int}(hb:base<=g)(hl:l.length<=1000000)(h:w.heap[g]? = some (.cells (l.map (Value.int .i64)).toArray 3 (0,0))):ao w base (s_ g 0 l.length l.length) l:=by
 refine⟨by simp,.inr ⟨g,l.length,_,rfl,hb,h,n_,by unfold maxLen;omega,by simp,?_⟩⟩;rw[Nat.mul_one];exact List.take_of_length_le (by simp)
theorem xN {l:List Int}{K:Nat}(hK:K<=l.length):splice (List.replicate l.length (Value.int .i64 0)) 0 ((l.take K).map (Value.int .i64))=(l.take K++List.replicate (l.length-K) 0).map (Value.int .i64):=by
 unfold splice;rw[List.map_append,List.map_replicate,List.take_zero,List.nil_append,List.drop_replicate,List.length_map,List.length_take,Nat.zero_add,Nat.min_eq_left hK]
theorem kX (n:az)(K:Nat)(hn:n.fb=(K:Int))(a:o_)(ty:List Int)(c:Nat)(S:Nat->Prop)(w:w_)(hs:aQ w S a ty)(hB:∀ b,S b->b<w.heap.size)(hl:ty.length<=250)(hc:ty.length<=c)(hK:K+2<=ty.length) :
  c_ 125 #[.slice a ty.length c,i_ (K:Int)] w (jU (dH n ty) w):=by
 have kE:=run_make_row' (P:=Tryz.prog) 70 3 (i_ 0) 8 Tryz.underlying70 (by kernel_rfl) rfl .i64 .i64 ty.length (by omega) (by omega);have hH:dH n ty=((ty.take K++List.replicate (ty.length-K) 0).set K 1).set (K+1) 1:=by unfold dH;rw[hn];rfl
 rw[hH];obtain⟨b,off,rfl,jA,aC⟩:=hs.2 (by omega);have cY:=hB b jA;have SL:=n7 (k:=K) (c:=c) (n:=ty.length) (a:=some (a_ b off));have hA:∀ o,b_ w (w.alloc o):=fun o=>r_.alloc n_ o;have HG:H_ ((w.alloc (.cells (madeCells #[i_ 0] ty.length) 3)).heap[w.heap.size]? = some (.cells (List.replicate ty.length (Value.int .i64 0)).toArray 3 (0,0))):=by
  show _=_;rw[Go.Deep.blk_alloc_new,<-toList_madeCells_one,Array.toArray_toList]
 have HS:H_ (∀ j v,((ty.take K).map (Value.int .i64))[j]? = some v->(w.alloc (.cells (madeCells #[i_ 0] ty.length) 3)).cell? (((a_ b off):Addr).add j)=some v):=fun j v hj=>by{rw[zae]at hj;by_cases qB:j<K;{rw[List.getElem?_take_of_lt qB,g_ (by omega)]at hj;have h1:=aC j (by omega);rw[g_ (by omega)]at h1;have e:((a_ b off):Addr).add j=(a_ b (off+j)):=by{simp[Addr.add]};rw[e,Below.cell (B:=w.heap.size) (hA _) (p:=(a_ b (off+j))) cY,h1];exact hj};{rw[List.getElem?_eq_none (by rw[List.length_take];omega)]at hj;cases hj}};have HA:=af (hA (.cells (madeCells #[i_ 0] ty.length) 3));have SP:=af (xN (l:=ty) (K:=K) (by omega));have hm:(List.map (Value.int .i64) (ty.take K)).length=K:=by{simp;omega};have HM:=af hm;have hKc:K<=c:=by{omega};have YI:=fun w=>n7 w (some (a_ b off)) ty.length c K hKc;have Hl:=run_copy_row (P:=Tryz.prog) (w.alloc (.cells (madeCells #[i_ 0] ty.length) 3)) 70 70 3 3 w.heap.size 0 ty.length ty.length (a_ b off) K c (List.replicate ty.length (Value.int .i64 0)).toArray 3 ((ty.take K).map (Value.int .i64)) Tryz.underlying70 (by kernel_rfl) HG.o (by rw[hm];show K=min K ty.length;omega) HS.o (by rw[hm];simp;omega) (fun u hu=>by rw[List.mem_map]at hu;obtain⟨x,_,rfl⟩:=hu;rfl);have eX:(List.replicate ty.length (Value.int .i64 0)).toArray.toList.take 0++(ty.take K).map (Value.int .i64)++(List.replicate ty.length (Value.int .i64 0)).toArray.toList.drop (0+((ty.take K).map (Value.int .i64)).length)=(ty.take K++List.replicate (ty.length-K) 0).map (Value.int .i64):=by{rw[<-SP.o];unfold splice;rw[List.append_assoc]};rw[eX]at Hl;have lD:H_ (((w.alloc (.cells (madeCells #[i_ 0] ty.length) 3)).setRow w.heap.size ((ty.take K++List.replicate (ty.length-K) 0).map (Value.int .i64)).toArray).heap[w.heap.size]? = some (.cells ((ty.take K++List.replicate (ty.length-K) 0).map (Value.int .i64)).toArray 3 (0,0))):=setRow_heap _ _ _ _ _ _ HG.o;have fM:=af (below_setRow HA.o n_ ((ty.take K++List.replicate (ty.length-K) 0).map (Value.int .i64)).toArray);generalize (w.alloc (.cells (madeCells #[i_ 0] ty.length) 3)).setRow w.heap.size ((ty.take K++List.replicate (ty.length-K) 0).map (Value.int .i64)).toArray=w2 at *;rw[hm]at Hl;have wq:=lD;have bj:=fM.o;clear hs hB aC jA hH hA SL hm lD fM eX;have hL:(ty.take K++List.replicate (ty.length-K) (0:Int)).length=ty.length:=by{simp;omega};have ho:ao w2 w.heap.size (s_ w.heap.size 0 ty.length ty.length) (ty.take K++List.replicate (ty.length-K) (0:Int)):=by{have:=AP (base:=w.heap.size) n_ (by omega) wq.o;rwa [hL]at this};generalize ty.take K++List.replicate (ty.length-K) (0:Int)=L at *;have Bh:=bj.size;have O2:=af (ho.set hL.symm K 1);have hL2:(L.set K 1).length=ty.length:=by rw[List.length_set];exact hL
 have O3:=af ((aa O2).set hL2.symm (K+1) 1);obtain⟨g',iL,e',_,hlt',aC⟩:=ho.at (by omega);injection e' with e1 e2 e3;injection e1 with e1;injection e1 with e1;subst e1;clear e2 e3;have x1:=aC K (by omega);have x2:=aC (K+1) (by omega);have z1:=ho.frozen hL.symm K;have z2:=ho.frozen hL.symm (K+1);have B3:H_ (b_ w ((w2.setCell (a_ w.heap.size K) (i_ 1)).setCell (a_ w.heap.size (K+1)) (i_ 1))):=(bj.setCell (p:=(a_ w.heap.size K)) n_ _).setCell (p:=(a_ w.heap.size (K+1))) n_ _;generalize L[K]?.getD 0=q1 at *;generalize L[K+1]?.getD 0=q2 at *;clear aC ho wq bj HG HS SP HA hL hL2 O2;go_enter Tryz.func125,Tryz.ntmps125;go_wp2
 go_ret;exact⟨_,rfl,O3.o,B3.o⟩
theorem uK (x:aj)(nm:ByteArray)(ln:Int)(pr rg:Nat)(rs:Bool)(v5 v6 v7 v8:Value)(w:w_)(Ig:x.l=(pr:Int))(ko:x.m=(rg:Int))(cK:x.e=rs)(px:pr<=rg)(uY:rs=true->pr<rg)(hl:rg<=250) :
  c_ 78 #[.agg #[.string nm,i_ ln,i_ (pr:Int),.bool rs,i_ (rg:Int),v5,v6,v7,v8]] w (jU (dy x) w):=by
 have kE:=run_make_row' (P:=Tryz.prog) 70 3 (i_ 0) 8 Tryz.underlying70 (by kernel_rfl) rfl .i64 .i64 rg (by omega) (by omega);have FG:H_ (∀ j,j<rg->(dy x)[j]?.getD 0=if j<pr then 1 else if rs=true/\j=pr then 3 else 0):=fun j hj=>by{rw[wW x (by omega) j (by omega),Ig,cK];by_cases c:j<pr;{rw[zca (by omega),zca c]};{rw[zcb (by omega),zcb c];by_cases c2:rs=true/\j=pr;{rw[zca c2,zca ⟨c2.1,by omega⟩]};{rw[zcb c2,zcb (fun h=>c2 ⟨h.1,by omega⟩)]}}};have FL:H_ ((dy x).length=rg):=by{show _=_;rw[ri,ko];rfl};have Sp:=af uY;generalize dy x=ft at *;have hA:b_ w ((w.alloc (.cells #[.string nm,i_ ln,i_ (pr:Int),.bool rs,i_ (rg:Int),v5,v6,v7,v8] 43)).alloc (.cells (madeCells #[i_ 0] rg) 3)):=(r_.alloc n_ _).alloc (by simp) _;have HA:=af hA;have R0:H_ (((w.alloc (.cells #[.string nm,i_ ln,i_ (pr:Int),.bool rs,i_ (rg:Int),v5,v6,v7,v8] 43)).alloc (.cells (madeCells #[i_ 0] rg) 3)).rowIs (w.heap.size+1) 3 rg (fun _=>i_ 0)):=by{have h:=World.rowIs_made (w.alloc (.cells #[.string nm,i_ ln,i_ (pr:Int),.bool rs,i_ (rg:Int),v5,v6,v7,v8] 43)) (i_ 0) rg 3;rw[show ∀ o,(w.alloc o).heap.size=w.heap.size+1 from fun _=>by simp]at h;exact h};have C0:H_ (∀ W,Below (w.heap.size+1) ((w.alloc (.cells #[.string nm,i_ ln,i_ (pr:Int),.bool rs,i_ (rg:Int),v5,v6,v7,v8] 43)).alloc (.cells (madeCells #[i_ 0] rg) 3)) W->W.cell? (a_ w.heap.size 2)=some (i_ (pr:Int))/\W.cell? (a_ w.heap.size 3)=some (.bool rs)):=fun W hW=>
  ⟨(hW.cell (p:=(a_ w.heap.size 2)) (by simp)).trans (by simp[go_sem]),(hW.cell (p:=(a_ w.heap.size 3)) (by simp)).trans (by simp[go_sem])⟩
 clear Ig ko cK uY hA;go_enter Tryz.func78,Tryz.ntmps78;go_wp2_with fail
 clear kE;generalize (w.alloc (.cells #[.string nm,i_ ln,i_ (pr:Int),.bool rs,i_ (rg:Int),v5,v6,v7,v8] 43)).alloc (.cells (madeCells #[i_ 0] rg) 3)=w0 at *;go_loopg [10] pr (fun gg i wr=>∃ r:Nat,r+gg=pr/\i=i_ r/\Below (w.heap.size+1) w0 wr/\wr.rowIs (w.heap.size+1) 3 rg (fun j=>i_ (if j<r then 1 else 0)));(case atStart=>exact⟨0,by omega,rfl,r_,(aa R0).congr (fun j hj=>by simp)⟩);case round=>
  obtain⟨r,hr,rfl,hW,bx⟩:=hrel;obtain⟨q2,q3⟩:=aa C0 _ hW;have yQ:w.heap.size<wr.heap.size:=zbd _ _ q2;have UT:=bx.lt;by_cases au:r<pr
  ·have hg:=bx.cell (i:=r) (by omega);have hz:=bx.frozen r;have Oh:(r:Int)<rg:=by omega
   have lz:=af (hW.setCell (p:=(a_ (w.heap.size+1) r)) n_ (i_ 1));have rB:H_ ((wr.setCell (a_ (w.heap.size+1) r) (i_ 1)).rowIs (w.heap.size+1) 3 rg (fun j=>i_ (if j<r+1 then 1 else 0))):=(bx.set r _).congr (fun j hj=>by
    by_cases e:j=r;{subst e;simp}
    ·have:(j<r+1)=(j<r):=by apply propext;omega
     simp[e,this])
   clear hW bx;go_wp2;go_roundg (pr-(r+1));(case measure=>omega);case rel=>exact⟨r+1,by omega,by go_num,aa lz,aa rB⟩
  ·have hrp:r=pr:=by{omega};subst hrp;have HB:H_ (b_ w wr):=HA.o.trans (hW.mono (by omega));have nI:=af bx;clear hW bx;cases rs
   ·have mI:H_ (ao wr w.heap.size (s_ (w.heap.size+1) 0 rg rg) ft):=l9 (aa nI) FL.o (by omega) (by omega) (fun j hj=>by
     rw[aa FG j hj];by_cases c:j<r;{rw[zca c,zca c]}
     ·rw[zcb c,zcb c,zcb (fun h=>Bool.noConfusion h.1)])
    go_wp2;go_ret;exact⟨_,rfl,mI.o,HB.o⟩
   ·have hrr:r<rg:=Sp.o rfl;have hg:=(aa nI).cell (i:=r) hrr;have hz:=(aa nI).frozen r;have Oh:(r:Int)<rg:=by omega
    have fM:=af ((aa HB).setCell (p:=(a_ (w.heap.size+1) r)) (by show w.heap.size<=w.heap.size+1;omega) (i_ 3));have mI:H_ (ao (wr.setCell (a_ (w.heap.size+1) r) (i_ 3)) w.heap.size (s_ (w.heap.size+1) 0 rg rg) ft):=l9 ((aa nI).set r _) FL.o (by omega) (by omega) (fun j hj=>by
     rw[aa FG j hj];show(if j=r then Value.int .i64 3 else i_ (if j<r then 1 else 0))=_;by_cases c:j<r;{rw[zcb (by omega),zca c,zca c]}
     ·by_cases c2:j=r;{rw[zca c2,zcb c,zca ⟨rfl,c2⟩]}
      ·rw[zcb c2,zcb c,zcb c,zcb (fun h=>c2 h.2)])
    clear nI;go_wp2;go_ret;exact⟨_,rfl,mI.o,fM.o⟩
def Js (bv o G m cap:Nat)(y:Int)(w:w_)(e:Ending)(w':w_):Prop:=e=.returned (i_ y)/\w'=w.setCell (a_ bv o) (s_ G 0 m cap)
theorem Kc (bv o G m cap:Nat)(y:Int)(w:w_)(hv:w.cell? (a_ bv o)=some (s_ G 0 (m+1) cap))(hz:w.frozen? (a_ bv o)=false)(hy:w.cell? (a_ G m)=some (i_ y))(hc:m+1<=cap)(hm:m<1000000) :
  c_ 80 #[.pointer (some (a_ bv o))] w (Js bv o G m cap y w):=by
 have Hr:bv<w.heap.size:=zbd _ _ hv;have hG:G<w.heap.size:=zbd _ _ hy;have YI:=fun w=>n7 w (some (a_ G 0)) (m+1) cap m (by omega);go_enter Tryz.func80,Tryz.ntmps80;go_wp2
 go_ret;exact⟨rfl,rfl⟩
theorem iQ (bv:Nat)(p code at_:Int)(w:w_)(hv:w.cell? (a_ bv 1)=some (i_ p)) :
  c_ 82 #[.pointer (some (a_ bv 0)),i_ code,i_ at_] w fun e w'=>e=.returned (.agg #[i_ code,i_ p,i_ at_])/\b_ w w':=by
 have Hr:bv<w.heap.size:=zbd _ _ hv;have hA:∀ o,b_ w (w.alloc o):=fun o=>r_.alloc n_ o;go_enter Tryz.func82,Tryz.ntmps82;go_wp2_with fail
 refine zcd (v:=.agg #[i_ code,i_ p,i_ at_]) (by simp[results,Tryz.results82,go_sem]) rfl ⟨rfl,?_⟩;first | exact r_ | exact hA _ | exact(hA _).trans (ax _ _ _)
theorem Ch (x:Int)(w:w_):c_ 153 #[i_ x] w fun e w'=>e=.returned (.bool false)/\w'=w:=by
 go_enter Tryz.func153,Tryz.ntmps153;go_wp2;go_ret;exact⟨ak (by simp),rfl⟩
def lJ (x y:Int):Int:=if x<y then -1 else if y<x then 1 else 0
theorem zK (x y:Int)(w:w_):c_ 142 #[i_ x,i_ y] w fun e w'=>e=.returned (i_ (lJ x y))/\w'=w:=by
 have N:=af Ch;by_cases h1:x<y
 ·have R:H_ (lJ x y=-1):=zca h1;have d1:decide (x<y)=true:=zbb h1;generalize lJ x y=r at *;go_enter Tryz.func142,Tryz.ntmps142;go_wp2_with fail
  refine(aa N x _).mono ?_;rintro e w1 ⟨rfl,rfl⟩;go_wp2_with fail;refine(aa N y _).mono ?_;rintro e w2 ⟨rfl,rfl⟩;go_wp2;go_ret;exact⟨by rw[R.o];rfl,rfl⟩
 by_cases h2:y<x
 ·have R:H_ (lJ x y=1):=by show lJ x y=1;unfold lJ;rw[zcb h1,zca h2]
  have d1:decide (x<y)=false:=zba h1;have d2:decide (y<x)=true:=zbb h2;generalize lJ x y=r at *;go_enter Tryz.func142,Tryz.ntmps142;go_wp2_with fail
  refine(aa N x _).mono ?_;rintro e w1 ⟨rfl,rfl⟩;go_wp2_with fail;refine(aa N y _).mono ?_;rintro e w2 ⟨rfl,rfl⟩;go_wp2;go_ret;exact⟨by rw[R.o];rfl,rfl⟩
 ·have R:H_ (lJ x y=0):=by show lJ x y=0;unfold lJ;rw[zcb h1,zcb h2]
  have d1:decide (x<y)=false:=zba h1;have d2:decide (y<x)=false:=zba h2;generalize lJ x y=r at *;go_enter Tryz.func142,Tryz.ntmps142;go_wp2_with fail
  refine(aa N x _).mono ?_;rintro e w1 ⟨rfl,rfl⟩;go_wp2_with fail;refine(aa N y _).mono ?_;rintro e w2 ⟨rfl,rfl⟩;go_wp2;go_ret;exact⟨by rw[R.o];rfl,rfl⟩
theorem rX (item x:Int)(w:w_):c_ 141 #[i_ item,i_ x] w fun e w'=>e=.returned (i_ (lJ x item))/\w'=w:=by
 have N:=af (zK x item);generalize lJ x item=r at *;go_enter Tryz.func141,Tryz.ntmps141;go_wp2_with fail
 refine(aa N _).mono ?_;rintro e w1 ⟨rfl,rfl⟩;go_wp2;go_ret;exact⟨rfl,rfl⟩
def O8 (l:List Int):Prop:=∀ r s,r<s->s<l.length->l[s]?.getD 0<l[r]?.getD 0
structure pG (l:List Int)(x:Int)(k:Nat):Prop where
 le:k<=l.length
 gt:∀ r,r<k->x<l[r]?.getD 0
 ng:∀ r,k<=r->r<l.length->l[r]?.getD 0<=x
def JV (l:List Int)(x:Int)(w:w_)(e:Ending)(w':w_):Prop:=∃ k:Nat,pG l x k/\e=.returned (.tuple #[i_ (k:Int),.bool (decide (k<l.length/\l[k]?.getD 0=x))])/\b_ w w'
theorem Qd (x y:Int):decide (lJ x y<0)=decide (x<y):=by
 unfold lJ;by_cases h1:x<y;{rw[zca h1,zbb h1];rfl};{rw[zcb h1,zba h1];by_cases h2:y<x;{rw[zca h2];rfl};{rw[zcb h2];rfl}}
theorem Qc (x y:Int):(lJ x y==0)=decide (y=x):=by
 unfold lJ;by_cases h1:x<y;{rw[zca h1,zba (by omega)];rfl};{rw[zcb h1];by_cases h2:y<x;{rw[zca h2,zba (by omega)];rfl};{rw[zcb h2,zbb (by omega)];rfl}}
theorem CG (a:o_)(l:List Int)(c:Nat)(x:Int)(S:Nat->Prop)(w:w_)(hs:aQ w S a l)(hB:∀ b,S b->b<w.heap.size)(hl:l.length<=1000000)(hd:O8 l) :
  c_ 140 #[.slice a l.length c,i_ x,.func (.func 141) #[] #[]] w (JV l x w):=by
 have HS:=af hs;have oH:=af hB;have HD:=af hd;clear hs hB hd;go_enter Tryz.func140,Tryz.ntmps140;go_wp2
 go_loopg [9,10] l.length (fun gg i j wr=>∃ p q:Nat,p+gg=q/\q<=l.length/\i=i_ p/\j=i_ q/\b_ w wr/\H_ (∀ r,r<p->x<l[r]?.getD 0)/\H_ (∀ r,q<=r->r<l.length->l[r]?.getD 0<=x));(case atStart=>exact⟨0,l.length,by omega,n_,rfl,rfl,r_,fun r h=>zcc h (bW _),fun r h1 h2=>zcc h2 (by omega)⟩);case round=>
  obtain⟨p,q,hpq,fq,rfl,rfl,hb,PN,XD⟩:=hrel;by_cases au:p<q
  ·obtain⟨b,off,rfl,jA,aC⟩:=((aa HS).same (.of_below hb (aa oH))).2 (by omega);have cY:b<wr.heap.size:=l_ (aa oH b jA) hb.size;obtain⟨h,hh⟩:∃ h,h=(p+q) / 2:=⟨_,rfl⟩;have hmid:((p:Int)+(q:Int)) / 2=(h:Int):=by omega
   have q1:=aC h (by omega);have St:h<l.length:=by{omega};have hph:p<=h:=by{omega};have hhq:h<q:=by{omega};have lv:=af hb;have LO:H_ (x<l[h]?.getD 0->∀ r,r<h+1->x<l[r]?.getD 0):=fun hx r hr=>by{by_cases e:r=h;{subst e;exact hx};{have:=HD.o r h (by omega) St;omega}};have HI:H_ (¬x<l[h]?.getD 0->∀ r,h<=r->r<l.length->l[r]?.getD 0<=x):=fun hx r hr we=>by{by_cases e:r=h;{subst e;omega};{have:=HD.o h r (by omega) we;omega}};clear aC hb jA hh;generalize l[h]?.getD 0=y at *;have CP:=af (rX y x);have CD:=af (Qd x y);generalize lJ x y=cm at *;by_cases hx:x<y;{have d:decide (cm<0)=true:=by{rw[CD.o];exact zbb hx};have RR:=af (aa LO hx);clear LO HI CD hx PN;go_wp2_with fail;refine(aa CP _).mono ?_;rintro e w1 ⟨rfl,rfl⟩;go_wp2;go_roundg (q-(h+1));(case measure=>omega);case rel=>exact⟨h+1,q,by omega,fq,by go_num,rfl,lv.o,RR,XD⟩};{have d:decide (cm<0)=false:=by{rw[CD.o];exact zba hx};have RR:=af (aa HI hx);clear LO HI CD hx XD;go_wp2_with fail;refine(aa CP _).mono ?_;rintro e w1 ⟨rfl,rfl⟩;go_wp2;go_roundg (h-p);(case measure=>omega);case rel=>exact⟨p,h,by omega,by omega,rfl,rfl,lv.o,PN,RR⟩}
  {obtain rfl:p=q:=by{omega};have PL:H_ (pG l x p):=⟨fq,PN.o,XD.o⟩;clear PN XD;by_cases ry:p<l.length;{obtain⟨b,off,rfl,jA,aC⟩:=((aa HS).same (.of_below hb (aa oH))).2 (by omega);have cY:b<wr.heap.size:=l_ (aa oH b jA) hb.size;have q1:=aC p ry;have lv:=af hb;have RR:H_ (decide (p<l.length/\l[p]?.getD 0=x)=decide (l[p]?.getD 0=x)):=decide_eq_decide.2 ⟨fun h=>h.2,fun h=>⟨ry,h⟩⟩;clear aC hb jA;generalize hy:l[p]?.getD 0=y at *;have HY:=af hy;clear hy;have CP:=af (rX y x);have CD:=af (Qc x y);generalize lJ x y=cm at *;go_wp2_with fail;refine(aa CP _).mono ?_;rintro e w1 ⟨rfl,rfl⟩;go_wp2;go_ret2;exact⟨p,PL.o,by rw[HY.o,RR.o,<-CD.o];rfl,lv.o⟩};{have RR:H_ (decide (p<l.length/\l[p]?.getD 0=x)=false):=zba (fun h=>ry h.1);go_wp2;go_ret2;exact⟨p,PL.o,by rw[RR.o];rfl,hb⟩}}
end Go.Proofs.YtcjfjflljdojlaaGreatDoor
