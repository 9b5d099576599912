import Derived.Test.YtcjfjflljdojlaaGreatDoorPart01
import Derived.Deep.OwnRows
set_option linter.all false
set_option maxHeartbeats 400000
namespace Go.Proofs.YtcjfjflljdojlaaGreatDoor
open Go.RowKit
def ed (G:Nat):w_->Nat->List Value->w_
 | w,_,[]=>w
 | w,o,v::vs=>ed G (w.setCell (a_ G o) v) (o+1) vs
theorem tT {G t m:Nat}:∀(vs:List Value)(w:w_)(o:Nat)(f:Nat->Value),w.rowIs G t m f->(ed G w o vs).rowIs G t m (fun j=>if o<=j/\j<o+vs.length then vs[j-o]?.getD (f j)else f j)
 | [],w,o,f,h=>h.congr fun j _=>by rw[zcb (by simp)]
 | v::vs,w,o,f,h=>by
  refine(tT vs (w.setCell (a_ G o) v) (o+1) _ (h.set o v)).congr fun j _=>?_;simp only[List.length_cons];by_cases e:j=o
  ·subst e;rw[zcb (by omega),zca rfl,zca (by omega)];simp
  ·by_cases e2:o+1<=j/\j<o+1+vs.length
   ·rw[zca e2,zcb e,zca (show o<=j/\j<o+(vs.length+1)by omega)];have:j-o=(j-(o+1))+1:=by omega
    rw[this,List.getElem?_cons_succ]
   ·rw[zcb e2,zcb e,zcb (show ¬(o<=j/\j<o+(vs.length+1))by omega)]
theorem gx {B G:Nat}{w:w_}(hG:B<=G):∀(vs:List Value)(w1:w_)(o:Nat),Below B w w1->Below B w (ed G w1 o vs)
 | [],_,_,h=>h
 | v::vs,w1,o,h=>gx hG vs _ _ (h.setCell hG v)
theorem rt {S:Nat->Prop}{G:Nat}{w:w_}(hG:¬S G):∀(vs:List Value)(w1:w_)(o:Nat),cH S w w1->cH S w (ed G w1 o vs)
 | [],_,_,h=>h
 | v::vs,w1,o,h=>rt hG vs _ _ (h.setCell (a:=(a_ G o)) hG v)
theorem eN {G:Nat}:∀(vs:List Value)(w1:w_)(o:Nat),(ed G w1 o vs).heap.size=w1.heap.size
 | [],_,_=>rfl
 | v::vs,w1,o=>by
  show(ed G (w1.setCell (a_ G o) v) (o+1) vs).heap.size=_;rw[eN vs];simp
def jG {α:Type}(sz:Nat)(vals:Nat->α->List Value)(z:List Value)(l:List α)(d:α)(k j:Nat):Value:=
 if j / sz<k then(vals (j / sz) (l[j / sz]?.getD d))[j % sz]?.getD (i_ 0)else z[j % sz]?.getD (i_ 0)
theorem nj {α:Type}{sz G t n k:Nat}{vals vals':Nat->α->List Value}{z:List Value}{l:List α}{d:α}{w:w_}(hz:0<sz)(hv:(vals' k (l[k]?.getD d)).length=sz)(Fq:∀ i,i<k->vals' i (l[i]?.getD d)=vals i (l[i]?.getD d))
  (h:w.rowIs G t (n * sz) (jG sz vals z l d k)):(ed G w (k * sz) (vals' k (l[k]?.getD d))).rowIs G t (n * sz) (jG sz vals' z l d (k+1)):=by
 refine(tT _ _ _ _ h).congr fun j _=>?_;rw[hv];have Sz:sz * (j / sz)+j % sz=j:=Nat.div_add_mod j sz;have Xi:=Nat.mod_lt j hz;have ZC:sz * (j / sz)=(j / sz) * sz:=Nat.mul_comm _ _;unfold jG;by_cases e:j / sz=k;{rw[e]at Sz ZC;have e2:j-k * sz=j % sz:=by{omega};have e3:k * sz<=j/\j<k * sz+sz:=by{omega};rw[zca e3,e,zca (Nat.lt_succ_self k),e2,g_ (by omega)];rfl}
 ·have eh:¬(k * sz<=j/\j<k * sz+sz):=fun hh=>e (by
   have h1:k<=j / sz:=(Nat.le_div_iff_mul_le hz).2 hh.1;have h2:j / sz<k+1:=(Nat.div_lt_iff_lt_mul hz).2 (by rw[Nat.succ_mul];exact hh.2);omega)
  rw[zcb eh];by_cases e3:j / sz<k;{rw[zca e3,zca (by omega),Fq _ e3]};{rw[zcb e3,zcb (by omega)]}
theorem de {α:Type}{sz G t k:Nat}{vals:Nat->α->List Value}{z:List Value}{l:List α}{d:α}{w:w_}(h:w.rowIs G t (l.length * sz) (jG sz vals z l d k))(hk:k=l.length){j r:Nat}(hj:j<l.length)(hr:r<sz) :
  w.cell? (a_ G (0+j * sz+r))=some ((vals j (l[j]?.getD d))[r]?.getD (i_ 0)):=by
 have au:j * sz+r<l.length * sz:=by{have:(j+1) * sz<=l.length * sz:=Nat.mul_le_mul_right sz (by omega);rw[Nat.succ_mul]at this;omega};have h1:=h.cell au;have e1:(j * sz+r) / sz=j:=by{rw[Nat.mul_comm,Nat.mul_add_div (by omega),Nat.div_eq_of_lt hr,Nat.add_zero]};have e2:(j * sz+r) % sz=r:=by{rw[Nat.mul_comm,Nat.mul_add_mod,Nat.mod_eq_of_lt hr]};unfold jG at h1;rw[e1,e2,zca (by omega)]at h1;rw[Nat.zero_add];exact h1
theorem kR {α:Type}{sz n:Nat}{vals:Nat->α->List Value}{z:List Value}{l:List α}{d:α}(w:w_)(t:TypeId)(hz:z.length=sz)(h0:0<sz):(w.alloc (.cells (madeCells z.toArray (n * sz)) t)).rowIs w.heap.size t (n * sz) (jG sz vals z l d 0):=by
 refine⟨_,Go.Deep.blk_alloc_new _ _,size_madeCells _ _,fun i hi=>?_⟩;have hm:i % sz<z.length:=by{rw[hz];exact Nat.mod_lt _ h0};unfold jG;rw[zcb (bW _)];simp[madeCells,hi,hz,g_ hm,hm]
theorem cn (P:Program)(w:w_)(a:Addr)(k:FloatKind)(b:Nat)(m:Mode):(store a (.float k b) m).run P w=stored P w a (.float k b) m:=run_store P w a _ m rfl
attribute [local go_sem] cn
theorem ex {P:Program}(t e:TypeId)(z:Value)(size bytes:Nat)(ht:P.underlying t=some (.slice e))(hinfo:(P.info? e).map (fun i=>(i.zero,i.size,i.bytes))=some (some z,size,bytes))
  (kl kc:IntKind)(n:Nat)(hbytes:bytes * n<=281474976710656)(h63:n<=9223372036854775807)(w:w_) :
  (Instr.makeSlice t (.int kl (n:Int)) (.int kc (n:Int))).run P w=.ok (s_ w.heap.size 0 n n) (w.alloc (.cells (madeCells z.cells (n * size)) e)):=by
 obtain⟨i,hi,hzz⟩:=Option.map_eq_some_iff.1 hinfo;simp only[Prod.mk.injEq]at hzz;obtain⟨hz,hs,hb⟩:=hzz;subst hs;subst hb;have dV:(i.bytes:Int) * (n:Int)<=281474976710656:=by{have h:((i.bytes * n:Nat):Int)<=281474976710656:=by{omega};rwa [Int.natCast_mul]at h};have hr:=run_make (P:=P) w t e i z ht hi hz kl kc n n (by omega) (Int.le_refl _) dV (by omega);simp only[Int.toNat_natCast]at hr;exact hr
theorem yg:(Tryz.prog.info? 46).map (fun i=>(i.zero,i.size,i.bytes))=some (some (.agg #[.bool false,i_ 0]),2,16):=by kernel_rfl
def iz (n:Bool×Int):List Value:=[.bool n.1,i_ n.2]
def Uz:List Value:=[.bool false,i_ 0]
theorem tO:(Tryz.prog.info? 49).map (fun i=>(i.zero,i.size,i.bytes))=some (some (.agg #[i_ 0,i_ 0,.float .f64 0,.string ByteArray.empty,i_ 0]),5,48):=by kernel_rfl
def gi (n:cN):List Value:=[i_ n.kind,i_ n.num,.float .f64 n.flt,.string n.str,i_ n.ref]
def IA:List Value:=[i_ 0,i_ 0,.float .f64 0,.string ByteArray.empty,i_ 0]
theorem la:(Tryz.prog.info? 51).map (fun i=>(i.zero,i.size,i.bytes))=some (some (.agg #[i_ 0,i_ 0,i_ 0,i_ 0,i_ 0]),5,40):=by kernel_rfl
def aV (n:az):List Value:=[i_ n.op,i_ n.fa,i_ n.fb,i_ n.fc,i_ n.fd]
def Jq:List Value:=[i_ 0,i_ 0,i_ 0,i_ 0,i_ 0]
theorem py:(Tryz.prog.info? 53).map (fun i=>(i.zero,i.size,i.bytes))=some (some (.agg #[.string ByteArray.empty,i_ 0,i_ 0,i_ 0]),4,40):=by kernel_rfl
def dP (n:bB):List Value:=[.string n.name,i_ n.reg,i_ n.fro,i_ n.til]
def JP:List Value:=[.string ByteArray.empty,i_ 0,i_ 0,i_ 0]
theorem qr (a:o_)(l:List aj)(c:Nat)(S:Nat->Prop)(bz:Int)(w:w_)(hs:am w S a l)(hB:∀ b,S b->b<w.heap.size)(hl:0<=bz)(wm:bz<=1048576) :
  c_ 11 #[.slice a l.length c,i_ bz] w fun e w'=>e=.returned (i_ (pd bz (aH l)))/\b_ w w':=by
 have hn:=hs.1;by_cases h:bz<l.length;{go_enter Tryz.func11,Tryz.ntmps11;go_wp2;go_ret;exact⟨dF (eo (by unfold aH;omega)).symm,r_⟩}
 ·have px:(l.length:Int)<=bz:=by omega
  clear h;go_enter Tryz.func11,Tryz.ntmps11;go_wp2
  go_loopw [1,5] (fun t i wr=>∃(k:Nat) (x:Int),k<=l.length/\i=i_ k/\t=i_ x/\0<=x/\x<=1048576/\H_ (x=bz-l.length-bo du l k)/\b_ w wr) (fun _ i _=>l.length-(intOf i).toNat);(case atStart=>exact⟨0,_,Nat.zero_le _,rfl,rfl,by omega,by omega,show _=_ by rw[fe];omega,r_⟩);case round=>
   obtain⟨k,x,hk,rfl,rfl,hx,aN,mn,ei⟩:=hrel;have Hz:∀ b,S b->b<wr.heap.size:=fun b h=>l_ (hB b h) ei.size;by_cases au:k<l.length
   {obtain⟨b,off,rfl,hb,aC⟩:=(hs.keep ei hB).2 (by omega);have N:=aC k au;have HS:H_ (bo du l (k+1)=bo du l k+du (l[k]?.getD aj.z)/\bo du l (k+1)<=aS du l):=⟨dI du l k aj.z au,gw du l (k+1)⟩;clear aC;generalize l[k]?.getD aj.z=fd at *;obtain⟨a5,c5,h5,H5⟩:=N.s;obtain⟨a6,c6,h6,H6⟩:=N.k;obtain⟨a7,c7,h7,H7⟩:=N.u;obtain⟨a8,c8,h8,H8⟩:=N.g;have c0:=N.name;have c1:=N.f;have c2:=N.l;have c3:=N.e;have c4:=N.m;by_cases hq:x<du fd;{have B1:H_ (pd x (fd.name.size+fd.s.length+fo fd.k+fd.u.length+im fd.g)=-1):=eo (by unfold du at hq;omega);go_wp2_with fail;refine(rJ _ _ _ _ _ _ _ _ _ _ _ _ _ _ _ _ _ S _ _ N.names H5 H6 H7 H8 Hz (by omega) (by omega)).mono ?_;rintro e w' ⟨rfl,dV⟩;rw[B1.o];go_wp2;go_ret;have h1:=HS.o;have h2:=mn.o;exact⟨dF (eo (by unfold aH;omega)).symm,ei.trans (dV.mono ei.size)⟩};{have B1:H_ (pd x (fd.name.size+fd.s.length+fo fd.k+fd.u.length+im fd.g)=x-du fd):=by{show _=_;rw[eP (by unfold du at hq;omega)];unfold du;omega};generalize du fd=tn at *;go_wp2_with fail;refine(rJ _ _ _ _ _ _ _ _ _ _ _ _ _ _ _ _ _ S _ _ N.names H5 H6 H7 H8 Hz (by omega) (by omega)).mono ?_;rintro e w' ⟨rfl,dV⟩;rw[B1.o];go_wp2;go_roundw;(case rel=>have h1:=HS.o;have h2:=mn.o;exact⟨k+1,x-tn,by omega,by go_num,by go_num,by omega,by omega,show _=_ by omega,ei.trans (dV.mono ei.size)⟩);case measure=>simp[intOf];omega}};{have HK:H_ (k=l.length):=by{show _=_;omega};go_wp2;go_ret;have h1:=fD du l;have h2:=mn.o;have h3:=HK.o;rw[h3,h1]at h2;exact⟨dF (by rw[eP (by unfold aH;omega)];unfold aH;omega),ei⟩}
theorem uy (a:o_)(l:List aj)(c:Nat)(S:Nat->Prop)(w:w_)(hs:am w S a l)(hB:∀ b,S b->b<w.heap.size) :
  c_ 4 #[.agg #[.slice a l.length c],i_ 1048576] w fun e w'=>e=.returned (i_ (pd 1048576 (aH l)))/\b_ w w':=by
 have dD:∀ o,b_ w (w.alloc o):=fun o=>r_.alloc n_ o;have hBA:∀ o:Obj,∀ b,S b->b<(w.alloc o).heap.size:=fun o b h=>l_ (hB b h) (dD o).size;have K:H_ (∀ o,am (w.alloc o) S a l):=fun o=>hs.keep (dD o) hB;by_cases q:(1048576:Int)<aH l
 ·have B1:H_ (pd 1048576 (aH l)=-1):=eo q;go_enter Tryz.func4,Tryz.ntmps4;go_wp2_with fail
  refine(qr _ _ _ S _ _ (K.o _) (hBA _) (by omega) (by omega)).mono ?_;rintro e w' ⟨rfl,dV⟩;rw[B1.o];go_wp2;go_ret;exact⟨dF B1.o.symm,(dD _).trans (dV.mono (by simp))⟩
 ·have B1:H_ (pd 1048576 (aH l)=1048576-aH l):=eP (by omega);go_enter Tryz.func4,Tryz.ntmps4;go_wp2_with fail
  refine(qr _ _ _ S _ _ (K.o _) (hBA _) (by omega) (by omega)).mono ?_;rintro e w' ⟨rfl,dV⟩;rw[B1.o];go_wp2;go_ret;exact⟨dF B1.o.symm,(dD _).trans (dV.mono (by simp))⟩
theorem oU:(Tryz.prog.info? 43).map (fun i=>(i.zero,i.size,i.bytes))=some (some (.agg #[.string ByteArray.empty,i_ 0,i_ 0,.bool false,i_ 0,.slice none 0 0,.slice none 0 0,.slice none 0 0,.slice none 0 0]),9,144):=by kernel_rfl
def ja:List Value:=[.string ByteArray.empty,i_ 0,i_ 0,.bool false,i_ 0,.slice none 0 0,.slice none 0 0,.slice none 0 0,.slice none 0 0]
structure dq where
 a5:o_
 c5:Nat
 a6:o_
 c6:Nat
 a7:o_
 c7:Nat
 a8:o_
 c8:Nat
def gC (R:Nat->dq)(i:Nat)(n:aj):List Value:=[.string n.name,i_ n.f,i_ n.l,.bool n.e,i_ n.m,.slice (R i).a5 n.s.length (R i).c5,.slice (R i).a6 n.k.length (R i).c6,.slice (R i).a7 n.u.length (R i).c7,.slice (R i).a8 n.g.length (R i).c8]
structure gD (w:w_)(S:Nat->Prop)(R:dq)(n:aj):Prop where
 h5:dG w S R.a5 n.s
 h6:cQ w S R.a6 n.k
 h7:bN w S R.a7 n.u
 h8:da w S R.a8 n.g
theorem gD.same {w w':w_}{S:Nat->Prop}{R:dq}{n:aj}(h:gD w S R n)(hb:cH S w w'):gD w' S R n:=⟨h.h5.same hb,h.h6.same hb,h.h7.same hb,h.h8.same hb⟩
theorem gD.mono {w:w_}{S S':Nat->Prop}{R:dq}{n:aj}(h:gD w S R n)(hS:∀ b,S b->S' b):gD w S' R n:=⟨h.h5.mono hS,h.h6.mono hS,h.h7.mono hS,h.h8.mono hS⟩
def ug:Value->Prop
 | .slice _ _ _=>False
 | _=>True
structure Mk (S:Nat->Prop)(w w':w_):Prop where
 os:w'.os=w.os
 tape:w'.tape=w.tape
 output:w'.output=w.output
 size:w.heap.size<=w'.heap.size
 block:∀ b,b<w.heap.size->¬S b->w'.heap[b]? = w.heap[b]?
 hdr:∀ b o a n c,w.cell? (a_ b o)=some (.slice a n c)->w'.cell? (a_ b o)=some (.slice a n c)
 flat:∀ b o v,w.cell? (a_ b o)=some v->ug v->∃ v',w'.cell? (a_ b o)=some v'/\ug v'
 soft:∀ b o,b<w.heap.size->w'.frozen? (a_ b o)=w.frozen? (a_ b o)
section
variable {S:Nat->Prop} {w w' w2:w_}
theorem Mk.refl (S:Nat->Prop)(w:w_):Mk S w w:=⟨rfl,rfl,rfl,n_,fun _ _ _=>rfl,fun _ _ _ _ _ h=>h,fun _ _ v h f=>⟨v,h,f⟩,fun _ _ _=>rfl⟩
theorem Mk.trans (h:Mk S w w')(k:Mk S w' w2):Mk S w w2 where
 os:=k.os.trans h.os
 tape:=k.tape.trans h.tape
 output:=k.output.trans h.output
 size:=zah h.size k.size
 block b hb hs:=(k.block b (l_ hb h.size) hs).trans (h.block b hb hs)
 hdr b o a n c e:=k.hdr b o a n c (h.hdr b o a n c e)
 flat b o v e f:=by obtain⟨v',e',f'⟩:=h.flat b o v e f;exact k.flat b o v' e' f'
 soft b o hb:=(k.soft b o (l_ hb h.size)).trans (h.soft b o hb)
theorem Mk.of_below (h:b_ w w'):Mk S w w' where
 os:=h.os
 tape:=h.tape
 output:=h.output
 size:=h.size
 block b hb _:=h.block b hb
 hdr b o a n c e:=by rw[h.cell (p:=(a_ b o)) (zbd _ _ e)];exact e
 flat b o v e f:=⟨v,by rw[h.cell (p:=(a_ b o)) (zbd _ _ e)];exact e,f⟩
 soft b o hb:=h.frozen (p:=(a_ b o)) hb
theorem Mk.set {b o:Nat}{v0:Value}(hs:S b)(h0:w.cell? (a_ b o)=some v0)(f0:ug v0)(v:Value)(fv:ug v):Mk S w (w.setCell (a_ b o) v) where
 os:=rfl
 tape:=rfl
 output:=rfl
 size:=by simp[World.setCell]
 block b' _ tp:=Below.heap_setCell w _ v b' (fun e=>tp (by rw[e];exact hs))
 hdr b' o' a n c e:=by
  have eh:((a_ b o):Addr)≠(a_ b' o'):=fun hh=>by
   rw[hh]at h0;rw[h0]at e;cases e;exact f0
  rw[World.cell?_setCell_other (h:=eh)];exact e
 flat b' o' x e fx:=by
  by_cases hh:((a_ b o):Addr)=(a_ b' o')
  ·rw[<-hh];exact⟨v,World.cell?_setCell_same w _ v h0,fv⟩
  ·exact⟨x,by rw[World.cell?_setCell_other (h:=hh)];exact e,fx⟩
 soft b' o' _:=by rw[World.frozen?_setCell]
theorem Mk.below {B:Nat}(h:Mk S w w')(hS:∀ b,S b->B<=b)(hB:B<=w.heap.size):Below B w w':=
 ⟨h.os,h.tape,h.output,h.size,fun b hb=>h.block b (l_ hb hB) (fun hs=>by have:=hS b hs;omega)⟩
def dJ (w:w_)(S:Nat->Prop)(a:o_)(n:Nat):Prop:=
 0<n->∃ b off,a=some (a_ b off)/\S b/\∀ j,j<n->∃ v,w.cell? (a_ b (off+j))=some v/\ug v
theorem dJ.mk {a:o_}{n:Nat}(h:dJ w S a n)(k:Mk S w w'):dJ w' S a n:=fun hn=>by
 obtain⟨b,off,e,hs,hc⟩:=h hn;exact⟨b,off,e,hs,fun j hj=>by obtain⟨v,e1,e2⟩:=hc j hj;exact k.flat _ _ v e1 e2⟩
def lU (w:w_)(S:Nat->Prop):Prop:=∀ b,S b->b<w.heap.size/\∀ o,w.frozen? (a_ b o)=false
theorem lU.mk (h:lU w S)(k:Mk S w w'):lU w' S:=fun b hb=>⟨l_ (h b hb).1 k.size,fun o=>(k.soft b o (h b hb).1).trans ((h b hb).2 o)⟩
end
theorem Mk.mono {S S':Nat->Prop}{w w':w_}(h:Mk S w w')(hS:∀ b,S b->S' b):Mk S' w w':=
 ⟨h.os,h.tape,h.output,h.size,fun b hb hs=>h.block b hb (fun k=>hs (hS b k)),h.hdr,h.flat,h.soft⟩
theorem cE {S:Nat->Prop}{w w':w_}{b o:Nat}(h:Mk S w w')(hs:S b)(h0:∃ v,w.cell? (a_ b o)=some v/\ug v)(v:Value)(fv:ug v):Mk S w (w'.setCell (a_ b o) v):=by
 obtain⟨v0,e,f⟩:=h0;obtain⟨v1,e1,f1⟩:=h.flat _ _ v0 e f;exact h.trans (Mk.set hs e1 f1 v fv)
def jp (B:Nat)(w:w_):Prop:=∀ b,B<=b->∀ o,w.frozen? (a_ b o)=false
def aF (B:Nat)(w w':w_):Prop:=Below B w w'/\(jp B w->jp B w')
theorem jp.start (w:w_):jp w.heap.size w:=fun b hb o=>by
 have:w.heap[b]? = none:=Array.getElem?_eq_none hb;simp[World.frozen?,this]
section
variable {B:Nat} {w w' w2:w_}
theorem aF.refl (B:Nat)(w:w_):aF B w w:=⟨r_,id⟩
theorem aF.size (h:aF B w w'):w.heap.size<=w'.heap.size:=h.1.size
theorem aF.block (h:aF B w w'):∀ b,b<B->w'.heap[b]? = w.heap[b]?:=h.1.block
theorem aF.trans {B:Nat}{a b c:w_}(h:aF B a b)(k:aF B b c):aF B a c:=⟨h.1.trans k.1,fun s=>k.2 (h.2 s)⟩
theorem aF.mono {B':Nat}(h:aF B w w')(hB:B'<=B):aF B' w w':=
 ⟨h.1.mono hB,fun s b hb o=>by
  by_cases e:b<B
  ·have:=h.1.frozen (p:=(a_ b o)) e;rw[this];exact s b hb o
  ·exact h.2 (fun b' dV=>s b' (zah hB dV)) b (Nat.le_of_not_lt e) o⟩
theorem aF.setCell (h:aF B w w'){a:Addr}(ha:B<=a.block)(v:Value):aF B w (w'.setCell a v):=
 ⟨h.1.setCell ha v,fun s b hb o=>by rw[World.frozen?_setCell];exact h.2 s b hb o⟩
theorem aF.alloc (h:aF B w w')(hB:B<=w'.heap.size){c:Array Value}{t:TypeId}(_:Unit):aF B w (w'.alloc (.cells c t)):=
 ⟨h.1.alloc hB _,fun s b hb o=>by rw[frozen?_alloc_cells];exact h.2 s b hb o⟩
theorem aF.soft (h:aF w.heap.size w w'):jp w.heap.size w':=h.2 (jp.start w)
end
end Go.Proofs.YtcjfjflljdojlaaGreatDoor
