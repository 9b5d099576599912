import Derived.Test.YtcjfjflljdojlaaGreatDoorPart01
import Derived.Deep.OwnRows
set_option linter.unusedSimpArgs false
set_option linter.unusedVariables false
set_option maxHeartbeats 400000
namespace Go.Proofs.YtcjfjflljdojlaaGreatDoor
open Go.RowKit
def eh (G:Nat):World->Nat->List Value->World
 | w,_,[]=>w
 | w,o,v::vs=>eh G (w.setCell (a_ G o) v) (o+1) vs
theorem uJ {G t m:Nat}:∀(vs:List Value)(w:World)(o:Nat)(f:Nat->Value),w.rowIs G t m f->(eh G w o vs).rowIs G t m (fun j=>if o<=j/\j<o+vs.length then vs[j-o]?.getD (f j)else f j)
 | [],w,o,f,h=>h.congr fun j _=>by rw[if_neg (by simp)]
 | v::vs,w,o,f,h=>by
  refine(uJ vs (w.setCell (a_ G o) v) (o+1) _ (h.set o v)).congr fun j _=>?_;simp only[List.length_cons];by_cases e:j=o
  ·aj e
   rw[if_neg (by omega),if_pos rfl,if_pos (by omega)];simp
  ·by_cases e2:o+1<=j/\j<o+1+vs.length
   ·rw[if_pos e2,if_neg e,if_pos (show o<=j/\j<o+(vs.length+1)by omega)];have:j-o=(j-(o+1))+1:=by omega
    rw[this,List.getElem?_cons_succ]
   ·rw[if_neg e2,if_neg e,if_neg (show ¬(o<=j/\j<o+(vs.length+1))by omega)]
theorem gm {B G:Nat}{w:World}(hG:B<=G):∀(vs:List Value)(w1:World)(o:Nat),Below B w w1->Below B w (eh G w1 o vs)
 | [],_,_,h=>h
 | v::vs,w1,o,h=>gm hG vs _ _ (h.setCell hG v)
theorem qY {S:Nat->Prop}{G:Nat}{w:World}(hG:¬S G):∀(vs:List Value)(w1:World)(o:Nat),cI S w w1->cI S w (eh G w1 o vs)
 | [],_,_,h=>h
 | v::vs,w1,o,h=>qY hG vs _ _ (h.setCell (a:=(a_ G o)) hG v)
theorem eP {G:Nat}:∀(vs:List Value)(w1:World)(o:Nat),(eh G w1 o vs).heap.size=w1.heap.size
 | [],_,_=>rfl
 | v::vs,w1,o=>by
  show(eh G (w1.setCell (a_ G o) v) (o+1) vs).heap.size=_;rw[eP vs];simp
def jI {α:Type}(sz:Nat)(vals:Nat->α->List Value)(z:List Value)(l:List α)(d:α)(k j:Nat):Value:=
 if j / sz<k then(vals (j / sz) (l[j / sz]?.getD d))[j % sz]?.getD (i_ 0)else z[j % sz]?.getD (i_ 0)
theorem nv {α:Type}{sz G t n k:Nat}{vals vals':Nat->α->List Value}{z:List Value}{l:List α}{d:α}{w:World}(hz:0<sz)(hv:(vals' k (l[k]?.getD d)).length=sz)(Fd:∀ i,i<k->vals' i (l[i]?.getD d)=vals i (l[i]?.getD d))
  (h:w.rowIs G t (n * sz) (jI sz vals z l d k)):(eh G w (k * sz) (vals' k (l[k]?.getD d))).rowIs G t (n * sz) (jI sz vals' z l d (k+1)):=by
 refine(uJ _ _ _ _ h).congr fun j _=>?_;rw[hv];have RW:sz * (j / sz)+j % sz=j:=Nat.div_add_mod j sz;have WB:=Nat.mod_lt j hz;have hcm:sz * (j / sz)=(j / sz) * sz:=Nat.mul_comm _ _;unfold jI;by_cases e:j / sz=k
 ·rw[e]at RW hcm;have e2:j-k * sz=j % sz:=by omega
  have e3:k * sz<=j/\j<k * sz+sz:=by omega
  rw[if_pos e3,e,if_pos (Nat.lt_succ_self k),e2,g_ (by omega)];rfl
 ·have ei:¬(k * sz<=j/\j<k * sz+sz):=fun hh=>e (by
   have h1:k<=j / sz:=(Nat.le_div_iff_mul_le hz).2 hh.1;have h2:j / sz<k+1:=(Nat.div_lt_iff_lt_mul hz).2 (by rw[Nat.succ_mul];exact hh.2);omega)
  rw[if_neg ei];by_cases e3:j / sz<k
  ·rw[if_pos e3,if_pos (by omega),Fd _ e3]
  ·rw[if_neg e3,if_neg (by omega)]
theorem df {α:Type}{sz G t k:Nat}{vals:Nat->α->List Value}{z:List Value}{l:List α}{d:α}{w:World}(h:w.rowIs G t (l.length * sz) (jI sz vals z l d k))(hk:k=l.length){j r:Nat}(hj:j<l.length)(hr:r<sz) :
  w.cell? (a_ G (0+j * sz+r))=some ((vals j (l[j]?.getD d))[r]?.getD (i_ 0)):=by
 have ax:j * sz+r<l.length * sz:=by
  have:(j+1) * sz<=l.length * sz:=Nat.mul_le_mul_right sz (by omega);rw[Nat.succ_mul]at this;omega
 have h1:=h.cell ax;have e1:(j * sz+r) / sz=j:=by
  rw[Nat.mul_comm,Nat.mul_add_div (by omega),Nat.div_eq_of_lt hr,Nat.add_zero]
 have e2:(j * sz+r) % sz=r:=by
  rw[Nat.mul_comm,Nat.mul_add_mod,Nat.mod_eq_of_lt hr]
 unfold jI at h1;rw[e1,e2,if_pos (by omega)]at h1;rw[Nat.zero_add];exact h1
theorem kR {α:Type}{sz n:Nat}{vals:Nat->α->List Value}{z:List Value}{l:List α}{d:α}(w:World)(t:TypeId)(hz:z.length=sz)(h0:0<sz):(w.alloc (.cells (madeCells z.toArray (n * sz)) t)).rowIs w.heap.size t (n * sz) (jI sz vals z l d 0):=by
 refine⟨_,Go.Deep.blk_alloc_new _ _,size_madeCells _ _,fun i hi=>?_⟩;have hm:i % sz<z.length:=by rw[hz];exact Nat.mod_lt _ h0
 unfold jI;rw[if_neg (Nat.not_lt_zero _)];simp[madeCells,hi,hz,g_ hm,hm]
theorem cp (P:Program)(w:World)(a:Addr)(k:FloatKind)(b:Nat)(m:Mode):(store a (.float k b) m).run P w=stored P w a (.float k b) m:=run_store P w a _ m rfl
attribute [local go_sem] cp
theorem ew {P:Program}(t e:TypeId)(z:Value)(size bytes:Nat)(ht:P.underlying t=some (.slice e))(hinfo:(P.info? e).map (fun i=>(i.zero,i.size,i.bytes))=some (some z,size,bytes))
  (kl kc:IntKind)(n:Nat)(hbytes:bytes * n<=281474976710656)(h63:n<=9223372036854775807)(w:World) :
  (Instr.makeSlice t (.int kl (n:Int)) (.int kc (n:Int))).run P w=.ok (.slice (some (a_ w.heap.size 0)) n n) (w.alloc (.cells (madeCells z.cells (n * size)) e)):=by
 obtain⟨i,hi,hzz⟩:=Option.map_eq_some_iff.1 hinfo;simp only[Prod.mk.injEq]at hzz;obtain⟨hz,hs,hb⟩:=hzz
 aj hs;aj hb
 have dW:(i.bytes:Int) * (n:Int)<=281474976710656:=by
  have h:((i.bytes * n:Nat):Int)<=281474976710656:=by omega
  rwa [Int.natCast_mul]at h
 have hr:=run_make (P:=P) w t e i z ht hi hz kl kc n n (by omega) (Int.le_refl _) dW (by omega);simp only[Int.toNat_natCast]at hr;exact hr
theorem xH:(Tryz.prog.info? 46).map (fun i=>(i.zero,i.size,i.bytes))=some (some (.agg #[.bool false,i_ 0]),2,16):=by kernel_rfl
def iA (n:Bool×Int):List Value:=[.bool n.1,i_ n.2]
def Ux:List Value:=[.bool false,i_ 0]
theorem tF:(Tryz.prog.info? 49).map (fun i=>(i.zero,i.size,i.bytes))=some (some (.agg #[i_ 0,i_ 0,.float .f64 0,.string ByteArray.empty,i_ 0]),5,48):=by kernel_rfl
def gj (n:cS):List Value:=[i_ n.kind,i_ n.num,.float .f64 n.flt,.string n.str,i_ n.ref]
def IF:List Value:=[i_ 0,i_ 0,.float .f64 0,.string ByteArray.empty,i_ 0]
theorem kP:(Tryz.prog.info? 51).map (fun i=>(i.zero,i.size,i.bytes))=some (some (.agg #[i_ 0,i_ 0,i_ 0,i_ 0,i_ 0]),5,40):=by kernel_rfl
def aW (n:aA):List Value:=[i_ n.op,i_ n.fa,i_ n.fb,i_ n.fc,i_ n.fd]
def IZ:List Value:=[i_ 0,i_ 0,i_ 0,i_ 0,i_ 0]
theorem qj:(Tryz.prog.info? 53).map (fun i=>(i.zero,i.size,i.bytes))=some (some (.agg #[.string ByteArray.empty,i_ 0,i_ 0,i_ 0]),4,40):=by kernel_rfl
def dQ (n:bE):List Value:=[.string n.name,i_ n.reg,i_ n.fro,i_ n.til]
def I6:List Value:=[.string ByteArray.empty,i_ 0,i_ 0,i_ 0]
theorem pL (a:o_)(l:List ak)(c:Nat)(S:Nat->Prop)(bB:Int)(w:World)(hs:ao w S a l)(hB:∀ b,S b->b<w.heap.size)(hl:0<=bB)(wg:bB<=1048576) :
  c_ 11 #[.slice a l.length c,i_ bB] w fun e w'=>e=.returned (i_ (oM bB (aI l)))/\b_ w w':=by
 have hn:=hs.1;by_cases h:bB<l.length
 ·go_enter Tryz.func11,Tryz.ntmps11;go_wp2_with fail
  go_ret;exact⟨dG (er (by unfold aI;omega)).symm,r_⟩
 ·have pw:(l.length:Int)<=bB:=by omega
  clear h;go_enter Tryz.func11,Tryz.ntmps11;go_wp2_with fail
  go_loopw [1,5] (fun t i wr=>∃(k:Nat) (x:Int),k<=l.length/\i=i_ k/\t=i_ x/\0<=x/\x<=1048576/\Hid (x=bB-l.length-bw dx l k)/\b_ w wr) (fun _ i _=>l.length-(intOf i).toNat)
  case atStart=>exact⟨0,_,Nat.zero_le _,rfl,rfl,by omega,by omega,show _=_ by rw[fi];omega,r_⟩
  case round=>
   obtain⟨k,x,hk,rfl,rfl,hx,aO,mi,eo⟩:=hrel;have Hw:∀ b,S b->b<wr.heap.size:=fun b h=>l_ (hB b h) eo.size;by_cases ax:k<l.length
   ·obtain⟨b,off,rfl,hb,aE⟩:=(hs.keep eo hB).2 (by omega);have N:=aE k ax;have HS:Hid (bw dx l (k+1)=bw dx l k+dx (l[k]?.getD ak.z)/\bw dx l (k+1)<=aS dx l):=⟨dJ dx l k ak.z ax,gw dx l (k+1)⟩;clear aE;generalize l[k]?.getD ak.z=fd at *;obtain⟨a5,c5,h5,H5⟩:=N.ups;obtain⟨a6,c6,h6,H6⟩:=N.consts;obtain⟨a7,c7,h7,H7⟩:=N.ins;obtain⟨a8,c8,h8,H8⟩:=N.named;have c0:=N.name;have c1:=N.line;have c2:=N.params;have c3:=N.rest;have c4:=N.regs;by_cases hq:x<dx fd
    ·have B1:Hid (oM x (fd.name.size+fd.ups.length+fq fd.consts+fd.ins.length+iq fd.named)=-1):=er (by unfold dx at hq;omega);go_wp2_with fail
     refine(rV _ _ _ _ _ _ _ _ _ _ _ _ _ _ _ _ _ S _ _ N.names H5 H6 H7 H8 Hw (by omega) (by omega)).mono ?_;rintro e w' ⟨rfl,dW⟩;rw[B1.out];go_wp2_with fail
     go_ret;have h1:=HS.out;have h2:=mi.out;exact⟨dG (er (by unfold aI;omega)).symm,eo.trans (dW.mono eo.size)⟩
    ·have B1:Hid (oM x (fd.name.size+fd.ups.length+fq fd.consts+fd.ins.length+iq fd.named)=x-dx fd):=by show _=_;rw[eV (by unfold dx at hq;omega)];unfold dx;omega
     generalize dx fd=tn at *;go_wp2_with fail
     refine(rV _ _ _ _ _ _ _ _ _ _ _ _ _ _ _ _ _ S _ _ N.names H5 H6 H7 H8 Hw (by omega) (by omega)).mono ?_;rintro e w' ⟨rfl,dW⟩;rw[B1.out];go_wp2_with fail
     go_roundw
     case rel=>
      have h1:=HS.out;have h2:=mi.out;exact⟨k+1,x-tn,by omega,by go_num,by go_num,by omega,by omega,show _=_ by omega,eo.trans (dW.mono eo.size)⟩
     case measure=>simp[intOf];omega
   ·have HK:Hid (k=l.length):=by show _=_;omega
    go_wp2_with fail
    go_ret;have h1:=fI dx l;have h2:=mi.out;have h3:=HK.out;rw[h3,h1]at h2;exact⟨dG (by rw[eV (by unfold aI;omega)];unfold aI;omega),eo⟩
theorem tT (a:o_)(l:List ak)(c:Nat)(S:Nat->Prop)(w:World)(hs:ao w S a l)(hB:∀ b,S b->b<w.heap.size) :
  c_ 4 #[.agg #[.slice a l.length c],i_ 1048576] w fun e w'=>e=.returned (i_ (oM 1048576 (aI l)))/\b_ w w':=by
 have dF:∀ o,b_ w (w.alloc o):=fun o=>r_.alloc n_ o;have hBA:∀ o:Obj,∀ b,S b->b<(w.alloc o).heap.size:=fun o b h=>l_ (hB b h) (dF o).size;have K:Hid (∀ o,ao (w.alloc o) S a l):=fun o=>hs.keep (dF o) hB;by_cases q:(1048576:Int)<aI l
 ·have B1:Hid (oM 1048576 (aI l)=-1):=er q;go_enter Tryz.func4,Tryz.ntmps4;go_wp2_with fail
  refine(pL _ _ _ S _ _ (K.out _) (hBA _) (by omega) (by omega)).mono ?_;rintro e w' ⟨rfl,dW⟩;rw[B1.out];go_wp2_with fail
  go_ret;exact⟨dG B1.out.symm,(dF _).trans (dW.mono (by simp))⟩
 ·have B1:Hid (oM 1048576 (aI l)=1048576-aI l):=eV (by omega);go_enter Tryz.func4,Tryz.ntmps4;go_wp2_with fail
  refine(pL _ _ _ S _ _ (K.out _) (hBA _) (by omega) (by omega)).mono ?_;rintro e w' ⟨rfl,dW⟩;rw[B1.out];go_wp2_with fail
  go_ret;exact⟨dG B1.out.symm,(dF _).trans (dW.mono (by simp))⟩
theorem pe:(Tryz.prog.info? 43).map (fun i=>(i.zero,i.size,i.bytes))=some (some (.agg #[.string ByteArray.empty,i_ 0,i_ 0,.bool false,i_ 0,.slice none 0 0,.slice none 0 0,.slice none 0 0,.slice none 0 0]),9,144):=by kernel_rfl
def iX:List Value:=[.string ByteArray.empty,i_ 0,i_ 0,.bool false,i_ 0,.slice none 0 0,.slice none 0 0,.slice none 0 0,.slice none 0 0]
structure dp where
 a5:o_
 c5:Nat
 a6:o_
 c6:Nat
 a7:o_
 c7:Nat
 a8:o_
 c8:Nat
def gG (R:Nat->dp)(i:Nat)(n:ak):List Value:=[.string n.name,i_ n.line,i_ n.params,.bool n.rest,i_ n.regs,.slice (R i).a5 n.ups.length (R i).c5,.slice (R i).a6 n.consts.length (R i).c6,.slice (R i).a7 n.ins.length (R i).c7,.slice (R i).a8 n.named.length (R i).c8]
structure gF (w:World)(S:Nat->Prop)(R:dp)(n:ak):Prop where
 h5:dH w S R.a5 n.ups
 h6:cQ w S R.a6 n.consts
 h7:bQ w S R.a7 n.ins
 h8:dc w S R.a8 n.named
theorem gF.same {w w':World}{S:Nat->Prop}{R:dp}{n:ak}(h:gF w S R n)(hb:cI S w w'):gF w' S R n:=⟨h.h5.same hb,h.h6.same hb,h.h7.same hb,h.h8.same hb⟩
theorem gF.mono {w:World}{S S':Nat->Prop}{R:dp}{n:ak}(h:gF w S R n)(hS:∀ b,S b->S' b):gF w S' R n:=⟨h.h5.mono hS,h.h6.mono hS,h.h7.mono hS,h.h8.mono hS⟩
def uy:Value->Prop
 | .slice _ _ _=>False
 | _=>True
structure Mk (S:Nat->Prop)(w w':World):Prop where
 os:w'.os=w.os
 tape:w'.tape=w.tape
 output:w'.output=w.output
 size:w.heap.size<=w'.heap.size
 block:∀ b,b<w.heap.size->¬S b->w'.heap[b]? = w.heap[b]?
 hdr:∀ b o a n c,w.cell? (a_ b o)=some (.slice a n c)->w'.cell? (a_ b o)=some (.slice a n c)
 flat:∀ b o v,w.cell? (a_ b o)=some v->uy v->∃ v',w'.cell? (a_ b o)=some v'/\uy v'
 soft:∀ b o,b<w.heap.size->w'.frozen? (a_ b o)=w.frozen? (a_ b o)
section
variable {S:Nat->Prop} {w w' w2:World}
theorem Mk.refl (S:Nat->Prop)(w:World):Mk S w w:=⟨rfl,rfl,rfl,n_,fun _ _ _=>rfl,fun _ _ _ _ _ h=>h,fun _ _ v h f=>⟨v,h,f⟩,fun _ _ _=>rfl⟩
theorem Mk.trans (h:Mk S w w')(k:Mk S w' w2):Mk S w w2 where
 os:=k.os.trans h.os
 tape:=k.tape.trans h.tape
 output:=k.output.trans h.output
 size:=Nat.le_trans h.size k.size
 block b hb hs:=(k.block b (l_ hb h.size) hs).trans (h.block b hb hs)
 hdr b o a n c e:=k.hdr b o a n c (h.hdr b o a n c e)
 flat b o v e f:=by obtain⟨v',e',f'⟩:=h.flat b o v e f;exact k.flat b o v' e' f'
 soft b o hb:=(k.soft b o (l_ hb h.size)).trans (h.soft b o hb)
theorem Mk.of_below (h:b_ w w'):Mk S w w' where
 os:=h.os
 tape:=h.tape
 output:=h.output
 size:=h.size
 block b hb _:=h.block b hb
 hdr b o a n c e:=by rw[h.cell (p:=(a_ b o)) (World.block_lt_of_cell? _ _ e)];exact e
 flat b o v e f:=⟨v,by rw[h.cell (p:=(a_ b o)) (World.block_lt_of_cell? _ _ e)];exact e,f⟩
 soft b o hb:=h.frozen (p:=(a_ b o)) hb
theorem Mk.set {b o:Nat}{v0:Value}(hs:S b)(h0:w.cell? (a_ b o)=some v0)(f0:uy v0)(v:Value)(fv:uy v):Mk S w (w.setCell (a_ b o) v) where
 os:=rfl
 tape:=rfl
 output:=rfl
 size:=by simp[World.setCell]
 block b' _ tj:=Below.heap_setCell w _ v b' (fun e=>tj (by rw[e];exact hs))
 hdr b' o' a n c e:=by
  have ei:((a_ b o):Addr)≠(a_ b' o'):=fun hh=>by
   rw[hh]at h0;rw[h0]at e;cases e;exact f0
  rw[World.cell?_setCell_other (h:=ei)];exact e
 flat b' o' x e fx:=by
  by_cases hh:((a_ b o):Addr)=(a_ b' o')
  ·rw[<-hh];exact⟨v,World.cell?_setCell_same w _ v h0,fv⟩
  ·exact⟨x,by rw[World.cell?_setCell_other (h:=hh)];exact e,fx⟩
 soft b' o' _:=by rw[World.frozen?_setCell]
theorem Mk.below {B:Nat}(h:Mk S w w')(hS:∀ b,S b->B<=b)(hB:B<=w.heap.size):Below B w w':=
 ⟨h.os,h.tape,h.output,h.size,fun b hb=>h.block b (l_ hb hB) (fun hs=>by have:=hS b hs;omega)⟩
def dK (w:World)(S:Nat->Prop)(a:o_)(n:Nat):Prop:=
 0<n->∃ b off,a=some (a_ b off)/\S b/\∀ j,j<n->∃ v,w.cell? (a_ b (off+j))=some v/\uy v
theorem dK.mk {a:o_}{n:Nat}(h:dK w S a n)(k:Mk S w w'):dK w' S a n:=fun hn=>by
 obtain⟨b,off,e,hs,hc⟩:=h hn;exact⟨b,off,e,hs,fun j hj=>by obtain⟨v,e1,e2⟩:=hc j hj;exact k.flat _ _ v e1 e2⟩
def lP (w:World)(S:Nat->Prop):Prop:=∀ b,S b->b<w.heap.size/\∀ o,w.frozen? (a_ b o)=false
theorem lP.mk (h:lP w S)(k:Mk S w w'):lP w' S:=fun b hb=>⟨l_ (h b hb).1 k.size,fun o=>(k.soft b o (h b hb).1).trans ((h b hb).2 o)⟩
end
theorem Mk.mono {S S':Nat->Prop}{w w':World}(h:Mk S w w')(hS:∀ b,S b->S' b):Mk S' w w':=
 ⟨h.os,h.tape,h.output,h.size,fun b hb hs=>h.block b hb (fun k=>hs (hS b k)),h.hdr,h.flat,h.soft⟩
theorem cH {S:Nat->Prop}{w w':World}{b o:Nat}(h:Mk S w w')(hs:S b)(h0:∃ v,w.cell? (a_ b o)=some v/\uy v)(v:Value)(fv:uy v):Mk S w (w'.setCell (a_ b o) v):=by
 obtain⟨v0,e,f⟩:=h0;obtain⟨v1,e1,f1⟩:=h.flat _ _ v0 e f;exact h.trans (Mk.set hs e1 f1 v fv)
def jp (B:Nat)(w:World):Prop:=∀ b,B<=b->∀ o,w.frozen? (a_ b o)=false
def aG (B:Nat)(w w':World):Prop:=Below B w w'/\(jp B w->jp B w')
theorem jp.start (w:World):jp w.heap.size w:=fun b hb o=>by
 have:w.heap[b]? = none:=Array.getElem?_eq_none hb;simp[World.frozen?,this]
section
variable {B:Nat} {w w' w2:World}
theorem aG.refl (B:Nat)(w:World):aG B w w:=⟨r_,id⟩
theorem aG.size (h:aG B w w'):w.heap.size<=w'.heap.size:=h.1.size
theorem aG.block (h:aG B w w'):∀ b,b<B->w'.heap[b]? = w.heap[b]?:=h.1.block
theorem aG.trans {B:Nat}{a b c:World}(h:aG B a b)(k:aG B b c):aG B a c:=⟨h.1.trans k.1,fun s=>k.2 (h.2 s)⟩
theorem aG.mono {B':Nat}(h:aG B w w')(hB:B'<=B):aG B' w w':=
 ⟨h.1.mono hB,fun s b hb o=>by
  by_cases e:b<B
  ·have:=h.1.frozen (p:=(a_ b o)) e;rw[this];exact s b hb o
  ·exact h.2 (fun b' dW=>s b' (Nat.le_trans hB dW)) b (Nat.le_of_not_lt e) o⟩
theorem aG.setCell (h:aG B w w'){a:Addr}(ha:B<=a.block)(v:Value):aG B w (w'.setCell a v):=
 ⟨h.1.setCell ha v,fun s b hb o=>by rw[World.frozen?_setCell];exact h.2 s b hb o⟩
theorem aG.alloc (h:aG B w w')(hB:B<=w'.heap.size){c:Array Value}{t:TypeId}(_:Unit):aG B w (w'.alloc (.cells c t)):=
 ⟨h.1.alloc hB _,fun s b hb o=>by rw[frozen?_alloc_cells];exact h.2 s b hb o⟩
theorem aG.soft (h:aG w.heap.size w w'):jp w.heap.size w':=h.2 (jp.start w)
end
end Go.Proofs.YtcjfjflljdojlaaGreatDoor
