import Derived.Test.YthmjjhfjkgaocaaGreatDoorPart01
import Derived.Deep.OwnRows
set_option linter.unusedSimpArgs false
set_option linter.unusedVariables false
set_option maxHeartbeats 400000
namespace Go.Proofs.YthmjjhfjkgaocaaGreatDoor
open Go.RowKit
def putL (G:Nat):World→Nat→List Value→World
 | w,_,[]=>w
 | w,o,v::vs=>putL G (w.setCell ⟨G,o,none⟩ v) (o+1) vs
theorem rowIs_putL {G t m:Nat}:∀(vs:List Value)(w:World)(o:Nat)(f:Nat→Value),w.rowIs G t m f→(putL G w o vs).rowIs G t m (fun j=>if o≤j∧j<o+vs.length then vs[j-o]?.getD (f j)else f j)
 | [],w,o,f,h=>h.congr fun j _=>by rw[if_neg (by simp)]
 | v::vs,w,o,f,h=>by
  refine(rowIs_putL vs (w.setCell ⟨G,o,none⟩ v) (o+1) _ (h.set o v)).congr fun j _=>?_
  simp only[List.length_cons]
  by_cases e:j=o
  ·subst e
   rw[if_neg (by omega),if_pos rfl,if_pos (by omega)]
   simp
  ·by_cases e2:o+1≤j∧j<o+1+vs.length
   ·rw[if_pos e2,if_neg e,if_pos (show o≤j∧j<o+(vs.length+1)by omega)]
    have:j-o=(j-(o+1))+1:=by omega
    rw[this,List.getElem?_cons_succ]
   ·rw[if_neg e2,if_neg e,if_neg (show ¬(o≤j∧j<o+(vs.length+1))by omega)]
theorem same_putL {S:Nat→Prop}{G:Nat}{w:World}(hG:¬S G):∀(vs:List Value)(w1:World)(o:Nat),Same S w w1→Same S w (putL G w1 o vs)
 | [],_,_,h=>h
 | v::vs,w1,o,h=>same_putL hG vs _ _ (h.setCell (a:=⟨G,o,none⟩) hG v)
theorem size_putL {G:Nat}:∀(vs:List Value)(w1:World)(o:Nat),(putL G w1 o vs).heap.size=w1.heap.size
 | [],_,_=>rfl
 | v::vs,w1,o=>by
  show(putL G (w1.setCell ⟨G,o,none⟩ v) (o+1) vs).heap.size=_
  rw[size_putL vs];simp
def rowF {α:Type}(sz:Nat)(vals:Nat→α→List Value)(z:List Value)(l:List α)(d:α)(k j:Nat):Value:=
 if j / sz<k then(vals (j / sz) (l[j / sz]?.getD d))[j % sz]?.getD (.int .i64 0)else z[j % sz]?.getD (.int .i64 0)
theorem row_next {α:Type}{sz G t n k:Nat}{vals vals':Nat→α→List Value}{z:List Value}{l:List α}{d:α}{w:World}(hz:0<sz)(hv:(vals' k (l[k]?.getD d)).length=sz)(hsame:∀ i,i<k→vals' i (l[i]?.getD d)=vals i (l[i]?.getD d))
  (h:w.rowIs G t (n * sz) (rowF sz vals z l d k)):(putL G w (k * sz) (vals' k (l[k]?.getD d))).rowIs G t (n * sz) (rowF sz vals' z l d (k+1)):=by
 refine(rowIs_putL _ _ _ _ h).congr fun j _=>?_
 rw[hv]
 have hdm:sz * (j / sz)+j % sz=j:=Nat.div_add_mod j sz
 have hmod:=Nat.mod_lt j hz
 have hcm:sz * (j / sz)=(j / sz) * sz:=Nat.mul_comm _ _
 unfold rowF
 by_cases e:j / sz=k
 ·rw[e]at hdm hcm
  have e2:j-k * sz=j % sz:=by omega
  have e3:k * sz≤j∧j<k * sz+sz:=by omega
  rw[if_pos e3,e,if_pos (Nat.lt_succ_self k),e2,List.getElem?_eq_getElem (by omega)]
  rfl
 ·have hne:¬(k * sz≤j∧j<k * sz+sz):=fun hh=>e (by
   have h1:k≤j / sz:=(Nat.le_div_iff_mul_le hz).2 hh.1
   have h2:j / sz<k+1:=(Nat.div_lt_iff_lt_mul hz).2 (by rw[Nat.succ_mul];exact hh.2)
   omega)
  rw[if_neg hne]
  by_cases e3:j / sz<k
  ·rw[if_pos e3,if_pos (by omega),hsame _ e3]
  ·rw[if_neg e3,if_neg (by omega)]
theorem row_cell {α:Type}{sz G t k:Nat}{vals:Nat→α→List Value}{z:List Value}{l:List α}{d:α}{w:World}(h:w.rowIs G t (l.length * sz) (rowF sz vals z l d k))(hk:k=l.length){j r:Nat}(hj:j<l.length)(hr:r<sz) :
  w.cell? ⟨G,0+j * sz+r,none⟩=some ((vals j (l[j]?.getD d))[r]?.getD (.int .i64 0)):=by
 have hlt:j * sz+r<l.length * sz:=by
  have:(j+1) * sz≤l.length * sz:=Nat.mul_le_mul_right sz (by omega)
  rw[Nat.succ_mul]at this
  omega
 have h1:=h.cell hlt
 have e1:(j * sz+r) / sz=j:=by
  rw[Nat.mul_comm,Nat.mul_add_div (by omega),Nat.div_eq_of_lt hr,Nat.add_zero]
 have e2:(j * sz+r) % sz=r:=by
  rw[Nat.mul_comm,Nat.mul_add_mod,Nat.mod_eq_of_lt hr]
 unfold rowF at h1
 rw[e1,e2,if_pos (by omega)]at h1
 rw[Nat.zero_add]
 exact h1
theorem row_made {α:Type}{sz n:Nat}{vals:Nat→α→List Value}{z:List Value}{l:List α}{d:α}(w:World)(t:TypeId)(hz:z.length=sz)(h0:0<sz):(w.alloc (.cells (madeCells z.toArray (n * sz)) t)).rowIs w.heap.size t (n * sz) (rowF sz vals z l d 0):=by
 refine⟨_,Go.Deep.blk_alloc_new _ _,size_madeCells _ _,fun i hi=>?_⟩
 have hm:i % sz<z.length:=by rw[hz];exact Nat.mod_lt _ h0
 unfold rowF
 rw[if_neg (Nat.not_lt_zero _)]
 simp[madeCells,hi,hz,List.getElem?_eq_getElem hm,hm]
theorem run_store_float (P:Program)(w:World)(a:Addr)(k:FloatKind)(b:Nat)(m:Mode):(store a (.float k b) m).run P w=stored P w a (.float k b) m:=run_store P w a _ m rfl
attribute [local go_sem] run_store_float
theorem run_make_wide {P:Program}(t e:TypeId)(z:Value)(size bytes:Nat)(ht:P.underlying t=some (.slice e))(hinfo:(P.info? e).map (fun i=>(i.zero,i.size,i.bytes))=some (some z,size,bytes))
  (kl kc:IntKind)(n:Nat)(hbytes:bytes * n≤281474976710656)(h63:n≤9223372036854775807)(w:World) :
  (Instr.makeSlice t (.int kl (n:Int)) (.int kc (n:Int))).run P w=.ok (.slice (some ⟨w.heap.size,0,none⟩) n n) (w.alloc (.cells (madeCells z.cells (n * size)) e)):=by
 obtain⟨i,hi,hzz⟩:=Option.map_eq_some_iff.1 hinfo
 simp only[Prod.mk.injEq]at hzz
 obtain⟨hz,hs,hb⟩:=hzz
 subst hs;subst hb
 have hb':(i.bytes:Int) * (n:Int)≤281474976710656:=by
  have h:((i.bytes * n:Nat):Int)≤281474976710656:=by omega
  rwa [Int.natCast_mul]at h
 have hr:=run_make (P:=P) w t e i z ht hi hz kl kc n n (by omega) (Int.le_refl _) hb' (by omega)
 simp only[Int.toNat_natCast]at hr
 exact hr
theorem info_up:(Tryz.prog.info? 119).map (fun i=>(i.zero,i.size,i.bytes))=some (some (.agg #[.bool false,.int .i64 0]),2,16):=by kernel_rfl
def upVals (n:Bool×Int):List Value:=[.bool n.1,.int .i64 n.2]
def upZ:List Value:=[.bool false,.int .i64 0]
theorem info_val:(Tryz.prog.info? 151).map (fun i=>(i.zero,i.size,i.bytes))=some (some (.agg #[.int .i64 0,.int .i64 0,.float .f64 0,.string ByteArray.empty,.int .i64 0]),5,48):=by kernel_rfl
def valVals (n:ValD):List Value:=[.int .i64 n.kind,.int .i64 n.num,.float .f64 n.flt,.string n.str,.int .i64 n.ref]
def valZ:List Value:=[.int .i64 0,.int .i64 0,.float .f64 0,.string ByteArray.empty,.int .i64 0]
theorem info_ins:(Tryz.prog.info? 78).map (fun i=>(i.zero,i.size,i.bytes))=some (some (.agg #[.int .i64 0,.int .i64 0,.int .i64 0,.int .i64 0,.int .i64 0]),5,40):=by kernel_rfl
def insVals (n:InsD):List Value:=[.int .i64 n.op,.int .i64 n.fa,.int .i64 n.fb,.int .i64 n.fc,.int .i64 n.fd]
def insZ:List Value:=[.int .i64 0,.int .i64 0,.int .i64 0,.int .i64 0,.int .i64 0]
theorem info_nam:(Tryz.prog.info? 153).map (fun i=>(i.zero,i.size,i.bytes))=some (some (.agg #[.string ByteArray.empty,.int .i64 0,.int .i64 0,.int .i64 0]),4,40):=by kernel_rfl
def namVals (n:NamD):List Value:=[.string n.name,.int .i64 n.reg,.int .i64 n.fro,.int .i64 n.til]
def namZ:List Value:=[.string ByteArray.empty,.int .i64 0,.int .i64 0,.int .i64 0]
theorem szProtoS_any (a:Option Addr)(l:List ProtoD)(c:Nat)(S:Nat→Prop)(left:Int)(w:World)(hs:ProtosAt w S a l)(hB:∀ b,S b→b<w.heap.size)(hl:0≤left)(hl2:left≤1048576) :
  Calls Tryz.prog 13 #[.slice a l.length c,.int .i64 left] w fun e w'=>e=.returned (.int .i64 (bud left (tProtos l)))∧Below w.heap.size w w':=by
 have hn:=hs.1
 by_cases h:left<l.length
 ·go_enter Tryz.func13,Tryz.ntmps13
  go_wp2_with fail
  go_ret
  exact⟨ret_int (bud_no (by unfold tProtos;omega)).symm,Below.refl _ _⟩
 ·have hle:(l.length:Int)≤left:=by omega
  clear h
  go_enter Tryz.func13,Tryz.ntmps13
  go_wp2_with fail
  go_loopw [1,5] (fun t i wr=>∃(k:Nat) (x:Int),k≤l.length∧i=.int .i64 k∧t=.int .i64 x∧0≤x∧x≤1048576∧Hid (x=left-l.length-sumTo tProto l k)∧Below w.heap.size w wr) (fun _ i _=>l.length-(intOf i).toNat)
  case atStart=>exact⟨0,_,Nat.zero_le _,rfl,rfl,by omega,by omega,show _=_ by rw[sumTo_zero];omega,Below.refl _ _⟩
  case round=>
   obtain⟨k,x,hk,rfl,rfl,hx,hx2,hxe,hbw⟩:=hrel
   have hBr:∀ b,S b→b<wr.heap.size:=fun b h=>Nat.lt_of_lt_of_le (hB b h) hbw.size
   by_cases hlt:k<l.length
   ·obtain⟨b,off,rfl,hb,hcc⟩:=(hs.keep hbw hB).2 (by omega)
    have N:=hcc k hlt
    have HS:Hid (sumTo tProto l (k+1)=sumTo tProto l k+tProto (l[k]?.getD ProtoD.z)∧sumTo tProto l (k+1)≤sumAll tProto l):=⟨sumTo_succ tProto l k ProtoD.z hlt,sumTo_le tProto l (k+1)⟩
    clear hcc
    generalize l[k]?.getD ProtoD.z=fd at *
    obtain⟨a5,c5,h5,H5⟩:=N.ups
    obtain⟨a6,c6,h6,H6⟩:=N.consts
    obtain⟨a7,c7,h7,H7⟩:=N.ins
    obtain⟨a8,c8,h8,H8⟩:=N.named
    have c0:=N.name;have c1:=N.line;have c2:=N.params;have c3:=N.rest;have c4:=N.regs
    by_cases hq:x<tProto fd
    ·have B1:Hid (bud x (fd.name.size+fd.ups.length+tVals fd.consts+fd.ins.length+tNams fd.named)=-1):=bud_no (by unfold tProto at hq;omega)
     go_wp2_with fail
     refine(szProto_any _ _ _ _ _ _ _ _ _ _ _ _ _ _ _ _ _ S _ _ N.names H5 H6 H7 H8 hBr (by omega) (by omega)).mono ?_
     rintro e w' ⟨rfl,hb'⟩
     rw[B1.out]
     go_wp2_with fail
     go_ret
     have h1:=HS.out;have h2:=hxe.out
     exact⟨ret_int (bud_no (by unfold tProtos;omega)).symm,hbw.trans (hb'.mono hbw.size)⟩
    ·have B1:Hid (bud x (fd.name.size+fd.ups.length+tVals fd.consts+fd.ins.length+tNams fd.named)=x-tProto fd):=by show _=_;rw[bud_yes (by unfold tProto at hq;omega)];unfold tProto;omega
     generalize tProto fd=tn at *
     go_wp2_with fail
     refine(szProto_any _ _ _ _ _ _ _ _ _ _ _ _ _ _ _ _ _ S _ _ N.names H5 H6 H7 H8 hBr (by omega) (by omega)).mono ?_
     rintro e w' ⟨rfl,hb'⟩
     rw[B1.out]
     go_wp2_with fail
     go_roundw
     case rel=>
      have h1:=HS.out;have h2:=hxe.out
      exact⟨k+1,x-tn,by omega,by go_num,by go_num,by omega,by omega,show _=_ by omega,hbw.trans (hb'.mono hbw.size)⟩
     case measure=>simp[intOf];omega
   ·have HK:Hid (k=l.length):=by show _=_;omega
    go_wp2_with fail
    go_ret
    have h1:=sumTo_len tProto l;have h2:=hxe.out;have h3:=HK.out
    rw[h3,h1]at h2
    exact⟨ret_int (by rw[bud_yes (by unfold tProtos;omega)];unfold tProtos;omega),hbw⟩
theorem szCode_any (a:Option Addr)(l:List ProtoD)(c:Nat)(S:Nat→Prop)(w:World)(hs:ProtosAt w S a l)(hB:∀ b,S b→b<w.heap.size) :
  Calls Tryz.prog 4 #[.agg #[.slice a l.length c],.int .i64 1048576] w fun e w'=>e=.returned (.int .i64 (bud 1048576 (tProtos l)))∧Below w.heap.size w w':=by
 have hbA:∀ o,Below w.heap.size w (w.alloc o):=fun o=>(Below.refl _ _).alloc (Nat.le_refl _) o
 have hBA:∀ o:Obj,∀ b,S b→b<(w.alloc o).heap.size:=fun o b h=>Nat.lt_of_lt_of_le (hB b h) (hbA o).size
 have K:Hid (∀ o,ProtosAt (w.alloc o) S a l):=fun o=>hs.keep (hbA o) hB
 by_cases q:(1048576:Int)<tProtos l
 ·have B1:Hid (bud 1048576 (tProtos l)=-1):=bud_no q
  go_enter Tryz.func4,Tryz.ntmps4
  go_wp2_with fail
  refine(szProtoS_any _ _ _ S _ _ (K.out _) (hBA _) (by omega) (by omega)).mono ?_
  rintro e w' ⟨rfl,hb'⟩
  rw[B1.out]
  go_wp2_with fail
  go_ret
  exact⟨ret_int B1.out.symm,(hbA _).trans (hb'.mono (by simp))⟩
 ·have B1:Hid (bud 1048576 (tProtos l)=1048576-tProtos l):=bud_yes (by omega)
  go_enter Tryz.func4,Tryz.ntmps4
  go_wp2_with fail
  refine(szProtoS_any _ _ _ S _ _ (K.out _) (hBA _) (by omega) (by omega)).mono ?_
  rintro e w' ⟨rfl,hb'⟩
  rw[B1.out]
  go_wp2_with fail
  go_ret
  exact⟨ret_int B1.out.symm,(hbA _).trans (hb'.mono (by simp))⟩
theorem info_proto:(Tryz.prog.info? 53).map (fun i=>(i.zero,i.size,i.bytes))=some (some (.agg #[.string ByteArray.empty,.int .i64 0,.int .i64 0,.bool false,.int .i64 0,.slice none 0 0,.slice none 0 0,.slice none 0 0,.slice none 0 0]),9,144):=by kernel_rfl
def protoZ:List Value:=[.string ByteArray.empty,.int .i64 0,.int .i64 0,.bool false,.int .i64 0,.slice none 0 0,.slice none 0 0,.slice none 0 0,.slice none 0 0]
structure ProtoR where
 a5:Option Addr
 c5:Nat
 a6:Option Addr
 c6:Nat
 a7:Option Addr
 c7:Nat
 a8:Option Addr
 c8:Nat
def protoVals (R:Nat→ProtoR)(i:Nat)(n:ProtoD):List Value:=[.string n.name,.int .i64 n.line,.int .i64 n.params,.bool n.rest,.int .i64 n.regs,.slice (R i).a5 n.ups.length (R i).c5,.slice (R i).a6 n.consts.length (R i).c6,.slice (R i).a7 n.ins.length (R i).c7,.slice (R i).a8 n.named.length (R i).c8]
structure ProtoIn (w:World)(S:Nat→Prop)(R:ProtoR)(n:ProtoD):Prop where
 h5:UpsAt w S R.a5 n.ups
 h6:ValsAt w S R.a6 n.consts
 h7:InssAt w S R.a7 n.ins
 h8:NamsAt w S R.a8 n.named
theorem ProtoIn.same {w w':World}{S:Nat→Prop}{R:ProtoR}{n:ProtoD}(h:ProtoIn w S R n)(hb:Same S w w'):ProtoIn w' S R n:=⟨h.h5.same hb,h.h6.same hb,h.h7.same hb,h.h8.same hb⟩
theorem ProtoIn.mono {w:World}{S S':Nat→Prop}{R:ProtoR}{n:ProtoD}(h:ProtoIn w S R n)(hS:∀ b,S b→S' b):ProtoIn w S' R n:=⟨h.h5.mono hS,h.h6.mono hS,h.h7.mono hS,h.h8.mono hS⟩
def Flat:Value→Prop
 | .slice _ _ _=>False
 | _=>True
structure Mk (S:Nat→Prop)(w w':World):Prop where
 os:w'.os=w.os
 tape:w'.tape=w.tape
 output:w'.output=w.output
 size:w.heap.size≤w'.heap.size
 block:∀ b,b<w.heap.size→¬S b→w'.heap[b]? = w.heap[b]?
 hdr:∀ b o a n c,w.cell? ⟨b,o,none⟩=some (.slice a n c)→w'.cell? ⟨b,o,none⟩=some (.slice a n c)
 flat:∀ b o v,w.cell? ⟨b,o,none⟩=some v→Flat v→∃ v',w'.cell? ⟨b,o,none⟩=some v'∧Flat v'
 soft:∀ b o,b<w.heap.size→w'.frozen? ⟨b,o,none⟩=w.frozen? ⟨b,o,none⟩
section
variable {S:Nat→Prop} {w w' w2:World}
theorem Mk.refl (S:Nat→Prop)(w:World):Mk S w w:=⟨rfl,rfl,rfl,Nat.le_refl _,fun _ _ _=>rfl,fun _ _ _ _ _ h=>h,fun _ _ v h f=>⟨v,h,f⟩,fun _ _ _=>rfl⟩
theorem Mk.trans (h:Mk S w w')(k:Mk S w' w2):Mk S w w2 where
 os:=k.os.trans h.os
 tape:=k.tape.trans h.tape
 output:=k.output.trans h.output
 size:=Nat.le_trans h.size k.size
 block b hb hs:=(k.block b (Nat.lt_of_lt_of_le hb h.size) hs).trans (h.block b hb hs)
 hdr b o a n c e:=k.hdr b o a n c (h.hdr b o a n c e)
 flat b o v e f:=by obtain⟨v',e',f'⟩:=h.flat b o v e f;exact k.flat b o v' e' f'
 soft b o hb:=(k.soft b o (Nat.lt_of_lt_of_le hb h.size)).trans (h.soft b o hb)
theorem Mk.of_below (h:Below w.heap.size w w'):Mk S w w' where
 os:=h.os
 tape:=h.tape
 output:=h.output
 size:=h.size
 block b hb _:=h.block b hb
 hdr b o a n c e:=by rw[h.cell (p:=⟨b,o,none⟩) (World.block_lt_of_cell? _ _ e)];exact e
 flat b o v e f:=⟨v,by rw[h.cell (p:=⟨b,o,none⟩) (World.block_lt_of_cell? _ _ e)];exact e,f⟩
 soft b o hb:=h.frozen (p:=⟨b,o,none⟩) hb
theorem Mk.set {b o:Nat}{v0:Value}(hs:S b)(h0:w.cell? ⟨b,o,none⟩=some v0)(f0:Flat v0)(v:Value)(fv:Flat v):Mk S w (w.setCell ⟨b,o,none⟩ v) where
 os:=rfl
 tape:=rfl
 output:=rfl
 size:=by simp[World.setCell]
 block b' _ hs':=Below.heap_setCell w _ v b' (fun e=>hs' (by rw[e];exact hs))
 hdr b' o' a n c e:=by
  have hne:(⟨b,o,none⟩:Addr)≠⟨b',o',none⟩:=fun hh=>by
   rw[hh]at h0;rw[h0]at e;cases e;exact f0
  rw[World.cell?_setCell_other (h:=hne)];exact e
 flat b' o' x e fx:=by
  by_cases hh:(⟨b,o,none⟩:Addr)=⟨b',o',none⟩
  ·rw[←hh];exact⟨v,World.cell?_setCell_same w _ v h0,fv⟩
  ·exact⟨x,by rw[World.cell?_setCell_other (h:=hh)];exact e,fx⟩
 soft b' o' _:=by rw[World.frozen?_setCell]
theorem Mk.below {B:Nat}(h:Mk S w w')(hS:∀ b,S b→B≤b)(hB:B≤w.heap.size):Below B w w':=
 ⟨h.os,h.tape,h.output,h.size,fun b hb=>h.block b (Nat.lt_of_lt_of_le hb hB) (fun hs=>by have:=hS b hs;omega)⟩
def FlatRow (w:World)(S:Nat→Prop)(a:Option Addr)(n:Nat):Prop:=
 0<n→∃ b off,a=some ⟨b,off,none⟩∧S b∧∀ j,j<n→∃ v,w.cell? ⟨b,off+j,none⟩=some v∧Flat v
theorem FlatRow.mk {a:Option Addr}{n:Nat}(h:FlatRow w S a n)(k:Mk S w w'):FlatRow w' S a n:=fun hn=>by
 obtain⟨b,off,e,hs,hc⟩:=h hn
 exact⟨b,off,e,hs,fun j hj=>by obtain⟨v,e1,e2⟩:=hc j hj;exact k.flat _ _ v e1 e2⟩
def Soft (w:World)(S:Nat→Prop):Prop:=∀ b,S b→b<w.heap.size∧∀ o,w.frozen? ⟨b,o,none⟩=false
theorem Soft.mk (h:Soft w S)(k:Mk S w w'):Soft w' S:=fun b hb=>⟨Nat.lt_of_lt_of_le (h b hb).1 k.size,fun o=>(k.soft b o (h b hb).1).trans ((h b hb).2 o)⟩
end
theorem Mk.mono {S S':Nat→Prop}{w w':World}(h:Mk S w w')(hS:∀ b,S b→S' b):Mk S' w w':=
 ⟨h.os,h.tape,h.output,h.size,fun b hb hs=>h.block b hb (fun k=>hs (hS b k)),h.hdr,h.flat,h.soft⟩
theorem mk_set {S:Nat→Prop}{w w':World}{b o:Nat}(h:Mk S w w')(hs:S b)(h0:∃ v,w.cell? ⟨b,o,none⟩=some v∧Flat v)(v:Value)(fv:Flat v):Mk S w (w'.setCell ⟨b,o,none⟩ v):=by
 obtain⟨v0,e,f⟩:=h0
 obtain⟨v1,e1,f1⟩:=h.flat _ _ v0 e f
 exact h.trans (Mk.set hs e1 f1 v fv)
def SoftFrom (B:Nat)(w:World):Prop:=∀ b,B≤b→∀ o,w.frozen? ⟨b,o,none⟩=false
def BelowS (B:Nat)(w w':World):Prop:=Below B w w'∧(SoftFrom B w→SoftFrom B w')
theorem SoftFrom.start (w:World):SoftFrom w.heap.size w:=fun b hb o=>by
 have:w.heap[b]? = none:=Array.getElem?_eq_none hb
 simp[World.frozen?,this]
section
variable {B:Nat} {w w' w2:World}
theorem BelowS.refl (B:Nat)(w:World):BelowS B w w:=⟨Below.refl _ _,id⟩
theorem BelowS.size (h:BelowS B w w'):w.heap.size≤w'.heap.size:=h.1.size
theorem BelowS.block (h:BelowS B w w'):∀ b,b<B→w'.heap[b]? = w.heap[b]?:=h.1.block
theorem BelowS.trans {B:Nat}{a b c:World}(h:BelowS B a b)(k:BelowS B b c):BelowS B a c:=⟨h.1.trans k.1,fun s=>k.2 (h.2 s)⟩
theorem BelowS.mono {B':Nat}(h:BelowS B w w')(hB:B'≤B):BelowS B' w w':=
 ⟨h.1.mono hB,fun s b hb o=>by
  by_cases e:b<B
  ·have:=h.1.frozen (p:=⟨b,o,none⟩) e
   rw[this];exact s b hb o
  ·exact h.2 (fun b' hb'=>s b' (Nat.le_trans hB hb')) b (Nat.le_of_not_lt e) o⟩
theorem BelowS.setCell (h:BelowS B w w'){a:Addr}(ha:B≤a.block)(v:Value):BelowS B w (w'.setCell a v):=
 ⟨h.1.setCell ha v,fun s b hb o=>by rw[World.frozen?_setCell];exact h.2 s b hb o⟩
theorem BelowS.alloc (h:BelowS B w w')(hB:B≤w'.heap.size){c:Array Value}{t:TypeId}(_:Unit):BelowS B w (w'.alloc (.cells c t)):=
 ⟨h.1.alloc hB _,fun s b hb o=>by rw[frozen?_alloc_cells];exact h.2 s b hb o⟩
theorem BelowS.soft (h:BelowS w.heap.size w w'):SoftFrom w.heap.size w':=h.2 (SoftFrom.start w)
end
end Go.Proofs.YthmjjhfjkgaocaaGreatDoor
