import Derived.Test.YtgghbbpbdaghnaaDoorPart01
import Derived.Deep.OwnRows
import Derived.Test.YtgghbbpbdaghnaaDoorPart02
set_option linter.unusedSimpArgs false
set_option linter.unusedVariables false
set_option maxHeartbeats 1000000
namespace Go.Proofs.YtgghbbpbdaghnaaDoor
open Go.RowKit
def putL (G:Nat):World->Nat->List Value->World
 | w,_,[]=>w
 | w,o,v::vs=>putL G (w.setCell ⟨G,o,none⟩ v) (o+1) vs
theorem rowIs_putL {G t m:Nat}:∀(vs:List Value)(w:World)(o:Nat)(f:Nat->Value),w.rowIs G t m f->(putL G w o vs).rowIs G t m (fun j=>if o<=j/\j<o+vs.length then vs[j-o]?.getD (f j)else f j)
 | [],w,o,f,h=>h.congr fun j _=>by rw[if_neg (by simp)]
 | v::vs,w,o,f,h=>by
  refine(rowIs_putL vs (w.setCell ⟨G,o,none⟩ v) (o+1) _ (h.set o v)).congr fun j _=>?_;simp only[List.length_cons];by_cases e:j=o
  ·subst e;rw[if_neg (by omega),if_pos rfl,if_pos (by omega)];simp
  ·by_cases e2:o+1<=j/\j<o+1+vs.length
   ·rw[if_pos e2,if_neg e,if_pos (show o<=j/\j<o+(vs.length+1)by omega)];have:j-o=(j-(o+1))+1:=by omega
    rw[this,List.getElem?_cons_succ]
   ·rw[if_neg e2,if_neg e,if_neg (show ¬(o<=j/\j<o+(vs.length+1))by omega)]
theorem below_putL {B G:Nat}{w:World}(hG:B<=G):∀(vs:List Value)(w1:World)(o:Nat),Below B w w1->Below B w (putL G w1 o vs)
 | [],_,_,h=>h
 | v::vs,w1,o,h=>below_putL hG vs _ _ (h.setCell hG v)
theorem same_putL {S:Nat->Prop}{G:Nat}{w:World}(hG:¬S G):∀(vs:List Value)(w1:World)(o:Nat),Same S w w1->Same S w (putL G w1 o vs)
 | [],_,_,h=>h
 | v::vs,w1,o,h=>same_putL hG vs _ _ (h.setCell (a:=⟨G,o,none⟩) hG v)
theorem size_putL {G:Nat}:∀(vs:List Value)(w1:World)(o:Nat),(putL G w1 o vs).heap.size=w1.heap.size
 | [],_,_=>rfl
 | v::vs,w1,o=>by
  show(putL G (w1.setCell ⟨G,o,none⟩ v) (o+1) vs).heap.size=_;rw[size_putL vs];simp
def rowF {α:Type}(sz:Nat)(vals:Nat->α->List Value)(z:List Value)(l:List α)(d:α)(k j:Nat):Value:=
 if j / sz<k then(vals (j / sz) (l[j / sz]?.getD d))[j % sz]?.getD (.int .i64 0)else z[j % sz]?.getD (.int .i64 0)
theorem row_next {α:Type}{sz G t n k:Nat}{vals vals':Nat->α->List Value}{z:List Value}{l:List α}{d:α}{w:World}(hz:0<sz)(hv:(vals' k (l[k]?.getD d)).length=sz)(hsame:∀ i,i<k->vals' i (l[i]?.getD d)=vals i (l[i]?.getD d))
  (h:w.rowIs G t (n * sz) (rowF sz vals z l d k)):(putL G w (k * sz) (vals' k (l[k]?.getD d))).rowIs G t (n * sz) (rowF sz vals' z l d (k+1)):=by
 refine(rowIs_putL _ _ _ _ h).congr fun j _=>?_;rw[hv];have hdm:sz * (j / sz)+j % sz=j:=Nat.div_add_mod j sz;have hmod:=Nat.mod_lt j hz;have hcm:sz * (j / sz)=(j / sz) * sz:=Nat.mul_comm _ _;unfold rowF;by_cases e:j / sz=k
 ·rw[e]at hdm hcm;have e2:j-k * sz=j % sz:=by omega
  have e3:k * sz<=j/\j<k * sz+sz:=by omega
  rw[if_pos e3,e,if_pos (Nat.lt_succ_self k),e2,List.getElem?_eq_getElem (by omega)];rfl
 ·have hne:¬(k * sz<=j/\j<k * sz+sz):=fun hh=>e (by
   have h1:k<=j / sz:=(Nat.le_div_iff_mul_le hz).2 hh.1;have h2:j / sz<k+1:=(Nat.div_lt_iff_lt_mul hz).2 (by rw[Nat.succ_mul];exact hh.2);omega)
  rw[if_neg hne];by_cases e3:j / sz<k
  ·rw[if_pos e3,if_pos (by omega),hsame _ e3]
  ·rw[if_neg e3,if_neg (by omega)]
theorem row_cell {α:Type}{sz G t k:Nat}{vals:Nat->α->List Value}{z:List Value}{l:List α}{d:α}{w:World}(h:w.rowIs G t (l.length * sz) (rowF sz vals z l d k))(hk:k=l.length){j r:Nat}(hj:j<l.length)(hr:r<sz) :
  w.cell? ⟨G,0+j * sz+r,none⟩=some ((vals j (l[j]?.getD d))[r]?.getD (.int .i64 0)):=by
 have hlt:j * sz+r<l.length * sz:=by
  have:(j+1) * sz<=l.length * sz:=Nat.mul_le_mul_right sz (by omega);rw[Nat.succ_mul]at this;omega
 have h1:=h.cell hlt;have e1:(j * sz+r) / sz=j:=by
  rw[Nat.mul_comm,Nat.mul_add_div (by omega),Nat.div_eq_of_lt hr,Nat.add_zero]
 have e2:(j * sz+r) % sz=r:=by
  rw[Nat.mul_comm,Nat.mul_add_mod,Nat.mod_eq_of_lt hr]
 unfold rowF at h1;rw[e1,e2,if_pos (by omega)]at h1;rw[Nat.zero_add];exact h1
theorem row_made {α:Type}{sz n:Nat}{vals:Nat->α->List Value}{z:List Value}{l:List α}{d:α}(w:World)(t:TypeId)(hz:z.length=sz)(h0:0<sz):(w.alloc (.cells (madeCells z.toArray (n * sz)) t)).rowIs w.heap.size t (n * sz) (rowF sz vals z l d 0):=by
 refine⟨_,Go.Deep.blk_alloc_new _ _,size_madeCells _ _,fun i hi=>?_⟩;have hm:i % sz<z.length:=by rw[hz];exact Nat.mod_lt _ h0
 unfold rowF;rw[if_neg (Nat.not_lt_zero _)];simp[madeCells,hi,hz,List.getElem?_eq_getElem hm,hm]
theorem run_store_float (P:Program)(w:World)(a:Addr)(k:FloatKind)(b:Nat)(m:Mode):(store a (.float k b) m).run P w=stored P w a (.float k b) m:=run_store P w a _ m rfl
attribute [local go_sem] run_store_float
theorem run_make_wide {P:Program}(t e:TypeId)(z:Value)(size bytes:Nat)(ht:P.underlying t=some (.slice e))(hinfo:(P.info? e).map (fun i=>(i.zero,i.size,i.bytes))=some (some z,size,bytes))
  (kl kc:IntKind)(n:Nat)(hbytes:bytes * n<=281474976710656)(h63:n<=9223372036854775807)(w:World) :
  (Instr.makeSlice t (.int kl (n:Int)) (.int kc (n:Int))).run P w=.ok (.slice (some ⟨w.heap.size,0,none⟩) n n) (w.alloc (.cells (madeCells z.cells (n * size)) e)):=by
 obtain⟨i,hi,hzz⟩:=Option.map_eq_some_iff.1 hinfo;simp only[Prod.mk.injEq]at hzz;obtain⟨hz,hs,hb⟩:=hzz;subst hs;subst hb;have hb':(i.bytes:Int) * (n:Int)<=281474976710656:=by
  have h:((i.bytes * n:Nat):Int)<=281474976710656:=by omega
  rwa [Int.natCast_mul]at h
 have hr:=run_make (P:=P) w t e i z ht hi hz kl kc n n (by omega) (Int.le_refl _) hb' (by omega);simp only[Int.toNat_natCast]at hr;exact hr
theorem info_up:(Tryd.prog.info? 65).map (fun i=>(i.zero,i.size,i.bytes))=some (some (.agg #[.bool false,.int .i64 0]),2,16):=by kernel_rfl
def upVals (n:Bool×Int):List Value:=[.bool n.1,.int .i64 n.2]
def upZ:List Value:=[.bool false,.int .i64 0]
theorem toUp_any (v0:Bool)(v1:Int)(w:World) :
  Calls Tryd.prog 62 #[.agg #[.bool v0,.int .i64 v1]] w fun e w'=>e=.returned (.agg #[.bool v0,.int .i64 v1])/\Below w.heap.size w w':=by
 go_enter Tryd.func62,Tryd.ntmps62;go_wp2_with fail
 exact bodyPost_ret (v:=.agg #[.bool v0,.int .i64 v1]) (by simp[results,Tryd.results62,go_sem]) rfl ⟨rfl,by repeat (first | refine Below.alloc ?_ (by simp<;>omega) _ | exact Below.refl _ _)⟩
theorem toUpS_any (a:Option Addr)(l:List (Bool×Int))(c:Nat)(S:Nat->Prop)(w:World)(hs:UpsAt w S a l)(hB:∀ b,S b->b<w.heap.size)(hl:l.length<=1048576) :
  Calls Tryd.prog 46 #[.slice a l.length c] w fun e w'=>∃ a' c',e=.returned (.slice a' l.length c')/\UpsAt w' (New w.heap.size w') a' l/\Below w.heap.size w w':=by
 have hn:=hs.1;have hmk:∀ w:World,(Instr.makeSlice 38 (.int .i64 (l.length:Int)) (.int .i64 (l.length:Int))).run Tryd.prog w=.ok (.slice (some ⟨w.heap.size,0,none⟩) l.length l.length) (w.alloc (.cells (madeCells upZ.toArray (l.length * 2)) 65)):=
  run_make_wide (P:=Tryd.prog) 38 65 _ 2 16 Tryd.underlying38 info_up .i64 .i64 l.length (by omega) hn
 go_enter Tryd.func46,Tryd.ntmps46;go_wp2_with fail
 clear hmk;go_loopw [4] (fun i wr=>∃(k:Nat),k<=l.length/\i=.int .i64 k/\Below w.heap.size w wr/\wr.rowIs w.heap.size 65 (l.length * 2) (rowF 2 (fun _=>upVals) upZ l (false,0) k)) (fun i _=>l.length-(intOf i).toNat)
 case atStart=>exact⟨0,Nat.zero_le _,rfl,(Below.refl _ _).alloc (Nat.le_refl _) _,row_made _ _ rfl (by decide)⟩
 case round=>
  obtain⟨k,hk,rfl,hbw,hrow⟩:=hrel;by_cases hlt:k<l.length
  ·obtain⟨b,off,rfl,hb,hcc⟩:=(hs.keep hbw hB).2 (by omega);have N:=hcc k hlt;clear hcc;have HN:Hid (∀ W:World,W.rowIs w.heap.size 65 (l.length * 2) (rowF 2 (fun _=>upVals) upZ l (false,0) k)->(putL w.heap.size W (k * 2) (upVals (l[k]?.getD (false,0)))).rowIs w.heap.size 65 (l.length * 2) (rowF 2 (fun _=>upVals) upZ l (false,0) (k+1))):=fun W hW=>row_next (sz:=2) (vals:=fun _=>upVals) (vals':=fun _=>upVals) (z:=upZ) (l:=l) (d:=(false,0)) (by decide) rfl (fun _ _=>rfl) hW;generalize l[k]?.getD (false,0)=nd at *;obtain⟨h1,h2⟩:=N;go_wp2_with fail
   refine(toUp_any _ _ _).mono ?_;rintro e w' ⟨rfl,hb'⟩;have hrow':=hrow.of_block (hb'.block _ hrow.lt);have hf0:=hrow'.frozen (k * 2);have hf1:=hrow'.frozen (k * 2+1);have hg0:=hrow'.cell (i:=k * 2) (by omega);have hg1:=hrow'.cell (i:=k * 2+1) (by omega);have HR:=hide hrow';have HBW:=hide (hbw.trans (hb'.mono hbw.size));clear h1 h2 hrow hrow' hbw hb';go_wp2_with fail
   go_roundw
   case rel=>
    clear hf0 hg0 hf1 hg1;exact⟨k+1,by omega,by go_num,below_putL (Nat.le_refl _) (upVals nd) _ (k * 2) (unhide HBW),unhide HN _ (unhide HR)⟩
   case measure=>simp[intOf];omega
  ·have HK:Hid (k=l.length):=by show _=_;omega
   go_wp2_with fail
   go_ret;have hkl:=HK.out;exact⟨_,_,rfl,⟨hn,fun h0=>⟨_,0,rfl,⟨Nat.le_refl _,hrow.lt⟩,fun j hj=>⟨row_cell hrow hkl (r:=0) hj (by omega),row_cell hrow hkl (r:=1) hj (by omega)⟩⟩⟩,hbw⟩
theorem info_val:(Tryd.prog.info? 61).map (fun i=>(i.zero,i.size,i.bytes))=some (some (.agg #[.int .i64 0,.int .i64 0,.float .f64 0,.string ByteArray.empty,.int .i64 0]),5,48):=by kernel_rfl
def valVals (n:ValD):List Value:=[.int .i64 n.kind,.int .i64 n.num,.float .f64 n.flt,.string n.str,.int .i64 n.ref]
def valZ:List Value:=[.int .i64 0,.int .i64 0,.float .f64 0,.string ByteArray.empty,.int .i64 0]
theorem toValue_any (v0:Int)(v1:Int)(v2:Nat)(v3:ByteArray)(v4:Int)(w:World) :
  Calls Tryd.prog 63 #[.agg #[.int .i64 v0,.int .i64 v1,.float .f64 v2,.string v3,.int .i64 v4]] w fun e w'=>e=.returned (.agg #[.int .i64 v0,.int .i64 v1,.float .f64 v2,.string v3,.int .i64 v4])/\Below w.heap.size w w':=by
 go_enter Tryd.func63,Tryd.ntmps63;go_wp2_with fail
 exact bodyPost_ret (v:=.agg #[.int .i64 v0,.int .i64 v1,.float .f64 v2,.string v3,.int .i64 v4]) (by simp[results,Tryd.results63,go_sem]) rfl ⟨rfl,by repeat (first | refine Below.alloc ?_ (by simp<;>omega) _ | exact Below.refl _ _)⟩
theorem toValueS_any (a:Option Addr)(l:List (ValD))(c:Nat)(S:Nat->Prop)(w:World)(hs:ValsAt w S a l)(hB:∀ b,S b->b<w.heap.size)(hl:l.length<=1048576) :
  Calls Tryd.prog 47 #[.slice a l.length c] w fun e w'=>∃ a' c',e=.returned (.slice a' l.length c')/\ValsAt w' (New w.heap.size w') a' l/\Below w.heap.size w w':=by
 have hn:=hs.1;have hmk:∀ w:World,(Instr.makeSlice 39 (.int .i64 (l.length:Int)) (.int .i64 (l.length:Int))).run Tryd.prog w=.ok (.slice (some ⟨w.heap.size,0,none⟩) l.length l.length) (w.alloc (.cells (madeCells valZ.toArray (l.length * 5)) 61)):=
  run_make_wide (P:=Tryd.prog) 39 61 _ 5 48 Tryd.underlying39 info_val .i64 .i64 l.length (by omega) hn
 go_enter Tryd.func47,Tryd.ntmps47;go_wp2_with fail
 clear hmk;go_loopw [4] (fun i wr=>∃(k:Nat),k<=l.length/\i=.int .i64 k/\Below w.heap.size w wr/\wr.rowIs w.heap.size 61 (l.length * 5) (rowF 5 (fun _=>valVals) valZ l ValD.z k)) (fun i _=>l.length-(intOf i).toNat)
 case atStart=>exact⟨0,Nat.zero_le _,rfl,(Below.refl _ _).alloc (Nat.le_refl _) _,row_made _ _ rfl (by decide)⟩
 case round=>
  obtain⟨k,hk,rfl,hbw,hrow⟩:=hrel;by_cases hlt:k<l.length
  ·obtain⟨b,off,rfl,hb,hcc⟩:=(hs.keep hbw hB).2 (by omega);have N:=hcc k hlt;clear hcc;have HN:Hid (∀ W:World,W.rowIs w.heap.size 61 (l.length * 5) (rowF 5 (fun _=>valVals) valZ l ValD.z k)->(putL w.heap.size W (k * 5) (valVals (l[k]?.getD ValD.z))).rowIs w.heap.size 61 (l.length * 5) (rowF 5 (fun _=>valVals) valZ l ValD.z (k+1))):=fun W hW=>row_next (sz:=5) (vals:=fun _=>valVals) (vals':=fun _=>valVals) (z:=valZ) (l:=l) (d:=ValD.z) (by decide) rfl (fun _ _=>rfl) hW;generalize l[k]?.getD ValD.z=nd at *;have c0:=N.kind;have c1:=N.num;have c2:=N.flt;have c3:=N.str;have c4:=N.ref;go_wp2_with fail
   refine(toValue_any _ _ _ _ _ _).mono ?_;rintro e w' ⟨rfl,hb'⟩;have hrow':=hrow.of_block (hb'.block _ hrow.lt);have hf0:=hrow'.frozen (k * 5);have hf1:=hrow'.frozen (k * 5+1);have hf2:=hrow'.frozen (k * 5+2);have hf3:=hrow'.frozen (k * 5+3);have hf4:=hrow'.frozen (k * 5+4);have hg0:=hrow'.cell (i:=k * 5) (by omega);have hg1:=hrow'.cell (i:=k * 5+1) (by omega);have hg2:=hrow'.cell (i:=k * 5+2) (by omega);have hg3:=hrow'.cell (i:=k * 5+3) (by omega);have hg4:=hrow'.cell (i:=k * 5+4) (by omega);have HR:=hide hrow';have HBW:=hide (hbw.trans (hb'.mono hbw.size));clear c0 c1 c2 c3 c4 hrow hrow' hbw hb';go_wp2_with fail
   go_roundw
   case rel=>
    clear hf0 hg0 hf1 hg1 hf2 hg2 hf3 hg3 hf4 hg4;exact⟨k+1,by omega,by go_num,below_putL (Nat.le_refl _) (valVals nd) _ (k * 5) (unhide HBW),unhide HN _ (unhide HR)⟩
   case measure=>simp[intOf];omega
  ·have HK:Hid (k=l.length):=by show _=_;omega
   go_wp2_with fail
   go_ret;have hkl:=HK.out;have N:∀ j,j<l.length->(l[j]?.getD ValD.z).str.size<=9223372036854775807:=fun j hj=>by
    obtain⟨b,off,_,_,hcc⟩:=hs.2 (by omega);exact(hcc j hj).strs
   exact⟨_,_,rfl,⟨hn,fun h0=>⟨_,0,rfl,⟨Nat.le_refl _,hrow.lt⟩,fun j hj=>{ kind:=row_cell hrow hkl (r:=0) hj (by omega),num:=row_cell hrow hkl (r:=1) hj (by omega),flt:=row_cell hrow hkl (r:=2) hj (by omega),str:=row_cell hrow hkl (r:=3) hj (by omega),ref:=row_cell hrow hkl (r:=4) hj (by omega),strs:=N j hj }⟩⟩,hbw⟩
theorem info_ins:(Tryd.prog.info? 45).map (fun i=>(i.zero,i.size,i.bytes))=some (some (.agg #[.int .i64 0,.int .i64 0,.int .i64 0,.int .i64 0,.int .i64 0]),5,40):=by kernel_rfl
def insVals (n:InsD):List Value:=[.int .i64 n.op,.int .i64 n.fa,.int .i64 n.fb,.int .i64 n.fc,.int .i64 n.fd]
def insZ:List Value:=[.int .i64 0,.int .i64 0,.int .i64 0,.int .i64 0,.int .i64 0]
theorem toIns_any (v0:Int)(v1:Int)(v2:Int)(v3:Int)(v4:Int)(w:World) :
  Calls Tryd.prog 64 #[.agg #[.int .i64 v0,.int .i64 v1,.int .i64 v2,.int .i64 v3,.int .i64 v4]] w fun e w'=>e=.returned (.agg #[.int .i64 v0,.int .i64 v1,.int .i64 v2,.int .i64 v3,.int .i64 v4])/\Below w.heap.size w w':=by
 go_enter Tryd.func64,Tryd.ntmps64;go_wp2_with fail
 exact bodyPost_ret (v:=.agg #[.int .i64 v0,.int .i64 v1,.int .i64 v2,.int .i64 v3,.int .i64 v4]) (by simp[results,Tryd.results64,go_sem]) rfl ⟨rfl,by repeat (first | refine Below.alloc ?_ (by simp<;>omega) _ | exact Below.refl _ _)⟩
theorem toInsS_any (a:Option Addr)(l:List (InsD))(c:Nat)(S:Nat->Prop)(w:World)(hs:InssAt w S a l)(hB:∀ b,S b->b<w.heap.size)(hl:l.length<=1048576) :
  Calls Tryd.prog 48 #[.slice a l.length c] w fun e w'=>∃ a' c',e=.returned (.slice a' l.length c')/\InssAt w' (New w.heap.size w') a' l/\Below w.heap.size w w':=by
 have hn:=hs.1;have hmk:∀ w:World,(Instr.makeSlice 40 (.int .i64 (l.length:Int)) (.int .i64 (l.length:Int))).run Tryd.prog w=.ok (.slice (some ⟨w.heap.size,0,none⟩) l.length l.length) (w.alloc (.cells (madeCells insZ.toArray (l.length * 5)) 45)):=
  run_make_wide (P:=Tryd.prog) 40 45 _ 5 40 Tryd.underlying40 info_ins .i64 .i64 l.length (by omega) hn
 go_enter Tryd.func48,Tryd.ntmps48;go_wp2_with fail
 clear hmk;go_loopw [4] (fun i wr=>∃(k:Nat),k<=l.length/\i=.int .i64 k/\Below w.heap.size w wr/\wr.rowIs w.heap.size 45 (l.length * 5) (rowF 5 (fun _=>insVals) insZ l InsD.z k)) (fun i _=>l.length-(intOf i).toNat)
 case atStart=>exact⟨0,Nat.zero_le _,rfl,(Below.refl _ _).alloc (Nat.le_refl _) _,row_made _ _ rfl (by decide)⟩
 case round=>
  obtain⟨k,hk,rfl,hbw,hrow⟩:=hrel;by_cases hlt:k<l.length
  ·obtain⟨b,off,rfl,hb,hcc⟩:=(hs.keep hbw hB).2 (by omega);have N:=hcc k hlt;clear hcc;have HN:Hid (∀ W:World,W.rowIs w.heap.size 45 (l.length * 5) (rowF 5 (fun _=>insVals) insZ l InsD.z k)->(putL w.heap.size W (k * 5) (insVals (l[k]?.getD InsD.z))).rowIs w.heap.size 45 (l.length * 5) (rowF 5 (fun _=>insVals) insZ l InsD.z (k+1))):=fun W hW=>row_next (sz:=5) (vals:=fun _=>insVals) (vals':=fun _=>insVals) (z:=insZ) (l:=l) (d:=InsD.z) (by decide) rfl (fun _ _=>rfl) hW;generalize l[k]?.getD InsD.z=nd at *;have c0:=N.op;have c1:=N.fa;have c2:=N.fb;have c3:=N.fc;have c4:=N.fd;go_wp2_with fail
   refine(toIns_any _ _ _ _ _ _).mono ?_;rintro e w' ⟨rfl,hb'⟩;have hrow':=hrow.of_block (hb'.block _ hrow.lt);have hf0:=hrow'.frozen (k * 5);have hf1:=hrow'.frozen (k * 5+1);have hf2:=hrow'.frozen (k * 5+2);have hf3:=hrow'.frozen (k * 5+3);have hf4:=hrow'.frozen (k * 5+4);have hg0:=hrow'.cell (i:=k * 5) (by omega);have hg1:=hrow'.cell (i:=k * 5+1) (by omega);have hg2:=hrow'.cell (i:=k * 5+2) (by omega);have hg3:=hrow'.cell (i:=k * 5+3) (by omega);have hg4:=hrow'.cell (i:=k * 5+4) (by omega);have HR:=hide hrow';have HBW:=hide (hbw.trans (hb'.mono hbw.size));clear c0 c1 c2 c3 c4 hrow hrow' hbw hb';go_wp2_with fail
   go_roundw
   case rel=>
    clear hf0 hg0 hf1 hg1 hf2 hg2 hf3 hg3 hf4 hg4;exact⟨k+1,by omega,by go_num,below_putL (Nat.le_refl _) (insVals nd) _ (k * 5) (unhide HBW),unhide HN _ (unhide HR)⟩
   case measure=>simp[intOf];omega
  ·have HK:Hid (k=l.length):=by show _=_;omega
   go_wp2_with fail
   go_ret;have hkl:=HK.out;exact⟨_,_,rfl,⟨hn,fun h0=>⟨_,0,rfl,⟨Nat.le_refl _,hrow.lt⟩,fun j hj=>{ op:=row_cell hrow hkl (r:=0) hj (by omega),fa:=row_cell hrow hkl (r:=1) hj (by omega),fb:=row_cell hrow hkl (r:=2) hj (by omega),fc:=row_cell hrow hkl (r:=3) hj (by omega),fd:=row_cell hrow hkl (r:=4) hj (by omega) }⟩⟩,hbw⟩
theorem info_nam:(Tryd.prog.info? 70).map (fun i=>(i.zero,i.size,i.bytes))=some (some (.agg #[.string ByteArray.empty,.int .i64 0,.int .i64 0,.int .i64 0]),4,40):=by kernel_rfl
def namVals (n:NamD):List Value:=[.string n.name,.int .i64 n.reg,.int .i64 n.fro,.int .i64 n.til]
def namZ:List Value:=[.string ByteArray.empty,.int .i64 0,.int .i64 0,.int .i64 0]
theorem toNamed_any (v0:ByteArray)(v1:Int)(v2:Int)(v3:Int)(w:World) :
  Calls Tryd.prog 65 #[.agg #[.string v0,.int .i64 v1,.int .i64 v2,.int .i64 v3]] w fun e w'=>e=.returned (.agg #[.string v0,.int .i64 v1,.int .i64 v2,.int .i64 v3])/\Below w.heap.size w w':=by
 go_enter Tryd.func65,Tryd.ntmps65;go_wp2_with fail
 exact bodyPost_ret (v:=.agg #[.string v0,.int .i64 v1,.int .i64 v2,.int .i64 v3]) (by simp[results,Tryd.results65,go_sem]) rfl ⟨rfl,by repeat (first | refine Below.alloc ?_ (by simp<;>omega) _ | exact Below.refl _ _)⟩
theorem toNamedS_any (a:Option Addr)(l:List (NamD))(c:Nat)(S:Nat->Prop)(w:World)(hs:NamsAt w S a l)(hB:∀ b,S b->b<w.heap.size)(hl:l.length<=1048576) :
  Calls Tryd.prog 49 #[.slice a l.length c] w fun e w'=>∃ a' c',e=.returned (.slice a' l.length c')/\NamsAt w' (New w.heap.size w') a' l/\Below w.heap.size w w':=by
 have hn:=hs.1;have hmk:∀ w:World,(Instr.makeSlice 41 (.int .i64 (l.length:Int)) (.int .i64 (l.length:Int))).run Tryd.prog w=.ok (.slice (some ⟨w.heap.size,0,none⟩) l.length l.length) (w.alloc (.cells (madeCells namZ.toArray (l.length * 4)) 70)):=
  run_make_wide (P:=Tryd.prog) 41 70 _ 4 40 Tryd.underlying41 info_nam .i64 .i64 l.length (by omega) hn
 go_enter Tryd.func49,Tryd.ntmps49;go_wp2_with fail
 clear hmk;go_loopw [4] (fun i wr=>∃(k:Nat),k<=l.length/\i=.int .i64 k/\Below w.heap.size w wr/\wr.rowIs w.heap.size 70 (l.length * 4) (rowF 4 (fun _=>namVals) namZ l NamD.z k)) (fun i _=>l.length-(intOf i).toNat)
 case atStart=>exact⟨0,Nat.zero_le _,rfl,(Below.refl _ _).alloc (Nat.le_refl _) _,row_made _ _ rfl (by decide)⟩
 case round=>
  obtain⟨k,hk,rfl,hbw,hrow⟩:=hrel;by_cases hlt:k<l.length
  ·obtain⟨b,off,rfl,hb,hcc⟩:=(hs.keep hbw hB).2 (by omega);have N:=hcc k hlt;clear hcc;have HN:Hid (∀ W:World,W.rowIs w.heap.size 70 (l.length * 4) (rowF 4 (fun _=>namVals) namZ l NamD.z k)->(putL w.heap.size W (k * 4) (namVals (l[k]?.getD NamD.z))).rowIs w.heap.size 70 (l.length * 4) (rowF 4 (fun _=>namVals) namZ l NamD.z (k+1))):=fun W hW=>row_next (sz:=4) (vals:=fun _=>namVals) (vals':=fun _=>namVals) (z:=namZ) (l:=l) (d:=NamD.z) (by decide) rfl (fun _ _=>rfl) hW;generalize l[k]?.getD NamD.z=nd at *;have c0:=N.name;have c1:=N.reg;have c2:=N.fro;have c3:=N.til;go_wp2_with fail
   refine(toNamed_any _ _ _ _ _).mono ?_;rintro e w' ⟨rfl,hb'⟩;have hrow':=hrow.of_block (hb'.block _ hrow.lt);have hf0:=hrow'.frozen (k * 4);have hf1:=hrow'.frozen (k * 4+1);have hf2:=hrow'.frozen (k * 4+2);have hf3:=hrow'.frozen (k * 4+3);have hg0:=hrow'.cell (i:=k * 4) (by omega);have hg1:=hrow'.cell (i:=k * 4+1) (by omega);have hg2:=hrow'.cell (i:=k * 4+2) (by omega);have hg3:=hrow'.cell (i:=k * 4+3) (by omega);have HR:=hide hrow';have HBW:=hide (hbw.trans (hb'.mono hbw.size));clear c0 c1 c2 c3 hrow hrow' hbw hb';go_wp2_with fail
   go_roundw
   case rel=>
    clear hf0 hg0 hf1 hg1 hf2 hg2 hf3 hg3;exact⟨k+1,by omega,by go_num,below_putL (Nat.le_refl _) (namVals nd) _ (k * 4) (unhide HBW),unhide HN _ (unhide HR)⟩
   case measure=>simp[intOf];omega
  ·have HK:Hid (k=l.length):=by show _=_;omega
   go_wp2_with fail
   go_ret;have hkl:=HK.out;have N:∀ j,j<l.length->(l[j]?.getD NamD.z).name.size<=9223372036854775807:=fun j hj=>by
    obtain⟨b,off,_,_,hcc⟩:=hs.2 (by omega);exact(hcc j hj).names
   exact⟨_,_,rfl,⟨hn,fun h0=>⟨_,0,rfl,⟨Nat.le_refl _,hrow.lt⟩,fun j hj=>{ name:=row_cell hrow hkl (r:=0) hj (by omega),reg:=row_cell hrow hkl (r:=1) hj (by omega),fro:=row_cell hrow hkl (r:=2) hj (by omega),til:=row_cell hrow hkl (r:=3) hj (by omega),names:=N j hj }⟩⟩,hbw⟩
end Go.Proofs.YtgghbbpbdaghnaaDoor
