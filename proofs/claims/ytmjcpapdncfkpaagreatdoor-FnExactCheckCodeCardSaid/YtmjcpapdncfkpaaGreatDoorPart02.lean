import Derived.Test.YtmjcpapdncfkpaaGreatDoorPart01
import Derived.Deep.OwnRows
set_option linter.unusedSimpArgs false
set_option linter.unusedVariables false
set_option maxHeartbeats 1600000
namespace Go.Proofs.YtmjcpapdncfkpaaGreatDoor
open Go.RowKit
def putL (G:Nat):World→Nat→List Value→World
 | w,_,[]=>w
 | w,o,v::vs=>putL G (w.setCell ⟨G,o,none⟩ v) (o+1) vs
theorem rowIs_putL {G t m:Nat}:∀(vs:List Value)(w:World)(o:Nat)(f:Nat→Value),w.rowIs G t m f→(putL G w o vs).rowIs G t m (fun j=>if o≤j∧j<o+vs.length then vs[j-o]?.getD (f j)else f j)
 | [],w,o,f,h=>h.congr fun j _=>by rw[if_neg (by simp)]
 | v::vs,w,o,f,h=>by
  refine(rowIs_putL vs (w.setCell ⟨G,o,none⟩ v) (o+1) _ (h.set o v)).congr fun j _=>?_
  simp only[List.length_cons]
  by_cases e:j=o
  ·subst e
   rw[if_neg (by omega),if_pos rfl,if_pos (by omega)]
   simp
  ·by_cases e2:o+1≤j∧j<o+1+vs.length
   ·rw[if_pos e2,if_neg e,if_pos (show o≤j∧j<o+(vs.length+1)by omega)]
    have:j-o=(j-(o+1))+1:=by omega
    rw[this,List.getElem?_cons_succ]
   ·rw[if_neg e2,if_neg e,if_neg (show ¬(o≤j∧j<o+(vs.length+1))by omega)]
theorem below_putL {B G:Nat}{w:World}(hG:B≤G):∀(vs:List Value)(w1:World)(o:Nat),Below B w w1→Below B w (putL G w1 o vs)
 | [],_,_,h=>h
 | v::vs,w1,o,h=>below_putL hG vs _ _ (h.setCell hG v)
theorem same_putL {S:Nat→Prop}{G:Nat}{w:World}(hG:¬S G):∀(vs:List Value)(w1:World)(o:Nat),Same S w w1→Same S w (putL G w1 o vs)
 | [],_,_,h=>h
 | v::vs,w1,o,h=>same_putL hG vs _ _ (h.setCell (a:=⟨G,o,none⟩) hG v)
theorem size_putL {G:Nat}:∀(vs:List Value)(w1:World)(o:Nat),(putL G w1 o vs).heap.size=w1.heap.size
 | [],_,_=>rfl
 | v::vs,w1,o=>by
  show(putL G (w1.setCell ⟨G,o,none⟩ v) (o+1) vs).heap.size=_
  rw[size_putL vs];simp
def rowF {α:Type}(sz:Nat)(vals:Nat→α→List Value)(z:List Value)(l:List α)(d:α)(k j:Nat):Value:=
 if j / sz<k then(vals (j / sz) (l[j / sz]?.getD d))[j % sz]?.getD (.int .i64 0)else z[j % sz]?.getD (.int .i64 0)
theorem row_next {α:Type}{sz G t n k:Nat}{vals vals':Nat→α→List Value}{z:List Value}{l:List α}{d:α}{w:World}(hz:0<sz)(hv:(vals' k (l[k]?.getD d)).length=sz)(hsame:∀ i,i<k→vals' i (l[i]?.getD d)=vals i (l[i]?.getD d))
  (h:w.rowIs G t (n * sz) (rowF sz vals z l d k)):(putL G w (k * sz) (vals' k (l[k]?.getD d))).rowIs G t (n * sz) (rowF sz vals' z l d (k+1)):=by
 refine(rowIs_putL _ _ _ _ h).congr fun j _=>?_
 rw[hv]
 have hdm:sz * (j / sz)+j % sz=j:=Nat.div_add_mod j sz
 have hmod:=Nat.mod_lt j hz
 have hcm:sz * (j / sz)=(j / sz) * sz:=Nat.mul_comm _ _
 unfold rowF
 by_cases e:j / sz=k
 ·rw[e]at hdm hcm
  have e2:j-k * sz=j % sz:=by omega
  have e3:k * sz≤j∧j<k * sz+sz:=by omega
  rw[if_pos e3,e,if_pos (Nat.lt_succ_self k),e2,List.getElem?_eq_getElem (by omega)]
  rfl
 ·have hne:¬(k * sz≤j∧j<k * sz+sz):=fun hh=>e (by
   have h1:k≤j / sz:=(Nat.le_div_iff_mul_le hz).2 hh.1
   have h2:j / sz<k+1:=(Nat.div_lt_iff_lt_mul hz).2 (by rw[Nat.succ_mul];exact hh.2)
   omega)
  rw[if_neg hne]
  by_cases e3:j / sz<k
  ·rw[if_pos e3,if_pos (by omega),hsame _ e3]
  ·rw[if_neg e3,if_neg (by omega)]
theorem row_cell {α:Type}{sz G t k:Nat}{vals:Nat→α→List Value}{z:List Value}{l:List α}{d:α}{w:World}(h:w.rowIs G t (l.length * sz) (rowF sz vals z l d k))(hk:k=l.length){j r:Nat}(hj:j<l.length)(hr:r<sz) :
  w.cell? ⟨G,0+j * sz+r,none⟩=some ((vals j (l[j]?.getD d))[r]?.getD (.int .i64 0)):=by
 have hlt:j * sz+r<l.length * sz:=by
  have:(j+1) * sz≤l.length * sz:=Nat.mul_le_mul_right sz (by omega)
  rw[Nat.succ_mul]at this
  omega
 have h1:=h.cell hlt
 have e1:(j * sz+r) / sz=j:=by
  rw[Nat.mul_comm,Nat.mul_add_div (by omega),Nat.div_eq_of_lt hr,Nat.add_zero]
 have e2:(j * sz+r) % sz=r:=by
  rw[Nat.mul_comm,Nat.mul_add_mod,Nat.mod_eq_of_lt hr]
 unfold rowF at h1
 rw[e1,e2,if_pos (by omega)]at h1
 rw[Nat.zero_add]
 exact h1
theorem row_made {α:Type}{sz n:Nat}{vals:Nat→α→List Value}{z:List Value}{l:List α}{d:α}(w:World)(t:TypeId)(hz:z.length=sz)(h0:0<sz):(w.alloc (.cells (madeCells z.toArray (n * sz)) t)).rowIs w.heap.size t (n * sz) (rowF sz vals z l d 0):=by
 refine⟨_,Go.Deep.blk_alloc_new _ _,size_madeCells _ _,fun i hi=>?_⟩
 have hm:i % sz<z.length:=by rw[hz];exact Nat.mod_lt _ h0
 unfold rowF
 rw[if_neg (Nat.not_lt_zero _)]
 simp[madeCells,hi,hz,List.getElem?_eq_getElem hm,hm]
theorem run_store_float (P:Program)(w:World)(a:Addr)(k:FloatKind)(b:Nat)(m:Mode):(store a (.float k b) m).run P w=stored P w a (.float k b) m:=run_store P w a _ m rfl
attribute [local go_sem] run_store_float
theorem run_make_wide {P:Program}(t e:TypeId)(z:Value)(size bytes:Nat)(ht:P.underlying t=some (.slice e))(hinfo:(P.info? e).map (fun i=>(i.zero,i.size,i.bytes))=some (some z,size,bytes))
  (kl kc:IntKind)(n:Nat)(hbytes:bytes * n≤281474976710656)(h63:n≤9223372036854775807)(w:World) :
  (Instr.makeSlice t (.int kl (n:Int)) (.int kc (n:Int))).run P w=.ok (.slice (some ⟨w.heap.size,0,none⟩) n n) (w.alloc (.cells (madeCells z.cells (n * size)) e)):=by
 obtain⟨i,hi,hzz⟩:=Option.map_eq_some_iff.1 hinfo
 simp only[Prod.mk.injEq]at hzz
 obtain⟨hz,hs,hb⟩:=hzz
 subst hs;subst hb
 have hb':(i.bytes:Int) * (n:Int)≤281474976710656:=by
  have h:((i.bytes * n:Nat):Int)≤281474976710656:=by omega
  rwa [Int.natCast_mul]at h
 have hr:=run_make (P:=P) w t e i z ht hi hz kl kc n n (by omega) (Int.le_refl _) hb' (by omega)
 simp only[Int.toNat_natCast]at hr
 exact hr
theorem info_up:(Tryz.prog.info? 105).map (fun i=>(i.zero,i.size,i.bytes))=some (some (.agg #[.bool false,.int .i64 0]),2,16):=by kernel_rfl
def upVals (n:Bool×Int):List Value:=[.bool n.1,.int .i64 n.2]
def upZ:List Value:=[.bool false,.int .i64 0]
theorem toUp_any (v0:Bool)(v1:Int)(w:World) :
  Calls Tryz.prog 90 #[.agg #[.bool v0,.int .i64 v1]] w fun e w'=>e=.returned (.agg #[.bool v0,.int .i64 v1])∧Below w.heap.size w w':=by
 go_enter Tryz.func90,Tryz.ntmps90
 go_wp2_with fail
 exact bodyPost_ret (v:=.agg #[.bool v0,.int .i64 v1]) (by simp[results,Tryz.results90,go_sem]) rfl ⟨rfl,by repeat (first | refine Below.alloc ?_ (by simp<;>omega) _ | exact Below.refl _ _)⟩
theorem toUpS_any (a:Option Addr)(l:List (Bool×Int))(c:Nat)(S:Nat→Prop)(w:World)(hs:UpsAt w S a l)(hB:∀ b,S b→b<w.heap.size)(hl:l.length≤1048576) :
  Calls Tryz.prog 60 #[.slice a l.length c] w fun e w'=>∃ a' c',e=.returned (.slice a' l.length c')∧UpsAt w' (New w.heap.size w') a' l∧Below w.heap.size w w':=by
 have hn:=hs.1
 have hmk:∀ w:World,(Instr.makeSlice 53 (.int .i64 (l.length:Int)) (.int .i64 (l.length:Int))).run Tryz.prog w=.ok (.slice (some ⟨w.heap.size,0,none⟩) l.length l.length) (w.alloc (.cells (madeCells upZ.toArray (l.length * 2)) 105)):=
  run_make_wide (P:=Tryz.prog) 53 105 _ 2 16 Tryz.underlying53 info_up .i64 .i64 l.length (by omega) hn
 go_enter Tryz.func60,Tryz.ntmps60
 go_wp2_with fail
 clear hmk
 go_loopw [4] (fun i wr=>∃(k:Nat),k≤l.length∧i=.int .i64 k∧Below w.heap.size w wr∧wr.rowIs w.heap.size 105 (l.length * 2) (rowF 2 (fun _=>upVals) upZ l (false,0) k)) (fun i _=>l.length-(intOf i).toNat)
 case atStart=>exact⟨0,Nat.zero_le _,rfl,(Below.refl _ _).alloc (Nat.le_refl _) _,row_made _ _ rfl (by decide)⟩
 case round=>
  obtain⟨k,hk,rfl,hbw,hrow⟩:=hrel
  by_cases hlt:k<l.length
  ·obtain⟨b,off,rfl,hb,hcc⟩:=(hs.keep hbw hB).2 (by omega)
   have N:=hcc k hlt
   clear hcc
   have HN:Hid (∀ W:World,W.rowIs w.heap.size 105 (l.length * 2) (rowF 2 (fun _=>upVals) upZ l (false,0) k)→(putL w.heap.size W (k * 2) (upVals (l[k]?.getD (false,0)))).rowIs w.heap.size 105 (l.length * 2) (rowF 2 (fun _=>upVals) upZ l (false,0) (k+1))):=fun W hW=>row_next (sz:=2) (vals:=fun _=>upVals) (vals':=fun _=>upVals) (z:=upZ) (l:=l) (d:=(false,0)) (by decide) rfl (fun _ _=>rfl) hW
   generalize l[k]?.getD (false,0)=nd at *
   obtain⟨h1,h2⟩:=N
   go_wp2_with fail
   refine(toUp_any _ _ _).mono ?_
   rintro e w' ⟨rfl,hb'⟩
   have hrow':=hrow.of_block (hb'.block _ hrow.lt)
   have hf0:=hrow'.frozen (k * 2);have hf1:=hrow'.frozen (k * 2+1)
   have hg0:=hrow'.cell (i:=k * 2) (by omega);have hg1:=hrow'.cell (i:=k * 2+1) (by omega)
   have HR:=hide hrow'
   have HBW:=hide (hbw.trans (hb'.mono hbw.size))
   clear h1 h2 hrow hrow' hbw hb'
   go_wp2_with fail
   go_roundw
   case rel=>
    clear hf0 hg0 hf1 hg1
    exact⟨k+1,by omega,by go_num,below_putL (Nat.le_refl _) (upVals nd) _ (k * 2) (unhide HBW),unhide HN _ (unhide HR)⟩
   case measure=>simp[intOf];omega
  ·have HK:Hid (k=l.length):=by show _=_;omega
   go_wp2_with fail
   go_ret
   have hkl:=HK.out
   exact⟨_,_,rfl,⟨hn,fun h0=>⟨_,0,rfl,⟨Nat.le_refl _,hrow.lt⟩,fun j hj=>⟨row_cell hrow hkl (r:=0) hj (by omega),row_cell hrow hkl (r:=1) hj (by omega)⟩⟩⟩,hbw⟩
theorem info_val:(Tryz.prog.info? 102).map (fun i=>(i.zero,i.size,i.bytes))=some (some (.agg #[.int .i64 0,.int .i64 0,.float .f64 0,.string ByteArray.empty,.int .i64 0]),5,48):=by kernel_rfl
def valVals (n:ValD):List Value:=[.int .i64 n.kind,.int .i64 n.num,.float .f64 n.flt,.string n.str,.int .i64 n.ref]
def valZ:List Value:=[.int .i64 0,.int .i64 0,.float .f64 0,.string ByteArray.empty,.int .i64 0]
theorem toValue_any (v0:Int)(v1:Int)(v2:Nat)(v3:ByteArray)(v4:Int)(w:World) :
  Calls Tryz.prog 91 #[.agg #[.int .i64 v0,.int .i64 v1,.float .f64 v2,.string v3,.int .i64 v4]] w fun e w'=>e=.returned (.agg #[.int .i64 v0,.int .i64 v1,.float .f64 v2,.string v3,.int .i64 v4])∧Below w.heap.size w w':=by
 go_enter Tryz.func91,Tryz.ntmps91
 go_wp2_with fail
 exact bodyPost_ret (v:=.agg #[.int .i64 v0,.int .i64 v1,.float .f64 v2,.string v3,.int .i64 v4]) (by simp[results,Tryz.results91,go_sem]) rfl ⟨rfl,by repeat (first | refine Below.alloc ?_ (by simp<;>omega) _ | exact Below.refl _ _)⟩
theorem toValueS_any (a:Option Addr)(l:List (ValD))(c:Nat)(S:Nat→Prop)(w:World)(hs:ValsAt w S a l)(hB:∀ b,S b→b<w.heap.size)(hl:l.length≤1048576) :
  Calls Tryz.prog 61 #[.slice a l.length c] w fun e w'=>∃ a' c',e=.returned (.slice a' l.length c')∧ValsAt w' (New w.heap.size w') a' l∧Below w.heap.size w w':=by
 have hn:=hs.1
 have hmk:∀ w:World,(Instr.makeSlice 54 (.int .i64 (l.length:Int)) (.int .i64 (l.length:Int))).run Tryz.prog w=.ok (.slice (some ⟨w.heap.size,0,none⟩) l.length l.length) (w.alloc (.cells (madeCells valZ.toArray (l.length * 5)) 102)):=
  run_make_wide (P:=Tryz.prog) 54 102 _ 5 48 Tryz.underlying54 info_val .i64 .i64 l.length (by omega) hn
 go_enter Tryz.func61,Tryz.ntmps61
 go_wp2_with fail
 clear hmk
 go_loopw [4] (fun i wr=>∃(k:Nat),k≤l.length∧i=.int .i64 k∧Below w.heap.size w wr∧wr.rowIs w.heap.size 102 (l.length * 5) (rowF 5 (fun _=>valVals) valZ l ValD.z k)) (fun i _=>l.length-(intOf i).toNat)
 case atStart=>exact⟨0,Nat.zero_le _,rfl,(Below.refl _ _).alloc (Nat.le_refl _) _,row_made _ _ rfl (by decide)⟩
 case round=>
  obtain⟨k,hk,rfl,hbw,hrow⟩:=hrel
  by_cases hlt:k<l.length
  ·obtain⟨b,off,rfl,hb,hcc⟩:=(hs.keep hbw hB).2 (by omega)
   have N:=hcc k hlt
   clear hcc
   have HN:Hid (∀ W:World,W.rowIs w.heap.size 102 (l.length * 5) (rowF 5 (fun _=>valVals) valZ l ValD.z k)→(putL w.heap.size W (k * 5) (valVals (l[k]?.getD ValD.z))).rowIs w.heap.size 102 (l.length * 5) (rowF 5 (fun _=>valVals) valZ l ValD.z (k+1))):=fun W hW=>row_next (sz:=5) (vals:=fun _=>valVals) (vals':=fun _=>valVals) (z:=valZ) (l:=l) (d:=ValD.z) (by decide) rfl (fun _ _=>rfl) hW
   generalize l[k]?.getD ValD.z=nd at *
   have c0:=N.kind;have c1:=N.num;have c2:=N.flt;have c3:=N.str;have c4:=N.ref
   go_wp2_with fail
   refine(toValue_any _ _ _ _ _ _).mono ?_
   rintro e w' ⟨rfl,hb'⟩
   have hrow':=hrow.of_block (hb'.block _ hrow.lt)
   have hf0:=hrow'.frozen (k * 5);have hf1:=hrow'.frozen (k * 5+1);have hf2:=hrow'.frozen (k * 5+2);have hf3:=hrow'.frozen (k * 5+3);have hf4:=hrow'.frozen (k * 5+4)
   have hg0:=hrow'.cell (i:=k * 5) (by omega);have hg1:=hrow'.cell (i:=k * 5+1) (by omega);have hg2:=hrow'.cell (i:=k * 5+2) (by omega);have hg3:=hrow'.cell (i:=k * 5+3) (by omega);have hg4:=hrow'.cell (i:=k * 5+4) (by omega)
   have HR:=hide hrow'
   have HBW:=hide (hbw.trans (hb'.mono hbw.size))
   clear c0 c1 c2 c3 c4 hrow hrow' hbw hb'
   go_wp2_with fail
   go_roundw
   case rel=>
    clear hf0 hg0 hf1 hg1 hf2 hg2 hf3 hg3 hf4 hg4
    exact⟨k+1,by omega,by go_num,below_putL (Nat.le_refl _) (valVals nd) _ (k * 5) (unhide HBW),unhide HN _ (unhide HR)⟩
   case measure=>simp[intOf];omega
  ·have HK:Hid (k=l.length):=by show _=_;omega
   go_wp2_with fail
   go_ret
   have hkl:=HK.out
   have N:∀ j,j<l.length→(l[j]?.getD ValD.z).str.size≤9223372036854775807:=fun j hj=>by
    obtain⟨b,off,_,_,hcc⟩:=hs.2 (by omega)
    exact(hcc j hj).strs
   exact⟨_,_,rfl,⟨hn,fun h0=>⟨_,0,rfl,⟨Nat.le_refl _,hrow.lt⟩,fun j hj=>{ kind:=row_cell hrow hkl (r:=0) hj (by omega),num:=row_cell hrow hkl (r:=1) hj (by omega),flt:=row_cell hrow hkl (r:=2) hj (by omega),str:=row_cell hrow hkl (r:=3) hj (by omega),ref:=row_cell hrow hkl (r:=4) hj (by omega),strs:=N j hj }⟩⟩,hbw⟩
theorem info_ins:(Tryz.prog.info? 60).map (fun i=>(i.zero,i.size,i.bytes))=some (some (.agg #[.int .i64 0,.int .i64 0,.int .i64 0,.int .i64 0,.int .i64 0]),5,40):=by kernel_rfl
def insVals (n:InsD):List Value:=[.int .i64 n.op,.int .i64 n.fa,.int .i64 n.fb,.int .i64 n.fc,.int .i64 n.fd]
def insZ:List Value:=[.int .i64 0,.int .i64 0,.int .i64 0,.int .i64 0,.int .i64 0]
theorem toIns_any (v0:Int)(v1:Int)(v2:Int)(v3:Int)(v4:Int)(w:World) :
  Calls Tryz.prog 92 #[.agg #[.int .i64 v0,.int .i64 v1,.int .i64 v2,.int .i64 v3,.int .i64 v4]] w fun e w'=>e=.returned (.agg #[.int .i64 v0,.int .i64 v1,.int .i64 v2,.int .i64 v3,.int .i64 v4])∧Below w.heap.size w w':=by
 go_enter Tryz.func92,Tryz.ntmps92
 go_wp2_with fail
 exact bodyPost_ret (v:=.agg #[.int .i64 v0,.int .i64 v1,.int .i64 v2,.int .i64 v3,.int .i64 v4]) (by simp[results,Tryz.results92,go_sem]) rfl ⟨rfl,by repeat (first | refine Below.alloc ?_ (by simp<;>omega) _ | exact Below.refl _ _)⟩
theorem toInsS_any (a:Option Addr)(l:List (InsD))(c:Nat)(S:Nat→Prop)(w:World)(hs:InssAt w S a l)(hB:∀ b,S b→b<w.heap.size)(hl:l.length≤1048576) :
  Calls Tryz.prog 62 #[.slice a l.length c] w fun e w'=>∃ a' c',e=.returned (.slice a' l.length c')∧InssAt w' (New w.heap.size w') a' l∧Below w.heap.size w w':=by
 have hn:=hs.1
 have hmk:∀ w:World,(Instr.makeSlice 55 (.int .i64 (l.length:Int)) (.int .i64 (l.length:Int))).run Tryz.prog w=.ok (.slice (some ⟨w.heap.size,0,none⟩) l.length l.length) (w.alloc (.cells (madeCells insZ.toArray (l.length * 5)) 60)):=
  run_make_wide (P:=Tryz.prog) 55 60 _ 5 40 Tryz.underlying55 info_ins .i64 .i64 l.length (by omega) hn
 go_enter Tryz.func62,Tryz.ntmps62
 go_wp2_with fail
 clear hmk
 go_loopw [4] (fun i wr=>∃(k:Nat),k≤l.length∧i=.int .i64 k∧Below w.heap.size w wr∧wr.rowIs w.heap.size 60 (l.length * 5) (rowF 5 (fun _=>insVals) insZ l InsD.z k)) (fun i _=>l.length-(intOf i).toNat)
 case atStart=>exact⟨0,Nat.zero_le _,rfl,(Below.refl _ _).alloc (Nat.le_refl _) _,row_made _ _ rfl (by decide)⟩
 case round=>
  obtain⟨k,hk,rfl,hbw,hrow⟩:=hrel
  by_cases hlt:k<l.length
  ·obtain⟨b,off,rfl,hb,hcc⟩:=(hs.keep hbw hB).2 (by omega)
   have N:=hcc k hlt
   clear hcc
   have HN:Hid (∀ W:World,W.rowIs w.heap.size 60 (l.length * 5) (rowF 5 (fun _=>insVals) insZ l InsD.z k)→(putL w.heap.size W (k * 5) (insVals (l[k]?.getD InsD.z))).rowIs w.heap.size 60 (l.length * 5) (rowF 5 (fun _=>insVals) insZ l InsD.z (k+1))):=fun W hW=>row_next (sz:=5) (vals:=fun _=>insVals) (vals':=fun _=>insVals) (z:=insZ) (l:=l) (d:=InsD.z) (by decide) rfl (fun _ _=>rfl) hW
   generalize l[k]?.getD InsD.z=nd at *
   have c0:=N.op;have c1:=N.fa;have c2:=N.fb;have c3:=N.fc;have c4:=N.fd
   go_wp2_with fail
   refine(toIns_any _ _ _ _ _ _).mono ?_
   rintro e w' ⟨rfl,hb'⟩
   have hrow':=hrow.of_block (hb'.block _ hrow.lt)
   have hf0:=hrow'.frozen (k * 5);have hf1:=hrow'.frozen (k * 5+1);have hf2:=hrow'.frozen (k * 5+2);have hf3:=hrow'.frozen (k * 5+3);have hf4:=hrow'.frozen (k * 5+4)
   have hg0:=hrow'.cell (i:=k * 5) (by omega);have hg1:=hrow'.cell (i:=k * 5+1) (by omega);have hg2:=hrow'.cell (i:=k * 5+2) (by omega);have hg3:=hrow'.cell (i:=k * 5+3) (by omega);have hg4:=hrow'.cell (i:=k * 5+4) (by omega)
   have HR:=hide hrow'
   have HBW:=hide (hbw.trans (hb'.mono hbw.size))
   clear c0 c1 c2 c3 c4 hrow hrow' hbw hb'
   go_wp2_with fail
   go_roundw
   case rel=>
    clear hf0 hg0 hf1 hg1 hf2 hg2 hf3 hg3 hf4 hg4
    exact⟨k+1,by omega,by go_num,below_putL (Nat.le_refl _) (insVals nd) _ (k * 5) (unhide HBW),unhide HN _ (unhide HR)⟩
   case measure=>simp[intOf];omega
  ·have HK:Hid (k=l.length):=by show _=_;omega
   go_wp2_with fail
   go_ret
   have hkl:=HK.out
   exact⟨_,_,rfl,⟨hn,fun h0=>⟨_,0,rfl,⟨Nat.le_refl _,hrow.lt⟩,fun j hj=>{ op:=row_cell hrow hkl (r:=0) hj (by omega),fa:=row_cell hrow hkl (r:=1) hj (by omega),fb:=row_cell hrow hkl (r:=2) hj (by omega),fc:=row_cell hrow hkl (r:=3) hj (by omega),fd:=row_cell hrow hkl (r:=4) hj (by omega) }⟩⟩,hbw⟩
theorem info_nam:(Tryz.prog.info? 120).map (fun i=>(i.zero,i.size,i.bytes))=some (some (.agg #[.string ByteArray.empty,.int .i64 0,.int .i64 0,.int .i64 0]),4,40):=by kernel_rfl
def namVals (n:NamD):List Value:=[.string n.name,.int .i64 n.reg,.int .i64 n.fro,.int .i64 n.til]
def namZ:List Value:=[.string ByteArray.empty,.int .i64 0,.int .i64 0,.int .i64 0]
theorem toNamed_any (v0:ByteArray)(v1:Int)(v2:Int)(v3:Int)(w:World) :
  Calls Tryz.prog 93 #[.agg #[.string v0,.int .i64 v1,.int .i64 v2,.int .i64 v3]] w fun e w'=>e=.returned (.agg #[.string v0,.int .i64 v1,.int .i64 v2,.int .i64 v3])∧Below w.heap.size w w':=by
 go_enter Tryz.func93,Tryz.ntmps93
 go_wp2_with fail
 exact bodyPost_ret (v:=.agg #[.string v0,.int .i64 v1,.int .i64 v2,.int .i64 v3]) (by simp[results,Tryz.results93,go_sem]) rfl ⟨rfl,by repeat (first | refine Below.alloc ?_ (by simp<;>omega) _ | exact Below.refl _ _)⟩
theorem toNamedS_any (a:Option Addr)(l:List (NamD))(c:Nat)(S:Nat→Prop)(w:World)(hs:NamsAt w S a l)(hB:∀ b,S b→b<w.heap.size)(hl:l.length≤1048576) :
  Calls Tryz.prog 63 #[.slice a l.length c] w fun e w'=>∃ a' c',e=.returned (.slice a' l.length c')∧NamsAt w' (New w.heap.size w') a' l∧Below w.heap.size w w':=by
 have hn:=hs.1
 have hmk:∀ w:World,(Instr.makeSlice 56 (.int .i64 (l.length:Int)) (.int .i64 (l.length:Int))).run Tryz.prog w=.ok (.slice (some ⟨w.heap.size,0,none⟩) l.length l.length) (w.alloc (.cells (madeCells namZ.toArray (l.length * 4)) 120)):=
  run_make_wide (P:=Tryz.prog) 56 120 _ 4 40 Tryz.underlying56 info_nam .i64 .i64 l.length (by omega) hn
 go_enter Tryz.func63,Tryz.ntmps63
 go_wp2_with fail
 clear hmk
 go_loopw [4] (fun i wr=>∃(k:Nat),k≤l.length∧i=.int .i64 k∧Below w.heap.size w wr∧wr.rowIs w.heap.size 120 (l.length * 4) (rowF 4 (fun _=>namVals) namZ l NamD.z k)) (fun i _=>l.length-(intOf i).toNat)
 case atStart=>exact⟨0,Nat.zero_le _,rfl,(Below.refl _ _).alloc (Nat.le_refl _) _,row_made _ _ rfl (by decide)⟩
 case round=>
  obtain⟨k,hk,rfl,hbw,hrow⟩:=hrel
  by_cases hlt:k<l.length
  ·obtain⟨b,off,rfl,hb,hcc⟩:=(hs.keep hbw hB).2 (by omega)
   have N:=hcc k hlt
   clear hcc
   have HN:Hid (∀ W:World,W.rowIs w.heap.size 120 (l.length * 4) (rowF 4 (fun _=>namVals) namZ l NamD.z k)→(putL w.heap.size W (k * 4) (namVals (l[k]?.getD NamD.z))).rowIs w.heap.size 120 (l.length * 4) (rowF 4 (fun _=>namVals) namZ l NamD.z (k+1))):=fun W hW=>row_next (sz:=4) (vals:=fun _=>namVals) (vals':=fun _=>namVals) (z:=namZ) (l:=l) (d:=NamD.z) (by decide) rfl (fun _ _=>rfl) hW
   generalize l[k]?.getD NamD.z=nd at *
   have c0:=N.name;have c1:=N.reg;have c2:=N.fro;have c3:=N.til
   go_wp2_with fail
   refine(toNamed_any _ _ _ _ _).mono ?_
   rintro e w' ⟨rfl,hb'⟩
   have hrow':=hrow.of_block (hb'.block _ hrow.lt)
   have hf0:=hrow'.frozen (k * 4);have hf1:=hrow'.frozen (k * 4+1);have hf2:=hrow'.frozen (k * 4+2);have hf3:=hrow'.frozen (k * 4+3)
   have hg0:=hrow'.cell (i:=k * 4) (by omega);have hg1:=hrow'.cell (i:=k * 4+1) (by omega);have hg2:=hrow'.cell (i:=k * 4+2) (by omega);have hg3:=hrow'.cell (i:=k * 4+3) (by omega)
   have HR:=hide hrow'
   have HBW:=hide (hbw.trans (hb'.mono hbw.size))
   clear c0 c1 c2 c3 hrow hrow' hbw hb'
   go_wp2_with fail
   go_roundw
   case rel=>
    clear hf0 hg0 hf1 hg1 hf2 hg2 hf3 hg3
    exact⟨k+1,by omega,by go_num,below_putL (Nat.le_refl _) (namVals nd) _ (k * 4) (unhide HBW),unhide HN _ (unhide HR)⟩
   case measure=>simp[intOf];omega
  ·have HK:Hid (k=l.length):=by show _=_;omega
   go_wp2_with fail
   go_ret
   have hkl:=HK.out
   have N:∀ j,j<l.length→(l[j]?.getD NamD.z).name.size≤9223372036854775807:=fun j hj=>by
    obtain⟨b,off,_,_,hcc⟩:=hs.2 (by omega)
    exact(hcc j hj).names
   exact⟨_,_,rfl,⟨hn,fun h0=>⟨_,0,rfl,⟨Nat.le_refl _,hrow.lt⟩,fun j hj=>{ name:=row_cell hrow hkl (r:=0) hj (by omega),reg:=row_cell hrow hkl (r:=1) hj (by omega),fro:=row_cell hrow hkl (r:=2) hj (by omega),til:=row_cell hrow hkl (r:=3) hj (by omega),names:=N j hj }⟩⟩,hbw⟩
theorem szProtoS_any (a:Option Addr)(l:List ProtoD)(c:Nat)(S:Nat→Prop)(left:Int)(w:World)(hs:ProtosAt w S a l)(hB:∀ b,S b→b<w.heap.size)(hl:0≤left)(hl2:left≤1048576) :
  Calls Tryz.prog 10 #[.slice a l.length c,.int .i64 left] w fun e w'=>e=.returned (.int .i64 (bud left (tProtos l)))∧Below w.heap.size w w':=by
 have hn:=hs.1
 by_cases h:left<l.length
 ·go_enter Tryz.func10,Tryz.ntmps10
  go_wp2_with fail
  go_ret
  exact⟨ret_int (bud_no (by unfold tProtos;omega)).symm,Below.refl _ _⟩
 ·have hle:(l.length:Int)≤left:=by omega
  clear h
  go_enter Tryz.func10,Tryz.ntmps10
  go_wp2_with fail
  go_loopw [1,5] (fun t i wr=>∃(k:Nat) (x:Int),k≤l.length∧i=.int .i64 k∧t=.int .i64 x∧0≤x∧x≤1048576∧Hid (x=left-l.length-sumTo tProto l k)∧Below w.heap.size w wr) (fun _ i _=>l.length-(intOf i).toNat)
  case atStart=>exact⟨0,_,Nat.zero_le _,rfl,rfl,by omega,by omega,show _=_ by rw[sumTo_zero];omega,Below.refl _ _⟩
  case round=>
   obtain⟨k,x,hk,rfl,rfl,hx,hx2,hxe,hbw⟩:=hrel
   have hBr:∀ b,S b→b<wr.heap.size:=fun b h=>Nat.lt_of_lt_of_le (hB b h) hbw.size
   by_cases hlt:k<l.length
   ·obtain⟨b,off,rfl,hb,hcc⟩:=(hs.keep hbw hB).2 (by omega)
    have N:=hcc k hlt
    have HS:Hid (sumTo tProto l (k+1)=sumTo tProto l k+tProto (l[k]?.getD ProtoD.z)∧sumTo tProto l (k+1)≤sumAll tProto l):=⟨sumTo_succ tProto l k ProtoD.z hlt,sumTo_le tProto l (k+1)⟩
    clear hcc
    generalize l[k]?.getD ProtoD.z=fd at *
    obtain⟨a5,c5,h5,H5⟩:=N.ups
    obtain⟨a6,c6,h6,H6⟩:=N.consts
    obtain⟨a7,c7,h7,H7⟩:=N.ins
    obtain⟨a8,c8,h8,H8⟩:=N.named
    have c0:=N.name;have c1:=N.line;have c2:=N.params;have c3:=N.rest;have c4:=N.regs
    by_cases hq:x<tProto fd
    ·have B1:Hid (bud x (fd.name.size+fd.ups.length+tVals fd.consts+fd.ins.length+tNams fd.named)=-1):=bud_no (by unfold tProto at hq;omega)
     go_wp2_with fail
     refine(szProto_any _ _ _ _ _ _ _ _ _ _ _ _ _ _ _ _ _ S _ _ N.names H5 H6 H7 H8 hBr (by omega) (by omega)).mono ?_
     rintro e w' ⟨rfl,hb'⟩
     rw[B1.out]
     go_wp2_with fail
     go_ret
     have h1:=HS.out;have h2:=hxe.out
     exact⟨ret_int (bud_no (by unfold tProtos;omega)).symm,hbw.trans (hb'.mono hbw.size)⟩
    ·have B1:Hid (bud x (fd.name.size+fd.ups.length+tVals fd.consts+fd.ins.length+tNams fd.named)=x-tProto fd):=by show _=_;rw[bud_yes (by unfold tProto at hq;omega)];unfold tProto;omega
     generalize tProto fd=tn at *
     go_wp2_with fail
     refine(szProto_any _ _ _ _ _ _ _ _ _ _ _ _ _ _ _ _ _ S _ _ N.names H5 H6 H7 H8 hBr (by omega) (by omega)).mono ?_
     rintro e w' ⟨rfl,hb'⟩
     rw[B1.out]
     go_wp2_with fail
     go_roundw
     case rel=>
      have h1:=HS.out;have h2:=hxe.out
      exact⟨k+1,x-tn,by omega,by go_num,by go_num,by omega,by omega,show _=_ by omega,hbw.trans (hb'.mono hbw.size)⟩
     case measure=>simp[intOf];omega
   ·have HK:Hid (k=l.length):=by show _=_;omega
    go_wp2_with fail
    go_ret
    have h1:=sumTo_len tProto l;have h2:=hxe.out;have h3:=HK.out
    rw[h3,h1]at h2
    exact⟨ret_int (by rw[bud_yes (by unfold tProtos;omega)];unfold tProtos;omega),hbw⟩
theorem szCode_any (a:Option Addr)(l:List ProtoD)(c:Nat)(S:Nat→Prop)(w:World)(hs:ProtosAt w S a l)(hB:∀ b,S b→b<w.heap.size) :
  Calls Tryz.prog 4 #[.agg #[.slice a l.length c],.int .i64 1048576] w fun e w'=>e=.returned (.int .i64 (bud 1048576 (tProtos l)))∧Below w.heap.size w w':=by
 have hbA:∀ o,Below w.heap.size w (w.alloc o):=fun o=>(Below.refl _ _).alloc (Nat.le_refl _) o
 have hBA:∀ o:Obj,∀ b,S b→b<(w.alloc o).heap.size:=fun o b h=>Nat.lt_of_lt_of_le (hB b h) (hbA o).size
 have K:Hid (∀ o,ProtosAt (w.alloc o) S a l):=fun o=>hs.keep (hbA o) hB
 by_cases q:(1048576:Int)<tProtos l
 ·have B1:Hid (bud 1048576 (tProtos l)=-1):=bud_no q
  go_enter Tryz.func4,Tryz.ntmps4
  go_wp2_with fail
  refine(szProtoS_any _ _ _ S _ _ (K.out _) (hBA _) (by omega) (by omega)).mono ?_
  rintro e w' ⟨rfl,hb'⟩
  rw[B1.out]
  go_wp2_with fail
  go_ret
  exact⟨ret_int B1.out.symm,(hbA _).trans (hb'.mono (by simp))⟩
 ·have B1:Hid (bud 1048576 (tProtos l)=1048576-tProtos l):=bud_yes (by omega)
  go_enter Tryz.func4,Tryz.ntmps4
  go_wp2_with fail
  refine(szProtoS_any _ _ _ S _ _ (K.out _) (hBA _) (by omega) (by omega)).mono ?_
  rintro e w' ⟨rfl,hb'⟩
  rw[B1.out]
  go_wp2_with fail
  go_ret
  exact⟨ret_int B1.out.symm,(hbA _).trans (hb'.mono (by simp))⟩
theorem toUpS_from {a:Option Addr}{l:List (Bool×Int)}{c:Nat}{S:Nat→Prop}(w W:World)(hs:UpsAt w S a l)(hB:∀ b,S b→b<w.heap.size)(hl:l.length≤1048576)(hW:Below w.heap.size w W) :
  Calls Tryz.prog 60 #[.slice a l.length c] W fun e w'=>∃ a' c',e=.returned (.slice a' l.length c')∧UpsAt w' (New W.heap.size w') a' l∧Below W.heap.size W w':=
 toUpS_any a l c S W (hs.keep hW hB) (fun b h=>Nat.lt_of_lt_of_le (hB b h) hW.size) hl
theorem toValueS_from {a:Option Addr}{l:List ValD}{c:Nat}{S:Nat→Prop}(w W:World)(hs:ValsAt w S a l)(hB:∀ b,S b→b<w.heap.size)(hl:l.length≤1048576)(hW:Below w.heap.size w W) :
  Calls Tryz.prog 61 #[.slice a l.length c] W fun e w'=>∃ a' c',e=.returned (.slice a' l.length c')∧ValsAt w' (New W.heap.size w') a' l∧Below W.heap.size W w':=
 toValueS_any a l c S W (hs.keep hW hB) (fun b h=>Nat.lt_of_lt_of_le (hB b h) hW.size) hl
theorem toInsS_from {a:Option Addr}{l:List InsD}{c:Nat}{S:Nat→Prop}(w W:World)(hs:InssAt w S a l)(hB:∀ b,S b→b<w.heap.size)(hl:l.length≤1048576)(hW:Below w.heap.size w W) :
  Calls Tryz.prog 62 #[.slice a l.length c] W fun e w'=>∃ a' c',e=.returned (.slice a' l.length c')∧InssAt w' (New W.heap.size w') a' l∧Below W.heap.size W w':=
 toInsS_any a l c S W (hs.keep hW hB) (fun b h=>Nat.lt_of_lt_of_le (hB b h) hW.size) hl
theorem toNamedS_from {a:Option Addr}{l:List NamD}{c:Nat}{S:Nat→Prop}(w W:World)(hs:NamsAt w S a l)(hB:∀ b,S b→b<w.heap.size)(hl:l.length≤1048576)(hW:Below w.heap.size w W) :
  Calls Tryz.prog 63 #[.slice a l.length c] W fun e w'=>∃ a' c',e=.returned (.slice a' l.length c')∧NamsAt w' (New W.heap.size w') a' l∧Below W.heap.size W w':=
 toNamedS_any a l c S W (hs.keep hW hB) (fun b h=>Nat.lt_of_lt_of_le (hB b h) hW.size) hl
theorem toProto_any (nm:ByteArray)(ln pr:Int)(rs:Bool)(rg:Int)(us:List (Bool×Int))(cs:List ValD)(is:List InsD)(ns:List NamD)(a5 a6 a7 a8:Option Addr)(c5 c6 c7 c8:Nat)(S:Nat→Prop)(w:World)
  (h5:UpsAt w S a5 us)(h6:ValsAt w S a6 cs)(h7:InssAt w S a7 is)(h8:NamsAt w S a8 ns)(hB:∀ b,S b→b<w.heap.size)(hl5:us.length≤1048576)(hl6:cs.length≤1048576)(hl7:is.length≤1048576)(hl8:ns.length≤1048576) :
  Calls Tryz.prog 31 #[.agg #[.string nm,.int .i64 ln,.int .i64 pr,.bool rs,.int .i64 rg,.slice a5 us.length c5,.slice a6 cs.length c6,.slice a7 is.length c7,.slice a8 ns.length c8]] w fun e w'=>
   ∃ a5' c5' a6' c6' a7' c7' a8' c8',e=.returned (.agg #[.string nm,.int .i64 ln,.int .i64 pr,.bool rs,.int .i64 rg,.slice a5' us.length c5',.slice a6' cs.length c6',.slice a7' is.length c7',.slice a8' ns.length c8'])∧UpsAt w' (New w.heap.size w') a5' us∧ValsAt w' (New w.heap.size w') a6' cs∧InssAt w' (New w.heap.size w') a7' is∧NamsAt w' (New w.heap.size w') a8' ns∧Below w.heap.size w w':=by
 go_enter Tryz.func31,Tryz.ntmps31
 go_wp2_with fail
 refine(toUpS_from w _ h5 hB hl5 ?hW0).mono ?_
 case hW0=>repeat (first | refine Below.alloc ?_ (by simp<;>omega) _ | refine Below.setCell ?_ (by simp<;>omega) _ | exact Below.refl _ _)
 rintro e w1 ⟨a5',c5',rfl,hI5,hb1⟩
 have hbw1:Below w.heap.size w w1:=by
  refine Below.trans (b:=_) ?_ (hb1.mono (by simp<;>omega))
  repeat (first | refine Below.alloc ?_ (by simp<;>omega) _ | refine Below.setCell ?_ (by simp<;>omega) _ | exact Below.refl _ _)
 obtain⟨hc1,hf1⟩:=bcell hb1
 have hz1_:w.heap.size+1+1+1≤w1.heap.size:=by have:=hb1.size;simpa using this
 have hz1a:w.heap.size<w1.heap.size:=by omega
 have hz1b:w.heap.size+1<w1.heap.size:=by omega
 have hz1c:w.heap.size+1+1<w1.heap.size:=by omega
 replace hI5:UpsAt w1 (New (w.heap.size+3) w1) a5' us:=hI5.mono (fun b h=>⟨by have:=h.1;simp at this;omega,h.2⟩)
 clear hb1
 go_wp2_with fail
 refine(toValueS_from w _ h6 hB hl6 ?hW1).mono ?_
 case hW1=>repeat (first | refine Below.setCell ?_ (by simp<;>omega) _ | exact hbw1)
 rintro e w2 ⟨a6',c6',rfl,hI6,hb2⟩
 have hbw2:Below w.heap.size w w2:=by
  refine Below.trans (b:=_) ?_ (hb2.mono (by simp<;>omega))
  repeat (first | refine Below.setCell ?_ (by simp<;>omega) _ | exact hbw1)
 obtain⟨hc2,hf2⟩:=bcell hb2
 have hz2_:w1.heap.size≤w2.heap.size:=by have:=hb2.size;simpa using this
 have hz2a:w.heap.size<w2.heap.size:=by omega
 have hz2b:w.heap.size+1<w2.heap.size:=by omega
 have hz2c:w.heap.size+1+1<w2.heap.size:=by omega
 replace hI6:ValsAt w2 (New (w.heap.size+3) w2) a6' cs:=hI6.mono (fun b h=>⟨by have:=h.1;simp at this;omega,h.2⟩)
 replace hI5:UpsAt w2 (New (w.heap.size+3) w1) a5' us:=by
  refine hI5.same (Same.below (Same.setCell Same.refl ?_ _) hb2 (fun b h=>by have:=h.2;simp;omega))
  intro h;have:=h.1;simp at this;omega
 clear hb2
 go_wp2_with fail
 refine(toInsS_from w _ h7 hB hl7 ?hW2).mono ?_
 case hW2=>repeat (first | refine Below.setCell ?_ (by simp<;>omega) _ | exact hbw2)
 rintro e w3 ⟨a7',c7',rfl,hI7,hb3⟩
 have hbw3:Below w.heap.size w w3:=by
  refine Below.trans (b:=_) ?_ (hb3.mono (by simp<;>omega))
  repeat (first | refine Below.setCell ?_ (by simp<;>omega) _ | exact hbw2)
 obtain⟨hc3,hf3⟩:=bcell hb3
 have hz3_:w2.heap.size≤w3.heap.size:=by have:=hb3.size;simpa using this
 have hz3a:w.heap.size<w3.heap.size:=by omega
 have hz3b:w.heap.size+1<w3.heap.size:=by omega
 have hz3c:w.heap.size+1+1<w3.heap.size:=by omega
 replace hI7:InssAt w3 (New (w.heap.size+3) w3) a7' is:=hI7.mono (fun b h=>⟨by have:=h.1;simp at this;omega,h.2⟩)
 replace hI5:UpsAt w3 (New (w.heap.size+3) w1) a5' us:=by
  refine hI5.same (Same.below (Same.setCell Same.refl ?_ _) hb3 (fun b h=>by have:=h.2;simp;omega))
  intro h;have:=h.1;simp at this;omega
 replace hI6:ValsAt w3 (New (w.heap.size+3) w2) a6' cs:=by
  refine hI6.same (Same.below (Same.setCell Same.refl ?_ _) hb3 (fun b h=>by have:=h.2;simp;omega))
  intro h;have:=h.1;simp at this;omega
 clear hb3
 go_wp2_with fail
 refine(toNamedS_from w _ h8 hB hl8 ?hW3).mono ?_
 case hW3=>repeat (first | refine Below.setCell ?_ (by simp<;>omega) _ | exact hbw3)
 rintro e w4 ⟨a8',c8',rfl,hI8,hb4⟩
 have hbw4:Below w.heap.size w w4:=by
  refine Below.trans (b:=_) ?_ (hb4.mono (by simp<;>omega))
  repeat (first | refine Below.setCell ?_ (by simp<;>omega) _ | exact hbw3)
 obtain⟨hc4,hf4⟩:=bcell hb4
 have hz4_:w3.heap.size≤w4.heap.size:=by have:=hb4.size;simpa using this
 have hz4a:w.heap.size<w4.heap.size:=by omega
 have hz4b:w.heap.size+1<w4.heap.size:=by omega
 have hz4c:w.heap.size+1+1<w4.heap.size:=by omega
 replace hI8:NamsAt w4 (New (w.heap.size+3) w4) a8' ns:=hI8.mono (fun b h=>⟨by have:=h.1;simp at this;omega,h.2⟩)
 replace hI5:UpsAt w4 (New (w.heap.size+3) w1) a5' us:=by
  refine hI5.same (Same.below (Same.setCell Same.refl ?_ _) hb4 (fun b h=>by have:=h.2;simp;omega))
  intro h;have:=h.1;simp at this;omega
 replace hI6:ValsAt w4 (New (w.heap.size+3) w2) a6' cs:=by
  refine hI6.same (Same.below (Same.setCell Same.refl ?_ _) hb4 (fun b h=>by have:=h.2;simp;omega))
  intro h;have:=h.1;simp at this;omega
 replace hI7:InssAt w4 (New (w.heap.size+3) w3) a7' is:=by
  refine hI7.same (Same.below (Same.setCell Same.refl ?_ _) hb4 (fun b h=>by have:=h.2;simp;omega))
  intro h;have:=h.1;simp at this;omega
 clear hb4
 have p1:∀ W:World,¬New (w.heap.size+3) W (w.heap.size+1):=fun W h=>by have:=h.1;omega
 have p2:∀ W:World,¬New (w.heap.size+3) W (w.heap.size+1+1):=fun W h=>by have:=h.1;omega
 have b1:w.heap.size≤w.heap.size+1:=by omega
 have b2:w.heap.size≤w.heap.size+1+1:=by omega
 have m1:∀ V:World,V.heap.size≤w4.heap.size→∀ W:World,W.heap.size=w4.heap.size→∀ b,New (w.heap.size+3) V b→New w.heap.size W b:=fun V hV W e b h=>⟨by have:=h.1;omega,by have:=h.2;omega⟩
 have q1:w1.heap.size≤w4.heap.size:=by omega
 have q2:w2.heap.size≤w4.heap.size:=by omega
 have M:=hide (And.intro (And.intro p1 p2) (And.intro (And.intro b1 b2) (And.intro m1 (And.intro q1 (And.intro q2 hz4_)))))
 clear p1 p2 b1 b2 m1 q1 q2
 go_wp2_with fail
 obtain⟨⟨p1,p2⟩,⟨b1,b2⟩,m1,q1,q2,q3⟩:=unhide M
 refine bodyPost_ret (v:=.agg #[.string nm,.int .i64 ln,.int .i64 pr,.bool rs,.int .i64 rg,.slice a5' us.length c5',.slice a6' cs.length c6',.slice a7' is.length c7',.slice a8' ns.length c8']) (by simp[results,Tryz.results31,go_sem,hc1,hc2,hc3,hc4,hz1b,hz2b,hz3b]) rfl ⟨a5',c5',a6',c6',a7',c7',a8',c8',rfl,?_,?_,?_,?_,?_⟩
 ·refine(hI5.same ?_).mono (m1 _ q1 _ (by simp))
  iterate 9 refine Same.setCell ?_ (p1 _) _
  refine Same.setCell ?_ (p2 _) _
  exact Same.refl
 ·refine(hI6.same ?_).mono (m1 _ q2 _ (by simp))
  iterate 9 refine Same.setCell ?_ (p1 _) _
  refine Same.setCell ?_ (p2 _) _
  exact Same.refl
 ·refine(hI7.same ?_).mono (m1 _ q3 _ (by simp))
  iterate 9 refine Same.setCell ?_ (p1 _) _
  refine Same.setCell ?_ (p2 _) _
  exact Same.refl
 ·refine(hI8.same ?_).mono (m1 _ (Nat.le_refl _) _ (by simp))
  iterate 9 refine Same.setCell ?_ (p1 _) _
  refine Same.setCell ?_ (p2 _) _
  exact Same.refl
 ·iterate 9 refine Below.setCell ?_ b1 _
  refine Below.setCell ?_ b2 _
  exact hbw4
theorem info_proto:(Tryz.prog.info? 58).map (fun i=>(i.zero,i.size,i.bytes))=some (some (.agg #[.string ByteArray.empty,.int .i64 0,.int .i64 0,.bool false,.int .i64 0,.slice none 0 0,.slice none 0 0,.slice none 0 0,.slice none 0 0]),9,144):=by kernel_rfl
def protoZ:List Value:=[.string ByteArray.empty,.int .i64 0,.int .i64 0,.bool false,.int .i64 0,.slice none 0 0,.slice none 0 0,.slice none 0 0,.slice none 0 0]
structure ProtoR where
 a5:Option Addr
 c5:Nat
 a6:Option Addr
 c6:Nat
 a7:Option Addr
 c7:Nat
 a8:Option Addr
 c8:Nat
def protoVals (R:Nat→ProtoR)(i:Nat)(n:ProtoD):List Value:=[.string n.name,.int .i64 n.line,.int .i64 n.params,.bool n.rest,.int .i64 n.regs,.slice (R i).a5 n.ups.length (R i).c5,.slice (R i).a6 n.consts.length (R i).c6,.slice (R i).a7 n.ins.length (R i).c7,.slice (R i).a8 n.named.length (R i).c8]
structure ProtoIn (w:World)(S:Nat→Prop)(R:ProtoR)(n:ProtoD):Prop where
 h5:UpsAt w S R.a5 n.ups
 h6:ValsAt w S R.a6 n.consts
 h7:InssAt w S R.a7 n.ins
 h8:NamsAt w S R.a8 n.named
theorem ProtoIn.same {w w':World}{S:Nat→Prop}{R:ProtoR}{n:ProtoD}(h:ProtoIn w S R n)(hb:Same S w w'):ProtoIn w' S R n:=⟨h.h5.same hb,h.h6.same hb,h.h7.same hb,h.h8.same hb⟩
theorem ProtoIn.mono {w:World}{S S':Nat→Prop}{R:ProtoR}{n:ProtoD}(h:ProtoIn w S R n)(hS:∀ b,S b→S' b):ProtoIn w S' R n:=⟨h.h5.mono hS,h.h6.mono hS,h.h7.mono hS,h.h8.mono hS⟩
theorem toProtoS_any (a:Option Addr)(l:List ProtoD)(c:Nat)(S:Nat→Prop)(w:World)(hs:ProtosAt w S a l)(hB:∀ b,S b→b<w.heap.size)(hl:tProtos l≤1048576) :
  Calls Tryz.prog 13 #[.slice a l.length c] w fun e w'=>∃ a' c',e=.returned (.slice a' l.length c')∧ProtosAt w' (New w.heap.size w') a' l∧Below w.heap.size w w':=by
 have hn:=hs.1
 have hll:l.length≤1048576:=by unfold tProtos at hl;omega
 have hel:∀ k,k<l.length→(l[k]?.getD ProtoD.z).ups.length≤1048576∧(l[k]?.getD ProtoD.z).consts.length≤1048576∧(l[k]?.getD ProtoD.z).ins.length≤1048576∧(l[k]?.getD ProtoD.z).named.length≤1048576:=fun k hk=>by
  have h1:=sumTo_succ tProto l k ProtoD.z hk
  have h2:=sumTo_le tProto l (k+1)
  unfold tProtos at hl
  generalize l[k]?.getD ProtoD.z=fd at *
  have h3:tProto fd=fd.name.size+fd.ups.length+tVals fd.consts+fd.ins.length+tNams fd.named:=rfl
  have h4:tVals fd.consts=fd.consts.length+sumAll tVal fd.consts:=rfl
  have h5:tNams fd.named=fd.named.length+sumAll tNam fd.named:=rfl
  refine⟨?_,?_,?_,?_⟩<;>omega
 have HEL:=hide hel
 clear hel hl
 have hmk:∀ w:World,(Instr.makeSlice 29 (.int .i64 (l.length:Int)) (.int .i64 (l.length:Int))).run Tryz.prog w=.ok (.slice (some ⟨w.heap.size,0,none⟩) l.length l.length) (w.alloc (.cells (madeCells protoZ.toArray (l.length * 9)) 58)):=
  run_make_wide (P:=Tryz.prog) 29 58 _ 9 144 Tryz.underlying29 info_proto .i64 .i64 l.length (by omega) hn
 go_enter Tryz.func13,Tryz.ntmps13
 go_wp2_with fail
 clear hmk
 go_loopw [4] (fun i wr=>∃(k:Nat) (R:Nat→ProtoR),k≤l.length∧i=.int .i64 k∧Below w.heap.size w wr∧wr.rowIs w.heap.size 58 (l.length * 9) (rowF 9 (protoVals R) protoZ l ProtoD.z k) ∧
   (∀ i,i<k→ProtoIn wr (New (w.heap.size+1) wr) (R i) (l[i]?.getD ProtoD.z))) (fun i _=>l.length-(intOf i).toNat)
 case atStart=>exact⟨0,fun _=>⟨none,0,none,0,none,0,none,0⟩,Nat.zero_le _,rfl,(Below.refl _ _).alloc (Nat.le_refl _) _,row_made _ _ rfl (by decide),fun i hi=>absurd hi (Nat.not_lt_zero _)⟩
 case round=>
  obtain⟨k,R,hk,rfl,hbw,hrow,hR⟩:=hrel
  have HR:=hide hR
  clear hR
  by_cases hlt:k<l.length
  ·obtain⟨b,off,rfl,hb,hcc⟩:=(hs.keep hbw hB).2 (by omega)
   have N:=hcc k hlt
   obtain⟨hl5,hl6,hl7,hl8⟩:=unhide HEL k hlt
   clear hcc
   have HNX:Hid (∀(W:World) (R':Nat→ProtoR),(∀ i,i<k→R' i=R i)→W.rowIs w.heap.size 58 (l.length * 9) (rowF 9 (protoVals R) protoZ l ProtoD.z k)→(putL w.heap.size W (k * 9) (protoVals R' k (l[k]?.getD ProtoD.z))).rowIs w.heap.size 58 (l.length * 9) (rowF 9 (protoVals R') protoZ l ProtoD.z (k+1))):=fun W R' hR' hW=>
    row_next (sz:=9) (vals:=protoVals R) (vals':=protoVals R') (z:=protoZ) (l:=l) (d:=ProtoD.z) (by decide) rfl (fun i hi=>by unfold protoVals;rw[hR' i hi]) hW
   generalize hx:l[k]?.getD ProtoD.z=nd at *
   have HX:=hide hx
   clear hx
   obtain⟨a5,c5,h5,H5⟩:=N.ups
   obtain⟨a6,c6,h6,H6⟩:=N.consts
   obtain⟨a7,c7,h7,H7⟩:=N.ins
   obtain⟨a8,c8,h8,H8⟩:=N.named
   have c0:=N.name;have c1:=N.line;have c2:=N.params;have c3:=N.rest;have c4:=N.regs
   have hBr:∀ b,S b→b<wr.heap.size:=fun b h=>Nat.lt_of_lt_of_le (hB b h) hbw.size
   go_wp2_with fail
   refine(toProto_any _ _ _ _ _ _ _ _ _ _ _ _ _ _ _ _ _ S _ H5 H6 H7 H8 hBr hl5 hl6 hl7 hl8).mono ?_
   rintro e w' ⟨a5',c5',a6',c6',a7',c7',a8',c8',rfl,hI5,hI6,hI7,hI8,hb'⟩
   have hrow':=hrow.of_block (hb'.block _ hrow.lt)
   have hf0:=hrow'.frozen (k * 9);have hg0:=hrow'.cell (i:=k * 9) (by omega)
   have hf1:=hrow'.frozen (k * 9+1);have hg1:=hrow'.cell (i:=k * 9+1) (by omega)
   have hf2:=hrow'.frozen (k * 9+2);have hg2:=hrow'.cell (i:=k * 9+2) (by omega)
   have hf3:=hrow'.frozen (k * 9+3);have hg3:=hrow'.cell (i:=k * 9+3) (by omega)
   have hf4:=hrow'.frozen (k * 9+4);have hg4:=hrow'.cell (i:=k * 9+4) (by omega)
   have hf5:=hrow'.frozen (k * 9+5);have hg5:=hrow'.cell (i:=k * 9+5) (by omega)
   have hf6:=hrow'.frozen (k * 9+6);have hg6:=hrow'.cell (i:=k * 9+6) (by omega)
   have hf7:=hrow'.frozen (k * 9+7);have hg7:=hrow'.cell (i:=k * 9+7) (by omega)
   have hf8:=hrow'.frozen (k * 9+8);have hg8:=hrow'.cell (i:=k * 9+8) (by omega)
   have HROW:=hide hrow'
   have hG:w.heap.size<wr.heap.size:=hrow.lt
   have HBW:=hide (hbw.trans (hb'.mono hbw.size))
   have HB':=hide hb'
   have HIN:Hid (ProtoIn w' (New wr.heap.size w') ⟨a5',c5',a6',c6',a7',c7',a8',c8'⟩ nd):=⟨hI5,hI6,hI7,hI8⟩
   clear c0 c1 c2 c3 c4 h5 h6 h7 h8 hrow hrow' hb' hI5 hI6 hI7 hI8 N H5 H6 H7 H8
   go_wp2_with fail
   go_roundw
   case rel=>
    clear hf0 hg0 hf1 hg1 hf2 hg2 hf3 hg3 hf4 hg4 hf5 hg5 hf6 hg6 hf7 hg7 hf8 hg8
    have hx:=unhide HX
    have hb':=unhide HB'
    have hRk:(fun i=>if i=k then(⟨a5',c5',a6',c6',a7',c7',a8',c8'⟩:ProtoR)else R i) k=⟨a5',c5',a6',c6',a7',c7',a8',c8'⟩:=if_pos rfl
    have hvk:protoVals (fun i=>if i=k then(⟨a5',c5',a6',c6',a7',c7',a8',c8'⟩:ProtoR)else R i) k nd=[.string nd.name,.int .i64 nd.line,.int .i64 nd.params,.bool nd.rest,.int .i64 nd.regs,.slice a5' nd.ups.length c5',.slice a6' nd.consts.length c6',.slice a7' nd.ins.length c7',.slice a8' nd.named.length c8']:=by
     unfold protoVals
     rw[hRk]
    have hr2:=unhide HNX _ (fun i=>if i=k then(⟨a5',c5',a6',c6',a7',c7',a8',c8'⟩:ProtoR)else R i) (fun i hi=>if_neg (by omega)) (unhide HROW)
    rw[hvk]at hr2
    have hm:∀ W:World,W.heap.size=w'.heap.size→∀ b,New (w.heap.size+1) wr b→New (w.heap.size+1) W b:=fun W e b h=>⟨h.1,by have:=h.2;have:=hb'.size;omega⟩
    have hm':∀ W:World,W.heap.size=w'.heap.size→∀ b,New wr.heap.size w' b→New (w.heap.size+1) W b:=fun W e b h=>⟨by have:=h.1;omega,by have:=h.2;omega⟩
    have hng:¬New (w.heap.size+1) wr w.heap.size:=fun h=>by have:=h.1;omega
    have hng':¬New wr.heap.size w' w.heap.size:=fun h=>by have:=h.1;omega
    have hsame:Same (New (w.heap.size+1) wr) wr w':=.of_below hb' (fun b h=>h.2)
    have key:∀ VS:List Value,∀ i,i<k+1→ProtoIn (putL w.heap.size w' (k * 9) VS) (New (w.heap.size+1) (putL w.heap.size w' (k * 9) VS)) (if i=k then(⟨a5',c5',a6',c6',a7',c7',a8',c8'⟩:ProtoR)else R i) (l[i]?.getD ProtoD.z):=fun VS i hi=>by
     by_cases e:i=k
     ·rw[if_pos e,e,hx]
      exact((unhide HIN).same (same_putL hng' VS w' (k * 9) Same.refl)).mono (hm' _ (size_putL VS w' (k * 9)))
     ·rw[if_neg e]
      exact((unhide HR i (by omega)).same (same_putL hng VS w' (k * 9) hsame)).mono (hm _ (size_putL VS w' (k * 9)))
    have key2:=key [.string nd.name,.int .i64 nd.line,.int .i64 nd.params,.bool nd.rest,.int .i64 nd.regs,.slice a5' nd.ups.length c5',.slice a6' nd.consts.length c6',.slice a7' nd.ins.length c7',.slice a8' nd.named.length c8']
    have hbl:=below_putL (w:=w) (Nat.le_refl w.heap.size) [.string nd.name,.int .i64 nd.line,.int .i64 nd.params,.bool nd.rest,.int .i64 nd.regs,.slice a5' nd.ups.length c5',.slice a6' nd.consts.length c6',.slice a7' nd.ins.length c7',.slice a8' nd.named.length c8'] w' (k * 9) (unhide HBW)
    clear key hng hng' hm hm' hsame
    exact⟨k+1,fun i=>if i=k then⟨a5',c5',a6',c6',a7',c7',a8',c8'⟩else R i,by omega,by go_num,hbl,hr2,key2⟩
   case measure=>simp[intOf];omega
  ·have HK:Hid (k=l.length):=by show _=_;omega
   go_wp2_with fail
   go_ret
   refine⟨_,_,rfl,?_,hbw⟩
   have hkl:=HK.out
   refine⟨hn,fun h0=>⟨_,0,rfl,⟨Nat.le_refl _,hrow.lt⟩,fun j hj=>?_⟩⟩
   obtain⟨b,off,_,_,hcc⟩:=hs.2 h0
   have h1:=(unhide HR j (by omega)).mono (S':=New w.heap.size wr) (fun b h=>⟨by have:=h.1;omega,h.2⟩)
   exact { names:=(hcc j hj).names,name:=row_cell hrow hkl (r:=0) hj (by omega),line:=row_cell hrow hkl (r:=1) hj (by omega),params:=row_cell hrow hkl (r:=2) hj (by omega),rest:=row_cell hrow hkl (r:=3) hj (by omega),regs:=row_cell hrow hkl (r:=4) hj (by omega),ups:=⟨_,_,row_cell hrow hkl (r:=5) hj (by omega),h1.h5⟩,consts:=⟨_,_,row_cell hrow hkl (r:=6) hj (by omega),h1.h6⟩,ins:=⟨_,_,row_cell hrow hkl (r:=7) hj (by omega),h1.h7⟩,named:=⟨_,_,row_cell hrow hkl (r:=8) hj (by omega),h1.h8⟩ }
theorem toCode_any (a:Option Addr)(l:List ProtoD)(c:Nat)(S:Nat→Prop)(w:World)(hs:ProtosAt w S a l)(hB:∀ b,S b→b<w.heap.size)(hl:tProtos l≤1048576) :
  Calls Tryz.prog 6 #[.agg #[.slice a l.length c]] w fun e w'=>∃ a' c',e=.returned (.agg #[.slice a' l.length c'])∧ProtosAt w' (New w.heap.size w') a' l∧Below w.heap.size w w':=by
 go_enter Tryz.func6,Tryz.ntmps6
 go_wp2_with fail
 have hbA:Below w.heap.size w (((w.alloc (.cells #[.slice a l.length c] 24)).alloc (.cells #[.slice none 0 0] 31)).alloc (.cells #[.slice none 0 0] 31)):=by
  repeat (first | refine Below.alloc ?_ (by simp<;>omega) _ | exact Below.refl _ _)
 refine(toProtoS_any _ _ _ S _ (hs.keep hbA hB) (fun b h=>Nat.lt_of_lt_of_le (hB b h) hbA.size) hl).mono ?_
 rintro e w1 ⟨a',c',rfl,hI,hb1⟩
 have hbw1:Below w.heap.size w w1:=hbA.trans (hb1.mono hbA.size)
 obtain⟨hc,hf⟩:=bcell hb1
 have hz:w.heap.size+1+1+1≤w1.heap.size:=by have:=hb1.size;simpa using this
 have hz0:w.heap.size<w1.heap.size:=by omega
 have hz1:w.heap.size+1<w1.heap.size:=by omega
 have hz2:w.heap.size+1+1<w1.heap.size:=by omega
 replace hI:ProtosAt w1 (New (w.heap.size+3) w1) a' l:=hI.mono (fun b h=>⟨by have:=h.1;simp at this;omega,h.2⟩)
 clear hb1
 have p1:∀ W:World,¬New (w.heap.size+3) W (w.heap.size+1):=fun W h=>by have:=h.1;omega
 have p2:∀ W:World,¬New (w.heap.size+3) W (w.heap.size+1+1):=fun W h=>by have:=h.1;omega
 have b1:w.heap.size≤w.heap.size+1:=by omega
 have b2:w.heap.size≤w.heap.size+1+1:=by omega
 have m1:∀ W:World,W.heap.size=w1.heap.size→∀ b,New (w.heap.size+3) w1 b→New w.heap.size W b:=fun W e b h=>⟨by have:=h.1;omega,by have:=h.2;omega⟩
 have M:=hide (And.intro (And.intro p1 p2) (And.intro (And.intro b1 b2) m1))
 clear p1 p2 b1 b2 m1
 go_wp2_with fail
 obtain⟨⟨p1,p2⟩,⟨b1,b2⟩,m1⟩:=unhide M
 refine bodyPost_ret (v:=.agg #[.slice a' l.length c']) (by simp[results,Tryz.results6,go_sem,hc]) rfl ⟨a',c',rfl,?_,?_⟩
 ·refine(hI.same ?_).mono (m1 _ (by simp))
  refine Same.setCell ?_ (p1 _) _
  refine Same.setCell ?_ (p2 _) _
  exact Same.refl
 ·refine Below.setCell ?_ b1 _
  refine Below.setCell ?_ b2 _
  exact hbw1
end Go.Proofs.YtmjcpapdncfkpaaGreatDoor
