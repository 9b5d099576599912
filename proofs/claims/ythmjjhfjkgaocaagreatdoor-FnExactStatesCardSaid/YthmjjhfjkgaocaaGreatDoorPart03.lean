import Derived.Test.YthmjjhfjkgaocaaGreatDoorPart02
import Derived.Test.YthmjjhfjkgaocaaGreatDoorProg
import Derived.WalkKit
import Derived.WalkSpells
import Derived.WalkLawsBesides
set_option linter.unusedSimpArgs false
set_option linter.unusedVariables false
set_option maxHeartbeats 4000000
set_option maxRecDepth 100000
namespace Go.Proofs.YthmjjhfjkgaocaaGreatDoor
open Go.RowKit
attribute [local go_sem] run_store_float
theorem bcellS {W w1:World}(hb:BelowS W.heap.size W w1):(∀ b o,b<W.heap.size→w1.cell? ⟨b,o,none⟩=W.cell? ⟨b,o,none⟩)∧(∀ b o,b<W.heap.size→w1.frozen? ⟨b,o,none⟩=W.frozen? ⟨b,o,none⟩):=bcell hb.1
theorem belowS_putL {B G:Nat}{w:World}(hG:B≤G):∀(vs:List Value)(w1:World)(o:Nat),BelowS B w w1→BelowS B w (putL G w1 o vs)
 | [],_,_,h=>h
 | v::vs,w1,o,h=>belowS_putL hG vs _ (o+1) (h.setCell hG v)
theorem toUp_soft (v0:Bool)(v1:Int)(w:World) :
  Calls Tryz.prog 102 #[.agg #[.bool v0,.int .i64 v1]] w fun e w'=>e=.returned (.agg #[.bool v0,.int .i64 v1])∧BelowS w.heap.size w w':=by
 go_enter Tryz.func102,Tryz.ntmps102
 go_wp2_with fail
 exact bodyPost_ret (v:=.agg #[.bool v0,.int .i64 v1]) (by simp[results,Tryz.results102,go_sem]) rfl ⟨rfl,by repeat (first | refine BelowS.alloc ?_ (by simp<;>omega) () | exact BelowS.refl _ _)⟩
theorem toUpS_soft (a:Option Addr)(l:List (Bool×Int))(c:Nat)(S:Nat→Prop)(w:World)(hs:UpsAt w S a l)(hB:∀ b,S b→b<w.heap.size)(hl:l.length≤1048576) :
  Calls Tryz.prog 67 #[.slice a l.length c] w fun e w'=>∃ a' c',e=.returned (.slice a' l.length c')∧UpsAt w' (New w.heap.size w') a' l∧BelowS w.heap.size w w':=by
 have hn:=hs.1
 have hmk:∀ w:World,(Instr.makeSlice 48 (.int .i64 (l.length:Int)) (.int .i64 (l.length:Int))).run Tryz.prog w=.ok (.slice (some ⟨w.heap.size,0,none⟩) l.length l.length) (w.alloc (.cells (madeCells upZ.toArray (l.length * 2)) 119)):=
  run_make_wide (P:=Tryz.prog) 48 119 _ 2 16 Tryz.underlying48 info_up .i64 .i64 l.length (by omega) hn
 go_enter Tryz.func67,Tryz.ntmps67
 go_wp2_with fail
 clear hmk
 go_loopw [4] (fun i wr=>∃(k:Nat),k≤l.length∧i=.int .i64 k∧BelowS w.heap.size w wr∧wr.rowIs w.heap.size 119 (l.length * 2) (rowF 2 (fun _=>upVals) upZ l (false,0) k)) (fun i _=>l.length-(intOf i).toNat)
 case atStart=>exact⟨0,Nat.zero_le _,rfl,(BelowS.refl _ _).alloc (Nat.le_refl _) (),row_made _ _ rfl (by decide)⟩
 case round=>
  obtain⟨k,hk,rfl,hbw,hrow⟩:=hrel
  by_cases hlt:k<l.length
  ·obtain⟨b,off,rfl,hb,hcc⟩:=(hs.keep hbw.1 hB).2 (by omega)
   have N:=hcc k hlt
   clear hcc
   have HN:Hid (∀ W:World,W.rowIs w.heap.size 119 (l.length * 2) (rowF 2 (fun _=>upVals) upZ l (false,0) k)→(putL w.heap.size W (k * 2) (upVals (l[k]?.getD (false,0)))).rowIs w.heap.size 119 (l.length * 2) (rowF 2 (fun _=>upVals) upZ l (false,0) (k+1))):=fun W hW=>row_next (sz:=2) (vals:=fun _=>upVals) (vals':=fun _=>upVals) (z:=upZ) (l:=l) (d:=(false,0)) (by decide) rfl (fun _ _=>rfl) hW
   generalize l[k]?.getD (false,0)=nd at *
   obtain⟨h1,h2⟩:=N
   go_wp2_with fail
   refine(toUp_soft _ _ _).mono ?_
   rintro e w' ⟨rfl,hb'⟩
   have hrow':=hrow.of_block (hb'.block _ hrow.lt)
   have hf0:=hrow'.frozen (k * 2);have hf1:=hrow'.frozen (k * 2+1)
   have hg0:=hrow'.cell (i:=k * 2) (by omega);have hg1:=hrow'.cell (i:=k * 2+1) (by omega)
   have HR:=hide hrow'
   have HBW:=hide (hbw.trans (hb'.mono hbw.size))
   clear h1 h2 hrow hrow' hbw hb'
   go_wp2_with fail
   go_roundw
   case rel=>
    clear hf0 hg0 hf1 hg1
    exact⟨k+1,by omega,by go_num,belowS_putL (Nat.le_refl _) (upVals nd) _ (k * 2) (unhide HBW),unhide HN _ (unhide HR)⟩
   case measure=>simp[intOf];omega
  ·have HK:Hid (k=l.length):=by show _=_;omega
   go_wp2_with fail
   go_ret
   have hkl:=HK.out
   exact⟨_,_,rfl,⟨hn,fun h0=>⟨_,0,rfl,⟨Nat.le_refl _,hrow.lt⟩,fun j hj=>⟨row_cell hrow hkl (r:=0) hj (by omega),row_cell hrow hkl (r:=1) hj (by omega)⟩⟩⟩,hbw⟩
theorem toValue_soft (v0:Int)(v1:Int)(v2:Nat)(v3:ByteArray)(v4:Int)(w:World) :
  Calls Tryz.prog 103 #[.agg #[.int .i64 v0,.int .i64 v1,.float .f64 v2,.string v3,.int .i64 v4]] w fun e w'=>e=.returned (.agg #[.int .i64 v0,.int .i64 v1,.float .f64 v2,.string v3,.int .i64 v4])∧BelowS w.heap.size w w':=by
 go_enter Tryz.func103,Tryz.ntmps103
 go_wp2_with fail
 exact bodyPost_ret (v:=.agg #[.int .i64 v0,.int .i64 v1,.float .f64 v2,.string v3,.int .i64 v4]) (by simp[results,Tryz.results103,go_sem]) rfl ⟨rfl,by repeat (first | refine BelowS.alloc ?_ (by simp<;>omega) () | exact BelowS.refl _ _)⟩
theorem toValueS_soft (a:Option Addr)(l:List (ValD))(c:Nat)(S:Nat→Prop)(w:World)(hs:ValsAt w S a l)(hB:∀ b,S b→b<w.heap.size)(hl:l.length≤1048576) :
  Calls Tryz.prog 68 #[.slice a l.length c] w fun e w'=>∃ a' c',e=.returned (.slice a' l.length c')∧ValsAt w' (New w.heap.size w') a' l∧BelowS w.heap.size w w':=by
 have hn:=hs.1
 have hmk:∀ w:World,(Instr.makeSlice 49 (.int .i64 (l.length:Int)) (.int .i64 (l.length:Int))).run Tryz.prog w=.ok (.slice (some ⟨w.heap.size,0,none⟩) l.length l.length) (w.alloc (.cells (madeCells valZ.toArray (l.length * 5)) 151)):=
  run_make_wide (P:=Tryz.prog) 49 151 _ 5 48 Tryz.underlying49 info_val .i64 .i64 l.length (by omega) hn
 go_enter Tryz.func68,Tryz.ntmps68
 go_wp2_with fail
 clear hmk
 go_loopw [4] (fun i wr=>∃(k:Nat),k≤l.length∧i=.int .i64 k∧BelowS w.heap.size w wr∧wr.rowIs w.heap.size 151 (l.length * 5) (rowF 5 (fun _=>valVals) valZ l ValD.z k)) (fun i _=>l.length-(intOf i).toNat)
 case atStart=>exact⟨0,Nat.zero_le _,rfl,(BelowS.refl _ _).alloc (Nat.le_refl _) (),row_made _ _ rfl (by decide)⟩
 case round=>
  obtain⟨k,hk,rfl,hbw,hrow⟩:=hrel
  by_cases hlt:k<l.length
  ·obtain⟨b,off,rfl,hb,hcc⟩:=(hs.keep hbw.1 hB).2 (by omega)
   have N:=hcc k hlt
   clear hcc
   have HN:Hid (∀ W:World,W.rowIs w.heap.size 151 (l.length * 5) (rowF 5 (fun _=>valVals) valZ l ValD.z k)→(putL w.heap.size W (k * 5) (valVals (l[k]?.getD ValD.z))).rowIs w.heap.size 151 (l.length * 5) (rowF 5 (fun _=>valVals) valZ l ValD.z (k+1))):=fun W hW=>row_next (sz:=5) (vals:=fun _=>valVals) (vals':=fun _=>valVals) (z:=valZ) (l:=l) (d:=ValD.z) (by decide) rfl (fun _ _=>rfl) hW
   generalize l[k]?.getD ValD.z=nd at *
   have c0:=N.kind;have c1:=N.num;have c2:=N.flt;have c3:=N.str;have c4:=N.ref
   go_wp2_with fail
   refine(toValue_soft _ _ _ _ _ _).mono ?_
   rintro e w' ⟨rfl,hb'⟩
   have hrow':=hrow.of_block (hb'.block _ hrow.lt)
   have hf0:=hrow'.frozen (k * 5);have hf1:=hrow'.frozen (k * 5+1);have hf2:=hrow'.frozen (k * 5+2);have hf3:=hrow'.frozen (k * 5+3);have hf4:=hrow'.frozen (k * 5+4)
   have hg0:=hrow'.cell (i:=k * 5) (by omega);have hg1:=hrow'.cell (i:=k * 5+1) (by omega);have hg2:=hrow'.cell (i:=k * 5+2) (by omega);have hg3:=hrow'.cell (i:=k * 5+3) (by omega);have hg4:=hrow'.cell (i:=k * 5+4) (by omega)
   have HR:=hide hrow'
   have HBW:=hide (hbw.trans (hb'.mono hbw.size))
   clear c0 c1 c2 c3 c4 hrow hrow' hbw hb'
   go_wp2_with fail
   go_roundw
   case rel=>
    clear hf0 hg0 hf1 hg1 hf2 hg2 hf3 hg3 hf4 hg4
    exact⟨k+1,by omega,by go_num,belowS_putL (Nat.le_refl _) (valVals nd) _ (k * 5) (unhide HBW),unhide HN _ (unhide HR)⟩
   case measure=>simp[intOf];omega
  ·have HK:Hid (k=l.length):=by show _=_;omega
   go_wp2_with fail
   go_ret
   have hkl:=HK.out
   have N:∀ j,j<l.length→(l[j]?.getD ValD.z).str.size≤9223372036854775807:=fun j hj=>by
    obtain⟨b,off,_,_,hcc⟩:=hs.2 (by omega)
    exact(hcc j hj).strs
   exact⟨_,_,rfl,⟨hn,fun h0=>⟨_,0,rfl,⟨Nat.le_refl _,hrow.lt⟩,fun j hj=>{ kind:=row_cell hrow hkl (r:=0) hj (by omega),num:=row_cell hrow hkl (r:=1) hj (by omega),flt:=row_cell hrow hkl (r:=2) hj (by omega),str:=row_cell hrow hkl (r:=3) hj (by omega),ref:=row_cell hrow hkl (r:=4) hj (by omega),strs:=N j hj }⟩⟩,hbw⟩
theorem toIns_soft (v0:Int)(v1:Int)(v2:Int)(v3:Int)(v4:Int)(w:World) :
  Calls Tryz.prog 104 #[.agg #[.int .i64 v0,.int .i64 v1,.int .i64 v2,.int .i64 v3,.int .i64 v4]] w fun e w'=>e=.returned (.agg #[.int .i64 v0,.int .i64 v1,.int .i64 v2,.int .i64 v3,.int .i64 v4])∧BelowS w.heap.size w w':=by
 go_enter Tryz.func104,Tryz.ntmps104
 go_wp2_with fail
 exact bodyPost_ret (v:=.agg #[.int .i64 v0,.int .i64 v1,.int .i64 v2,.int .i64 v3,.int .i64 v4]) (by simp[results,Tryz.results104,go_sem]) rfl ⟨rfl,by repeat (first | refine BelowS.alloc ?_ (by simp<;>omega) () | exact BelowS.refl _ _)⟩
theorem toInsS_soft (a:Option Addr)(l:List (InsD))(c:Nat)(S:Nat→Prop)(w:World)(hs:InssAt w S a l)(hB:∀ b,S b→b<w.heap.size)(hl:l.length≤1048576) :
  Calls Tryz.prog 69 #[.slice a l.length c] w fun e w'=>∃ a' c',e=.returned (.slice a' l.length c')∧InssAt w' (New w.heap.size w') a' l∧BelowS w.heap.size w w':=by
 have hn:=hs.1
 have hmk:∀ w:World,(Instr.makeSlice 50 (.int .i64 (l.length:Int)) (.int .i64 (l.length:Int))).run Tryz.prog w=.ok (.slice (some ⟨w.heap.size,0,none⟩) l.length l.length) (w.alloc (.cells (madeCells insZ.toArray (l.length * 5)) 78)):=
  run_make_wide (P:=Tryz.prog) 50 78 _ 5 40 Tryz.underlying50 info_ins .i64 .i64 l.length (by omega) hn
 go_enter Tryz.func69,Tryz.ntmps69
 go_wp2_with fail
 clear hmk
 go_loopw [4] (fun i wr=>∃(k:Nat),k≤l.length∧i=.int .i64 k∧BelowS w.heap.size w wr∧wr.rowIs w.heap.size 78 (l.length * 5) (rowF 5 (fun _=>insVals) insZ l InsD.z k)) (fun i _=>l.length-(intOf i).toNat)
 case atStart=>exact⟨0,Nat.zero_le _,rfl,(BelowS.refl _ _).alloc (Nat.le_refl _) (),row_made _ _ rfl (by decide)⟩
 case round=>
  obtain⟨k,hk,rfl,hbw,hrow⟩:=hrel
  by_cases hlt:k<l.length
  ·obtain⟨b,off,rfl,hb,hcc⟩:=(hs.keep hbw.1 hB).2 (by omega)
   have N:=hcc k hlt
   clear hcc
   have HN:Hid (∀ W:World,W.rowIs w.heap.size 78 (l.length * 5) (rowF 5 (fun _=>insVals) insZ l InsD.z k)→(putL w.heap.size W (k * 5) (insVals (l[k]?.getD InsD.z))).rowIs w.heap.size 78 (l.length * 5) (rowF 5 (fun _=>insVals) insZ l InsD.z (k+1))):=fun W hW=>row_next (sz:=5) (vals:=fun _=>insVals) (vals':=fun _=>insVals) (z:=insZ) (l:=l) (d:=InsD.z) (by decide) rfl (fun _ _=>rfl) hW
   generalize l[k]?.getD InsD.z=nd at *
   have c0:=N.op;have c1:=N.fa;have c2:=N.fb;have c3:=N.fc;have c4:=N.fd
   go_wp2_with fail
   refine(toIns_soft _ _ _ _ _ _).mono ?_
   rintro e w' ⟨rfl,hb'⟩
   have hrow':=hrow.of_block (hb'.block _ hrow.lt)
   have hf0:=hrow'.frozen (k * 5);have hf1:=hrow'.frozen (k * 5+1);have hf2:=hrow'.frozen (k * 5+2);have hf3:=hrow'.frozen (k * 5+3);have hf4:=hrow'.frozen (k * 5+4)
   have hg0:=hrow'.cell (i:=k * 5) (by omega);have hg1:=hrow'.cell (i:=k * 5+1) (by omega);have hg2:=hrow'.cell (i:=k * 5+2) (by omega);have hg3:=hrow'.cell (i:=k * 5+3) (by omega);have hg4:=hrow'.cell (i:=k * 5+4) (by omega)
   have HR:=hide hrow'
   have HBW:=hide (hbw.trans (hb'.mono hbw.size))
   clear c0 c1 c2 c3 c4 hrow hrow' hbw hb'
   go_wp2_with fail
   go_roundw
   case rel=>
    clear hf0 hg0 hf1 hg1 hf2 hg2 hf3 hg3 hf4 hg4
    exact⟨k+1,by omega,by go_num,belowS_putL (Nat.le_refl _) (insVals nd) _ (k * 5) (unhide HBW),unhide HN _ (unhide HR)⟩
   case measure=>simp[intOf];omega
  ·have HK:Hid (k=l.length):=by show _=_;omega
   go_wp2_with fail
   go_ret
   have hkl:=HK.out
   exact⟨_,_,rfl,⟨hn,fun h0=>⟨_,0,rfl,⟨Nat.le_refl _,hrow.lt⟩,fun j hj=>{ op:=row_cell hrow hkl (r:=0) hj (by omega),fa:=row_cell hrow hkl (r:=1) hj (by omega),fb:=row_cell hrow hkl (r:=2) hj (by omega),fc:=row_cell hrow hkl (r:=3) hj (by omega),fd:=row_cell hrow hkl (r:=4) hj (by omega) }⟩⟩,hbw⟩
theorem toNamed_soft (v0:ByteArray)(v1:Int)(v2:Int)(v3:Int)(w:World) :
  Calls Tryz.prog 105 #[.agg #[.string v0,.int .i64 v1,.int .i64 v2,.int .i64 v3]] w fun e w'=>e=.returned (.agg #[.string v0,.int .i64 v1,.int .i64 v2,.int .i64 v3])∧BelowS w.heap.size w w':=by
 go_enter Tryz.func105,Tryz.ntmps105
 go_wp2_with fail
 exact bodyPost_ret (v:=.agg #[.string v0,.int .i64 v1,.int .i64 v2,.int .i64 v3]) (by simp[results,Tryz.results105,go_sem]) rfl ⟨rfl,by repeat (first | refine BelowS.alloc ?_ (by simp<;>omega) () | exact BelowS.refl _ _)⟩
theorem toNamedS_soft (a:Option Addr)(l:List (NamD))(c:Nat)(S:Nat→Prop)(w:World)(hs:NamsAt w S a l)(hB:∀ b,S b→b<w.heap.size)(hl:l.length≤1048576) :
  Calls Tryz.prog 70 #[.slice a l.length c] w fun e w'=>∃ a' c',e=.returned (.slice a' l.length c')∧NamsAt w' (New w.heap.size w') a' l∧BelowS w.heap.size w w':=by
 have hn:=hs.1
 have hmk:∀ w:World,(Instr.makeSlice 51 (.int .i64 (l.length:Int)) (.int .i64 (l.length:Int))).run Tryz.prog w=.ok (.slice (some ⟨w.heap.size,0,none⟩) l.length l.length) (w.alloc (.cells (madeCells namZ.toArray (l.length * 4)) 153)):=
  run_make_wide (P:=Tryz.prog) 51 153 _ 4 40 Tryz.underlying51 info_nam .i64 .i64 l.length (by omega) hn
 go_enter Tryz.func70,Tryz.ntmps70
 go_wp2_with fail
 clear hmk
 go_loopw [4] (fun i wr=>∃(k:Nat),k≤l.length∧i=.int .i64 k∧BelowS w.heap.size w wr∧wr.rowIs w.heap.size 153 (l.length * 4) (rowF 4 (fun _=>namVals) namZ l NamD.z k)) (fun i _=>l.length-(intOf i).toNat)
 case atStart=>exact⟨0,Nat.zero_le _,rfl,(BelowS.refl _ _).alloc (Nat.le_refl _) (),row_made _ _ rfl (by decide)⟩
 case round=>
  obtain⟨k,hk,rfl,hbw,hrow⟩:=hrel
  by_cases hlt:k<l.length
  ·obtain⟨b,off,rfl,hb,hcc⟩:=(hs.keep hbw.1 hB).2 (by omega)
   have N:=hcc k hlt
   clear hcc
   have HN:Hid (∀ W:World,W.rowIs w.heap.size 153 (l.length * 4) (rowF 4 (fun _=>namVals) namZ l NamD.z k)→(putL w.heap.size W (k * 4) (namVals (l[k]?.getD NamD.z))).rowIs w.heap.size 153 (l.length * 4) (rowF 4 (fun _=>namVals) namZ l NamD.z (k+1))):=fun W hW=>row_next (sz:=4) (vals:=fun _=>namVals) (vals':=fun _=>namVals) (z:=namZ) (l:=l) (d:=NamD.z) (by decide) rfl (fun _ _=>rfl) hW
   generalize l[k]?.getD NamD.z=nd at *
   have c0:=N.name;have c1:=N.reg;have c2:=N.fro;have c3:=N.til
   go_wp2_with fail
   refine(toNamed_soft _ _ _ _ _).mono ?_
   rintro e w' ⟨rfl,hb'⟩
   have hrow':=hrow.of_block (hb'.block _ hrow.lt)
   have hf0:=hrow'.frozen (k * 4);have hf1:=hrow'.frozen (k * 4+1);have hf2:=hrow'.frozen (k * 4+2);have hf3:=hrow'.frozen (k * 4+3)
   have hg0:=hrow'.cell (i:=k * 4) (by omega);have hg1:=hrow'.cell (i:=k * 4+1) (by omega);have hg2:=hrow'.cell (i:=k * 4+2) (by omega);have hg3:=hrow'.cell (i:=k * 4+3) (by omega)
   have HR:=hide hrow'
   have HBW:=hide (hbw.trans (hb'.mono hbw.size))
   clear c0 c1 c2 c3 hrow hrow' hbw hb'
   go_wp2_with fail
   go_roundw
   case rel=>
    clear hf0 hg0 hf1 hg1 hf2 hg2 hf3 hg3
    exact⟨k+1,by omega,by go_num,belowS_putL (Nat.le_refl _) (namVals nd) _ (k * 4) (unhide HBW),unhide HN _ (unhide HR)⟩
   case measure=>simp[intOf];omega
  ·have HK:Hid (k=l.length):=by show _=_;omega
   go_wp2_with fail
   go_ret
   have hkl:=HK.out
   have N:∀ j,j<l.length→(l[j]?.getD NamD.z).name.size≤9223372036854775807:=fun j hj=>by
    obtain⟨b,off,_,_,hcc⟩:=hs.2 (by omega)
    exact(hcc j hj).names
   exact⟨_,_,rfl,⟨hn,fun h0=>⟨_,0,rfl,⟨Nat.le_refl _,hrow.lt⟩,fun j hj=>{ name:=row_cell hrow hkl (r:=0) hj (by omega),reg:=row_cell hrow hkl (r:=1) hj (by omega),fro:=row_cell hrow hkl (r:=2) hj (by omega),til:=row_cell hrow hkl (r:=3) hj (by omega),names:=N j hj }⟩⟩,hbw⟩
theorem toUpS_softf {a:Option Addr}{l:List (Bool×Int)}{c:Nat}{S:Nat→Prop}(w W:World)(hs:UpsAt w S a l)(hB:∀ b,S b→b<w.heap.size)(hl:l.length≤1048576)(hW:BelowS w.heap.size w W) :
  Calls Tryz.prog 67 #[.slice a l.length c] W fun e w'=>∃ a' c',e=.returned (.slice a' l.length c')∧UpsAt w' (New W.heap.size w') a' l∧BelowS W.heap.size W w':=
 toUpS_soft a l c S W (hs.keep hW.1 hB) (fun b h=>Nat.lt_of_lt_of_le (hB b h) hW.size) hl
theorem toValueS_softf {a:Option Addr}{l:List ValD}{c:Nat}{S:Nat→Prop}(w W:World)(hs:ValsAt w S a l)(hB:∀ b,S b→b<w.heap.size)(hl:l.length≤1048576)(hW:BelowS w.heap.size w W) :
  Calls Tryz.prog 68 #[.slice a l.length c] W fun e w'=>∃ a' c',e=.returned (.slice a' l.length c')∧ValsAt w' (New W.heap.size w') a' l∧BelowS W.heap.size W w':=
 toValueS_soft a l c S W (hs.keep hW.1 hB) (fun b h=>Nat.lt_of_lt_of_le (hB b h) hW.size) hl
theorem toInsS_softf {a:Option Addr}{l:List InsD}{c:Nat}{S:Nat→Prop}(w W:World)(hs:InssAt w S a l)(hB:∀ b,S b→b<w.heap.size)(hl:l.length≤1048576)(hW:BelowS w.heap.size w W) :
  Calls Tryz.prog 69 #[.slice a l.length c] W fun e w'=>∃ a' c',e=.returned (.slice a' l.length c')∧InssAt w' (New W.heap.size w') a' l∧BelowS W.heap.size W w':=
 toInsS_soft a l c S W (hs.keep hW.1 hB) (fun b h=>Nat.lt_of_lt_of_le (hB b h) hW.size) hl
theorem toNamedS_softf {a:Option Addr}{l:List NamD}{c:Nat}{S:Nat→Prop}(w W:World)(hs:NamsAt w S a l)(hB:∀ b,S b→b<w.heap.size)(hl:l.length≤1048576)(hW:BelowS w.heap.size w W) :
  Calls Tryz.prog 70 #[.slice a l.length c] W fun e w'=>∃ a' c',e=.returned (.slice a' l.length c')∧NamsAt w' (New W.heap.size w') a' l∧BelowS W.heap.size W w':=
 toNamedS_soft a l c S W (hs.keep hW.1 hB) (fun b h=>Nat.lt_of_lt_of_le (hB b h) hW.size) hl
theorem toProto_soft (nm:ByteArray)(ln pr:Int)(rs:Bool)(rg:Int)(us:List (Bool×Int))(cs:List ValD)(is:List InsD)(ns:List NamD)(a5 a6 a7 a8:Option Addr)(c5 c6 c7 c8:Nat)(S:Nat→Prop)(w:World)
  (h5:UpsAt w S a5 us)(h6:ValsAt w S a6 cs)(h7:InssAt w S a7 is)(h8:NamsAt w S a8 ns)(hB:∀ b,S b→b<w.heap.size)(hl5:us.length≤1048576)(hl6:cs.length≤1048576)(hl7:is.length≤1048576)(hl8:ns.length≤1048576) :
  Calls Tryz.prog 40 #[.agg #[.string nm,.int .i64 ln,.int .i64 pr,.bool rs,.int .i64 rg,.slice a5 us.length c5,.slice a6 cs.length c6,.slice a7 is.length c7,.slice a8 ns.length c8]] w fun e w'=>
   ∃ a5' c5' a6' c6' a7' c7' a8' c8',e=.returned (.agg #[.string nm,.int .i64 ln,.int .i64 pr,.bool rs,.int .i64 rg,.slice a5' us.length c5',.slice a6' cs.length c6',.slice a7' is.length c7',.slice a8' ns.length c8'])∧UpsAt w' (New w.heap.size w') a5' us∧ValsAt w' (New w.heap.size w') a6' cs∧InssAt w' (New w.heap.size w') a7' is∧NamsAt w' (New w.heap.size w') a8' ns∧BelowS w.heap.size w w':=by
 go_enter Tryz.func40,Tryz.ntmps40
 go_wp2_with fail
 refine(toUpS_softf w _ h5 hB hl5 ?hW0).mono ?_
 case hW0=>repeat (first | refine BelowS.alloc ?_ (by simp<;>omega) () | refine BelowS.setCell ?_ (by simp<;>omega) _ | exact BelowS.refl _ _)
 rintro e w1 ⟨a5',c5',rfl,hI5,hb1⟩
 have hbw1:BelowS w.heap.size w w1:=by
  refine BelowS.trans (b:=_) ?_ (hb1.mono (by simp<;>omega))
  repeat (first | refine BelowS.alloc ?_ (by simp<;>omega) () | refine BelowS.setCell ?_ (by simp<;>omega) _ | exact BelowS.refl _ _)
 obtain⟨hc1,hf1⟩:=bcellS hb1
 have hz1_:w.heap.size+1+1+1≤w1.heap.size:=by have:=hb1.size;simpa using this
 have hz1a:w.heap.size<w1.heap.size:=by omega
 have hz1b:w.heap.size+1<w1.heap.size:=by omega
 have hz1c:w.heap.size+1+1<w1.heap.size:=by omega
 replace hI5:UpsAt w1 (New (w.heap.size+3) w1) a5' us:=hI5.mono (fun b h=>⟨by have:=h.1;simp at this;omega,h.2⟩)
 clear hb1
 go_wp2_with fail
 refine(toValueS_softf w _ h6 hB hl6 ?hW1).mono ?_
 case hW1=>repeat (first | refine BelowS.setCell ?_ (by simp<;>omega) _ | exact hbw1)
 rintro e w2 ⟨a6',c6',rfl,hI6,hb2⟩
 have hbw2:BelowS w.heap.size w w2:=by
  refine BelowS.trans (b:=_) ?_ (hb2.mono (by simp<;>omega))
  repeat (first | refine BelowS.setCell ?_ (by simp<;>omega) _ | exact hbw1)
 obtain⟨hc2,hf2⟩:=bcellS hb2
 have hz2_:w1.heap.size≤w2.heap.size:=by have:=hb2.size;simpa using this
 have hz2a:w.heap.size<w2.heap.size:=by omega
 have hz2b:w.heap.size+1<w2.heap.size:=by omega
 have hz2c:w.heap.size+1+1<w2.heap.size:=by omega
 replace hI6:ValsAt w2 (New (w.heap.size+3) w2) a6' cs:=hI6.mono (fun b h=>⟨by have:=h.1;simp at this;omega,h.2⟩)
 replace hI5:UpsAt w2 (New (w.heap.size+3) w1) a5' us:=by
  refine hI5.same (Same.below (Same.setCell Same.refl ?_ _) hb2.1 (fun b h=>by have:=h.2;simp;omega))
  intro h;have:=h.1;simp at this;omega
 clear hb2
 go_wp2_with fail
 refine(toInsS_softf w _ h7 hB hl7 ?hW2).mono ?_
 case hW2=>repeat (first | refine BelowS.setCell ?_ (by simp<;>omega) _ | exact hbw2)
 rintro e w3 ⟨a7',c7',rfl,hI7,hb3⟩
 have hbw3:BelowS w.heap.size w w3:=by
  refine BelowS.trans (b:=_) ?_ (hb3.mono (by simp<;>omega))
  repeat (first | refine BelowS.setCell ?_ (by simp<;>omega) _ | exact hbw2)
 obtain⟨hc3,hf3⟩:=bcellS hb3
 have hz3_:w2.heap.size≤w3.heap.size:=by have:=hb3.size;simpa using this
 have hz3a:w.heap.size<w3.heap.size:=by omega
 have hz3b:w.heap.size+1<w3.heap.size:=by omega
 have hz3c:w.heap.size+1+1<w3.heap.size:=by omega
 replace hI7:InssAt w3 (New (w.heap.size+3) w3) a7' is:=hI7.mono (fun b h=>⟨by have:=h.1;simp at this;omega,h.2⟩)
 replace hI5:UpsAt w3 (New (w.heap.size+3) w1) a5' us:=by
  refine hI5.same (Same.below (Same.setCell Same.refl ?_ _) hb3.1 (fun b h=>by have:=h.2;simp;omega))
  intro h;have:=h.1;simp at this;omega
 replace hI6:ValsAt w3 (New (w.heap.size+3) w2) a6' cs:=by
  refine hI6.same (Same.below (Same.setCell Same.refl ?_ _) hb3.1 (fun b h=>by have:=h.2;simp;omega))
  intro h;have:=h.1;simp at this;omega
 clear hb3
 go_wp2_with fail
 refine(toNamedS_softf w _ h8 hB hl8 ?hW3).mono ?_
 case hW3=>repeat (first | refine BelowS.setCell ?_ (by simp<;>omega) _ | exact hbw3)
 rintro e w4 ⟨a8',c8',rfl,hI8,hb4⟩
 have hbw4:BelowS w.heap.size w w4:=by
  refine BelowS.trans (b:=_) ?_ (hb4.mono (by simp<;>omega))
  repeat (first | refine BelowS.setCell ?_ (by simp<;>omega) _ | exact hbw3)
 obtain⟨hc4,hf4⟩:=bcellS hb4
 have hz4_:w3.heap.size≤w4.heap.size:=by have:=hb4.size;simpa using this
 have hz4a:w.heap.size<w4.heap.size:=by omega
 have hz4b:w.heap.size+1<w4.heap.size:=by omega
 have hz4c:w.heap.size+1+1<w4.heap.size:=by omega
 replace hI8:NamsAt w4 (New (w.heap.size+3) w4) a8' ns:=hI8.mono (fun b h=>⟨by have:=h.1;simp at this;omega,h.2⟩)
 replace hI5:UpsAt w4 (New (w.heap.size+3) w1) a5' us:=by
  refine hI5.same (Same.below (Same.setCell Same.refl ?_ _) hb4.1 (fun b h=>by have:=h.2;simp;omega))
  intro h;have:=h.1;simp at this;omega
 replace hI6:ValsAt w4 (New (w.heap.size+3) w2) a6' cs:=by
  refine hI6.same (Same.below (Same.setCell Same.refl ?_ _) hb4.1 (fun b h=>by have:=h.2;simp;omega))
  intro h;have:=h.1;simp at this;omega
 replace hI7:InssAt w4 (New (w.heap.size+3) w3) a7' is:=by
  refine hI7.same (Same.below (Same.setCell Same.refl ?_ _) hb4.1 (fun b h=>by have:=h.2;simp;omega))
  intro h;have:=h.1;simp at this;omega
 clear hb4
 have p1:∀ W:World,¬New (w.heap.size+3) W (w.heap.size+1):=fun W h=>by have:=h.1;omega
 have p2:∀ W:World,¬New (w.heap.size+3) W (w.heap.size+1+1):=fun W h=>by have:=h.1;omega
 have b1:w.heap.size≤w.heap.size+1:=by omega
 have b2:w.heap.size≤w.heap.size+1+1:=by omega
 have m1:∀ V:World,V.heap.size≤w4.heap.size→∀ W:World,W.heap.size=w4.heap.size→∀ b,New (w.heap.size+3) V b→New w.heap.size W b:=fun V hV W e b h=>⟨by have:=h.1;omega,by have:=h.2;omega⟩
 have q1:w1.heap.size≤w4.heap.size:=by omega
 have q2:w2.heap.size≤w4.heap.size:=by omega
 have M:=hide (And.intro (And.intro p1 p2) (And.intro (And.intro b1 b2) (And.intro m1 (And.intro q1 (And.intro q2 hz4_)))))
 clear p1 p2 b1 b2 m1 q1 q2
 go_wp2_with fail
 obtain⟨⟨p1,p2⟩,⟨b1,b2⟩,m1,q1,q2,q3⟩:=unhide M
 refine bodyPost_ret (v:=.agg #[.string nm,.int .i64 ln,.int .i64 pr,.bool rs,.int .i64 rg,.slice a5' us.length c5',.slice a6' cs.length c6',.slice a7' is.length c7',.slice a8' ns.length c8']) (by simp[results,Tryz.results40,go_sem,hc1,hc2,hc3,hc4,hz1b,hz2b,hz3b]) rfl ⟨a5',c5',a6',c6',a7',c7',a8',c8',rfl,?_,?_,?_,?_,?_⟩
 ·refine(hI5.same ?_).mono (m1 _ q1 _ (by simp))
  iterate 9 refine Same.setCell ?_ (p1 _) _
  refine Same.setCell ?_ (p2 _) _
  exact Same.refl
 ·refine(hI6.same ?_).mono (m1 _ q2 _ (by simp))
  iterate 9 refine Same.setCell ?_ (p1 _) _
  refine Same.setCell ?_ (p2 _) _
  exact Same.refl
 ·refine(hI7.same ?_).mono (m1 _ q3 _ (by simp))
  iterate 9 refine Same.setCell ?_ (p1 _) _
  refine Same.setCell ?_ (p2 _) _
  exact Same.refl
 ·refine(hI8.same ?_).mono (m1 _ (Nat.le_refl _) _ (by simp))
  iterate 9 refine Same.setCell ?_ (p1 _) _
  refine Same.setCell ?_ (p2 _) _
  exact Same.refl
 ·iterate 9 refine BelowS.setCell ?_ b1 _
  refine BelowS.setCell ?_ b2 _
  exact hbw4
theorem toProtoS_soft (a:Option Addr)(l:List ProtoD)(c:Nat)(S:Nat→Prop)(w:World)(hs:ProtosAt w S a l)(hB:∀ b,S b→b<w.heap.size)(hl:tProtos l≤1048576) :
  Calls Tryz.prog 16 #[.slice a l.length c] w fun e w'=>∃ a' c',e=.returned (.slice a' l.length c')∧ProtosAt w' (New w.heap.size w') a' l∧BelowS w.heap.size w w':=by
 have hn:=hs.1
 have hll:l.length≤1048576:=by unfold tProtos at hl;omega
 have hel:∀ k,k<l.length→(l[k]?.getD ProtoD.z).ups.length≤1048576∧(l[k]?.getD ProtoD.z).consts.length≤1048576∧(l[k]?.getD ProtoD.z).ins.length≤1048576∧(l[k]?.getD ProtoD.z).named.length≤1048576:=fun k hk=>by
  have h1:=sumTo_succ tProto l k ProtoD.z hk
  have h2:=sumTo_le tProto l (k+1)
  unfold tProtos at hl
  generalize l[k]?.getD ProtoD.z=fd at *
  have h3:tProto fd=fd.name.size+fd.ups.length+tVals fd.consts+fd.ins.length+tNams fd.named:=rfl
  have h4:tVals fd.consts=fd.consts.length+sumAll tVal fd.consts:=rfl
  have h5:tNams fd.named=fd.named.length+sumAll tNam fd.named:=rfl
  refine⟨?_,?_,?_,?_⟩<;>omega
 have HEL:=hide hel
 clear hel hl
 have hmk:∀ w:World,(Instr.makeSlice 28 (.int .i64 (l.length:Int)) (.int .i64 (l.length:Int))).run Tryz.prog w=.ok (.slice (some ⟨w.heap.size,0,none⟩) l.length l.length) (w.alloc (.cells (madeCells protoZ.toArray (l.length * 9)) 53)):=
  run_make_wide (P:=Tryz.prog) 28 53 _ 9 144 Tryz.underlying28 info_proto .i64 .i64 l.length (by omega) hn
 go_enter Tryz.func16,Tryz.ntmps16
 go_wp2_with fail
 clear hmk
 go_loopw [4] (fun i wr=>∃(k:Nat) (R:Nat→ProtoR),k≤l.length∧i=.int .i64 k∧BelowS w.heap.size w wr∧wr.rowIs w.heap.size 53 (l.length * 9) (rowF 9 (protoVals R) protoZ l ProtoD.z k) ∧
   (∀ i,i<k→ProtoIn wr (New (w.heap.size+1) wr) (R i) (l[i]?.getD ProtoD.z))) (fun i _=>l.length-(intOf i).toNat)
 case atStart=>exact⟨0,fun _=>⟨none,0,none,0,none,0,none,0⟩,Nat.zero_le _,rfl,(BelowS.refl _ _).alloc (Nat.le_refl _) (),row_made _ _ rfl (by decide),fun i hi=>absurd hi (Nat.not_lt_zero _)⟩
 case round=>
  obtain⟨k,R,hk,rfl,hbw,hrow,hR⟩:=hrel
  have HR:=hide hR
  clear hR
  by_cases hlt:k<l.length
  ·obtain⟨b,off,rfl,hb,hcc⟩:=(hs.keep hbw.1 hB).2 (by omega)
   have N:=hcc k hlt
   obtain⟨hl5,hl6,hl7,hl8⟩:=unhide HEL k hlt
   clear hcc
   have HNX:Hid (∀(W:World) (R':Nat→ProtoR),(∀ i,i<k→R' i=R i)→W.rowIs w.heap.size 53 (l.length * 9) (rowF 9 (protoVals R) protoZ l ProtoD.z k)→(putL w.heap.size W (k * 9) (protoVals R' k (l[k]?.getD ProtoD.z))).rowIs w.heap.size 53 (l.length * 9) (rowF 9 (protoVals R') protoZ l ProtoD.z (k+1))):=fun W R' hR' hW=>
    row_next (sz:=9) (vals:=protoVals R) (vals':=protoVals R') (z:=protoZ) (l:=l) (d:=ProtoD.z) (by decide) rfl (fun i hi=>by unfold protoVals;rw[hR' i hi]) hW
   generalize hx:l[k]?.getD ProtoD.z=nd at *
   have HX:=hide hx
   clear hx
   obtain⟨a5,c5,h5,H5⟩:=N.ups
   obtain⟨a6,c6,h6,H6⟩:=N.consts
   obtain⟨a7,c7,h7,H7⟩:=N.ins
   obtain⟨a8,c8,h8,H8⟩:=N.named
   have c0:=N.name;have c1:=N.line;have c2:=N.params;have c3:=N.rest;have c4:=N.regs
   have hBr:∀ b,S b→b<wr.heap.size:=fun b h=>Nat.lt_of_lt_of_le (hB b h) hbw.size
   go_wp2_with fail
   refine(toProto_soft _ _ _ _ _ _ _ _ _ _ _ _ _ _ _ _ _ S _ H5 H6 H7 H8 hBr hl5 hl6 hl7 hl8).mono ?_
   rintro e w' ⟨a5',c5',a6',c6',a7',c7',a8',c8',rfl,hI5,hI6,hI7,hI8,hb'⟩
   have hrow':=hrow.of_block (hb'.block _ hrow.lt)
   have hf0:=hrow'.frozen (k * 9);have hg0:=hrow'.cell (i:=k * 9) (by omega)
   have hf1:=hrow'.frozen (k * 9+1);have hg1:=hrow'.cell (i:=k * 9+1) (by omega)
   have hf2:=hrow'.frozen (k * 9+2);have hg2:=hrow'.cell (i:=k * 9+2) (by omega)
   have hf3:=hrow'.frozen (k * 9+3);have hg3:=hrow'.cell (i:=k * 9+3) (by omega)
   have hf4:=hrow'.frozen (k * 9+4);have hg4:=hrow'.cell (i:=k * 9+4) (by omega)
   have hf5:=hrow'.frozen (k * 9+5);have hg5:=hrow'.cell (i:=k * 9+5) (by omega)
   have hf6:=hrow'.frozen (k * 9+6);have hg6:=hrow'.cell (i:=k * 9+6) (by omega)
   have hf7:=hrow'.frozen (k * 9+7);have hg7:=hrow'.cell (i:=k * 9+7) (by omega)
   have hf8:=hrow'.frozen (k * 9+8);have hg8:=hrow'.cell (i:=k * 9+8) (by omega)
   have HROW:=hide hrow'
   have hG:w.heap.size<wr.heap.size:=hrow.lt
   have HBW:=hide (hbw.trans (hb'.mono hbw.size))
   have HB':=hide hb'
   have HIN:Hid (ProtoIn w' (New wr.heap.size w') ⟨a5',c5',a6',c6',a7',c7',a8',c8'⟩ nd):=⟨hI5,hI6,hI7,hI8⟩
   clear c0 c1 c2 c3 c4 h5 h6 h7 h8 hrow hrow' hb' hI5 hI6 hI7 hI8 N H5 H6 H7 H8
   go_wp2_with fail
   go_roundw
   case rel=>
    clear hf0 hg0 hf1 hg1 hf2 hg2 hf3 hg3 hf4 hg4 hf5 hg5 hf6 hg6 hf7 hg7 hf8 hg8
    have hx:=unhide HX
    have hb':=unhide HB'
    have hRk:(fun i=>if i=k then(⟨a5',c5',a6',c6',a7',c7',a8',c8'⟩:ProtoR)else R i) k=⟨a5',c5',a6',c6',a7',c7',a8',c8'⟩:=if_pos rfl
    have hvk:protoVals (fun i=>if i=k then(⟨a5',c5',a6',c6',a7',c7',a8',c8'⟩:ProtoR)else R i) k nd=[.string nd.name,.int .i64 nd.line,.int .i64 nd.params,.bool nd.rest,.int .i64 nd.regs,.slice a5' nd.ups.length c5',.slice a6' nd.consts.length c6',.slice a7' nd.ins.length c7',.slice a8' nd.named.length c8']:=by
     unfold protoVals
     rw[hRk]
    have hr2:=unhide HNX _ (fun i=>if i=k then(⟨a5',c5',a6',c6',a7',c7',a8',c8'⟩:ProtoR)else R i) (fun i hi=>if_neg (by omega)) (unhide HROW)
    rw[hvk]at hr2
    have hm:∀ W:World,W.heap.size=w'.heap.size→∀ b,New (w.heap.size+1) wr b→New (w.heap.size+1) W b:=fun W e b h=>⟨h.1,by have:=h.2;have:=hb'.size;omega⟩
    have hm':∀ W:World,W.heap.size=w'.heap.size→∀ b,New wr.heap.size w' b→New (w.heap.size+1) W b:=fun W e b h=>⟨by have:=h.1;omega,by have:=h.2;omega⟩
    have hng:¬New (w.heap.size+1) wr w.heap.size:=fun h=>by have:=h.1;omega
    have hng':¬New wr.heap.size w' w.heap.size:=fun h=>by have:=h.1;omega
    have hsame:Same (New (w.heap.size+1) wr) wr w':=.of_below hb'.1 (fun b h=>h.2)
    have key:∀ VS:List Value,∀ i,i<k+1→ProtoIn (putL w.heap.size w' (k * 9) VS) (New (w.heap.size+1) (putL w.heap.size w' (k * 9) VS)) (if i=k then(⟨a5',c5',a6',c6',a7',c7',a8',c8'⟩:ProtoR)else R i) (l[i]?.getD ProtoD.z):=fun VS i hi=>by
     by_cases e:i=k
     ·rw[if_pos e,e,hx]
      exact((unhide HIN).same (same_putL hng' VS w' (k * 9) Same.refl)).mono (hm' _ (size_putL VS w' (k * 9)))
     ·rw[if_neg e]
      exact((unhide HR i (by omega)).same (same_putL hng VS w' (k * 9) hsame)).mono (hm _ (size_putL VS w' (k * 9)))
    have key2:=key [.string nd.name,.int .i64 nd.line,.int .i64 nd.params,.bool nd.rest,.int .i64 nd.regs,.slice a5' nd.ups.length c5',.slice a6' nd.consts.length c6',.slice a7' nd.ins.length c7',.slice a8' nd.named.length c8']
    have hbl:=belowS_putL (w:=w) (Nat.le_refl w.heap.size) [.string nd.name,.int .i64 nd.line,.int .i64 nd.params,.bool nd.rest,.int .i64 nd.regs,.slice a5' nd.ups.length c5',.slice a6' nd.consts.length c6',.slice a7' nd.ins.length c7',.slice a8' nd.named.length c8'] w' (k * 9) (unhide HBW)
    clear key hng hng' hm hm' hsame
    exact⟨k+1,fun i=>if i=k then⟨a5',c5',a6',c6',a7',c7',a8',c8'⟩else R i,by omega,by go_num,hbl,hr2,key2⟩
   case measure=>simp[intOf];omega
  ·have HK:Hid (k=l.length):=by show _=_;omega
   go_wp2_with fail
   go_ret
   refine⟨_,_,rfl,?_,hbw⟩
   have hkl:=HK.out
   refine⟨hn,fun h0=>⟨_,0,rfl,⟨Nat.le_refl _,hrow.lt⟩,fun j hj=>?_⟩⟩
   obtain⟨b,off,_,_,hcc⟩:=hs.2 h0
   have h1:=(unhide HR j (by omega)).mono (S':=New w.heap.size wr) (fun b h=>⟨by have:=h.1;omega,h.2⟩)
   exact { names:=(hcc j hj).names,name:=row_cell hrow hkl (r:=0) hj (by omega),line:=row_cell hrow hkl (r:=1) hj (by omega),params:=row_cell hrow hkl (r:=2) hj (by omega),rest:=row_cell hrow hkl (r:=3) hj (by omega),regs:=row_cell hrow hkl (r:=4) hj (by omega),ups:=⟨_,_,row_cell hrow hkl (r:=5) hj (by omega),h1.h5⟩,consts:=⟨_,_,row_cell hrow hkl (r:=6) hj (by omega),h1.h6⟩,ins:=⟨_,_,row_cell hrow hkl (r:=7) hj (by omega),h1.h7⟩,named:=⟨_,_,row_cell hrow hkl (r:=8) hj (by omega),h1.h8⟩ }
theorem toCode_soft (a:Option Addr)(l:List ProtoD)(c:Nat)(S:Nat→Prop)(w:World)(hs:ProtosAt w S a l)(hB:∀ b,S b→b<w.heap.size)(hl:tProtos l≤1048576) :
  Calls Tryz.prog 6 #[.agg #[.slice a l.length c]] w fun e w'=>∃ a' c',e=.returned (.agg #[.slice a' l.length c'])∧ProtosAt w' (New w.heap.size w') a' l∧BelowS w.heap.size w w':=by
 go_enter Tryz.func6,Tryz.ntmps6
 go_wp2_with fail
 have hbA:BelowS w.heap.size w (((w.alloc (.cells #[.slice a l.length c] 24)).alloc (.cells #[.slice none 0 0] 30)).alloc (.cells #[.slice none 0 0] 30)):=by
  repeat (first | refine BelowS.alloc ?_ (by simp<;>omega) () | exact BelowS.refl _ _)
 refine(toProtoS_soft _ _ _ S _ (hs.keep hbA.1 hB) (fun b h=>Nat.lt_of_lt_of_le (hB b h) hbA.size) hl).mono ?_
 rintro e w1 ⟨a',c',rfl,hI,hb1⟩
 have hbw1:BelowS w.heap.size w w1:=hbA.trans (hb1.mono hbA.size)
 obtain⟨hc,hf⟩:=bcellS hb1
 have hz:w.heap.size+1+1+1≤w1.heap.size:=by have:=hb1.size;simpa using this
 have hz0:w.heap.size<w1.heap.size:=by omega
 have hz1:w.heap.size+1<w1.heap.size:=by omega
 have hz2:w.heap.size+1+1<w1.heap.size:=by omega
 replace hI:ProtosAt w1 (New (w.heap.size+3) w1) a' l:=hI.mono (fun b h=>⟨by have:=h.1;simp at this;omega,h.2⟩)
 clear hb1
 have p1:∀ W:World,¬New (w.heap.size+3) W (w.heap.size+1):=fun W h=>by have:=h.1;omega
 have p2:∀ W:World,¬New (w.heap.size+3) W (w.heap.size+1+1):=fun W h=>by have:=h.1;omega
 have b1:w.heap.size≤w.heap.size+1:=by omega
 have b2:w.heap.size≤w.heap.size+1+1:=by omega
 have m1:∀ W:World,W.heap.size=w1.heap.size→∀ b,New (w.heap.size+3) w1 b→New w.heap.size W b:=fun W e b h=>⟨by have:=h.1;omega,by have:=h.2;omega⟩
 have M:=hide (And.intro (And.intro p1 p2) (And.intro (And.intro b1 b2) m1))
 clear p1 p2 b1 b2 m1
 go_wp2_with fail
 obtain⟨⟨p1,p2⟩,⟨b1,b2⟩,m1⟩:=unhide M
 refine bodyPost_ret (v:=.agg #[.slice a' l.length c']) (by simp[results,Tryz.results6,go_sem,hc]) rfl ⟨a',c',rfl,?_,?_⟩
 ·refine(hI.same ?_).mono (m1 _ (by simp))
  refine Same.setCell ?_ (p1 _) _
  refine Same.setCell ?_ (p2 _) _
  exact Same.refl
 ·refine BelowS.setCell ?_ b1 _
  refine BelowS.setCell ?_ b2 _
  exact hbw1
attribute [local go_sem] run_store_float
theorem markText_any (k:Int)(w:World)(hk:k≤1000000000000) :
  Calls Tryz.prog 51 #[.int .i64 k] w fun e w'=>∃ s,e=.returned (.string s)∧Below w.heap.size w w':=by
 by_cases h0:k≤0
 ·go_enter Tryz.func51,Tryz.ntmps51
  go_wp2_with fail
  go_ret
  exact⟨_,rfl,Below.refl _ _⟩
 obtain⟨n,rfl⟩:∃ n:Nat,k=n:=⟨k.toNat,by omega⟩
 go_enter Tryz.func51,Tryz.ntmps51
 go_wp2_with fail
 go_loopw [0,3] (fun q s wr=>∃(m d:Nat) (t:ByteArray),q=.int .i64 m∧s=.string t∧m<10 ^ d∧m≤1000000000000∧d+t.size≤20∧Below w.heap.size w wr) (fun q _ _=>(intOf q).toNat)
 case atStart=>exact⟨n,20,ByteArray.empty,rfl,rfl,by omega,by omega,by simp,Below.refl _ _⟩
 case round=>
  obtain⟨m,d,t,rfl,rfl,hm,hmb,hd,hb⟩:=hrel
  by_cases hlt:0<m
  ·have hcv:(convert 148 9 (.slice (some ⟨wr.heap.size,0,none⟩) 1 1)).run Tryz.prog (wr.alloc (.cells #[.int .u8 (48+(m:Int) % 10)] 5))=.ok (.string ⟨[UInt8.ofNat (48+m % 10)].toArray⟩) (wr.alloc (.cells #[.int .u8 (48+(m:Int) % 10)] 5)):=by
    refine run_convert_bytes_back (P:=Tryz.prog) _ 148 9 5 ⟨wr.heap.size,0,none⟩ 1 [UInt8.ofNat (48+m % 10)] Tryz.underlying148 Tryz.underlying5 Tryz.underlying9 fun j hj=>?_
    obtain rfl:j=0:=by simp at hj;omega
    have e:((UInt8.ofNat (48+m % 10)).toNat:Int)=48+(m:Int) % 10:=by
     rw[UInt8.toNat_ofNat']
     omega
    simp[Addr.add,go_sem]
    omega
   have hsz:(⟨[UInt8.ofNat (48+m % 10)].toArray⟩:ByteArray).size=1:=rfl
   generalize (⟨[UInt8.ofNat (48+m % 10)].toArray⟩:ByteArray)=t1 at hcv hsz
   have HS:Hid (t1.size=1):=hsz
   have hcat:¬(9223372036854775807<t1.size+t.size):=by omega
   clear hsz
   go_wp2_with fail
   go_roundw
   case rel=>
    have hs:=HS.out
    refine⟨m / 10,d-1,t1++t,by go_num,rfl,?_,by omega,?_,hb.alloc hb.size _⟩
    ·cases d with
     | zero=>simp at hm;omega
     | succ d=>rw[Nat.pow_succ]at hm;simp;omega
    ·have:0<d:=by
      rcases Nat.eq_zero_or_pos d with e | e
      ·subst e;simp at hm;omega
      ·exact e
     rw[ByteArray.size_append];omega
   case measure=>simp[intOf];omega
  ·have hcat:¬(9223372036854775807<1+t.size):=by omega
   go_wp2_with fail
   go_ret
   exact⟨_,rfl,hb⟩
theorem markUpS_any (a:Option Addr)(n c:Nat)(k:Int)(S:Nat→Prop)(w:World)(hs:FlatRow w S a (n * 2))(hS:Soft w S)(h0:0≤k)(hk:k+2 * n≤1000000000000) :
  Calls Tryz.prog 52 #[.slice a n c,.int .i64 k] w fun e w'=>e=.returned (.int .i64 (k+2 * n))∧Mk S w w':=by
 go_enter Tryz.func52,Tryz.ntmps52
 go_wp2_with fail
 go_loopw [1,5] (fun q i wr=>∃(j:Nat),j≤n∧q=.int .i64 (k+2 * j)∧i=.int .i64 j∧Mk S w wr) (fun _ i _=>n-(intOf i).toNat)
 case atStart=>exact⟨0,Nat.zero_le _,by simp,rfl,Mk.refl _ _⟩
 case round=>
  obtain⟨j,hj,rfl,rfl,hm⟩:=hrel
  by_cases hlt:j<n
  ·have HB:Hid (k+2 * j+2≤1000000000000):=by show _≤_;omega
   have HE:Hid (k+2 * ((j+1:Nat):Int)=k+2 * j+2):=by show _=_;omega
   obtain⟨kj,hkj⟩:∃ kj:Int,kj=k+2 * (j:Int):=⟨_,rfl⟩
   have hk0:0≤kj:=by omega
   have hk1:kj+2≤1000000000000:=by omega
   rw[←hkj]at HB HE ⊢
   have hnn:n≤1000000000000:=by omega
   clear hk
   have HM:=hide hm
   clear hm
   obtain⟨b,off,rfl,hb,hcc⟩:=(hs.mk HM.out) (by omega)
   obtain⟨v0,hc0,f0⟩:=hcc (j * 2+0) (by omega)
   obtain⟨v1,hc1,f1⟩:=hcc (j * 2+1) (by omega)
   rw[←Nat.add_assoc]at hc1
   rw[Nat.add_zero]at hc0
   have hf:=((hS.mk HM.out) b hb).2
   clear hcc hkj
   go_wp2_with fail
   go_roundw
   case rel=>
    refine⟨j+1,by omega,by rw[HE.out];go_num,by go_num,HM.out.trans ?_⟩
    refine mk_set ?_ hb ⟨v1,hc1,f1⟩ _ trivial
    refine mk_set ?_ hb ⟨v0,hc0,f0⟩ _ trivial
    exact Mk.refl _ _
   case measure=>simp[intOf];omega
  ·have HK:Hid (j=n):=by show _=_;omega
   go_wp2_with fail
   go_ret
   rw[HK.out]
   exact⟨rfl,hm⟩
theorem markValueS_any (a:Option Addr)(n c:Nat)(k:Int)(S:Nat→Prop)(w:World)(hs:FlatRow w S a (n * 5))(hS:Soft w S)(h0:0≤k)(hk:k+5 * n≤1000000000000) :
  Calls Tryz.prog 53 #[.slice a n c,.int .i64 k] w fun e w'=>e=.returned (.int .i64 (k+5 * n))∧Mk S w w':=by
 go_enter Tryz.func53,Tryz.ntmps53
 go_wp2_with fail
 go_loopw [1,5] (fun q i wr=>∃(j:Nat),j≤n∧q=.int .i64 (k+5 * j)∧i=.int .i64 j∧Mk S w wr) (fun _ i _=>n-(intOf i).toNat)
 case atStart=>exact⟨0,Nat.zero_le _,by simp,rfl,Mk.refl _ _⟩
 case round=>
  obtain⟨j,hj,rfl,rfl,hm⟩:=hrel
  by_cases hlt:j<n
  ·have HB:Hid (k+5 * j+5≤1000000000000):=by show _≤_;omega
   have HE:Hid (k+5 * ((j+1:Nat):Int)=k+5 * j+5):=by show _=_;omega
   obtain⟨kj,hkj⟩:∃ kj:Int,kj=k+5 * (j:Int):=⟨_,rfl⟩
   have hk0:0≤kj:=by omega
   have hk1:kj+5≤1000000000000:=by omega
   rw[←hkj]at HB HE ⊢
   have hnn:n≤1000000000000:=by omega
   clear hk
   have HM:=hide hm
   clear hm
   obtain⟨b,off,rfl,hb,hcc⟩:=(hs.mk HM.out) (by omega)
   obtain⟨v0,hc0,f0⟩:=hcc (j * 5+0) (by omega)
   obtain⟨v1,hc1,f1⟩:=hcc (j * 5+1) (by omega)
   rw[←Nat.add_assoc]at hc1
   obtain⟨v2,hc2,f2⟩:=hcc (j * 5+2) (by omega)
   rw[←Nat.add_assoc]at hc2
   rw[Nat.add_zero]at hc0
   have hf:=((hS.mk HM.out) b hb).2
   clear hcc hkj
   have HB2:Hid (kj+1+1+1≤1000000000000):=by show _≤_;omega
   go_wp2_with fail
   refine(markText_any _ _ HB2.out).mono ?_
   rintro e w1 ⟨s,rfl,hb1⟩
   have m1:Mk S wr w1:=by
    refine Mk.trans ?_ (Mk.of_below hb1)
    refine mk_set ?_ hb ⟨v2,hc2,f2⟩ _ trivial
    refine mk_set ?_ hb ⟨v1,hc1,f1⟩ _ trivial
    refine mk_set ?_ hb ⟨v0,hc0,f0⟩ _ trivial
    exact Mk.refl _ _
   clear hc0 hc1 hc2 f0 f1 f2 hf hb1 v0 v1 v2
   have hrow:=(hs.mk (HM.out.trans m1)) (by omega)
   obtain⟨b',off',hbe,hb',hcc⟩:=hrow
   obtain⟨rfl,rfl⟩:b=b'∧off=off':=by injection hbe with hbe;injection hbe with h1 h2;exact⟨h1,h2⟩
   clear hbe hb'
   obtain⟨v3,hc3,f3⟩:=hcc (j * 5+3) (by omega)
   rw[←Nat.add_assoc]at hc3
   obtain⟨v4,hc4,f4⟩:=hcc (j * 5+4) (by omega)
   rw[←Nat.add_assoc]at hc4
   have hf:=((hS.mk (HM.out.trans m1)) b hb).2
   have M1:=hide (HM.out.trans m1)
   clear hcc m1 HM
   go_wp2_with fail
   go_roundw
   case rel=>
    refine⟨j+1,by omega,by rw[HE.out];go_num,by go_num,M1.out.trans ?_⟩
    refine mk_set ?_ hb ⟨v4,hc4,f4⟩ _ trivial
    refine mk_set ?_ hb ⟨v3,hc3,f3⟩ _ trivial
    exact Mk.refl _ _
   case measure=>simp[intOf];omega
  ·have HK:Hid (j=n):=by show _=_;omega
   go_wp2_with fail
   go_ret
   rw[HK.out]
   exact⟨rfl,hm⟩
theorem markInsS_any (a:Option Addr)(n c:Nat)(k:Int)(S:Nat→Prop)(w:World)(hs:FlatRow w S a (n * 5))(hS:Soft w S)(h0:0≤k)(hk:k+5 * n≤1000000000000) :
  Calls Tryz.prog 54 #[.slice a n c,.int .i64 k] w fun e w'=>e=.returned (.int .i64 (k+5 * n))∧Mk S w w':=by
 go_enter Tryz.func54,Tryz.ntmps54
 go_wp2_with fail
 go_loopw [1,5] (fun q i wr=>∃(j:Nat),j≤n∧q=.int .i64 (k+5 * j)∧i=.int .i64 j∧Mk S w wr) (fun _ i _=>n-(intOf i).toNat)
 case atStart=>exact⟨0,Nat.zero_le _,by simp,rfl,Mk.refl _ _⟩
 case round=>
  obtain⟨j,hj,rfl,rfl,hm⟩:=hrel
  by_cases hlt:j<n
  ·have HB:Hid (k+5 * j+5≤1000000000000):=by show _≤_;omega
   have HE:Hid (k+5 * ((j+1:Nat):Int)=k+5 * j+5):=by show _=_;omega
   obtain⟨kj,hkj⟩:∃ kj:Int,kj=k+5 * (j:Int):=⟨_,rfl⟩
   have hk0:0≤kj:=by omega
   have hk1:kj+5≤1000000000000:=by omega
   rw[←hkj]at HB HE ⊢
   have hnn:n≤1000000000000:=by omega
   clear hk
   have HM:=hide hm
   clear hm
   obtain⟨b,off,rfl,hb,hcc⟩:=(hs.mk HM.out) (by omega)
   obtain⟨v0,hc0,f0⟩:=hcc (j * 5+0) (by omega)
   obtain⟨v1,hc1,f1⟩:=hcc (j * 5+1) (by omega)
   rw[←Nat.add_assoc]at hc1
   obtain⟨v2,hc2,f2⟩:=hcc (j * 5+2) (by omega)
   rw[←Nat.add_assoc]at hc2
   obtain⟨v3,hc3,f3⟩:=hcc (j * 5+3) (by omega)
   rw[←Nat.add_assoc]at hc3
   obtain⟨v4,hc4,f4⟩:=hcc (j * 5+4) (by omega)
   rw[←Nat.add_assoc]at hc4
   rw[Nat.add_zero]at hc0
   have hf:=((hS.mk HM.out) b hb).2
   clear hcc hkj
   go_wp2_with fail
   go_roundw
   case rel=>
    refine⟨j+1,by omega,by rw[HE.out];go_num,by go_num,HM.out.trans ?_⟩
    refine mk_set ?_ hb ⟨v4,hc4,f4⟩ _ trivial
    refine mk_set ?_ hb ⟨v3,hc3,f3⟩ _ trivial
    refine mk_set ?_ hb ⟨v2,hc2,f2⟩ _ trivial
    refine mk_set ?_ hb ⟨v1,hc1,f1⟩ _ trivial
    refine mk_set ?_ hb ⟨v0,hc0,f0⟩ _ trivial
    exact Mk.refl _ _
   case measure=>simp[intOf];omega
  ·have HK:Hid (j=n):=by show _=_;omega
   go_wp2_with fail
   go_ret
   rw[HK.out]
   exact⟨rfl,hm⟩
theorem markNamedS_any (a:Option Addr)(n c:Nat)(k:Int)(S:Nat→Prop)(w:World)(hs:FlatRow w S a (n * 4))(hS:Soft w S)(h0:0≤k)(hk:k+4 * n≤1000000000000) :
  Calls Tryz.prog 55 #[.slice a n c,.int .i64 k] w fun e w'=>e=.returned (.int .i64 (k+4 * n))∧Mk S w w':=by
 go_enter Tryz.func55,Tryz.ntmps55
 go_wp2_with fail
 go_loopw [1,5] (fun q i wr=>∃(j:Nat),j≤n∧q=.int .i64 (k+4 * j)∧i=.int .i64 j∧Mk S w wr) (fun _ i _=>n-(intOf i).toNat)
 case atStart=>exact⟨0,Nat.zero_le _,by simp,rfl,Mk.refl _ _⟩
 case round=>
  obtain⟨j,hj,rfl,rfl,hm⟩:=hrel
  by_cases hlt:j<n
  ·have HB:Hid (k+4 * j+4≤1000000000000):=by show _≤_;omega
   have HE:Hid (k+4 * ((j+1:Nat):Int)=k+4 * j+4):=by show _=_;omega
   obtain⟨kj,hkj⟩:∃ kj:Int,kj=k+4 * (j:Int):=⟨_,rfl⟩
   have hk0:0≤kj:=by omega
   have hk1:kj+4≤1000000000000:=by omega
   rw[←hkj]at HB HE ⊢
   have hnn:n≤1000000000000:=by omega
   clear hk
   have HM:=hide hm
   clear hm
   clear hkj
   have HB2:Hid (kj≤1000000000000):=by show _≤_;omega
   go_wp2_with fail
   refine(markText_any _ _ HB2.out).mono ?_
   rintro e w1 ⟨s,rfl,hb1⟩
   have m1:Mk S wr w1:=by
    refine Mk.trans ?_ (Mk.of_below hb1)
    exact Mk.refl _ _
   clear hb1
   obtain⟨b,off,rfl,hb,hcc⟩:=(hs.mk (HM.out.trans m1)) (by omega)
   obtain⟨v0,hc0,f0⟩:=hcc (j * 4+0) (by omega)
   obtain⟨v1,hc1,f1⟩:=hcc (j * 4+1) (by omega)
   rw[←Nat.add_assoc]at hc1
   obtain⟨v2,hc2,f2⟩:=hcc (j * 4+2) (by omega)
   rw[←Nat.add_assoc]at hc2
   obtain⟨v3,hc3,f3⟩:=hcc (j * 4+3) (by omega)
   rw[←Nat.add_assoc]at hc3
   rw[Nat.add_zero]at hc0
   have hf:=((hS.mk (HM.out.trans m1)) b hb).2
   have M1:=hide (HM.out.trans m1)
   clear hcc m1 HM
   go_wp2_with fail
   go_roundw
   case rel=>
    refine⟨j+1,by omega,by rw[HE.out];go_num,by go_num,M1.out.trans ?_⟩
    refine mk_set ?_ hb ⟨v3,hc3,f3⟩ _ trivial
    refine mk_set ?_ hb ⟨v2,hc2,f2⟩ _ trivial
    refine mk_set ?_ hb ⟨v1,hc1,f1⟩ _ trivial
    refine mk_set ?_ hb ⟨v0,hc0,f0⟩ _ trivial
    exact Mk.refl _ _
   case measure=>simp[intOf];omega
  ·have HK:Hid (j=n):=by show _=_;omega
   go_wp2_with fail
   go_ret
   rw[HK.out]
   exact⟨rfl,hm⟩
structure ProtoM (w:World)(S:Nat→Prop)(b o:Nat)(n:ProtoD):Prop where
 flat:∀ r,r<5→∃ v,w.cell? ⟨b,o+r,none⟩=some v∧Flat v
 ups:∃ a c,w.cell? ⟨b,o+5,none⟩=some (.slice a n.ups.length c)∧FlatRow w S a (n.ups.length * 2)
 consts:∃ a c,w.cell? ⟨b,o+6,none⟩=some (.slice a n.consts.length c)∧FlatRow w S a (n.consts.length * 5)
 ins:∃ a c,w.cell? ⟨b,o+7,none⟩=some (.slice a n.ins.length c)∧FlatRow w S a (n.ins.length * 5)
 named:∃ a c,w.cell? ⟨b,o+8,none⟩=some (.slice a n.named.length c)∧FlatRow w S a (n.named.length * 4)
def ProtosM (w:World)(S:Nat→Prop)(a:Option Addr)(l:List ProtoD):Prop:=
 0<l.length→∃ b off,a=some ⟨b,off,none⟩∧S b∧∀ j,j<l.length→ProtoM w S b (off+j * 9) (l[j]?.getD ProtoD.z)
section
variable {S:Nat→Prop} {w w':World}
theorem ProtoM.mk' {b o:Nat}{n:ProtoD}(h:ProtoM w S b o n)(k:Mk S w w'):ProtoM w' S b o n where
 flat r hr:=by obtain⟨v,e,f⟩:=h.flat r hr;exact k.flat _ _ v e f
 ups:=by obtain⟨a,c,e,f⟩:=h.ups;exact⟨a,c,k.hdr _ _ _ _ _ e,f.mk k⟩
 consts:=by obtain⟨a,c,e,f⟩:=h.consts;exact⟨a,c,k.hdr _ _ _ _ _ e,f.mk k⟩
 ins:=by obtain⟨a,c,e,f⟩:=h.ins;exact⟨a,c,k.hdr _ _ _ _ _ e,f.mk k⟩
 named:=by obtain⟨a,c,e,f⟩:=h.named;exact⟨a,c,k.hdr _ _ _ _ _ e,f.mk k⟩
theorem ProtosM.mk' {a:Option Addr}{l:List ProtoD}(h:ProtosM w S a l)(k:Mk S w w'):ProtosM w' S a l:=fun hl=>by
 obtain⟨b,off,e,hs,hc⟩:=h hl
 exact⟨b,off,e,hs,fun j hj=>(hc j hj).mk' k⟩
theorem flat_rows {a:Option Addr}{n m:Nat}(hm:0<m)(h:0<n→∃ b off,a=some ⟨b,off,none⟩∧S b∧∀ j,j<n→∀ r,r<m→∃ v,w.cell? ⟨b,off+j * m+r,none⟩=some v∧Flat v):FlatRow w S a (n * m):=fun hl=>by
 obtain⟨b,off,e,hs,hc⟩:=h (Nat.pos_of_ne_zero (fun e=>by rw[e,Nat.zero_mul]at hl;exact Nat.lt_irrefl _ hl))
 refine⟨b,off,e,hs,fun j hj=>?_⟩
 have h1:=hc (j / m) (Nat.div_lt_of_lt_mul (by rwa [Nat.mul_comm]at hj)) (j % m) (Nat.mod_lt _ hm)
 rwa [Nat.add_assoc,Nat.div_add_mod']at h1
theorem protosM_of {a:Option Addr}{l:List ProtoD}(h:ProtosAt w S a l):ProtosM w S a l:=fun hl=>by
 obtain⟨b,off,e,hs,hc⟩:=h.2 hl
 refine⟨b,off,e,hs,fun j hj=>?_⟩
 have N:=hc j hj
 obtain⟨a1,c1,e1,i1⟩:=N.ups
 obtain⟨a2,c2,e2,i2⟩:=N.consts
 obtain⟨a3,c3,e3,i3⟩:=N.ins
 obtain⟨a4,c4,e4,i4⟩:=N.named
 refine⟨fun r hr=>?_,⟨a1,c1,e1,flat_rows (by decide) fun h0=>?_⟩,⟨a2,c2,e2,flat_rows (by decide) fun h0=>?_⟩,⟨a3,c3,e3,flat_rows (by decide) fun h0=>?_⟩,⟨a4,c4,e4,flat_rows (by decide) fun h0=>?_⟩⟩
 ·match r,hr with
  | 0,_=>exact⟨_,N.name,trivial⟩
  | 1,_=>exact⟨_,N.line,trivial⟩
  | 2,_=>exact⟨_,N.params,trivial⟩
  | 3,_=>exact⟨_,N.rest,trivial⟩
  | 4,_=>exact⟨_,N.regs,trivial⟩
 ·obtain⟨b,off,e,hs,hc⟩:=i1.2 h0
  refine⟨b,off,e,hs,fun j hj r hr=>?_⟩
  match r,hr with
  | 0,_=>exact⟨_,(hc j hj).1,trivial⟩
  | 1,_=>exact⟨_,(hc j hj).2,trivial⟩
 ·obtain⟨b,off,e,hs,hc⟩:=i2.2 h0
  refine⟨b,off,e,hs,fun j hj r hr=>?_⟩
  match r,hr with
  | 0,_=>exact⟨_,(hc j hj).kind,trivial⟩
  | 1,_=>exact⟨_,(hc j hj).num,trivial⟩
  | 2,_=>exact⟨_,(hc j hj).flt,trivial⟩
  | 3,_=>exact⟨_,(hc j hj).str,trivial⟩
  | 4,_=>exact⟨_,(hc j hj).ref,trivial⟩
 ·obtain⟨b,off,e,hs,hc⟩:=i3.2 h0
  refine⟨b,off,e,hs,fun j hj r hr=>?_⟩
  match r,hr with
  | 0,_=>exact⟨_,(hc j hj).op,trivial⟩
  | 1,_=>exact⟨_,(hc j hj).fa,trivial⟩
  | 2,_=>exact⟨_,(hc j hj).fb,trivial⟩
  | 3,_=>exact⟨_,(hc j hj).fc,trivial⟩
  | 4,_=>exact⟨_,(hc j hj).fd,trivial⟩
 ·obtain⟨b,off,e,hs,hc⟩:=i4.2 h0
  refine⟨b,off,e,hs,fun j hj r hr=>?_⟩
  match r,hr with
  | 0,_=>exact⟨_,(hc j hj).name,trivial⟩
  | 1,_=>exact⟨_,(hc j hj).reg,trivial⟩
  | 2,_=>exact⟨_,(hc j hj).fro,trivial⟩
  | 3,_=>exact⟨_,(hc j hj).til,trivial⟩
end
def mProto (n:ProtoD):Nat:=5+2 * n.ups.length+5 * n.consts.length+5 * n.ins.length+4 * n.named.length
theorem mProtos_le:∀ l:List ProtoD,sumAll mProto l≤6 * tProtos l
 | []=>by simp[sumAll]
 | x::l=>by
  have h1:=mProtos_le l
  have h2:mProto x≤5+6 * tProto x:=by unfold mProto tProto tVals tNams;omega
  simp[sumAll,tProtos]at *
  omega
theorem markProtoS_any (a:Option Addr)(l:List ProtoD)(c:Nat)(k:Int)(S:Nat→Prop)(w:World)(hs:ProtosM w S a l)(hS:Soft w S)(h0:0≤k)(hk:k+sumAll mProto l≤1000000000)(hn:l.length≤1000000000) :
  Calls Tryz.prog 23 #[.slice a l.length c,.int .i64 k] w fun e w'=>e=.returned (.int .i64 (k+sumAll mProto l))∧Mk S w w':=by
 have HSUM:Hid (∀ j,j<l.length→sumTo mProto l (j+1)=sumTo mProto l j+mProto (l[j]?.getD ProtoD.z)∧sumTo mProto l (j+1)≤sumAll mProto l):=fun j hj=>⟨sumTo_succ mProto l j ProtoD.z hj,sumTo_le _ _ _⟩
 go_enter Tryz.func23,Tryz.ntmps23
 go_wp2_with fail
 go_loopw [1,5] (fun q i wr=>∃(j:Nat),j≤l.length∧q=.int .i64 (k+sumTo mProto l j)∧i=.int .i64 j∧Mk S w wr) (fun _ i _=>l.length-(intOf i).toNat)
 case atStart=>exact⟨0,Nat.zero_le _,by simp[sumTo_zero],rfl,Mk.refl _ _⟩
 case round=>
  obtain⟨j,hj,rfl,rfl,hm⟩:=hrel
  by_cases hlt:j<l.length
  ·obtain⟨hs1,hs2⟩:=unhide HSUM j hlt
   obtain⟨b,off,rfl,hb,hcc⟩:=(hs.mk' hm) (by omega)
   have N:=hcc j hlt
   clear hcc
   generalize hx:l[j]?.getD ProtoD.z=x at N hs1
   clear hx
   have he:mProto x=5+2 * x.ups.length+5 * x.consts.length+5 * x.ins.length+4 * x.named.length:=rfl
   obtain⟨kj,hkj⟩:∃ kj:Int,kj=k+sumTo mProto l j:=⟨_,rfl⟩
   rw[←hkj]
   have hkb:0≤kj∧kj+5+2 * x.ups.length+5 * x.consts.length+5 * x.ins.length+4 * x.named.length≤1000000000:=by omega
   have HE:Hid (kj+5+2 * x.ups.length+5 * x.consts.length+5 * x.ins.length+4 * x.named.length=k+sumTo mProto l (j+1)):=by show _=_;omega
   obtain⟨hkb0,hkb1⟩:=hkb
   clear he hs1 hs2 hkj hk
   have HSo:=hide (hS.mk hm)
   have HN:=hide N
   have HM:=hide hm
   clear N hm
   have HB:Hid (kj≤1000000000000):=by show _≤_;omega
   go_wp2_with fail
   refine(markText_any _ _ HB.out).mono ?_
   rintro e w1 ⟨s,rfl,hb1⟩
   have m1:Mk S wr w1:=Mk.of_below hb1
   obtain⟨v0,hc0,f0⟩:=(HN.out.mk' m1).flat 0 (by omega)
   obtain⟨v1,hc1,f1⟩:=(HN.out.mk' m1).flat 1 (by omega)
   obtain⟨v2,hc2,f2⟩:=(HN.out.mk' m1).flat 2 (by omega)
   obtain⟨v3,hc3,f3⟩:=(HN.out.mk' m1).flat 3 (by omega)
   obtain⟨v4,hc4,f4⟩:=(HN.out.mk' m1).flat 4 (by omega)
   rw[Nat.add_zero]at hc0
   obtain⟨ra,rc,hr,hrF⟩:=(HN.out.mk' m1).ups
   have hf1:=((HSo.out.mk m1) b hb).2
   have M1:=hide m1
   have HRF:=hide hrF
   clear hrF m1 hb1
   go_wp2_with fail
   have m2:Mk S w1 (((((w1.setCell ⟨b,off+j * 9,none⟩ (.string s)).setCell ⟨b,off+j * 9+1,none⟩ (.int .i64 (kj+1))).setCell ⟨b,off+j * 9+2,none⟩ (.int .i64 (kj+1+1))).setCell ⟨b,off+j * 9+3,none⟩ (.bool (decide ((kj+1+1+1) % 3=0)))).setCell ⟨b,off+j * 9+4,none⟩ (.int .i64 (kj+1+1+1+1))):=by
    refine mk_set ?_ hb ⟨v4,hc4,f4⟩ _ trivial
    refine mk_set ?_ hb ⟨v3,hc3,f3⟩ _ trivial
    refine mk_set ?_ hb ⟨v2,hc2,f2⟩ _ trivial
    refine mk_set ?_ hb ⟨v1,hc1,f1⟩ _ trivial
    refine mk_set ?_ hb ⟨v0,hc0,f0⟩ _ trivial
    exact Mk.refl _ _
   have M2:=hide (M1.out.trans m2)
   refine(markUpS_any ra _ rc _ S _ (HRF.out.mk m2) (HSo.out.mk M2.out) (by omega) (by omega)).mono ?_
   rintro e w2 ⟨rfl,m3⟩
   have m4:=M2.out.trans m3
   obtain⟨ka,kc,hr2,hkF⟩:=(HN.out.mk' m4).consts
   clear hc0 f0 v0 hc1 f1 v1 hc2 f2 v2 hc3 f3 v3 hc4 f4 v4 hr m3 m2 M1 M2 HRF hf1
   have HKF:=hide hkF
   have M4:=hide m4
   clear hkF m4
   go_wp2_with fail
   refine(markValueS_any ka _ kc _ S _ HKF.out (HSo.out.mk M4.out) (by omega) (by omega)).mono ?_
   rintro e w3 ⟨rfl,m5⟩
   have m6:=M4.out.trans m5
   obtain⟨na,nc,hr3,hnF⟩:=(HN.out.mk' m6).ins
   have HNF:=hide hnF
   have M6:=hide m6
   clear m5 hr2 m6 HKF hnF M4
   go_wp2_with fail
   refine(markInsS_any na _ nc _ S _ HNF.out (HSo.out.mk M6.out) (by omega) (by omega)).mono ?_
   rintro e w4 ⟨rfl,m7⟩
   have m8:=M6.out.trans m7
   obtain⟨qa,qc,hr4,hqF⟩:=(HN.out.mk' m8).named
   have HQF:=hide hqF
   have M8:=hide m8
   clear m7 hr3 m8 HNF hqF M6
   go_wp2_with fail
   refine(markNamedS_any qa _ qc _ S _ HQF.out (HSo.out.mk M8.out) (by omega) (by omega)).mono ?_
   rintro e w5 ⟨rfl,m9⟩
   have M9:=hide (HM.out.trans (M8.out.trans m9))
   clear m9 hr4
   go_wp2_with fail
   go_roundw
   case rel=>exact⟨j+1,by omega,by rw[←HE.out];go_num,by go_num,M9.out⟩
   case measure=>simp[intOf];omega
  ·have HK:Hid (j=l.length):=by show _=_;omega
   go_wp2_with fail
   go_ret
   rw[HK.out,sumTo_len]
   exact⟨rfl,hm⟩
theorem markCode_any (a:Option Addr)(l:List ProtoD)(c:Nat)(k:Int)(S:Nat→Prop)(w:World)(hs:ProtosM w S a l)(hS:Soft w S)(h0:0≤k)(hk:k+sumAll mProto l≤1000000000)(hn:l.length≤1000000000) :
  Calls Tryz.prog 10 #[.agg #[.slice a l.length c],.int .i64 k] w fun e w'=>e=.returned (.int .i64 (k+sumAll mProto l))∧Mk S w w':=by
 have hbA:Below w.heap.size w (w.alloc (.cells #[.slice a l.length c] 30)):=(Below.refl _ _).alloc (Nat.le_refl _) _
 have HBA:=hide hbA
 clear hbA
 go_enter Tryz.func10,Tryz.ntmps10
 go_wp2_with fail
 refine(markProtoS_any a l c k S _ (hs.mk' (Mk.of_below HBA.out)) (hS.mk (Mk.of_below HBA.out)) h0 hk hn).mono ?_
 rintro e w1 ⟨rfl,m1⟩
 go_wp2_with fail
 go_ret
 exact⟨rfl,(Mk.of_below HBA.out).trans m1⟩
end Go.Proofs.YthmjjhfjkgaocaaGreatDoor
