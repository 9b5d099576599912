import Derived.Test.YtcjfjflljdojlaaGreatDoorPart02
set_option linter.all false
set_option maxHeartbeats 4000000
set_option maxRecDepth 100000
namespace Go.Proofs.YtcjfjflljdojlaaGreatDoor
open Go.RowKit
attribute [local go_sem] cn
theorem tN {W w1:w_}(hb:aF W.heap.size W w1):(∀ b o,b<W.heap.size->w1.cell? (a_ b o)=W.cell? (a_ b o))/\(∀ b o,b<W.heap.size->w1.frozen? (a_ b o)=W.frozen? (a_ b o)):=cz hb.1
theorem il {B G:Nat}{w:w_}(hG:B<=G):∀(vs:List Value)(w1:w_)(o:Nat),aF B w w1->aF B w (ed G w1 o vs)
 | [],_,_,h=>h
 | v::vs,w1,o,h=>il hG vs _ (o+1) (h.setCell hG v)
theorem G1 (v0:Bool)(v1:Int)(w:w_) :
  c_ 107 #[.agg #[.bool v0,i_ v1]] w fun e w'=>e=.returned (.agg #[.bool v0,i_ v1])/\aF w.heap.size w w':=by
 go_enter Tryz.func107,Tryz.ntmps107;go_wp2_with fail;exact zcd (v:=.agg #[.bool v0,i_ v1]) (by simp[results,Tryz.results107,go_sem]) rfl ⟨rfl,by repeat (first | refine aF.alloc ?_ (by simp<;>omega) () | exact aF.refl _ _)⟩
theorem Dq (a:o_)(l:List (Bool×Int))(c:Nat)(S:Nat->Prop)(w:w_)(hs:dG w S a l)(hB:∀ b,S b->b<w.heap.size)(hl:l.length<=1048576) :
  c_ 66 #[.slice a l.length c] w fun e w'=>∃ a' c',e=.returned (.slice a' l.length c')/\dG w' (ji w.heap.size w') a' l/\aF w.heap.size w w':=by
 have hn:=hs.1;have kE:∀ w:w_,(Instr.makeSlice 38 (i_ (l.length:Int)) (i_ (l.length:Int))).run Tryz.prog w=.ok (s_ w.heap.size 0 l.length l.length) (w.alloc (.cells (madeCells Uz.toArray (l.length * 2)) 46)):=
  ex (P:=Tryz.prog) 38 46 _ 2 16 Tryz.underlying38 yg .i64 .i64 l.length (by omega) hn
 go_enter Tryz.func66,Tryz.ntmps66;go_wp2_with fail;clear kE;go_loopw [4] (fun i wr=>∃(k:Nat),k<=l.length/\i=i_ k/\aF w.heap.size w wr/\wr.rowIs w.heap.size 46 (l.length * 2) (jG 2 (fun _=>iz) Uz l (false,0) k)) (fun i _=>l.length-(intOf i).toNat);(case atStart=>exact⟨0,Nat.zero_le _,rfl,(aF.refl _ _).alloc n_ (),kR _ _ rfl (by decide)⟩);case round=>obtain⟨k,hk,rfl,ei,bx⟩:=hrel;by_cases au:k<l.length;{obtain⟨b,off,rfl,hb,aC⟩:=(hs.keep ei.1 hB).2 (by omega);have N:=aC k au;clear aC;have HN:H_ (∀ W:w_,W.rowIs w.heap.size 46 (l.length * 2) (jG 2 (fun _=>iz) Uz l (false,0) k)->(ed w.heap.size W (k * 2) (iz (l[k]?.getD (false,0)))).rowIs w.heap.size 46 (l.length * 2) (jG 2 (fun _=>iz) Uz l (false,0) (k+1))):=fun W hW=>nj (sz:=2) (vals:=fun _=>iz) (vals':=fun _=>iz) (z:=Uz) (l:=l) (d:=(false,0)) (by decide) rfl (fun _ _=>rfl) hW;generalize l[k]?.getD (false,0)=nd at *;obtain⟨h1,h2⟩:=N;go_wp2_with fail;refine(G1 _ _ _).mono ?_;rintro e w' ⟨rfl,dV⟩;have bQ:=bx.of_block (dV.block _ bx.lt);have rD:=bQ.frozen (k * 2);have fI:=bQ.frozen (k * 2+1);have Ff:=bQ.cell (i:=k * 2) (by omega);have xi:=bQ.cell (i:=k * 2+1) (by omega);have HR:=af bQ;have lv:=af (ei.trans (dV.mono ei.size));clear h1 h2 bx bQ ei dV;go_wp2;go_roundw;(case rel=>clear rD Ff fI xi;exact⟨k+1,by omega,by go_num,il n_ (iz nd) _ (k * 2) (aa lv),aa HN _ (aa HR)⟩);case measure=>simp[intOf];omega};{have HK:H_ (k=l.length):=by{show _=_;omega};go_wp2;go_ret;have iJ:=HK.o;exact⟨_,_,rfl,⟨hn,fun h0=>⟨_,0,rfl,⟨n_,bx.lt⟩,fun j hj=>⟨de bx iJ (r:=0) hj (by omega),de bx iJ (r:=1) hj (by omega)⟩⟩⟩,ei⟩}
theorem yh (v0:Int)(v1:Int)(v2:Nat)(v3:ByteArray)(v4:Int)(w:w_) :
  c_ 108 #[.agg #[i_ v0,i_ v1,.float .f64 v2,.string v3,i_ v4]] w fun e w'=>e=.returned (.agg #[i_ v0,i_ v1,.float .f64 v2,.string v3,i_ v4])/\aF w.heap.size w w':=by
 go_enter Tryz.func108,Tryz.ntmps108;go_wp2_with fail;exact zcd (v:=.agg #[i_ v0,i_ v1,.float .f64 v2,.string v3,i_ v4]) (by simp[results,Tryz.results108,go_sem]) rfl ⟨rfl,by repeat (first | refine aF.alloc ?_ (by simp<;>omega) () | exact aF.refl _ _)⟩
theorem vM (a:o_)(l:List (cN))(c:Nat)(S:Nat->Prop)(w:w_)(hs:cQ w S a l)(hB:∀ b,S b->b<w.heap.size)(hl:l.length<=1048576) :
  c_ 67 #[.slice a l.length c] w fun e w'=>∃ a' c',e=.returned (.slice a' l.length c')/\cQ w' (ji w.heap.size w') a' l/\aF w.heap.size w w':=by
 have hn:=hs.1;have kE:∀ w:w_,(Instr.makeSlice 39 (i_ (l.length:Int)) (i_ (l.length:Int))).run Tryz.prog w=.ok (s_ w.heap.size 0 l.length l.length) (w.alloc (.cells (madeCells IA.toArray (l.length * 5)) 49)):=
  ex (P:=Tryz.prog) 39 49 _ 5 48 Tryz.underlying39 tO .i64 .i64 l.length (by omega) hn
 go_enter Tryz.func67,Tryz.ntmps67;go_wp2_with fail;clear kE;go_loopw [4] (fun i wr=>∃(k:Nat),k<=l.length/\i=i_ k/\aF w.heap.size w wr/\wr.rowIs w.heap.size 49 (l.length * 5) (jG 5 (fun _=>gi) IA l cN.z k)) (fun i _=>l.length-(intOf i).toNat);(case atStart=>exact⟨0,Nat.zero_le _,rfl,(aF.refl _ _).alloc n_ (),kR _ _ rfl (by decide)⟩);case round=>
  obtain⟨k,hk,rfl,ei,bx⟩:=hrel;by_cases au:k<l.length;{obtain⟨b,off,rfl,hb,aC⟩:=(hs.keep ei.1 hB).2 (by omega);have N:=aC k au;clear aC;have HN:H_ (∀ W:w_,W.rowIs w.heap.size 49 (l.length * 5) (jG 5 (fun _=>gi) IA l cN.z k)->(ed w.heap.size W (k * 5) (gi (l[k]?.getD cN.z))).rowIs w.heap.size 49 (l.length * 5) (jG 5 (fun _=>gi) IA l cN.z (k+1))):=fun W hW=>nj (sz:=5) (vals:=fun _=>gi) (vals':=fun _=>gi) (z:=IA) (l:=l) (d:=cN.z) (by decide) rfl (fun _ _=>rfl) hW;generalize l[k]?.getD cN.z=nd at *;have c0:=N.kind;have c1:=N.num;have c2:=N.flt;have c3:=N.str;have c4:=N.ref;go_wp2_with fail;refine(yh _ _ _ _ _ _).mono ?_;rintro e w' ⟨rfl,dV⟩;have bQ:=bx.of_block (dV.block _ bx.lt);have rD:=bQ.frozen (k * 5);have fI:=bQ.frozen (k * 5+1);have wd:=bQ.frozen (k * 5+2);have BI:=bQ.frozen (k * 5+3);have Tj:=bQ.frozen (k * 5+4);have Ff:=bQ.cell (i:=k * 5) (by omega);have xi:=bQ.cell (i:=k * 5+1) (by omega);have wq:=bQ.cell (i:=k * 5+2) (by omega);have Hx:=bQ.cell (i:=k * 5+3) (by omega);have PT:=bQ.cell (i:=k * 5+4) (by omega);have HR:=af bQ;have lv:=af (ei.trans (dV.mono ei.size));clear c0 c1 c2 c3 c4 bx bQ ei dV;go_wp2;go_roundw;(case rel=>clear rD Ff fI xi wd wq BI Hx Tj PT;exact⟨k+1,by omega,by go_num,il n_ (gi nd) _ (k * 5) (aa lv),aa HN _ (aa HR)⟩);case measure=>simp[intOf];omega}
  ·have HK:H_ (k=l.length):=by{show _=_;omega};go_wp2
   go_ret;have iJ:=HK.o;have N:∀ j,j<l.length->(l[j]?.getD cN.z).str.size<=9223372036854775807:=fun j hj=>by
    obtain⟨b,off,_,_,aC⟩:=hs.2 (by omega);exact(aC j hj).strs
   exact⟨_,_,rfl,⟨hn,fun h0=>⟨_,0,rfl,⟨n_,bx.lt⟩,fun j hj=>{ kind:=de bx iJ (r:=0) hj (by omega),num:=de bx iJ (r:=1) hj (by omega),flt:=de bx iJ (r:=2) hj (by omega),str:=de bx iJ (r:=3) hj (by omega),ref:=de bx iJ (r:=4) hj (by omega),strs:=N j hj }⟩⟩,ei⟩
theorem Cv (v0:Int)(v1:Int)(v2:Int)(v3:Int)(v4:Int)(w:w_) :
  c_ 109 #[.agg #[i_ v0,i_ v1,i_ v2,i_ v3,i_ v4]] w fun e w'=>e=.returned (.agg #[i_ v0,i_ v1,i_ v2,i_ v3,i_ v4])/\aF w.heap.size w w':=by
 go_enter Tryz.func109,Tryz.ntmps109;go_wp2_with fail;exact zcd (v:=.agg #[i_ v0,i_ v1,i_ v2,i_ v3,i_ v4]) (by simp[results,Tryz.results109,go_sem]) rfl ⟨rfl,by repeat (first | refine aF.alloc ?_ (by simp<;>omega) () | exact aF.refl _ _)⟩
theorem AX (a:o_)(l:List (az))(c:Nat)(S:Nat->Prop)(w:w_)(hs:bN w S a l)(hB:∀ b,S b->b<w.heap.size)(hl:l.length<=1048576) :
  c_ 68 #[.slice a l.length c] w fun e w'=>∃ a' c',e=.returned (.slice a' l.length c')/\bN w' (ji w.heap.size w') a' l/\aF w.heap.size w w':=by
 have hn:=hs.1;have kE:∀ w:w_,(Instr.makeSlice 40 (i_ (l.length:Int)) (i_ (l.length:Int))).run Tryz.prog w=.ok (s_ w.heap.size 0 l.length l.length) (w.alloc (.cells (madeCells Jq.toArray (l.length * 5)) 51)):=
  ex (P:=Tryz.prog) 40 51 _ 5 40 Tryz.underlying40 la .i64 .i64 l.length (by omega) hn
 go_enter Tryz.func68,Tryz.ntmps68;go_wp2_with fail;clear kE;go_loopw [4] (fun i wr=>∃(k:Nat),k<=l.length/\i=i_ k/\aF w.heap.size w wr/\wr.rowIs w.heap.size 51 (l.length * 5) (jG 5 (fun _=>aV) Jq l az.z k)) (fun i _=>l.length-(intOf i).toNat);(case atStart=>exact⟨0,Nat.zero_le _,rfl,(aF.refl _ _).alloc n_ (),kR _ _ rfl (by decide)⟩);case round=>obtain⟨k,hk,rfl,ei,bx⟩:=hrel;by_cases au:k<l.length;{obtain⟨b,off,rfl,hb,aC⟩:=(hs.keep ei.1 hB).2 (by omega);have N:=aC k au;clear aC;have HN:H_ (∀ W:w_,W.rowIs w.heap.size 51 (l.length * 5) (jG 5 (fun _=>aV) Jq l az.z k)->(ed w.heap.size W (k * 5) (aV (l[k]?.getD az.z))).rowIs w.heap.size 51 (l.length * 5) (jG 5 (fun _=>aV) Jq l az.z (k+1))):=fun W hW=>nj (sz:=5) (vals:=fun _=>aV) (vals':=fun _=>aV) (z:=Jq) (l:=l) (d:=az.z) (by decide) rfl (fun _ _=>rfl) hW;generalize l[k]?.getD az.z=nd at *;have c0:=N.op;have c1:=N.fa;have c2:=N.fb;have c3:=N.fc;have c4:=N.fd;go_wp2_with fail;refine(Cv _ _ _ _ _ _).mono ?_;rintro e w' ⟨rfl,dV⟩;have bQ:=bx.of_block (dV.block _ bx.lt);have rD:=bQ.frozen (k * 5);have fI:=bQ.frozen (k * 5+1);have wd:=bQ.frozen (k * 5+2);have BI:=bQ.frozen (k * 5+3);have Tj:=bQ.frozen (k * 5+4);have Ff:=bQ.cell (i:=k * 5) (by omega);have xi:=bQ.cell (i:=k * 5+1) (by omega);have wq:=bQ.cell (i:=k * 5+2) (by omega);have Hx:=bQ.cell (i:=k * 5+3) (by omega);have PT:=bQ.cell (i:=k * 5+4) (by omega);have HR:=af bQ;have lv:=af (ei.trans (dV.mono ei.size));clear c0 c1 c2 c3 c4 bx bQ ei dV;go_wp2;go_roundw;(case rel=>clear rD Ff fI xi wd wq BI Hx Tj PT;exact⟨k+1,by omega,by go_num,il n_ (aV nd) _ (k * 5) (aa lv),aa HN _ (aa HR)⟩);case measure=>simp[intOf];omega};{have HK:H_ (k=l.length):=by{show _=_;omega};go_wp2;go_ret;have iJ:=HK.o;exact⟨_,_,rfl,⟨hn,fun h0=>⟨_,0,rfl,⟨n_,bx.lt⟩,fun j hj=>{ op:=de bx iJ (r:=0) hj (by omega),fa:=de bx iJ (r:=1) hj (by omega),fb:=de bx iJ (r:=2) hj (by omega),fc:=de bx iJ (r:=3) hj (by omega),fd:=de bx iJ (r:=4) hj (by omega) }⟩⟩,ei⟩}
theorem xA (v0:ByteArray)(v1:Int)(v2:Int)(v3:Int)(w:w_) :
  c_ 110 #[.agg #[.string v0,i_ v1,i_ v2,i_ v3]] w fun e w'=>e=.returned (.agg #[.string v0,i_ v1,i_ v2,i_ v3])/\aF w.heap.size w w':=by
 go_enter Tryz.func110,Tryz.ntmps110;go_wp2_with fail;exact zcd (v:=.agg #[.string v0,i_ v1,i_ v2,i_ v3]) (by simp[results,Tryz.results110,go_sem]) rfl ⟨rfl,by repeat (first | refine aF.alloc ?_ (by simp<;>omega) () | exact aF.refl _ _)⟩
theorem vR (a:o_)(l:List (bB))(c:Nat)(S:Nat->Prop)(w:w_)(hs:da w S a l)(hB:∀ b,S b->b<w.heap.size)(hl:l.length<=1048576) :
  c_ 69 #[.slice a l.length c] w fun e w'=>∃ a' c',e=.returned (.slice a' l.length c')/\da w' (ji w.heap.size w') a' l/\aF w.heap.size w w':=by
 have hn:=hs.1;have kE:∀ w:w_,(Instr.makeSlice 41 (i_ (l.length:Int)) (i_ (l.length:Int))).run Tryz.prog w=.ok (s_ w.heap.size 0 l.length l.length) (w.alloc (.cells (madeCells JP.toArray (l.length * 4)) 53)):=
  ex (P:=Tryz.prog) 41 53 _ 4 40 Tryz.underlying41 py .i64 .i64 l.length (by omega) hn
 go_enter Tryz.func69,Tryz.ntmps69;go_wp2_with fail;clear kE;go_loopw [4] (fun i wr=>∃(k:Nat),k<=l.length/\i=i_ k/\aF w.heap.size w wr/\wr.rowIs w.heap.size 53 (l.length * 4) (jG 4 (fun _=>dP) JP l bB.z k)) (fun i _=>l.length-(intOf i).toNat);(case atStart=>exact⟨0,Nat.zero_le _,rfl,(aF.refl _ _).alloc n_ (),kR _ _ rfl (by decide)⟩);case round=>
  obtain⟨k,hk,rfl,ei,bx⟩:=hrel;by_cases au:k<l.length;{obtain⟨b,off,rfl,hb,aC⟩:=(hs.keep ei.1 hB).2 (by omega);have N:=aC k au;clear aC;have HN:H_ (∀ W:w_,W.rowIs w.heap.size 53 (l.length * 4) (jG 4 (fun _=>dP) JP l bB.z k)->(ed w.heap.size W (k * 4) (dP (l[k]?.getD bB.z))).rowIs w.heap.size 53 (l.length * 4) (jG 4 (fun _=>dP) JP l bB.z (k+1))):=fun W hW=>nj (sz:=4) (vals:=fun _=>dP) (vals':=fun _=>dP) (z:=JP) (l:=l) (d:=bB.z) (by decide) rfl (fun _ _=>rfl) hW;generalize l[k]?.getD bB.z=nd at *;have c0:=N.name;have c1:=N.reg;have c2:=N.fro;have c3:=N.til;go_wp2_with fail;refine(xA _ _ _ _ _).mono ?_;rintro e w' ⟨rfl,dV⟩;have bQ:=bx.of_block (dV.block _ bx.lt);have rD:=bQ.frozen (k * 4);have fI:=bQ.frozen (k * 4+1);have wd:=bQ.frozen (k * 4+2);have BI:=bQ.frozen (k * 4+3);have Ff:=bQ.cell (i:=k * 4) (by omega);have xi:=bQ.cell (i:=k * 4+1) (by omega);have wq:=bQ.cell (i:=k * 4+2) (by omega);have Hx:=bQ.cell (i:=k * 4+3) (by omega);have HR:=af bQ;have lv:=af (ei.trans (dV.mono ei.size));clear c0 c1 c2 c3 bx bQ ei dV;go_wp2;go_roundw;(case rel=>clear rD Ff fI xi wd wq BI Hx;exact⟨k+1,by omega,by go_num,il n_ (dP nd) _ (k * 4) (aa lv),aa HN _ (aa HR)⟩);case measure=>simp[intOf];omega}
  ·have HK:H_ (k=l.length):=by{show _=_;omega};go_wp2
   go_ret;have iJ:=HK.o;have N:∀ j,j<l.length->(l[j]?.getD bB.z).name.size<=9223372036854775807:=fun j hj=>by
    obtain⟨b,off,_,_,aC⟩:=hs.2 (by omega);exact(aC j hj).names
   exact⟨_,_,rfl,⟨hn,fun h0=>⟨_,0,rfl,⟨n_,bx.lt⟩,fun j hj=>{ name:=de bx iJ (r:=0) hj (by omega),reg:=de bx iJ (r:=1) hj (by omega),fro:=de bx iJ (r:=2) hj (by omega),til:=de bx iJ (r:=3) hj (by omega),names:=N j hj }⟩⟩,ei⟩
theorem Ak {a:o_}{l:List (Bool×Int)}{c:Nat}{S:Nat->Prop}(w W:w_)(hs:dG w S a l)(hB:∀ b,S b->b<w.heap.size)(hl:l.length<=1048576)(hW:aF w.heap.size w W) :
  c_ 66 #[.slice a l.length c] W fun e w'=>∃ a' c',e=.returned (.slice a' l.length c')/\dG w' (ji W.heap.size w') a' l/\aF W.heap.size W w':=
 Dq a l c S W (hs.keep hW.1 hB) (fun b h=>l_ (hB b h) hW.size) hl
theorem uH {a:o_}{l:List cN}{c:Nat}{S:Nat->Prop}(w W:w_)(hs:cQ w S a l)(hB:∀ b,S b->b<w.heap.size)(hl:l.length<=1048576)(hW:aF w.heap.size w W) :
  c_ 67 #[.slice a l.length c] W fun e w'=>∃ a' c',e=.returned (.slice a' l.length c')/\cQ w' (ji W.heap.size w') a' l/\aF W.heap.size W w':=
 vM a l c S W (hs.keep hW.1 hB) (fun b h=>l_ (hB b h) hW.size) hl
theorem xT {a:o_}{l:List az}{c:Nat}{S:Nat->Prop}(w W:w_)(hs:bN w S a l)(hB:∀ b,S b->b<w.heap.size)(hl:l.length<=1048576)(hW:aF w.heap.size w W) :
  c_ 68 #[.slice a l.length c] W fun e w'=>∃ a' c',e=.returned (.slice a' l.length c')/\bN w' (ji W.heap.size w') a' l/\aF W.heap.size W w':=
 AX a l c S W (hs.keep hW.1 hB) (fun b h=>l_ (hB b h) hW.size) hl
theorem ul {a:o_}{l:List bB}{c:Nat}{S:Nat->Prop}(w W:w_)(hs:da w S a l)(hB:∀ b,S b->b<w.heap.size)(hl:l.length<=1048576)(hW:aF w.heap.size w W) :
  c_ 69 #[.slice a l.length c] W fun e w'=>∃ a' c',e=.returned (.slice a' l.length c')/\da w' (ji W.heap.size w') a' l/\aF W.heap.size W w':=
 vR a l c S W (hs.keep hW.1 hB) (fun b h=>l_ (hB b h) hW.size) hl
theorem yt (nm:ByteArray)(ln pr:Int)(rs:Bool)(rg:Int)(us:List (Bool×Int))(cs:List cN)(is:List az)(ns:List bB)(a5 a6 a7 a8:o_)(c5 c6 c7 c8:Nat)(S:Nat->Prop)(w:w_)
  (h5:dG w S a5 us)(h6:cQ w S a6 cs)(h7:bN w S a7 is)(h8:da w S a8 ns)(hB:∀ b,S b->b<w.heap.size)(ZW:us.length<=1048576)(Z4:cs.length<=1048576)(hl7:is.length<=1048576)(Y2:ns.length<=1048576) :
  c_ 25 #[.agg #[.string nm,i_ ln,i_ pr,.bool rs,i_ rg,.slice a5 us.length c5,.slice a6 cs.length c6,.slice a7 is.length c7,.slice a8 ns.length c8]] w fun e w'=>
   ∃ xm Ey yM Ec oF sq pn ss,e=.returned (.agg #[.string nm,i_ ln,i_ pr,.bool rs,i_ rg,.slice xm us.length Ey,.slice yM cs.length Ec,.slice oF is.length sq,.slice pn ns.length ss])/\dG w' (ji w.heap.size w') xm us/\cQ w' (ji w.heap.size w') yM cs/\bN w' (ji w.heap.size w') oF is/\da w' (ji w.heap.size w') pn ns/\aF w.heap.size w w':=by
 go_enter Tryz.func25,Tryz.ntmps25;go_wp2_with fail;refine(Ak w _ h5 hB ZW ?hW0).mono ?_;(case hW0=>repeat (first | refine aF.alloc ?_ (by simp<;>omega) () | refine aF.setCell ?_ (by simp<;>omega) _ | exact aF.refl _ _));rintro e w1 ⟨xm,Ey,rfl,EA,ar⟩;have sS:aF w.heap.size w w1:=by{refine aF.trans (b:=_) ?_ (ar.mono (by simp<;>omega));repeat (first | refine aF.alloc ?_ (by simp<;>omega) () | refine aF.setCell ?_ (by simp<;>omega) _ | exact aF.refl _ _)};obtain⟨cT,fI⟩:=tN ar;have hz1_:w.heap.size+1+1+1<=w1.heap.size:=by{have:=ar.size;simpa using this};have hz1a:w.heap.size<w1.heap.size:=by{omega};have ZB:w.heap.size+1<w1.heap.size:=by{omega};have hz1c:w.heap.size+1+1<w1.heap.size:=by{omega};replace EA:dG w1 (ji (w.heap.size+3) w1) xm us:=EA.mono (fun b h=>⟨by have:=h.1;simp at this;omega,h.2⟩);clear ar;go_wp2_with fail;refine(uH w _ h6 hB Z4 ?hW1).mono ?_;(case hW1=>repeat (first | refine aF.setCell ?_ (by simp<;>omega) _ | exact sS));rintro e w2 ⟨yM,Ec,rfl,LZ,bj⟩;have Es:aF w.heap.size w w2:=by{refine aF.trans (b:=_) ?_ (bj.mono (by simp<;>omega));repeat (first | refine aF.setCell ?_ (by simp<;>omega) _ | exact sS)};obtain⟨e9,wd⟩:=tN bj;have hz2_:w1.heap.size<=w2.heap.size:=by{have:=bj.size;simpa using this};have hz2a:w.heap.size<w2.heap.size:=by{omega};have Zm:w.heap.size+1<w2.heap.size:=by{omega};have hz2c:w.heap.size+1+1<w2.heap.size:=by{omega};replace LZ:cQ w2 (ji (w.heap.size+3) w2) yM cs:=LZ.mono (fun b h=>⟨by have:=h.1;simp at this;omega,h.2⟩);replace EA:dG w2 (ji (w.heap.size+3) w1) xm us:=by{refine EA.same (cH.below (cH.setCell cH.refl ?_ _) bj.1 (fun b h=>by have:=h.2;simp;omega));intro h;have:=h.1;simp at this;omega};clear bj;go_wp2_with fail;refine(xT w _ h7 hB hl7 ?hW2).mono ?_;(case hW2=>repeat (first | refine aF.setCell ?_ (by simp<;>omega) _ | exact Es));rintro e w3 ⟨oF,sq,rfl,BK,bU⟩;have Eu:aF w.heap.size w w3:=by{refine aF.trans (b:=_) ?_ (bU.mono (by simp<;>omega));repeat (first | refine aF.setCell ?_ (by simp<;>omega) _ | exact Es)};obtain⟨jB,BI⟩:=tN bU;have hz3_:w2.heap.size<=w3.heap.size:=by{have:=bU.size;simpa using this};have hz3a:w.heap.size<w3.heap.size:=by{omega};have aa2:w.heap.size+1<w3.heap.size:=by{omega};have hz3c:w.heap.size+1+1<w3.heap.size:=by{omega};replace BK:bN w3 (ji (w.heap.size+3) w3) oF is:=BK.mono (fun b h=>⟨by have:=h.1;simp at this;omega,h.2⟩);replace EA:dG w3 (ji (w.heap.size+3) w1) xm us:=by{refine EA.same (cH.below (cH.setCell cH.refl ?_ _) bU.1 (fun b h=>by have:=h.2;simp;omega));intro h;have:=h.1;simp at this;omega};replace LZ:cQ w3 (ji (w.heap.size+3) w2) yM cs:=by{refine LZ.same (cH.below (cH.setCell cH.refl ?_ _) bU.1 (fun b h=>by have:=h.2;simp;omega));intro h;have:=h.1;simp at this;omega};clear bU;go_wp2_with fail;refine(ul w _ h8 hB Y2 ?hW3).mono ?_;(case hW3=>repeat (first | refine aF.setCell ?_ (by simp<;>omega) _ | exact Eu));rintro e w4 ⟨pn,ss,rfl,NZ,lx⟩;have abN:aF w.heap.size w w4:=by{refine aF.trans (b:=_) ?_ (lx.mono (by simp<;>omega));repeat (first | refine aF.setCell ?_ (by simp<;>omega) _ | exact Eu)};obtain⟨pm,Tj⟩:=tN lx;have aaI:w3.heap.size<=w4.heap.size:=by{have:=lx.size;simpa using this};have hz4a:w.heap.size<w4.heap.size:=by{omega};have hz4b:w.heap.size+1<w4.heap.size:=by{omega};have hz4c:w.heap.size+1+1<w4.heap.size:=by{omega};replace NZ:da w4 (ji (w.heap.size+3) w4) pn ns:=NZ.mono (fun b h=>⟨by have:=h.1;simp at this;omega,h.2⟩);replace EA:dG w4 (ji (w.heap.size+3) w1) xm us:=by{refine EA.same (cH.below (cH.setCell cH.refl ?_ _) lx.1 (fun b h=>by have:=h.2;simp;omega));intro h;have:=h.1;simp at this;omega};replace LZ:cQ w4 (ji (w.heap.size+3) w2) yM cs:=by{refine LZ.same (cH.below (cH.setCell cH.refl ?_ _) lx.1 (fun b h=>by have:=h.2;simp;omega));intro h;have:=h.1;simp at this;omega};replace BK:bN w4 (ji (w.heap.size+3) w3) oF is:=by refine BK.same (cH.below (cH.setCell cH.refl ?_ _) lx.1 (fun b h=>by have:=h.2;simp;omega));intro h;have:=h.1;simp at this;omega
 clear lx;have p1:∀ W:w_,¬ji (w.heap.size+3) W (w.heap.size+1):=fun W h=>by have:=h.1;omega
 have p2:∀ W:w_,¬ji (w.heap.size+3) W (w.heap.size+1+1):=fun W h=>by have:=h.1;omega
 have b1:w.heap.size<=w.heap.size+1:=by{omega};have b2:w.heap.size<=w.heap.size+1+1:=by omega
 have m1:∀ V:w_,V.heap.size<=w4.heap.size->∀ W:w_,W.heap.size=w4.heap.size->∀ b,ji (w.heap.size+3) V b->ji w.heap.size W b:=fun V hV W e b h=>⟨by have:=h.1;omega,by have:=h.2;omega⟩;have q1:w1.heap.size<=w4.heap.size:=by omega
 have q2:w2.heap.size<=w4.heap.size:=by{omega};have M:=af (And.intro (And.intro p1 p2) (And.intro (And.intro b1 b2) (And.intro m1 (And.intro q1 (And.intro q2 aaI)))));clear p1 p2 b1 b2 m1 q1 q2;go_wp2_with fail;obtain⟨⟨p1,p2⟩,⟨b1,b2⟩,m1,q1,q2,q3⟩:=aa M;refine zcd (v:=.agg #[.string nm,i_ ln,i_ pr,.bool rs,i_ rg,.slice xm us.length Ey,.slice yM cs.length Ec,.slice oF is.length sq,.slice pn ns.length ss]) (by simp[results,Tryz.results25,go_sem,cT,e9,jB,pm,ZB,Zm,aa2]) rfl ⟨xm,Ey,yM,Ec,oF,sq,pn,ss,rfl,?_,?_,?_,?_,?_⟩;{refine(EA.same ?_).mono (m1 _ q1 _ (by simp));(iterate 9 refine cH.setCell ?_ (p1 _) _);refine cH.setCell ?_ (p2 _) _;exact cH.refl};{refine(LZ.same ?_).mono (m1 _ q2 _ (by simp));(iterate 9 refine cH.setCell ?_ (p1 _) _);refine cH.setCell ?_ (p2 _) _;exact cH.refl};{refine(BK.same ?_).mono (m1 _ q3 _ (by simp));(iterate 9 refine cH.setCell ?_ (p1 _) _);refine cH.setCell ?_ (p2 _) _;exact cH.refl};{refine(NZ.same ?_).mono (m1 _ n_ _ (by simp));(iterate 9 refine cH.setCell ?_ (p1 _) _);refine cH.setCell ?_ (p2 _) _;exact cH.refl};{(iterate 9 refine aF.setCell ?_ b1 _);refine aF.setCell ?_ b2 _;exact abN}
theorem vC (a:o_)(l:List aj)(c:Nat)(S:Nat->Prop)(w:w_)(hs:am w S a l)(hB:∀ b,S b->b<w.heap.size)(hl:aH l<=1048576) :
  c_ 14 #[.slice a l.length c] w fun e w'=>∃ a' c',e=.returned (.slice a' l.length c')/\am w' (ji w.heap.size w') a' l/\aF w.heap.size w w':=by
 have hn:=hs.1;have pt:l.length<=1048576:=by unfold aH at hl;omega
 have hel:∀ k,k<l.length->(l[k]?.getD aj.z).s.length<=1048576/\(l[k]?.getD aj.z).k.length<=1048576/\(l[k]?.getD aj.z).u.length<=1048576/\(l[k]?.getD aj.z).g.length<=1048576:=fun k hk=>by
  have h1:=dI du l k aj.z hk;have h2:=gw du l (k+1);unfold aH at hl;generalize l[k]?.getD aj.z=fd at *;have h3:du fd=fd.name.size+fd.s.length+fo fd.k+fd.u.length+im fd.g:=rfl;have h4:fo fd.k=fd.k.length+aS mB fd.k:=rfl;have h5:im fd.g=fd.g.length+aS mC fd.g:=rfl;refine⟨?_,?_,?_,?_⟩<;>omega
 have HEL:=af hel;clear hel hl;have kE:∀ w:w_,(Instr.makeSlice 26 (i_ (l.length:Int)) (i_ (l.length:Int))).run Tryz.prog w=.ok (s_ w.heap.size 0 l.length l.length) (w.alloc (.cells (madeCells ja.toArray (l.length * 9)) 43)):=
  ex (P:=Tryz.prog) 26 43 _ 9 144 Tryz.underlying26 oU .i64 .i64 l.length (by omega) hn
 go_enter Tryz.func14,Tryz.ntmps14;go_wp2_with fail
 clear kE;go_loopw [4] (fun i wr=>∃(k:Nat) (R:Nat->dq),k<=l.length/\i=i_ k/\aF w.heap.size w wr/\wr.rowIs w.heap.size 43 (l.length * 9) (jG 9 (gC R) ja l aj.z k) /\
   (∀ i,i<k->gD wr (ji (w.heap.size+1) wr) (R i) (l[i]?.getD aj.z))) (fun i _=>l.length-(intOf i).toNat)
 (case atStart=>exact⟨0,fun _=>⟨none,0,none,0,none,0,none,0⟩,Nat.zero_le _,rfl,(aF.refl _ _).alloc n_ (),kR _ _ rfl (by decide),fun i hi=>zcc hi (bW _)⟩);case round=>
  obtain⟨k,R,hk,rfl,ei,bx,hR⟩:=hrel;have HR:=af hR;clear hR;by_cases au:k<l.length
  ·obtain⟨b,off,rfl,hb,aC⟩:=(hs.keep ei.1 hB).2 (by omega);have N:=aC k au;obtain⟨ZW,Z4,hl7,Y2⟩:=aa HEL k au;clear aC;have Lp:H_ (∀(W:w_) (R':Nat->dq),(∀ i,i<k->R' i=R i)->W.rowIs w.heap.size 43 (l.length * 9) (jG 9 (gC R) ja l aj.z k)->(ed w.heap.size W (k * 9) (gC R' k (l[k]?.getD aj.z))).rowIs w.heap.size 43 (l.length * 9) (jG 9 (gC R') ja l aj.z (k+1))):=fun W R' hR' hW=>
    nj (sz:=9) (vals:=gC R) (vals':=gC R') (z:=ja) (l:=l) (d:=aj.z) (by decide) rfl (fun i hi=>by unfold gC;rw[hR' i hi]) hW
   generalize hx:l[k]?.getD aj.z=nd at *;have HX:=af hx;clear hx;obtain⟨a5,c5,h5,H5⟩:=N.s;obtain⟨a6,c6,h6,H6⟩:=N.k;obtain⟨a7,c7,h7,H7⟩:=N.u;obtain⟨a8,c8,h8,H8⟩:=N.g;have c0:=N.name;have c1:=N.f;have c2:=N.l;have c3:=N.e;have c4:=N.m;have Hz:∀ b,S b->b<wr.heap.size:=fun b h=>l_ (hB b h) ei.size;go_wp2_with fail
   refine(yt _ _ _ _ _ _ _ _ _ _ _ _ _ _ _ _ _ S _ H5 H6 H7 H8 Hz ZW Z4 hl7 Y2).mono ?_;rintro e w' ⟨xm,Ey,yM,Ec,oF,sq,pn,ss,rfl,EA,LZ,BK,NZ,dV⟩;have bQ:=bx.of_block (dV.block _ bx.lt);have rD:=bQ.frozen (k * 9);have Ff:=bQ.cell (i:=k * 9) (by omega);have fI:=bQ.frozen (k * 9+1);have xi:=bQ.cell (i:=k * 9+1) (by omega);have wd:=bQ.frozen (k * 9+2);have wq:=bQ.cell (i:=k * 9+2) (by omega);have BI:=bQ.frozen (k * 9+3);have Hx:=bQ.cell (i:=k * 9+3) (by omega);have Tj:=bQ.frozen (k * 9+4);have PT:=bQ.cell (i:=k * 9+4) (by omega);have hf5:=bQ.frozen (k * 9+5);have hg5:=bQ.cell (i:=k * 9+5) (by omega);have NK:=bQ.frozen (k * 9+6);have hg6:=bQ.cell (i:=k * 9+6) (by omega);have hf7:=bQ.frozen (k * 9+7);have hg7:=bQ.cell (i:=k * 9+7) (by omega);have hf8:=bQ.frozen (k * 9+8);have hg8:=bQ.cell (i:=k * 9+8) (by omega);have nI:=af bQ;have hG:w.heap.size<wr.heap.size:=bx.lt;have lv:=af (ei.trans (dV.mono ei.size));have HB':=af dV;have sN:H_ (gD w' (ji wr.heap.size w') ⟨xm,Ey,yM,Ec,oF,sq,pn,ss⟩ nd):=⟨EA,LZ,BK,NZ⟩;clear c0 c1 c2 c3 c4 h5 h6 h7 h8 bx bQ dV EA LZ BK NZ N H5 H6 H7 H8;go_wp2;go_roundw;case rel=>
    clear rD Ff fI xi wd wq BI Hx Tj PT hf5 hg5 NK hg6 hf7 hg7 hf8 hg8;have hx:=aa HX;have dV:=aa HB';have hRk:(fun i=>if i=k then(⟨xm,Ey,yM,Ec,oF,sq,pn,ss⟩:dq)else R i) k=⟨xm,Ey,yM,Ec,oF,sq,pn,ss⟩:=zca rfl;have hvk:gC (fun i=>if i=k then(⟨xm,Ey,yM,Ec,oF,sq,pn,ss⟩:dq)else R i) k nd=[.string nd.name,i_ nd.f,i_ nd.l,.bool nd.e,i_ nd.m,.slice xm nd.s.length Ey,.slice yM nd.k.length Ec,.slice oF nd.u.length sq,.slice pn nd.g.length ss]:=by unfold gC;rw[hRk]
    have Uk:=aa Lp _ (fun i=>if i=k then(⟨xm,Ey,yM,Ec,oF,sq,pn,ss⟩:dq)else R i) (fun i hi=>zcb (by omega)) (aa nI);rw[hvk]at Uk;have hm:∀ W:w_,W.heap.size=w'.heap.size->∀ b,ji (w.heap.size+1) wr b->ji (w.heap.size+1) W b:=fun W e b h=>⟨h.1,by have:=h.2;have:=dV.size;omega⟩;have Tb:∀ W:w_,W.heap.size=w'.heap.size->∀ b,ji wr.heap.size w' b->ji (w.heap.size+1) W b:=fun W e b h=>⟨by have:=h.1;omega,by have:=h.2;omega⟩;have hng:¬ji (w.heap.size+1) wr w.heap.size:=fun h=>by have:=h.1;omega
    have Ws:¬ji wr.heap.size w' w.heap.size:=fun h=>by have:=h.1;omega
    have Fq:cH (ji (w.heap.size+1) wr) wr w':=.of_below dV.1 (fun b h=>h.2);have key:∀ VS:List Value,∀ i,i<k+1->gD (ed w.heap.size w' (k * 9) VS) (ji (w.heap.size+1) (ed w.heap.size w' (k * 9) VS)) (if i=k then(⟨xm,Ey,yM,Ec,oF,sq,pn,ss⟩:dq)else R i) (l[i]?.getD aj.z):=fun VS i hi=>by
     by_cases e:i=k;{rw[zca e,e,hx];exact((aa sN).same (rt Ws VS w' (k * 9) cH.refl)).mono (Tb _ (eN VS w' (k * 9)))};{rw[zcb e];exact((aa HR i (by omega)).same (rt hng VS w' (k * 9) Fq)).mono (hm _ (eN VS w' (k * 9)))}
    have aaS:=key [.string nd.name,i_ nd.f,i_ nd.l,.bool nd.e,i_ nd.m,.slice xm nd.s.length Ey,.slice yM nd.k.length Ec,.slice oF nd.u.length sq,.slice pn nd.g.length ss];have cY:=il (w:=w) (Nat.le_refl w.heap.size) [.string nd.name,i_ nd.f,i_ nd.l,.bool nd.e,i_ nd.m,.slice xm nd.s.length Ey,.slice yM nd.k.length Ec,.slice oF nd.u.length sq,.slice pn nd.g.length ss] w' (k * 9) (aa lv);clear key hng Ws hm Tb Fq;exact⟨k+1,fun i=>if i=k then⟨xm,Ey,yM,Ec,oF,sq,pn,ss⟩else R i,by omega,by go_num,cY,Uk,aaS⟩
   case measure=>simp[intOf];omega
  {have HK:H_ (k=l.length):=by{show _=_;omega};go_wp2;go_ret;refine⟨_,_,rfl,?_,ei⟩;have iJ:=HK.o;refine⟨hn,fun h0=>⟨_,0,rfl,⟨n_,bx.lt⟩,fun j hj=>?_⟩⟩;obtain⟨b,off,_,_,aC⟩:=hs.2 h0;have h1:=(aa HR j (by omega)).mono (S':=ji w.heap.size wr) (fun b h=>⟨by have:=h.1;omega,h.2⟩);exact { names:=(aC j hj).names,name:=de bx iJ (r:=0) hj (by omega),f:=de bx iJ (r:=1) hj (by omega),l:=de bx iJ (r:=2) hj (by omega),e:=de bx iJ (r:=3) hj (by omega),m:=de bx iJ (r:=4) hj (by omega),s:=⟨_,_,de bx iJ (r:=5) hj (by omega),h1.h5⟩,k:=⟨_,_,de bx iJ (r:=6) hj (by omega),h1.h6⟩,u:=⟨_,_,de bx iJ (r:=7) hj (by omega),h1.h7⟩,g:=⟨_,_,de bx iJ (r:=8) hj (by omega),h1.h8⟩ }}
theorem AW (a:o_)(l:List aj)(c:Nat)(S:Nat->Prop)(w:w_)(hs:am w S a l)(hB:∀ b,S b->b<w.heap.size)(hl:aH l<=1048576) :
  c_ 6 #[.agg #[.slice a l.length c]] w fun e w'=>∃ a' c',e=.returned (.agg #[.slice a' l.length c'])/\am w' (ji w.heap.size w') a' l/\aF w.heap.size w w':=by
 go_enter Tryz.func6,Tryz.ntmps6;go_wp2_with fail;have dD:aF w.heap.size w (((w.alloc (.cells #[.slice a l.length c] 24)).alloc (.cells #[.slice none 0 0] 28)).alloc (.cells #[.slice none 0 0] 28)):=by{repeat (first | refine aF.alloc ?_ (by simp<;>omega) () | exact aF.refl _ _)};refine(vC _ _ _ S _ (hs.keep dD.1 hB) (fun b h=>l_ (hB b h) dD.size) hl).mono ?_;rintro e w1 ⟨a',c',rfl,hI,ar⟩;have sS:aF w.heap.size w w1:=dD.trans (ar.mono dD.size);obtain⟨hc,hf⟩:=tN ar;have hz:w.heap.size+1+1+1<=w1.heap.size:=by{have:=ar.size;simpa using this};have dE:w.heap.size<w1.heap.size:=by{omega};have cS:w.heap.size+1<w1.heap.size:=by{omega};have dA:w.heap.size+1+1<w1.heap.size:=by{omega};replace hI:am w1 (ji (w.heap.size+3) w1) a' l:=hI.mono (fun b h=>⟨by have:=h.1;simp at this;omega,h.2⟩)
 clear ar;have p1:∀ W:w_,¬ji (w.heap.size+3) W (w.heap.size+1):=fun W h=>by have:=h.1;omega
 have p2:∀ W:w_,¬ji (w.heap.size+3) W (w.heap.size+1+1):=fun W h=>by have:=h.1;omega
 have b1:w.heap.size<=w.heap.size+1:=by{omega};have b2:w.heap.size<=w.heap.size+1+1:=by omega
 have m1:∀ W:w_,W.heap.size=w1.heap.size->∀ b,ji (w.heap.size+3) w1 b->ji w.heap.size W b:=fun W e b h=>⟨by have:=h.1;omega,by have:=h.2;omega⟩;have M:=af (And.intro (And.intro p1 p2) (And.intro (And.intro b1 b2) m1));clear p1 p2 b1 b2 m1;go_wp2_with fail
 obtain⟨⟨p1,p2⟩,⟨b1,b2⟩,m1⟩:=aa M;refine zcd (v:=.agg #[.slice a' l.length c']) (by simp[results,Tryz.results6,go_sem,hc]) rfl ⟨a',c',rfl,?_,?_⟩;{refine(hI.same ?_).mono (m1 _ (by simp));refine cH.setCell ?_ (p1 _) _;refine cH.setCell ?_ (p2 _) _;exact cH.refl};{refine aF.setCell ?_ b1 _;refine aF.setCell ?_ b2 _;exact sS}
attribute [local go_sem] cn
theorem lP (k:Int)(w:w_)(hk:k<=1000000000000) :
  c_ 40 #[i_ k] w fun e w'=>∃ s,e=.returned (.string s)/\b_ w w':=by
 by_cases h0:k<=0;{go_enter Tryz.func40,Tryz.ntmps40;go_wp2;go_ret;exact⟨_,rfl,r_⟩}
 obtain⟨n,rfl⟩:∃ n:Nat,k=n:=⟨k.toNat,by omega⟩;go_enter Tryz.func40,Tryz.ntmps40;go_wp2
 go_loopw [0,3] (fun q s wr=>∃(m d:Nat) (t:ByteArray),q=i_ m/\s=.string t/\m<10 ^ d/\m<=1000000000000/\d+t.size<=20/\b_ w wr) (fun q _ _=>(intOf q).toNat);(case atStart=>exact⟨n,20,ByteArray.empty,rfl,rfl,by omega,by omega,by simp,r_⟩);case round=>
  obtain⟨m,d,t,rfl,rfl,hm,hmb,hd,hb⟩:=hrel;by_cases au:0<m
  ·have Ez:(convert 141 9 (s_ wr.heap.size 0 1 1)).run Tryz.prog (wr.alloc (.cells #[.int .u8 (48+(m:Int) % 10)] 5))=.ok (.string ⟨[UInt8.ofNat (48+m % 10)].toArray⟩) (wr.alloc (.cells #[.int .u8 (48+(m:Int) % 10)] 5)):=by{refine run_convert_bytes_back (P:=Tryz.prog) _ 141 9 5 (a_ wr.heap.size 0) 1 [UInt8.ofNat (48+m % 10)] Tryz.underlying141 Tryz.underlying5 Tryz.underlying9 fun j hj=>?_;obtain rfl:j=0:=by{simp at hj;omega};have e:((UInt8.ofNat (48+m % 10)).toNat:Int)=48+(m:Int) % 10:=by{rw[UInt8.toNat_ofNat'];omega};simp[Addr.add,go_sem];omega};have km:(⟨[UInt8.ofNat (48+m % 10)].toArray⟩:ByteArray).size=1:=rfl;generalize (⟨[UInt8.ofNat (48+m % 10)].toArray⟩:ByteArray)=t1 at Ez km;have HS:H_ (t1.size=1):=km;have QM:¬(9223372036854775807<t1.size+t.size):=by{omega};clear km;go_wp2;go_roundw;case rel=>
    have hs:=HS.o;refine⟨m / 10,d-1,t1++t,by go_num,rfl,?_,by omega,?_,hb.alloc hb.size _⟩
    ·cases d with
     | zero=>simp at hm;omega
     | succ d=>rw[Nat.pow_succ]at hm;simp;omega
    {have:0<d:=by{rcases Nat.eq_zero_or_pos d with e | e;{subst e;simp at hm;omega};{exact e}};rw[ByteArray.size_append];omega}
   case measure=>simp[intOf];omega
  {have QM:¬(9223372036854775807<1+t.size):=by{omega};go_wp2;go_ret;exact⟨_,rfl,hb⟩}
theorem zZ (a:o_)(n c:Nat)(k:Int)(S:Nat->Prop)(w:w_)(hs:dJ w S a (n * 2))(hS:lU w S)(h0:0<=k)(hk:k+2 * n<=1000000000000) :
  c_ 41 #[.slice a n c,i_ k] w fun e w'=>e=.returned (i_ (k+2 * n))/\Mk S w w':=by
 go_enter Tryz.func41,Tryz.ntmps41;go_wp2;go_loopw [1,5] (fun q i wr=>∃(j:Nat),j<=n/\q=i_ (k+2 * j)/\i=i_ j/\Mk S w wr) (fun _ i _=>n-(intOf i).toNat);(case atStart=>exact⟨0,Nat.zero_le _,by simp,rfl,Mk.refl _ _⟩);case round=>
  obtain⟨j,hj,rfl,rfl,hm⟩:=hrel;by_cases au:j<n
  ·have HB:H_ (k+2 * j+2<=1000000000000):=by{show _<=_;omega};have HE:H_ (k+2 * ((j+1:Nat):Int)=k+2 * j+2):=by show _=_;omega
   obtain⟨kj,jK⟩:∃ kj:Int,kj=k+2 * (j:Int):=⟨_,rfl⟩;have sO:0<=kj:=by omega
   have kM:kj+2<=1000000000000:=by{omega};rw[<-jK]at HB HE ⊢;have qD:n<=1000000000000:=by{omega};clear hk;have HM:=af hm;clear hm;obtain⟨b,off,rfl,hb,aC⟩:=(hs.mk HM.o) (by omega);obtain⟨v0,iu,f0⟩:=aC (j * 2+0) (by omega);obtain⟨v1,cT,f1⟩:=aC (j * 2+1) (by omega);rw[<-Nat.add_assoc]at cT;rw[Nat.add_zero]at iu;have hf:=((hS.mk HM.o) b hb).2;clear aC jK;go_wp2;go_roundw;(case rel=>refine⟨j+1,by omega,by rw[HE.o];go_num,by go_num,HM.o.trans ?_⟩;refine cE ?_ hb ⟨v1,cT,f1⟩ _ trivial;refine cE ?_ hb ⟨v0,iu,f0⟩ _ trivial;exact Mk.refl _ _);case measure=>simp[intOf];omega
  {have HK:H_ (j=n):=by{show _=_;omega};go_wp2;go_ret;rw[HK.o];exact⟨rfl,hm⟩}
theorem uS (a:o_)(n c:Nat)(k:Int)(S:Nat->Prop)(w:w_)(hs:dJ w S a (n * 5))(hS:lU w S)(h0:0<=k)(hk:k+5 * n<=1000000000000) :
  c_ 42 #[.slice a n c,i_ k] w fun e w'=>e=.returned (i_ (k+5 * n))/\Mk S w w':=by
 go_enter Tryz.func42,Tryz.ntmps42;go_wp2;go_loopw [1,5] (fun q i wr=>∃(j:Nat),j<=n/\q=i_ (k+5 * j)/\i=i_ j/\Mk S w wr) (fun _ i _=>n-(intOf i).toNat);(case atStart=>exact⟨0,Nat.zero_le _,by simp,rfl,Mk.refl _ _⟩);case round=>
  obtain⟨j,hj,rfl,rfl,hm⟩:=hrel;by_cases au:j<n
  ·have HB:H_ (k+5 * j+5<=1000000000000):=by{show _<=_;omega};have HE:H_ (k+5 * ((j+1:Nat):Int)=k+5 * j+5):=by show _=_;omega
   obtain⟨kj,jK⟩:∃ kj:Int,kj=k+5 * (j:Int):=⟨_,rfl⟩;have sO:0<=kj:=by omega
   have kM:kj+5<=1000000000000:=by{omega};rw[<-jK]at HB HE ⊢;have qD:n<=1000000000000:=by{omega};clear hk;have HM:=af hm;clear hm;obtain⟨b,off,rfl,hb,aC⟩:=(hs.mk HM.o) (by omega);obtain⟨v0,iu,f0⟩:=aC (j * 5+0) (by omega);obtain⟨v1,cT,f1⟩:=aC (j * 5+1) (by omega);rw[<-Nat.add_assoc]at cT;obtain⟨v2,e9,f2⟩:=aC (j * 5+2) (by omega);rw[<-Nat.add_assoc]at e9;rw[Nat.add_zero]at iu;have hf:=((hS.mk HM.o) b hb).2;clear aC jK;have fM:H_ (kj+1+1+1<=1000000000000):=by{show _<=_;omega};go_wp2_with fail;refine(lP _ _ fM.o).mono ?_;rintro e w1 ⟨s,rfl,ar⟩;have m1:Mk S wr w1:=by{refine Mk.trans ?_ (Mk.of_below ar);refine cE ?_ hb ⟨v2,e9,f2⟩ _ trivial;refine cE ?_ hb ⟨v1,cT,f1⟩ _ trivial;refine cE ?_ hb ⟨v0,iu,f0⟩ _ trivial;exact Mk.refl _ _};clear iu cT e9 f0 f1 f2 hf ar v0 v1 v2;have bx:=(hs.mk (HM.o.trans m1)) (by omega);obtain⟨b',jP,Fr,dV,aC⟩:=bx;obtain⟨rfl,rfl⟩:b=b'/\off=jP:=by{injection Fr with Fr;injection Fr with h1 h2;exact⟨h1,h2⟩};clear Fr dV;obtain⟨v3,jB,f3⟩:=aC (j * 5+3) (by omega);rw[<-Nat.add_assoc]at jB;obtain⟨v4,pm,f4⟩:=aC (j * 5+4) (by omega);rw[<-Nat.add_assoc]at pm;have hf:=((hS.mk (HM.o.trans m1)) b hb).2;have M1:=af (HM.o.trans m1);clear aC m1 HM;go_wp2;go_roundw;(case rel=>refine⟨j+1,by omega,by rw[HE.o];go_num,by go_num,M1.o.trans ?_⟩;refine cE ?_ hb ⟨v4,pm,f4⟩ _ trivial;refine cE ?_ hb ⟨v3,jB,f3⟩ _ trivial;exact Mk.refl _ _);case measure=>simp[intOf];omega
  {have HK:H_ (j=n):=by{show _=_;omega};go_wp2;go_ret;rw[HK.o];exact⟨rfl,hm⟩}
theorem xK (a:o_)(n c:Nat)(k:Int)(S:Nat->Prop)(w:w_)(hs:dJ w S a (n * 5))(hS:lU w S)(h0:0<=k)(hk:k+5 * n<=1000000000000) :
  c_ 43 #[.slice a n c,i_ k] w fun e w'=>e=.returned (i_ (k+5 * n))/\Mk S w w':=by
 go_enter Tryz.func43,Tryz.ntmps43;go_wp2;go_loopw [1,5] (fun q i wr=>∃(j:Nat),j<=n/\q=i_ (k+5 * j)/\i=i_ j/\Mk S w wr) (fun _ i _=>n-(intOf i).toNat);(case atStart=>exact⟨0,Nat.zero_le _,by simp,rfl,Mk.refl _ _⟩);case round=>
  obtain⟨j,hj,rfl,rfl,hm⟩:=hrel;by_cases au:j<n
  ·have HB:H_ (k+5 * j+5<=1000000000000):=by{show _<=_;omega};have HE:H_ (k+5 * ((j+1:Nat):Int)=k+5 * j+5):=by show _=_;omega
   obtain⟨kj,jK⟩:∃ kj:Int,kj=k+5 * (j:Int):=⟨_,rfl⟩;have sO:0<=kj:=by omega
   have kM:kj+5<=1000000000000:=by{omega};rw[<-jK]at HB HE ⊢;have qD:n<=1000000000000:=by{omega};clear hk;have HM:=af hm;clear hm;obtain⟨b,off,rfl,hb,aC⟩:=(hs.mk HM.o) (by omega);obtain⟨v0,iu,f0⟩:=aC (j * 5+0) (by omega);obtain⟨v1,cT,f1⟩:=aC (j * 5+1) (by omega);rw[<-Nat.add_assoc]at cT;obtain⟨v2,e9,f2⟩:=aC (j * 5+2) (by omega);rw[<-Nat.add_assoc]at e9;obtain⟨v3,jB,f3⟩:=aC (j * 5+3) (by omega);rw[<-Nat.add_assoc]at jB;obtain⟨v4,pm,f4⟩:=aC (j * 5+4) (by omega);rw[<-Nat.add_assoc]at pm;rw[Nat.add_zero]at iu;have hf:=((hS.mk HM.o) b hb).2;clear aC jK;go_wp2;go_roundw;(case rel=>refine⟨j+1,by omega,by rw[HE.o];go_num,by go_num,HM.o.trans ?_⟩;refine cE ?_ hb ⟨v4,pm,f4⟩ _ trivial;refine cE ?_ hb ⟨v3,jB,f3⟩ _ trivial;refine cE ?_ hb ⟨v2,e9,f2⟩ _ trivial;refine cE ?_ hb ⟨v1,cT,f1⟩ _ trivial;refine cE ?_ hb ⟨v0,iu,f0⟩ _ trivial;exact Mk.refl _ _);case measure=>simp[intOf];omega
  {have HK:H_ (j=n):=by{show _=_;omega};go_wp2;go_ret;rw[HK.o];exact⟨rfl,hm⟩}
theorem tM (a:o_)(n c:Nat)(k:Int)(S:Nat->Prop)(w:w_)(hs:dJ w S a (n * 4))(hS:lU w S)(h0:0<=k)(hk:k+4 * n<=1000000000000) :
  c_ 44 #[.slice a n c,i_ k] w fun e w'=>e=.returned (i_ (k+4 * n))/\Mk S w w':=by
 go_enter Tryz.func44,Tryz.ntmps44;go_wp2;go_loopw [1,5] (fun q i wr=>∃(j:Nat),j<=n/\q=i_ (k+4 * j)/\i=i_ j/\Mk S w wr) (fun _ i _=>n-(intOf i).toNat);(case atStart=>exact⟨0,Nat.zero_le _,by simp,rfl,Mk.refl _ _⟩);case round=>
  obtain⟨j,hj,rfl,rfl,hm⟩:=hrel;by_cases au:j<n
  ·have HB:H_ (k+4 * j+4<=1000000000000):=by{show _<=_;omega};have HE:H_ (k+4 * ((j+1:Nat):Int)=k+4 * j+4):=by show _=_;omega
   obtain⟨kj,jK⟩:∃ kj:Int,kj=k+4 * (j:Int):=⟨_,rfl⟩;have sO:0<=kj:=by omega
   have kM:kj+4<=1000000000000:=by{omega};rw[<-jK]at HB HE ⊢;have qD:n<=1000000000000:=by{omega};clear hk;have HM:=af hm;clear hm;clear jK;have fM:H_ (kj<=1000000000000):=by{show _<=_;omega};go_wp2_with fail;refine(lP _ _ fM.o).mono ?_;rintro e w1 ⟨s,rfl,ar⟩;have m1:Mk S wr w1:=by{refine Mk.trans ?_ (Mk.of_below ar);exact Mk.refl _ _};clear ar;obtain⟨b,off,rfl,hb,aC⟩:=(hs.mk (HM.o.trans m1)) (by omega);obtain⟨v0,iu,f0⟩:=aC (j * 4+0) (by omega);obtain⟨v1,cT,f1⟩:=aC (j * 4+1) (by omega);rw[<-Nat.add_assoc]at cT;obtain⟨v2,e9,f2⟩:=aC (j * 4+2) (by omega);rw[<-Nat.add_assoc]at e9;obtain⟨v3,jB,f3⟩:=aC (j * 4+3) (by omega);rw[<-Nat.add_assoc]at jB;rw[Nat.add_zero]at iu;have hf:=((hS.mk (HM.o.trans m1)) b hb).2;have M1:=af (HM.o.trans m1);clear aC m1 HM;go_wp2;go_roundw;(case rel=>refine⟨j+1,by omega,by rw[HE.o];go_num,by go_num,M1.o.trans ?_⟩;refine cE ?_ hb ⟨v3,jB,f3⟩ _ trivial;refine cE ?_ hb ⟨v2,e9,f2⟩ _ trivial;refine cE ?_ hb ⟨v1,cT,f1⟩ _ trivial;refine cE ?_ hb ⟨v0,iu,f0⟩ _ trivial;exact Mk.refl _ _);case measure=>simp[intOf];omega
  {have HK:H_ (j=n):=by{show _=_;omega};go_wp2;go_ret;rw[HK.o];exact⟨rfl,hm⟩}
structure xY (w:w_)(S:Nat->Prop)(b o:Nat)(n:aj):Prop where
 flat:∀ r,r<5->∃ v,w.cell? (a_ b (o+r))=some v/\ug v
 s:∃ a c,w.cell? (a_ b (o+5))=some (.slice a n.s.length c)/\dJ w S a (n.s.length * 2)
 k:∃ a c,w.cell? (a_ b (o+6))=some (.slice a n.k.length c)/\dJ w S a (n.k.length * 5)
 u:∃ a c,w.cell? (a_ b (o+7))=some (.slice a n.u.length c)/\dJ w S a (n.u.length * 5)
 g:∃ a c,w.cell? (a_ b (o+8))=some (.slice a n.g.length c)/\dJ w S a (n.g.length * 4)
def nQ (w:w_)(S:Nat->Prop)(a:o_)(l:List aj):Prop:=
 0<l.length->∃ b off,a=some (a_ b off)/\S b/\∀ j,j<l.length->xY w S b (off+j * 9) (l[j]?.getD aj.z)
section
variable {S:Nat->Prop} {w w':w_}
theorem xY.mk' {b o:Nat}{n:aj}(h:xY w S b o n)(k:Mk S w w'):xY w' S b o n where
 flat r hr:=by obtain⟨v,e,f⟩:=h.flat r hr;exact k.flat _ _ v e f
 s:=by obtain⟨a,c,e,f⟩:=h.s;exact⟨a,c,k.hdr _ _ _ _ _ e,f.mk k⟩
 k:=by obtain⟨a,c,e,f⟩:=h.k;exact⟨a,c,k.hdr _ _ _ _ _ e,f.mk k⟩
 u:=by obtain⟨a,c,e,f⟩:=h.u;exact⟨a,c,k.hdr _ _ _ _ _ e,f.mk k⟩
 g:=by obtain⟨a,c,e,f⟩:=h.g;exact⟨a,c,k.hdr _ _ _ _ _ e,f.mk k⟩
theorem nQ.mk' {a:o_}{l:List aj}(h:nQ w S a l)(k:Mk S w w'):nQ w' S a l:=fun hl=>by
 obtain⟨b,off,e,hs,hc⟩:=h hl;exact⟨b,off,e,hs,fun j hj=>(hc j hj).mk' k⟩
theorem nN {a:o_}{n m:Nat}(hm:0<m)(h:0<n->∃ b off,a=some (a_ b off)/\S b/\∀ j,j<n->∀ r,r<m->∃ v,w.cell? (a_ b (off+j * m+r))=some v/\ug v):dJ w S a (n * m):=fun hl=>by
 obtain⟨b,off,e,hs,hc⟩:=h (Nat.pos_of_ne_zero (fun e=>by rw[e,Nat.zero_mul]at hl;exact Nat.lt_irrefl _ hl));refine⟨b,off,e,hs,fun j hj=>?_⟩;have h1:=hc (j / m) (Nat.div_lt_of_lt_mul (by rwa [Nat.mul_comm]at hj)) (j % m) (Nat.mod_lt _ hm)
 rwa [Nat.add_assoc,Nat.div_add_mod']at h1
theorem Di {a:o_}{l:List aj}(h:am w S a l):nQ w S a l:=fun hl=>by
 obtain⟨b,off,e,hs,hc⟩:=h.2 hl;refine⟨b,off,e,hs,fun j hj=>?_⟩;have N:=hc j hj;obtain⟨a1,c1,e1,i1⟩:=N.s;obtain⟨a2,c2,e2,i2⟩:=N.k;obtain⟨a3,c3,e3,i3⟩:=N.u;obtain⟨a4,c4,e4,i4⟩:=N.g;refine⟨fun r hr=>?_,⟨a1,c1,e1,nN (by decide) fun h0=>?_⟩,⟨a2,c2,e2,nN (by decide) fun h0=>?_⟩,⟨a3,c3,e3,nN (by decide) fun h0=>?_⟩,⟨a4,c4,e4,nN (by decide) fun h0=>?_⟩⟩
 ·match r,hr with
  | 0,_=>exact⟨_,N.name,trivial⟩
  | 1,_=>exact⟨_,N.f,trivial⟩
  | 2,_=>exact⟨_,N.l,trivial⟩
  | 3,_=>exact⟨_,N.e,trivial⟩
  | 4,_=>exact⟨_,N.m,trivial⟩
 ·obtain⟨b,off,e,hs,hc⟩:=i1.2 h0;refine⟨b,off,e,hs,fun j hj r hr=>?_⟩
  match r,hr with
  | 0,_=>exact⟨_,(hc j hj).1,trivial⟩
  | 1,_=>exact⟨_,(hc j hj).2,trivial⟩
 ·obtain⟨b,off,e,hs,hc⟩:=i2.2 h0;refine⟨b,off,e,hs,fun j hj r hr=>?_⟩
  match r,hr with
  | 0,_=>exact⟨_,(hc j hj).kind,trivial⟩
  | 1,_=>exact⟨_,(hc j hj).num,trivial⟩
  | 2,_=>exact⟨_,(hc j hj).flt,trivial⟩
  | 3,_=>exact⟨_,(hc j hj).str,trivial⟩
  | 4,_=>exact⟨_,(hc j hj).ref,trivial⟩
 ·obtain⟨b,off,e,hs,hc⟩:=i3.2 h0;refine⟨b,off,e,hs,fun j hj r hr=>?_⟩
  match r,hr with
  | 0,_=>exact⟨_,(hc j hj).op,trivial⟩
  | 1,_=>exact⟨_,(hc j hj).fa,trivial⟩
  | 2,_=>exact⟨_,(hc j hj).fb,trivial⟩
  | 3,_=>exact⟨_,(hc j hj).fc,trivial⟩
  | 4,_=>exact⟨_,(hc j hj).fd,trivial⟩
 ·obtain⟨b,off,e,hs,hc⟩:=i4.2 h0;refine⟨b,off,e,hs,fun j hj r hr=>?_⟩
  match r,hr with
  | 0,_=>exact⟨_,(hc j hj).name,trivial⟩
  | 1,_=>exact⟨_,(hc j hj).reg,trivial⟩
  | 2,_=>exact⟨_,(hc j hj).fro,trivial⟩
  | 3,_=>exact⟨_,(hc j hj).til,trivial⟩
end
def aL (n:aj):Nat:=5+2 * n.s.length+5 * n.k.length+5 * n.u.length+4 * n.g.length
theorem oN:∀ l:List aj,aS aL l<=6 * aH l
 | []=>by simp[aS]
 | x::l=>by
  have h1:=oN l;have h2:aL x<=5+6 * du x:=by unfold aL du fo im;omega
  simp[aS,aH]at *;omega
theorem uT (a:o_)(l:List aj)(c:Nat)(k:Int)(S:Nat->Prop)(w:w_)(hs:nQ w S a l)(hS:lU w S)(h0:0<=k)(hk:k+aS aL l<=1000000000)(hn:l.length<=1000000000) :
  c_ 18 #[.slice a l.length c,i_ k] w fun e w'=>e=.returned (i_ (k+aS aL l))/\Mk S w w':=by
 have Ln:H_ (∀ j,j<l.length->bo aL l (j+1)=bo aL l j+aL (l[j]?.getD aj.z)/\bo aL l (j+1)<=aS aL l):=fun j hj=>⟨dI aL l j aj.z hj,gw _ _ _⟩;go_enter Tryz.func18,Tryz.ntmps18;go_wp2
 go_loopw [1,5] (fun q i wr=>∃(j:Nat),j<=l.length/\q=i_ (k+bo aL l j)/\i=i_ j/\Mk S w wr) (fun _ i _=>l.length-(intOf i).toNat);(case atStart=>exact⟨0,Nat.zero_le _,by simp[fe],rfl,Mk.refl _ _⟩);case round=>
  obtain⟨j,hj,rfl,rfl,hm⟩:=hrel;by_cases au:j<l.length
  ·obtain⟨je,sn⟩:=aa Ln j au;obtain⟨b,off,rfl,hb,aC⟩:=(hs.mk' hm) (by omega);have N:=aC j au;clear aC;generalize hx:l[j]?.getD aj.z=x at N je;clear hx;have he:aL x=5+2 * x.s.length+5 * x.k.length+5 * x.u.length+4 * x.g.length:=rfl;obtain⟨kj,jK⟩:∃ kj:Int,kj=k+bo aL l j:=⟨_,rfl⟩;rw[<-jK];have hkb:0<=kj/\kj+5+2 * x.s.length+5 * x.k.length+5 * x.u.length+4 * x.g.length<=1000000000:=by omega
   have HE:H_ (kj+5+2 * x.s.length+5 * x.k.length+5 * x.u.length+4 * x.g.length=k+bo aL l (j+1)):=by{show _=_;omega};obtain⟨Xr,VJ⟩:=hkb;clear he je sn jK hk;have K3:=af (hS.mk hm);have HN:=af N;have HM:=af hm;clear N hm;have HB:H_ (kj<=1000000000000):=by{show _<=_;omega};go_wp2_with fail;refine(lP _ _ HB.o).mono ?_;rintro e w1 ⟨s,rfl,ar⟩;have m1:Mk S wr w1:=Mk.of_below ar;obtain⟨v0,iu,f0⟩:=(HN.o.mk' m1).flat 0 (by omega);obtain⟨v1,cT,f1⟩:=(HN.o.mk' m1).flat 1 (by omega);obtain⟨v2,e9,f2⟩:=(HN.o.mk' m1).flat 2 (by omega);obtain⟨v3,jB,f3⟩:=(HN.o.mk' m1).flat 3 (by omega);obtain⟨v4,pm,f4⟩:=(HN.o.mk' m1).flat 4 (by omega);rw[Nat.add_zero]at iu;obtain⟨ra,rc,hr,hrF⟩:=(HN.o.mk' m1).s;have fI:=((K3.o.mk m1) b hb).2;have M1:=af m1;have HRF:=af hrF;clear hrF m1 ar;go_wp2_with fail;have m2:Mk S w1 (((((w1.setCell (a_ b (off+j * 9)) (.string s)).setCell (a_ b (off+j * 9+1)) (i_ (kj+1))).setCell (a_ b (off+j * 9+2)) (i_ (kj+1+1))).setCell (a_ b (off+j * 9+3)) (.bool (decide ((kj+1+1+1) % 3=0)))).setCell (a_ b (off+j * 9+4)) (i_ (kj+1+1+1+1))):=by{refine cE ?_ hb ⟨v4,pm,f4⟩ _ trivial;refine cE ?_ hb ⟨v3,jB,f3⟩ _ trivial;refine cE ?_ hb ⟨v2,e9,f2⟩ _ trivial;refine cE ?_ hb ⟨v1,cT,f1⟩ _ trivial;refine cE ?_ hb ⟨v0,iu,f0⟩ _ trivial;exact Mk.refl _ _};have M2:=af (M1.o.trans m2);refine(zZ ra _ rc _ S _ (HRF.o.mk m2) (K3.o.mk M2.o) (by omega) (by omega)).mono ?_;rintro e w2 ⟨rfl,m3⟩;have m4:=M2.o.trans m3;obtain⟨ka,kc,Uk,hkF⟩:=(HN.o.mk' m4).k;clear iu f0 v0 cT f1 v1 e9 f2 v2 jB f3 v3 pm f4 v4 hr m3 m2 M1 M2 HRF fI;have HKF:=af hkF;have M4:=af m4;clear hkF m4;go_wp2_with fail;refine(uS ka _ kc _ S _ HKF.o (K3.o.mk M4.o) (by omega) (by omega)).mono ?_;rintro e w3 ⟨rfl,m5⟩;have m6:=M4.o.trans m5;obtain⟨na,nc,Ua,hnF⟩:=(HN.o.mk' m6).u;have HNF:=af hnF;have M6:=af m6;clear m5 Uk m6 HKF hnF M4;go_wp2_with fail;refine(xK na _ nc _ S _ HNF.o (K3.o.mk M6.o) (by omega) (by omega)).mono ?_;rintro e w4 ⟨rfl,m7⟩;have m8:=M6.o.trans m7;obtain⟨qa,qc,hr4,hqF⟩:=(HN.o.mk' m8).g;have HQF:=af hqF;have M8:=af m8;clear m7 Ua m8 HNF hqF M6;go_wp2_with fail;refine(tM qa _ qc _ S _ HQF.o (K3.o.mk M8.o) (by omega) (by omega)).mono ?_;rintro e w5 ⟨rfl,m9⟩;have M9:=af (HM.o.trans (M8.o.trans m9));clear m9 hr4;go_wp2;go_roundw;(case rel=>exact⟨j+1,by omega,by rw[<-HE.o];go_num,by go_num,M9.o⟩);case measure=>simp[intOf];omega
  {have HK:H_ (j=l.length):=by{show _=_;omega};go_wp2;go_ret;rw[HK.o,fD];exact⟨rfl,hm⟩}
theorem xy (a:o_)(l:List aj)(c:Nat)(k:Int)(S:Nat->Prop)(w:w_)(hs:nQ w S a l)(hS:lU w S)(h0:0<=k)(hk:k+aS aL l<=1000000000)(hn:l.length<=1000000000) :
  c_ 9 #[.agg #[.slice a l.length c],i_ k] w fun e w'=>e=.returned (i_ (k+aS aL l))/\Mk S w w':=by
 have dD:b_ w (w.alloc (.cells #[.slice a l.length c] 28)):=r_.alloc n_ _;have dQ:=af dD;clear dD;go_enter Tryz.func9,Tryz.ntmps9;go_wp2_with fail
 refine(uT a l c k S _ (hs.mk' (Mk.of_below dQ.o)) (hS.mk (Mk.of_below dQ.o)) h0 hk hn).mono ?_;rintro e w1 ⟨rfl,m1⟩;go_wp2;go_ret;exact⟨rfl,(Mk.of_below dQ.o).trans m1⟩
end Go.Proofs.YtcjfjflljdojlaaGreatDoor
