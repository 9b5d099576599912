import Derived.Test.YtcjfjflljdojlaaGreatDoorPart02
import Derived.Test.YtcjfjflljdojlaaGreatDoorProg
import Derived.WalkKit
import Derived.WalkSpells
import Derived.WalkLawsBesides
set_option linter.unusedSimpArgs false
set_option linter.unusedVariables false
set_option maxHeartbeats 4000000
set_option maxRecDepth 100000
namespace Go.Proofs.YtcjfjflljdojlaaGreatDoor
open Go.RowKit
attribute [local go_sem] cp
theorem tG {W w1:World}(hb:aG W.heap.size W w1):(∀ b o,b<W.heap.size->w1.cell? (a_ b o)=W.cell? (a_ b o))/\(∀ b o,b<W.heap.size->w1.frozen? (a_ b o)=W.frozen? (a_ b o)):=cz hb.1
theorem im {B G:Nat}{w:World}(hG:B<=G):∀(vs:List Value)(w1:World)(o:Nat),aG B w w1->aG B w (eh G w1 o vs)
 | [],_,_,h=>h
 | v::vs,w1,o,h=>im hG vs _ (o+1) (h.setCell hG v)
theorem Fx (v0:Bool)(v1:Int)(w:World) :
  c_ 107 #[.agg #[.bool v0,i_ v1]] w fun e w'=>e=.returned (.agg #[.bool v0,i_ v1])/\aG w.heap.size w w':=by
 go_enter Tryz.func107,Tryz.ntmps107;go_wp2_with fail
 exact bodyPost_ret (v:=.agg #[.bool v0,i_ v1]) (by simp[results,Tryz.results107,go_sem]) rfl ⟨rfl,by repeat (first | refine aG.alloc ?_ (by simp<;>omega) () | exact aG.refl _ _)⟩
theorem DK (a:o_)(l:List (Bool×Int))(c:Nat)(S:Nat->Prop)(w:World)(hs:dH w S a l)(hB:∀ b,S b->b<w.heap.size)(hl:l.length<=1048576) :
  c_ 66 #[.slice a l.length c] w fun e w'=>∃ a' c',e=.returned (.slice a' l.length c')/\dH w' (jk w.heap.size w') a' l/\aG w.heap.size w w':=by
 have hn:=hs.1;have kH:∀ w:World,(Instr.makeSlice 38 (i_ (l.length:Int)) (i_ (l.length:Int))).run Tryz.prog w=.ok (.slice (some (a_ w.heap.size 0)) l.length l.length) (w.alloc (.cells (madeCells Ux.toArray (l.length * 2)) 46)):=
  ew (P:=Tryz.prog) 38 46 _ 2 16 Tryz.underlying38 xH .i64 .i64 l.length (by omega) hn
 go_enter Tryz.func66,Tryz.ntmps66;go_wp2_with fail
 clear kH;go_loopw [4] (fun i wr=>∃(k:Nat),k<=l.length/\i=i_ k/\aG w.heap.size w wr/\wr.rowIs w.heap.size 46 (l.length * 2) (jI 2 (fun _=>iA) Ux l (false,0) k)) (fun i _=>l.length-(intOf i).toNat)
 case atStart=>exact⟨0,Nat.zero_le _,rfl,(aG.refl _ _).alloc n_ (),kR _ _ rfl (by decide)⟩
 case round=>
  obtain⟨k,hk,rfl,eo,bz⟩:=hrel;by_cases ax:k<l.length
  ·obtain⟨b,off,rfl,hb,aE⟩:=(hs.keep eo.1 hB).2 (by omega);have N:=aE k ax;clear aE;have HN:Hid (∀ W:World,W.rowIs w.heap.size 46 (l.length * 2) (jI 2 (fun _=>iA) Ux l (false,0) k)->(eh w.heap.size W (k * 2) (iA (l[k]?.getD (false,0)))).rowIs w.heap.size 46 (l.length * 2) (jI 2 (fun _=>iA) Ux l (false,0) (k+1))):=fun W hW=>nv (sz:=2) (vals:=fun _=>iA) (vals':=fun _=>iA) (z:=Ux) (l:=l) (d:=(false,0)) (by decide) rfl (fun _ _=>rfl) hW;generalize l[k]?.getD (false,0)=nd at *;obtain⟨h1,h2⟩:=N;go_wp2_with fail
   refine(Fx _ _ _).mono ?_;rintro e w' ⟨rfl,dW⟩;have bU:=bz.of_block (dW.block _ bz.lt);have rB:=bU.frozen (k * 2);have fJ:=bU.frozen (k * 2+1);have Fh:=bU.cell (i:=k * 2) (by omega);have xg:=bU.cell (i:=k * 2+1) (by omega);have HR:=af bU;have lq:=af (eo.trans (dW.mono eo.size));clear h1 h2 bz bU eo dW;go_wp2_with fail
   go_roundw
   case rel=>
    clear rB Fh fJ xg;exact⟨k+1,by omega,by go_num,im n_ (iA nd) _ (k * 2) (aa lq),aa HN _ (aa HR)⟩
   case measure=>simp[intOf];omega
  ·have HK:Hid (k=l.length):=by show _=_;omega
   go_wp2_with fail
   go_ret;have iK:=HK.out;exact⟨_,_,rfl,⟨hn,fun h0=>⟨_,0,rfl,⟨n_,bz.lt⟩,fun j hj=>⟨df bz iK (r:=0) hj (by omega),df bz iK (r:=1) hj (by omega)⟩⟩⟩,eo⟩
theorem xB (v0:Int)(v1:Int)(v2:Nat)(v3:ByteArray)(v4:Int)(w:World) :
  c_ 108 #[.agg #[i_ v0,i_ v1,.float .f64 v2,.string v3,i_ v4]] w fun e w'=>e=.returned (.agg #[i_ v0,i_ v1,.float .f64 v2,.string v3,i_ v4])/\aG w.heap.size w w':=by
 go_enter Tryz.func108,Tryz.ntmps108;go_wp2_with fail
 exact bodyPost_ret (v:=.agg #[i_ v0,i_ v1,.float .f64 v2,.string v3,i_ v4]) (by simp[results,Tryz.results108,go_sem]) rfl ⟨rfl,by repeat (first | refine aG.alloc ?_ (by simp<;>omega) () | exact aG.refl _ _)⟩
theorem vU (a:o_)(l:List (cS))(c:Nat)(S:Nat->Prop)(w:World)(hs:cQ w S a l)(hB:∀ b,S b->b<w.heap.size)(hl:l.length<=1048576) :
  c_ 67 #[.slice a l.length c] w fun e w'=>∃ a' c',e=.returned (.slice a' l.length c')/\cQ w' (jk w.heap.size w') a' l/\aG w.heap.size w w':=by
 have hn:=hs.1;have kH:∀ w:World,(Instr.makeSlice 39 (i_ (l.length:Int)) (i_ (l.length:Int))).run Tryz.prog w=.ok (.slice (some (a_ w.heap.size 0)) l.length l.length) (w.alloc (.cells (madeCells IF.toArray (l.length * 5)) 49)):=
  ew (P:=Tryz.prog) 39 49 _ 5 48 Tryz.underlying39 tF .i64 .i64 l.length (by omega) hn
 go_enter Tryz.func67,Tryz.ntmps67;go_wp2_with fail
 clear kH;go_loopw [4] (fun i wr=>∃(k:Nat),k<=l.length/\i=i_ k/\aG w.heap.size w wr/\wr.rowIs w.heap.size 49 (l.length * 5) (jI 5 (fun _=>gj) IF l cS.z k)) (fun i _=>l.length-(intOf i).toNat)
 case atStart=>exact⟨0,Nat.zero_le _,rfl,(aG.refl _ _).alloc n_ (),kR _ _ rfl (by decide)⟩
 case round=>
  obtain⟨k,hk,rfl,eo,bz⟩:=hrel;by_cases ax:k<l.length
  ·obtain⟨b,off,rfl,hb,aE⟩:=(hs.keep eo.1 hB).2 (by omega);have N:=aE k ax;clear aE;have HN:Hid (∀ W:World,W.rowIs w.heap.size 49 (l.length * 5) (jI 5 (fun _=>gj) IF l cS.z k)->(eh w.heap.size W (k * 5) (gj (l[k]?.getD cS.z))).rowIs w.heap.size 49 (l.length * 5) (jI 5 (fun _=>gj) IF l cS.z (k+1))):=fun W hW=>nv (sz:=5) (vals:=fun _=>gj) (vals':=fun _=>gj) (z:=IF) (l:=l) (d:=cS.z) (by decide) rfl (fun _ _=>rfl) hW;generalize l[k]?.getD cS.z=nd at *;have c0:=N.kind;have c1:=N.num;have c2:=N.flt;have c3:=N.str;have c4:=N.ref;go_wp2_with fail
   refine(xB _ _ _ _ _ _).mono ?_;rintro e w' ⟨rfl,dW⟩;have bU:=bz.of_block (dW.block _ bz.lt);have rB:=bU.frozen (k * 5);have fJ:=bU.frozen (k * 5+1);have wd:=bU.frozen (k * 5+2);have BM:=bU.frozen (k * 5+3);have Ul:=bU.frozen (k * 5+4);have Fh:=bU.cell (i:=k * 5) (by omega);have xg:=bU.cell (i:=k * 5+1) (by omega);have wq:=bU.cell (i:=k * 5+2) (by omega);have Hl:=bU.cell (i:=k * 5+3) (by omega);have PZ:=bU.cell (i:=k * 5+4) (by omega);have HR:=af bU;have lq:=af (eo.trans (dW.mono eo.size));clear c0 c1 c2 c3 c4 bz bU eo dW;go_wp2_with fail
   go_roundw
   case rel=>
    clear rB Fh fJ xg wd wq BM Hl Ul PZ;exact⟨k+1,by omega,by go_num,im n_ (gj nd) _ (k * 5) (aa lq),aa HN _ (aa HR)⟩
   case measure=>simp[intOf];omega
  ·have HK:Hid (k=l.length):=by show _=_;omega
   go_wp2_with fail
   go_ret;have iK:=HK.out;have N:∀ j,j<l.length->(l[j]?.getD cS.z).str.size<=9223372036854775807:=fun j hj=>by
    obtain⟨b,off,_,_,aE⟩:=hs.2 (by omega);exact(aE j hj).strs
   exact⟨_,_,rfl,⟨hn,fun h0=>⟨_,0,rfl,⟨n_,bz.lt⟩,fun j hj=>{ kind:=df bz iK (r:=0) hj (by omega),num:=df bz iK (r:=1) hj (by omega),flt:=df bz iK (r:=2) hj (by omega),str:=df bz iK (r:=3) hj (by omega),ref:=df bz iK (r:=4) hj (by omega),strs:=N j hj }⟩⟩,eo⟩
theorem Dg (v0:Int)(v1:Int)(v2:Int)(v3:Int)(v4:Int)(w:World) :
  c_ 109 #[.agg #[i_ v0,i_ v1,i_ v2,i_ v3,i_ v4]] w fun e w'=>e=.returned (.agg #[i_ v0,i_ v1,i_ v2,i_ v3,i_ v4])/\aG w.heap.size w w':=by
 go_enter Tryz.func109,Tryz.ntmps109;go_wp2_with fail
 exact bodyPost_ret (v:=.agg #[i_ v0,i_ v1,i_ v2,i_ v3,i_ v4]) (by simp[results,Tryz.results109,go_sem]) rfl ⟨rfl,by repeat (first | refine aG.alloc ?_ (by simp<;>omega) () | exact aG.refl _ _)⟩
theorem AY (a:o_)(l:List (aA))(c:Nat)(S:Nat->Prop)(w:World)(hs:bQ w S a l)(hB:∀ b,S b->b<w.heap.size)(hl:l.length<=1048576) :
  c_ 68 #[.slice a l.length c] w fun e w'=>∃ a' c',e=.returned (.slice a' l.length c')/\bQ w' (jk w.heap.size w') a' l/\aG w.heap.size w w':=by
 have hn:=hs.1;have kH:∀ w:World,(Instr.makeSlice 40 (i_ (l.length:Int)) (i_ (l.length:Int))).run Tryz.prog w=.ok (.slice (some (a_ w.heap.size 0)) l.length l.length) (w.alloc (.cells (madeCells IZ.toArray (l.length * 5)) 51)):=
  ew (P:=Tryz.prog) 40 51 _ 5 40 Tryz.underlying40 kP .i64 .i64 l.length (by omega) hn
 go_enter Tryz.func68,Tryz.ntmps68;go_wp2_with fail
 clear kH;go_loopw [4] (fun i wr=>∃(k:Nat),k<=l.length/\i=i_ k/\aG w.heap.size w wr/\wr.rowIs w.heap.size 51 (l.length * 5) (jI 5 (fun _=>aW) IZ l aA.z k)) (fun i _=>l.length-(intOf i).toNat)
 case atStart=>exact⟨0,Nat.zero_le _,rfl,(aG.refl _ _).alloc n_ (),kR _ _ rfl (by decide)⟩
 case round=>
  obtain⟨k,hk,rfl,eo,bz⟩:=hrel;by_cases ax:k<l.length
  ·obtain⟨b,off,rfl,hb,aE⟩:=(hs.keep eo.1 hB).2 (by omega);have N:=aE k ax;clear aE;have HN:Hid (∀ W:World,W.rowIs w.heap.size 51 (l.length * 5) (jI 5 (fun _=>aW) IZ l aA.z k)->(eh w.heap.size W (k * 5) (aW (l[k]?.getD aA.z))).rowIs w.heap.size 51 (l.length * 5) (jI 5 (fun _=>aW) IZ l aA.z (k+1))):=fun W hW=>nv (sz:=5) (vals:=fun _=>aW) (vals':=fun _=>aW) (z:=IZ) (l:=l) (d:=aA.z) (by decide) rfl (fun _ _=>rfl) hW;generalize l[k]?.getD aA.z=nd at *;have c0:=N.op;have c1:=N.fa;have c2:=N.fb;have c3:=N.fc;have c4:=N.fd;go_wp2_with fail
   refine(Dg _ _ _ _ _ _).mono ?_;rintro e w' ⟨rfl,dW⟩;have bU:=bz.of_block (dW.block _ bz.lt);have rB:=bU.frozen (k * 5);have fJ:=bU.frozen (k * 5+1);have wd:=bU.frozen (k * 5+2);have BM:=bU.frozen (k * 5+3);have Ul:=bU.frozen (k * 5+4);have Fh:=bU.cell (i:=k * 5) (by omega);have xg:=bU.cell (i:=k * 5+1) (by omega);have wq:=bU.cell (i:=k * 5+2) (by omega);have Hl:=bU.cell (i:=k * 5+3) (by omega);have PZ:=bU.cell (i:=k * 5+4) (by omega);have HR:=af bU;have lq:=af (eo.trans (dW.mono eo.size));clear c0 c1 c2 c3 c4 bz bU eo dW;go_wp2_with fail
   go_roundw
   case rel=>
    clear rB Fh fJ xg wd wq BM Hl Ul PZ;exact⟨k+1,by omega,by go_num,im n_ (aW nd) _ (k * 5) (aa lq),aa HN _ (aa HR)⟩
   case measure=>simp[intOf];omega
  ·have HK:Hid (k=l.length):=by show _=_;omega
   go_wp2_with fail
   go_ret;have iK:=HK.out;exact⟨_,_,rfl,⟨hn,fun h0=>⟨_,0,rfl,⟨n_,bz.lt⟩,fun j hj=>{ op:=df bz iK (r:=0) hj (by omega),fa:=df bz iK (r:=1) hj (by omega),fb:=df bz iK (r:=2) hj (by omega),fc:=df bz iK (r:=3) hj (by omega),fd:=df bz iK (r:=4) hj (by omega) }⟩⟩,eo⟩
theorem xE (v0:ByteArray)(v1:Int)(v2:Int)(v3:Int)(w:World) :
  c_ 110 #[.agg #[.string v0,i_ v1,i_ v2,i_ v3]] w fun e w'=>e=.returned (.agg #[.string v0,i_ v1,i_ v2,i_ v3])/\aG w.heap.size w w':=by
 go_enter Tryz.func110,Tryz.ntmps110;go_wp2_with fail
 exact bodyPost_ret (v:=.agg #[.string v0,i_ v1,i_ v2,i_ v3]) (by simp[results,Tryz.results110,go_sem]) rfl ⟨rfl,by repeat (first | refine aG.alloc ?_ (by simp<;>omega) () | exact aG.refl _ _)⟩
theorem vG (a:o_)(l:List (bE))(c:Nat)(S:Nat->Prop)(w:World)(hs:dc w S a l)(hB:∀ b,S b->b<w.heap.size)(hl:l.length<=1048576) :
  c_ 69 #[.slice a l.length c] w fun e w'=>∃ a' c',e=.returned (.slice a' l.length c')/\dc w' (jk w.heap.size w') a' l/\aG w.heap.size w w':=by
 have hn:=hs.1;have kH:∀ w:World,(Instr.makeSlice 41 (i_ (l.length:Int)) (i_ (l.length:Int))).run Tryz.prog w=.ok (.slice (some (a_ w.heap.size 0)) l.length l.length) (w.alloc (.cells (madeCells I6.toArray (l.length * 4)) 53)):=
  ew (P:=Tryz.prog) 41 53 _ 4 40 Tryz.underlying41 qj .i64 .i64 l.length (by omega) hn
 go_enter Tryz.func69,Tryz.ntmps69;go_wp2_with fail
 clear kH;go_loopw [4] (fun i wr=>∃(k:Nat),k<=l.length/\i=i_ k/\aG w.heap.size w wr/\wr.rowIs w.heap.size 53 (l.length * 4) (jI 4 (fun _=>dQ) I6 l bE.z k)) (fun i _=>l.length-(intOf i).toNat)
 case atStart=>exact⟨0,Nat.zero_le _,rfl,(aG.refl _ _).alloc n_ (),kR _ _ rfl (by decide)⟩
 case round=>
  obtain⟨k,hk,rfl,eo,bz⟩:=hrel;by_cases ax:k<l.length
  ·obtain⟨b,off,rfl,hb,aE⟩:=(hs.keep eo.1 hB).2 (by omega);have N:=aE k ax;clear aE;have HN:Hid (∀ W:World,W.rowIs w.heap.size 53 (l.length * 4) (jI 4 (fun _=>dQ) I6 l bE.z k)->(eh w.heap.size W (k * 4) (dQ (l[k]?.getD bE.z))).rowIs w.heap.size 53 (l.length * 4) (jI 4 (fun _=>dQ) I6 l bE.z (k+1))):=fun W hW=>nv (sz:=4) (vals:=fun _=>dQ) (vals':=fun _=>dQ) (z:=I6) (l:=l) (d:=bE.z) (by decide) rfl (fun _ _=>rfl) hW;generalize l[k]?.getD bE.z=nd at *;have c0:=N.name;have c1:=N.reg;have c2:=N.fro;have c3:=N.til;go_wp2_with fail
   refine(xE _ _ _ _ _).mono ?_;rintro e w' ⟨rfl,dW⟩;have bU:=bz.of_block (dW.block _ bz.lt);have rB:=bU.frozen (k * 4);have fJ:=bU.frozen (k * 4+1);have wd:=bU.frozen (k * 4+2);have BM:=bU.frozen (k * 4+3);have Fh:=bU.cell (i:=k * 4) (by omega);have xg:=bU.cell (i:=k * 4+1) (by omega);have wq:=bU.cell (i:=k * 4+2) (by omega);have Hl:=bU.cell (i:=k * 4+3) (by omega);have HR:=af bU;have lq:=af (eo.trans (dW.mono eo.size));clear c0 c1 c2 c3 bz bU eo dW;go_wp2_with fail
   go_roundw
   case rel=>
    clear rB Fh fJ xg wd wq BM Hl;exact⟨k+1,by omega,by go_num,im n_ (dQ nd) _ (k * 4) (aa lq),aa HN _ (aa HR)⟩
   case measure=>simp[intOf];omega
  ·have HK:Hid (k=l.length):=by show _=_;omega
   go_wp2_with fail
   go_ret;have iK:=HK.out;have N:∀ j,j<l.length->(l[j]?.getD bE.z).name.size<=9223372036854775807:=fun j hj=>by
    obtain⟨b,off,_,_,aE⟩:=hs.2 (by omega);exact(aE j hj).names
   exact⟨_,_,rfl,⟨hn,fun h0=>⟨_,0,rfl,⟨n_,bz.lt⟩,fun j hj=>{ name:=df bz iK (r:=0) hj (by omega),reg:=df bz iK (r:=1) hj (by omega),fro:=df bz iK (r:=2) hj (by omega),til:=df bz iK (r:=3) hj (by omega),names:=N j hj }⟩⟩,eo⟩
theorem Al {a:o_}{l:List (Bool×Int)}{c:Nat}{S:Nat->Prop}(w W:World)(hs:dH w S a l)(hB:∀ b,S b->b<w.heap.size)(hl:l.length<=1048576)(hW:aG w.heap.size w W) :
  c_ 66 #[.slice a l.length c] W fun e w'=>∃ a' c',e=.returned (.slice a' l.length c')/\dH w' (jk W.heap.size w') a' l/\aG W.heap.size W w':=
 DK a l c S W (hs.keep hW.1 hB) (fun b h=>l_ (hB b h) hW.size) hl
theorem ul {a:o_}{l:List cS}{c:Nat}{S:Nat->Prop}(w W:World)(hs:cQ w S a l)(hB:∀ b,S b->b<w.heap.size)(hl:l.length<=1048576)(hW:aG w.heap.size w W) :
  c_ 67 #[.slice a l.length c] W fun e w'=>∃ a' c',e=.returned (.slice a' l.length c')/\cQ w' (jk W.heap.size w') a' l/\aG W.heap.size W w':=
 vU a l c S W (hs.keep hW.1 hB) (fun b h=>l_ (hB b h) hW.size) hl
theorem xW {a:o_}{l:List aA}{c:Nat}{S:Nat->Prop}(w W:World)(hs:bQ w S a l)(hB:∀ b,S b->b<w.heap.size)(hl:l.length<=1048576)(hW:aG w.heap.size w W) :
  c_ 68 #[.slice a l.length c] W fun e w'=>∃ a' c',e=.returned (.slice a' l.length c')/\bQ w' (jk W.heap.size w') a' l/\aG W.heap.size W w':=
 AY a l c S W (hs.keep hW.1 hB) (fun b h=>l_ (hB b h) hW.size) hl
theorem uv {a:o_}{l:List bE}{c:Nat}{S:Nat->Prop}(w W:World)(hs:dc w S a l)(hB:∀ b,S b->b<w.heap.size)(hl:l.length<=1048576)(hW:aG w.heap.size w W) :
  c_ 69 #[.slice a l.length c] W fun e w'=>∃ a' c',e=.returned (.slice a' l.length c')/\dc w' (jk W.heap.size w') a' l/\aG W.heap.size W w':=
 vG a l c S W (hs.keep hW.1 hB) (fun b h=>l_ (hB b h) hW.size) hl
theorem xP (nm:ByteArray)(ln pr:Int)(rs:Bool)(rg:Int)(us:List (Bool×Int))(cs:List cS)(is:List aA)(ns:List bE)(a5 a6 a7 a8:o_)(c5 c6 c7 c8:Nat)(S:Nat->Prop)(w:World)
  (h5:dH w S a5 us)(h6:cQ w S a6 cs)(h7:bQ w S a7 is)(h8:dc w S a8 ns)(hB:∀ b,S b->b<w.heap.size)(hl5:us.length<=1048576)(Y6:cs.length<=1048576)(hl7:is.length<=1048576)(ZN:ns.length<=1048576) :
  c_ 25 #[.agg #[.string nm,i_ ln,i_ pr,.bool rs,i_ rg,.slice a5 us.length c5,.slice a6 cs.length c6,.slice a7 is.length c7,.slice a8 ns.length c8]] w fun e w'=>
   ∃ xl Em yX D8 oJ sq pq sn,e=.returned (.agg #[.string nm,i_ ln,i_ pr,.bool rs,i_ rg,.slice xl us.length Em,.slice yX cs.length D8,.slice oJ is.length sq,.slice pq ns.length sn])/\dH w' (jk w.heap.size w') xl us/\cQ w' (jk w.heap.size w') yX cs/\bQ w' (jk w.heap.size w') oJ is/\dc w' (jk w.heap.size w') pq ns/\aG w.heap.size w w':=by
 go_enter Tryz.func25,Tryz.ntmps25;go_wp2_with fail
 refine(Al w _ h5 hB hl5 ?hW0).mono ?_
 case hW0=>repeat (first | refine aG.alloc ?_ (by simp<;>omega) () | refine aG.setCell ?_ (by simp<;>omega) _ | exact aG.refl _ _)
 rintro e w1 ⟨xl,Em,rfl,D9,au⟩;have sL:aG w.heap.size w w1:=by
  refine aG.trans (b:=_) ?_ (au.mono (by simp<;>omega))
  repeat (first | refine aG.alloc ?_ (by simp<;>omega) () | refine aG.setCell ?_ (by simp<;>omega) _ | exact aG.refl _ _)
 obtain⟨cU,fJ⟩:=tG au;have hz1_:w.heap.size+1+1+1<=w1.heap.size:=by have:=au.size;simpa using this
 have hz1a:w.heap.size<w1.heap.size:=by omega
 have abn:w.heap.size+1<w1.heap.size:=by omega
 have hz1c:w.heap.size+1+1<w1.heap.size:=by omega
 replace D9:dH w1 (jk (w.heap.size+3) w1) xl us:=D9.mono (fun b h=>⟨by have:=h.1;simp at this;omega,h.2⟩)
 clear au;go_wp2_with fail
 refine(ul w _ h6 hB Y6 ?hW1).mono ?_
 case hW1=>repeat (first | refine aG.setCell ?_ (by simp<;>omega) _ | exact sL)
 rintro e w2 ⟨yX,D8,rfl,L0,bo⟩;have Ed:aG w.heap.size w w2:=by
  refine aG.trans (b:=_) ?_ (bo.mono (by simp<;>omega))
  repeat (first | refine aG.setCell ?_ (by simp<;>omega) _ | exact sL)
 obtain⟨fe,wd⟩:=tG bo;have hz2_:w1.heap.size<=w2.heap.size:=by have:=bo.size;simpa using this
 have hz2a:w.heap.size<w2.heap.size:=by omega
 have Y8:w.heap.size+1<w2.heap.size:=by omega
 have hz2c:w.heap.size+1+1<w2.heap.size:=by omega
 replace L0:cQ w2 (jk (w.heap.size+3) w2) yX cs:=L0.mono (fun b h=>⟨by have:=h.1;simp at this;omega,h.2⟩)
 replace D9:dH w2 (jk (w.heap.size+3) w1) xl us:=by
  refine D9.same (cI.below (cI.setCell cI.refl ?_ _) bo.1 (fun b h=>by have:=h.2;simp;omega));intro h;have:=h.1;simp at this;omega
 clear bo;go_wp2_with fail
 refine(xW w _ h7 hB hl7 ?hW2).mono ?_
 case hW2=>repeat (first | refine aG.setCell ?_ (by simp<;>omega) _ | exact Ed)
 rintro e w3 ⟨oJ,sq,rfl,BC,bY⟩;have Eq:aG w.heap.size w w3:=by
  refine aG.trans (b:=_) ?_ (bY.mono (by simp<;>omega))
  repeat (first | refine aG.setCell ?_ (by simp<;>omega) _ | exact Ed)
 obtain⟨jD,BM⟩:=tG bY;have hz3_:w2.heap.size<=w3.heap.size:=by have:=bY.size;simpa using this
 have hz3a:w.heap.size<w3.heap.size:=by omega
 have aaK:w.heap.size+1<w3.heap.size:=by omega
 have hz3c:w.heap.size+1+1<w3.heap.size:=by omega
 replace BC:bQ w3 (jk (w.heap.size+3) w3) oJ is:=BC.mono (fun b h=>⟨by have:=h.1;simp at this;omega,h.2⟩)
 replace D9:dH w3 (jk (w.heap.size+3) w1) xl us:=by
  refine D9.same (cI.below (cI.setCell cI.refl ?_ _) bY.1 (fun b h=>by have:=h.2;simp;omega));intro h;have:=h.1;simp at this;omega
 replace L0:cQ w3 (jk (w.heap.size+3) w2) yX cs:=by
  refine L0.same (cI.below (cI.setCell cI.refl ?_ _) bY.1 (fun b h=>by have:=h.2;simp;omega));intro h;have:=h.1;simp at this;omega
 clear bY;go_wp2_with fail
 refine(uv w _ h8 hB ZN ?hW3).mono ?_
 case hW3=>repeat (first | refine aG.setCell ?_ (by simp<;>omega) _ | exact Eq)
 rintro e w4 ⟨pq,sn,rfl,NW,lx⟩;have aaU:aG w.heap.size w w4:=by
  refine aG.trans (b:=_) ?_ (lx.mono (by simp<;>omega))
  repeat (first | refine aG.setCell ?_ (by simp<;>omega) _ | exact Eq)
 obtain⟨pk,Ul⟩:=tG lx;have aa4:w3.heap.size<=w4.heap.size:=by have:=lx.size;simpa using this
 have hz4a:w.heap.size<w4.heap.size:=by omega
 have hz4b:w.heap.size+1<w4.heap.size:=by omega
 have hz4c:w.heap.size+1+1<w4.heap.size:=by omega
 replace NW:dc w4 (jk (w.heap.size+3) w4) pq ns:=NW.mono (fun b h=>⟨by have:=h.1;simp at this;omega,h.2⟩)
 replace D9:dH w4 (jk (w.heap.size+3) w1) xl us:=by
  refine D9.same (cI.below (cI.setCell cI.refl ?_ _) lx.1 (fun b h=>by have:=h.2;simp;omega));intro h;have:=h.1;simp at this;omega
 replace L0:cQ w4 (jk (w.heap.size+3) w2) yX cs:=by
  refine L0.same (cI.below (cI.setCell cI.refl ?_ _) lx.1 (fun b h=>by have:=h.2;simp;omega));intro h;have:=h.1;simp at this;omega
 replace BC:bQ w4 (jk (w.heap.size+3) w3) oJ is:=by
  refine BC.same (cI.below (cI.setCell cI.refl ?_ _) lx.1 (fun b h=>by have:=h.2;simp;omega));intro h;have:=h.1;simp at this;omega
 clear lx;have p1:∀ W:World,¬jk (w.heap.size+3) W (w.heap.size+1):=fun W h=>by have:=h.1;omega
 have p2:∀ W:World,¬jk (w.heap.size+3) W (w.heap.size+1+1):=fun W h=>by have:=h.1;omega
 have b1:w.heap.size<=w.heap.size+1:=by omega
 have b2:w.heap.size<=w.heap.size+1+1:=by omega
 have m1:∀ V:World,V.heap.size<=w4.heap.size->∀ W:World,W.heap.size=w4.heap.size->∀ b,jk (w.heap.size+3) V b->jk w.heap.size W b:=fun V hV W e b h=>⟨by have:=h.1;omega,by have:=h.2;omega⟩;have q1:w1.heap.size<=w4.heap.size:=by omega
 have q2:w2.heap.size<=w4.heap.size:=by omega
 have M:=af (And.intro (And.intro p1 p2) (And.intro (And.intro b1 b2) (And.intro m1 (And.intro q1 (And.intro q2 aa4)))));clear p1 p2 b1 b2 m1 q1 q2;go_wp2_with fail
 obtain⟨⟨p1,p2⟩,⟨b1,b2⟩,m1,q1,q2,q3⟩:=aa M;refine bodyPost_ret (v:=.agg #[.string nm,i_ ln,i_ pr,.bool rs,i_ rg,.slice xl us.length Em,.slice yX cs.length D8,.slice oJ is.length sq,.slice pq ns.length sn]) (by simp[results,Tryz.results25,go_sem,cU,fe,jD,pk,abn,Y8,aaK]) rfl ⟨xl,Em,yX,D8,oJ,sq,pq,sn,rfl,?_,?_,?_,?_,?_⟩
 ·refine(D9.same ?_).mono (m1 _ q1 _ (by simp))
  iterate 9 refine cI.setCell ?_ (p1 _) _
  refine cI.setCell ?_ (p2 _) _;exact cI.refl
 ·refine(L0.same ?_).mono (m1 _ q2 _ (by simp))
  iterate 9 refine cI.setCell ?_ (p1 _) _
  refine cI.setCell ?_ (p2 _) _;exact cI.refl
 ·refine(BC.same ?_).mono (m1 _ q3 _ (by simp))
  iterate 9 refine cI.setCell ?_ (p1 _) _
  refine cI.setCell ?_ (p2 _) _;exact cI.refl
 ·refine(NW.same ?_).mono (m1 _ n_ _ (by simp))
  iterate 9 refine cI.setCell ?_ (p1 _) _
  refine cI.setCell ?_ (p2 _) _;exact cI.refl
 ·iterate 9 refine aG.setCell ?_ b1 _
  refine aG.setCell ?_ b2 _;exact aaU
theorem vt (a:o_)(l:List ak)(c:Nat)(S:Nat->Prop)(w:World)(hs:ao w S a l)(hB:∀ b,S b->b<w.heap.size)(hl:aI l<=1048576) :
  c_ 14 #[.slice a l.length c] w fun e w'=>∃ a' c',e=.returned (.slice a' l.length c')/\ao w' (jk w.heap.size w') a' l/\aG w.heap.size w w':=by
 have hn:=hs.1;have py:l.length<=1048576:=by unfold aI at hl;omega
 have hel:∀ k,k<l.length->(l[k]?.getD ak.z).ups.length<=1048576/\(l[k]?.getD ak.z).consts.length<=1048576/\(l[k]?.getD ak.z).ins.length<=1048576/\(l[k]?.getD ak.z).named.length<=1048576:=fun k hk=>by
  have h1:=dJ dx l k ak.z hk;have h2:=gw dx l (k+1);unfold aI at hl;generalize l[k]?.getD ak.z=fd at *;have h3:dx fd=fd.name.size+fd.ups.length+fq fd.consts+fd.ins.length+iq fd.named:=rfl;have h4:fq fd.consts=fd.consts.length+aS mE fd.consts:=rfl;have h5:iq fd.named=fd.named.length+aS mB fd.named:=rfl;refine⟨?_,?_,?_,?_⟩<;>omega
 have HEL:=af hel;clear hel hl;have kH:∀ w:World,(Instr.makeSlice 26 (i_ (l.length:Int)) (i_ (l.length:Int))).run Tryz.prog w=.ok (.slice (some (a_ w.heap.size 0)) l.length l.length) (w.alloc (.cells (madeCells iX.toArray (l.length * 9)) 43)):=
  ew (P:=Tryz.prog) 26 43 _ 9 144 Tryz.underlying26 pe .i64 .i64 l.length (by omega) hn
 go_enter Tryz.func14,Tryz.ntmps14;go_wp2_with fail
 clear kH;go_loopw [4] (fun i wr=>∃(k:Nat) (R:Nat->dp),k<=l.length/\i=i_ k/\aG w.heap.size w wr/\wr.rowIs w.heap.size 43 (l.length * 9) (jI 9 (gG R) iX l ak.z k) /\
   (∀ i,i<k->gF wr (jk (w.heap.size+1) wr) (R i) (l[i]?.getD ak.z))) (fun i _=>l.length-(intOf i).toNat)
 case atStart=>exact⟨0,fun _=>⟨none,0,none,0,none,0,none,0⟩,Nat.zero_le _,rfl,(aG.refl _ _).alloc n_ (),kR _ _ rfl (by decide),fun i hi=>absurd hi (Nat.not_lt_zero _)⟩
 case round=>
  obtain⟨k,R,hk,rfl,eo,bz,hR⟩:=hrel;have HR:=af hR;clear hR;by_cases ax:k<l.length
  ·obtain⟨b,off,rfl,hb,aE⟩:=(hs.keep eo.1 hB).2 (by omega);have N:=aE k ax;obtain⟨hl5,Y6,hl7,ZN⟩:=aa HEL k ax;clear aE;have KL:Hid (∀(W:World) (R':Nat->dp),(∀ i,i<k->R' i=R i)->W.rowIs w.heap.size 43 (l.length * 9) (jI 9 (gG R) iX l ak.z k)->(eh w.heap.size W (k * 9) (gG R' k (l[k]?.getD ak.z))).rowIs w.heap.size 43 (l.length * 9) (jI 9 (gG R') iX l ak.z (k+1))):=fun W R' hR' hW=>
    nv (sz:=9) (vals:=gG R) (vals':=gG R') (z:=iX) (l:=l) (d:=ak.z) (by decide) rfl (fun i hi=>by unfold gG;rw[hR' i hi]) hW
   generalize hx:l[k]?.getD ak.z=nd at *;have HX:=af hx;clear hx;obtain⟨a5,c5,h5,H5⟩:=N.ups;obtain⟨a6,c6,h6,H6⟩:=N.consts;obtain⟨a7,c7,h7,H7⟩:=N.ins;obtain⟨a8,c8,h8,H8⟩:=N.named;have c0:=N.name;have c1:=N.line;have c2:=N.params;have c3:=N.rest;have c4:=N.regs;have Hw:∀ b,S b->b<wr.heap.size:=fun b h=>l_ (hB b h) eo.size;go_wp2_with fail
   refine(xP _ _ _ _ _ _ _ _ _ _ _ _ _ _ _ _ _ S _ H5 H6 H7 H8 Hw hl5 Y6 hl7 ZN).mono ?_;rintro e w' ⟨xl,Em,yX,D8,oJ,sq,pq,sn,rfl,D9,L0,BC,NW,dW⟩;have bU:=bz.of_block (dW.block _ bz.lt);have rB:=bU.frozen (k * 9);have Fh:=bU.cell (i:=k * 9) (by omega);have fJ:=bU.frozen (k * 9+1);have xg:=bU.cell (i:=k * 9+1) (by omega);have wd:=bU.frozen (k * 9+2);have wq:=bU.cell (i:=k * 9+2) (by omega);have BM:=bU.frozen (k * 9+3);have Hl:=bU.cell (i:=k * 9+3) (by omega);have Ul:=bU.frozen (k * 9+4);have PZ:=bU.cell (i:=k * 9+4) (by omega);have hf5:=bU.frozen (k * 9+5);have hg5:=bU.cell (i:=k * 9+5) (by omega);have OP:=bU.frozen (k * 9+6);have hg6:=bU.cell (i:=k * 9+6) (by omega);have hf7:=bU.frozen (k * 9+7);have hg7:=bU.cell (i:=k * 9+7) (by omega);have hf8:=bU.frozen (k * 9+8);have hg8:=bU.cell (i:=k * 9+8) (by omega);have nK:=af bU;have hG:w.heap.size<wr.heap.size:=bz.lt;have lq:=af (eo.trans (dW.mono eo.size));have HB':=af dW;have sU:Hid (gF w' (jk wr.heap.size w') ⟨xl,Em,yX,D8,oJ,sq,pq,sn⟩ nd):=⟨D9,L0,BC,NW⟩;clear c0 c1 c2 c3 c4 h5 h6 h7 h8 bz bU dW D9 L0 BC NW N H5 H6 H7 H8;go_wp2_with fail
   go_roundw
   case rel=>
    clear rB Fh fJ xg wd wq BM Hl Ul PZ hf5 hg5 OP hg6 hf7 hg7 hf8 hg8;have hx:=aa HX;have dW:=aa HB';have hRk:(fun i=>if i=k then(⟨xl,Em,yX,D8,oJ,sq,pq,sn⟩:dp)else R i) k=⟨xl,Em,yX,D8,oJ,sq,pq,sn⟩:=if_pos rfl;have hvk:gG (fun i=>if i=k then(⟨xl,Em,yX,D8,oJ,sq,pq,sn⟩:dp)else R i) k nd=[.string nd.name,i_ nd.line,i_ nd.params,.bool nd.rest,i_ nd.regs,.slice xl nd.ups.length Em,.slice yX nd.consts.length D8,.slice oJ nd.ins.length sq,.slice pq nd.named.length sn]:=by
     unfold gG;rw[hRk]
    have Tp:=aa KL _ (fun i=>if i=k then(⟨xl,Em,yX,D8,oJ,sq,pq,sn⟩:dp)else R i) (fun i hi=>if_neg (by omega)) (aa nK);rw[hvk]at Tp;have hm:∀ W:World,W.heap.size=w'.heap.size->∀ b,jk (w.heap.size+1) wr b->jk (w.heap.size+1) W b:=fun W e b h=>⟨h.1,by have:=h.2;have:=dW.size;omega⟩;have Te:∀ W:World,W.heap.size=w'.heap.size->∀ b,jk wr.heap.size w' b->jk (w.heap.size+1) W b:=fun W e b h=>⟨by have:=h.1;omega,by have:=h.2;omega⟩;have hng:¬jk (w.heap.size+1) wr w.heap.size:=fun h=>by have:=h.1;omega
    have WO:¬jk wr.heap.size w' w.heap.size:=fun h=>by have:=h.1;omega
    have Fd:cI (jk (w.heap.size+1) wr) wr w':=.of_below dW.1 (fun b h=>h.2);have key:∀ VS:List Value,∀ i,i<k+1->gF (eh w.heap.size w' (k * 9) VS) (jk (w.heap.size+1) (eh w.heap.size w' (k * 9) VS)) (if i=k then(⟨xl,Em,yX,D8,oJ,sq,pq,sn⟩:dp)else R i) (l[i]?.getD ak.z):=fun VS i hi=>by
     by_cases e:i=k
     ·rw[if_pos e,e,hx];exact((aa sU).same (qY WO VS w' (k * 9) cI.refl)).mono (Te _ (eP VS w' (k * 9)))
     ·rw[if_neg e];exact((aa HR i (by omega)).same (qY hng VS w' (k * 9) Fd)).mono (hm _ (eP VS w' (k * 9)))
    have aat:=key [.string nd.name,i_ nd.line,i_ nd.params,.bool nd.rest,i_ nd.regs,.slice xl nd.ups.length Em,.slice yX nd.consts.length D8,.slice oJ nd.ins.length sq,.slice pq nd.named.length sn];have cZ:=im (w:=w) (Nat.le_refl w.heap.size) [.string nd.name,i_ nd.line,i_ nd.params,.bool nd.rest,i_ nd.regs,.slice xl nd.ups.length Em,.slice yX nd.consts.length D8,.slice oJ nd.ins.length sq,.slice pq nd.named.length sn] w' (k * 9) (aa lq);clear key hng WO hm Te Fd;exact⟨k+1,fun i=>if i=k then⟨xl,Em,yX,D8,oJ,sq,pq,sn⟩else R i,by omega,by go_num,cZ,Tp,aat⟩
   case measure=>simp[intOf];omega
  ·have HK:Hid (k=l.length):=by show _=_;omega
   go_wp2_with fail
   go_ret;refine⟨_,_,rfl,?_,eo⟩;have iK:=HK.out;refine⟨hn,fun h0=>⟨_,0,rfl,⟨n_,bz.lt⟩,fun j hj=>?_⟩⟩;obtain⟨b,off,_,_,aE⟩:=hs.2 h0;have h1:=(aa HR j (by omega)).mono (S':=jk w.heap.size wr) (fun b h=>⟨by have:=h.1;omega,h.2⟩);exact { names:=(aE j hj).names,name:=df bz iK (r:=0) hj (by omega),line:=df bz iK (r:=1) hj (by omega),params:=df bz iK (r:=2) hj (by omega),rest:=df bz iK (r:=3) hj (by omega),regs:=df bz iK (r:=4) hj (by omega),ups:=⟨_,_,df bz iK (r:=5) hj (by omega),h1.h5⟩,consts:=⟨_,_,df bz iK (r:=6) hj (by omega),h1.h6⟩,ins:=⟨_,_,df bz iK (r:=7) hj (by omega),h1.h7⟩,named:=⟨_,_,df bz iK (r:=8) hj (by omega),h1.h8⟩ }
theorem Aq (a:o_)(l:List ak)(c:Nat)(S:Nat->Prop)(w:World)(hs:ao w S a l)(hB:∀ b,S b->b<w.heap.size)(hl:aI l<=1048576) :
  c_ 6 #[.agg #[.slice a l.length c]] w fun e w'=>∃ a' c',e=.returned (.agg #[.slice a' l.length c'])/\ao w' (jk w.heap.size w') a' l/\aG w.heap.size w w':=by
 go_enter Tryz.func6,Tryz.ntmps6;go_wp2_with fail
 have dF:aG w.heap.size w (((w.alloc (.cells #[.slice a l.length c] 24)).alloc (.cells #[.slice none 0 0] 28)).alloc (.cells #[.slice none 0 0] 28)):=by
  repeat (first | refine aG.alloc ?_ (by simp<;>omega) () | exact aG.refl _ _)
 refine(vt _ _ _ S _ (hs.keep dF.1 hB) (fun b h=>l_ (hB b h) dF.size) hl).mono ?_;rintro e w1 ⟨a',c',rfl,hI,au⟩;have sL:aG w.heap.size w w1:=dF.trans (au.mono dF.size);obtain⟨hc,hf⟩:=tG au;have hz:w.heap.size+1+1+1<=w1.heap.size:=by have:=au.size;simpa using this
 have dE:w.heap.size<w1.heap.size:=by omega
 have cT:w.heap.size+1<w1.heap.size:=by omega
 have dB:w.heap.size+1+1<w1.heap.size:=by omega
 replace hI:ao w1 (jk (w.heap.size+3) w1) a' l:=hI.mono (fun b h=>⟨by have:=h.1;simp at this;omega,h.2⟩)
 clear au;have p1:∀ W:World,¬jk (w.heap.size+3) W (w.heap.size+1):=fun W h=>by have:=h.1;omega
 have p2:∀ W:World,¬jk (w.heap.size+3) W (w.heap.size+1+1):=fun W h=>by have:=h.1;omega
 have b1:w.heap.size<=w.heap.size+1:=by omega
 have b2:w.heap.size<=w.heap.size+1+1:=by omega
 have m1:∀ W:World,W.heap.size=w1.heap.size->∀ b,jk (w.heap.size+3) w1 b->jk w.heap.size W b:=fun W e b h=>⟨by have:=h.1;omega,by have:=h.2;omega⟩;have M:=af (And.intro (And.intro p1 p2) (And.intro (And.intro b1 b2) m1));clear p1 p2 b1 b2 m1;go_wp2_with fail
 obtain⟨⟨p1,p2⟩,⟨b1,b2⟩,m1⟩:=aa M;refine bodyPost_ret (v:=.agg #[.slice a' l.length c']) (by simp[results,Tryz.results6,go_sem,hc]) rfl ⟨a',c',rfl,?_,?_⟩
 ·refine(hI.same ?_).mono (m1 _ (by simp));refine cI.setCell ?_ (p1 _) _;refine cI.setCell ?_ (p2 _) _;exact cI.refl
 ·refine aG.setCell ?_ b1 _;refine aG.setCell ?_ b2 _;exact sL
attribute [local go_sem] cp
theorem lZ (k:Int)(w:World)(hk:k<=1000000000000) :
  c_ 40 #[i_ k] w fun e w'=>∃ s,e=.returned (.string s)/\b_ w w':=by
 by_cases h0:k<=0
 ·go_enter Tryz.func40,Tryz.ntmps40;go_wp2_with fail
  go_ret;exact⟨_,rfl,r_⟩
 obtain⟨n,rfl⟩:∃ n:Nat,k=n:=⟨k.toNat,by omega⟩;go_enter Tryz.func40,Tryz.ntmps40;go_wp2_with fail
 go_loopw [0,3] (fun q s wr=>∃(m d:Nat) (t:ByteArray),q=i_ m/\s=.string t/\m<10 ^ d/\m<=1000000000000/\d+t.size<=20/\b_ w wr) (fun q _ _=>(intOf q).toNat)
 case atStart=>exact⟨n,20,ByteArray.empty,rfl,rfl,by omega,by omega,by simp,r_⟩
 case round=>
  obtain⟨m,d,t,rfl,rfl,hm,hmb,hd,hb⟩:=hrel;by_cases ax:0<m
  ·have Ea:(convert 141 9 (.slice (some (a_ wr.heap.size 0)) 1 1)).run Tryz.prog (wr.alloc (.cells #[.int .u8 (48+(m:Int) % 10)] 5))=.ok (.string ⟨[UInt8.ofNat (48+m % 10)].toArray⟩) (wr.alloc (.cells #[.int .u8 (48+(m:Int) % 10)] 5)):=by
    refine run_convert_bytes_back (P:=Tryz.prog) _ 141 9 5 (a_ wr.heap.size 0) 1 [UInt8.ofNat (48+m % 10)] Tryz.underlying141 Tryz.underlying5 Tryz.underlying9 fun j hj=>?_;obtain rfl:j=0:=by simp at hj;omega
    have e:((UInt8.ofNat (48+m % 10)).toNat:Int)=48+(m:Int) % 10:=by
     rw[UInt8.toNat_ofNat'];omega
    simp[Addr.add,go_sem];omega
   have kq:(⟨[UInt8.ofNat (48+m % 10)].toArray⟩:ByteArray).size=1:=rfl;generalize (⟨[UInt8.ofNat (48+m % 10)].toArray⟩:ByteArray)=t1 at Ea kq;have HS:Hid (t1.size=1):=kq;have Sy:¬(9223372036854775807<t1.size+t.size):=by omega
   clear kq;go_wp2_with fail
   go_roundw
   case rel=>
    have hs:=HS.out;refine⟨m / 10,d-1,t1++t,by go_num,rfl,?_,by omega,?_,hb.alloc hb.size _⟩
    ·cases d with
     | zero=>simp at hm;omega
     | succ d=>rw[Nat.pow_succ]at hm;simp;omega
    ·have:0<d:=by
      rcases Nat.eq_zero_or_pos d with e | e
      ·aj e;simp at hm;omega
      ·exact e
     rw[ByteArray.size_append];omega
   case measure=>simp[intOf];omega
  ·have Sy:¬(9223372036854775807<1+t.size):=by omega
   go_wp2_with fail
   go_ret;exact⟨_,rfl,hb⟩
theorem AJ (a:o_)(n c:Nat)(k:Int)(S:Nat->Prop)(w:World)(hs:dK w S a (n * 2))(hS:lP w S)(h0:0<=k)(hk:k+2 * n<=1000000000000) :
  c_ 41 #[.slice a n c,i_ k] w fun e w'=>e=.returned (i_ (k+2 * n))/\Mk S w w':=by
 go_enter Tryz.func41,Tryz.ntmps41;go_wp2_with fail
 go_loopw [1,5] (fun q i wr=>∃(j:Nat),j<=n/\q=i_ (k+2 * j)/\i=i_ j/\Mk S w wr) (fun _ i _=>n-(intOf i).toNat)
 case atStart=>exact⟨0,Nat.zero_le _,by simp,rfl,Mk.refl _ _⟩
 case round=>
  obtain⟨j,hj,rfl,rfl,hm⟩:=hrel;by_cases ax:j<n
  ·have HB:Hid (k+2 * j+2<=1000000000000):=by show _<=_;omega
   have HE:Hid (k+2 * ((j+1:Nat):Int)=k+2 * j+2):=by show _=_;omega
   obtain⟨kj,jL⟩:∃ kj:Int,kj=k+2 * (j:Int):=⟨_,rfl⟩;have sN:0<=kj:=by omega
   have kN:kj+2<=1000000000000:=by omega
   rw[<-jL]at HB HE ⊢;have qF:n<=1000000000000:=by omega
   clear hk;have HM:=af hm;clear hm;obtain⟨b,off,rfl,hb,aE⟩:=(hs.mk HM.out) (by omega);obtain⟨v0,iw,f0⟩:=aE (j * 2+0) (by omega);obtain⟨v1,cU,f1⟩:=aE (j * 2+1) (by omega);rw[<-Nat.add_assoc]at cU;rw[Nat.add_zero]at iw;have hf:=((hS.mk HM.out) b hb).2;clear aE jL;go_wp2_with fail
   go_roundw
   case rel=>
    refine⟨j+1,by omega,by rw[HE.out];go_num,by go_num,HM.out.trans ?_⟩;refine cH ?_ hb ⟨v1,cU,f1⟩ _ trivial;refine cH ?_ hb ⟨v0,iw,f0⟩ _ trivial;exact Mk.refl _ _
   case measure=>simp[intOf];omega
  ·have HK:Hid (j=n):=by show _=_;omega
   go_wp2_with fail
   go_ret;rw[HK.out];exact⟨rfl,hm⟩
theorem ud (a:o_)(n c:Nat)(k:Int)(S:Nat->Prop)(w:World)(hs:dK w S a (n * 5))(hS:lP w S)(h0:0<=k)(hk:k+5 * n<=1000000000000) :
  c_ 42 #[.slice a n c,i_ k] w fun e w'=>e=.returned (i_ (k+5 * n))/\Mk S w w':=by
 go_enter Tryz.func42,Tryz.ntmps42;go_wp2_with fail
 go_loopw [1,5] (fun q i wr=>∃(j:Nat),j<=n/\q=i_ (k+5 * j)/\i=i_ j/\Mk S w wr) (fun _ i _=>n-(intOf i).toNat)
 case atStart=>exact⟨0,Nat.zero_le _,by simp,rfl,Mk.refl _ _⟩
 case round=>
  obtain⟨j,hj,rfl,rfl,hm⟩:=hrel;by_cases ax:j<n
  ·have HB:Hid (k+5 * j+5<=1000000000000):=by show _<=_;omega
   have HE:Hid (k+5 * ((j+1:Nat):Int)=k+5 * j+5):=by show _=_;omega
   obtain⟨kj,jL⟩:∃ kj:Int,kj=k+5 * (j:Int):=⟨_,rfl⟩;have sN:0<=kj:=by omega
   have kN:kj+5<=1000000000000:=by omega
   rw[<-jL]at HB HE ⊢;have qF:n<=1000000000000:=by omega
   clear hk;have HM:=af hm;clear hm;obtain⟨b,off,rfl,hb,aE⟩:=(hs.mk HM.out) (by omega);obtain⟨v0,iw,f0⟩:=aE (j * 5+0) (by omega);obtain⟨v1,cU,f1⟩:=aE (j * 5+1) (by omega);rw[<-Nat.add_assoc]at cU;obtain⟨v2,fe,f2⟩:=aE (j * 5+2) (by omega);rw[<-Nat.add_assoc]at fe;rw[Nat.add_zero]at iw;have hf:=((hS.mk HM.out) b hb).2;clear aE jL;have fN:Hid (kj+1+1+1<=1000000000000):=by show _<=_;omega
   go_wp2_with fail
   refine(lZ _ _ fN.out).mono ?_;rintro e w1 ⟨s,rfl,au⟩;have m1:Mk S wr w1:=by
    refine Mk.trans ?_ (Mk.of_below au);refine cH ?_ hb ⟨v2,fe,f2⟩ _ trivial;refine cH ?_ hb ⟨v1,cU,f1⟩ _ trivial;refine cH ?_ hb ⟨v0,iw,f0⟩ _ trivial;exact Mk.refl _ _
   clear iw cU fe f0 f1 f2 hf au v0 v1 v2;have bz:=(hs.mk (HM.out.trans m1)) (by omega);obtain⟨b',jM,Fj,dW,aE⟩:=bz;obtain⟨rfl,rfl⟩:b=b'/\off=jM:=by injection Fj with Fj;injection Fj with h1 h2;exact⟨h1,h2⟩
   clear Fj dW;obtain⟨v3,jD,f3⟩:=aE (j * 5+3) (by omega);rw[<-Nat.add_assoc]at jD;obtain⟨v4,pk,f4⟩:=aE (j * 5+4) (by omega);rw[<-Nat.add_assoc]at pk;have hf:=((hS.mk (HM.out.trans m1)) b hb).2;have M1:=af (HM.out.trans m1);clear aE m1 HM;go_wp2_with fail
   go_roundw
   case rel=>
    refine⟨j+1,by omega,by rw[HE.out];go_num,by go_num,M1.out.trans ?_⟩;refine cH ?_ hb ⟨v4,pk,f4⟩ _ trivial;refine cH ?_ hb ⟨v3,jD,f3⟩ _ trivial;exact Mk.refl _ _
   case measure=>simp[intOf];omega
  ·have HK:Hid (j=n):=by show _=_;omega
   go_wp2_with fail
   go_ret;rw[HK.out];exact⟨rfl,hm⟩
theorem xY (a:o_)(n c:Nat)(k:Int)(S:Nat->Prop)(w:World)(hs:dK w S a (n * 5))(hS:lP w S)(h0:0<=k)(hk:k+5 * n<=1000000000000) :
  c_ 43 #[.slice a n c,i_ k] w fun e w'=>e=.returned (i_ (k+5 * n))/\Mk S w w':=by
 go_enter Tryz.func43,Tryz.ntmps43;go_wp2_with fail
 go_loopw [1,5] (fun q i wr=>∃(j:Nat),j<=n/\q=i_ (k+5 * j)/\i=i_ j/\Mk S w wr) (fun _ i _=>n-(intOf i).toNat)
 case atStart=>exact⟨0,Nat.zero_le _,by simp,rfl,Mk.refl _ _⟩
 case round=>
  obtain⟨j,hj,rfl,rfl,hm⟩:=hrel;by_cases ax:j<n
  ·have HB:Hid (k+5 * j+5<=1000000000000):=by show _<=_;omega
   have HE:Hid (k+5 * ((j+1:Nat):Int)=k+5 * j+5):=by show _=_;omega
   obtain⟨kj,jL⟩:∃ kj:Int,kj=k+5 * (j:Int):=⟨_,rfl⟩;have sN:0<=kj:=by omega
   have kN:kj+5<=1000000000000:=by omega
   rw[<-jL]at HB HE ⊢;have qF:n<=1000000000000:=by omega
   clear hk;have HM:=af hm;clear hm;obtain⟨b,off,rfl,hb,aE⟩:=(hs.mk HM.out) (by omega);obtain⟨v0,iw,f0⟩:=aE (j * 5+0) (by omega);obtain⟨v1,cU,f1⟩:=aE (j * 5+1) (by omega);rw[<-Nat.add_assoc]at cU;obtain⟨v2,fe,f2⟩:=aE (j * 5+2) (by omega);rw[<-Nat.add_assoc]at fe;obtain⟨v3,jD,f3⟩:=aE (j * 5+3) (by omega);rw[<-Nat.add_assoc]at jD;obtain⟨v4,pk,f4⟩:=aE (j * 5+4) (by omega);rw[<-Nat.add_assoc]at pk;rw[Nat.add_zero]at iw;have hf:=((hS.mk HM.out) b hb).2;clear aE jL;go_wp2_with fail
   go_roundw
   case rel=>
    refine⟨j+1,by omega,by rw[HE.out];go_num,by go_num,HM.out.trans ?_⟩;refine cH ?_ hb ⟨v4,pk,f4⟩ _ trivial;refine cH ?_ hb ⟨v3,jD,f3⟩ _ trivial;refine cH ?_ hb ⟨v2,fe,f2⟩ _ trivial;refine cH ?_ hb ⟨v1,cU,f1⟩ _ trivial;refine cH ?_ hb ⟨v0,iw,f0⟩ _ trivial;exact Mk.refl _ _
   case measure=>simp[intOf];omega
  ·have HK:Hid (j=n):=by show _=_;omega
   go_wp2_with fail
   go_ret;rw[HK.out];exact⟨rfl,hm⟩
theorem um (a:o_)(n c:Nat)(k:Int)(S:Nat->Prop)(w:World)(hs:dK w S a (n * 4))(hS:lP w S)(h0:0<=k)(hk:k+4 * n<=1000000000000) :
  c_ 44 #[.slice a n c,i_ k] w fun e w'=>e=.returned (i_ (k+4 * n))/\Mk S w w':=by
 go_enter Tryz.func44,Tryz.ntmps44;go_wp2_with fail
 go_loopw [1,5] (fun q i wr=>∃(j:Nat),j<=n/\q=i_ (k+4 * j)/\i=i_ j/\Mk S w wr) (fun _ i _=>n-(intOf i).toNat)
 case atStart=>exact⟨0,Nat.zero_le _,by simp,rfl,Mk.refl _ _⟩
 case round=>
  obtain⟨j,hj,rfl,rfl,hm⟩:=hrel;by_cases ax:j<n
  ·have HB:Hid (k+4 * j+4<=1000000000000):=by show _<=_;omega
   have HE:Hid (k+4 * ((j+1:Nat):Int)=k+4 * j+4):=by show _=_;omega
   obtain⟨kj,jL⟩:∃ kj:Int,kj=k+4 * (j:Int):=⟨_,rfl⟩;have sN:0<=kj:=by omega
   have kN:kj+4<=1000000000000:=by omega
   rw[<-jL]at HB HE ⊢;have qF:n<=1000000000000:=by omega
   clear hk;have HM:=af hm;clear hm;clear jL;have fN:Hid (kj<=1000000000000):=by show _<=_;omega
   go_wp2_with fail
   refine(lZ _ _ fN.out).mono ?_;rintro e w1 ⟨s,rfl,au⟩;have m1:Mk S wr w1:=by
    refine Mk.trans ?_ (Mk.of_below au);exact Mk.refl _ _
   clear au;obtain⟨b,off,rfl,hb,aE⟩:=(hs.mk (HM.out.trans m1)) (by omega);obtain⟨v0,iw,f0⟩:=aE (j * 4+0) (by omega);obtain⟨v1,cU,f1⟩:=aE (j * 4+1) (by omega);rw[<-Nat.add_assoc]at cU;obtain⟨v2,fe,f2⟩:=aE (j * 4+2) (by omega);rw[<-Nat.add_assoc]at fe;obtain⟨v3,jD,f3⟩:=aE (j * 4+3) (by omega);rw[<-Nat.add_assoc]at jD;rw[Nat.add_zero]at iw;have hf:=((hS.mk (HM.out.trans m1)) b hb).2;have M1:=af (HM.out.trans m1);clear aE m1 HM;go_wp2_with fail
   go_roundw
   case rel=>
    refine⟨j+1,by omega,by rw[HE.out];go_num,by go_num,M1.out.trans ?_⟩;refine cH ?_ hb ⟨v3,jD,f3⟩ _ trivial;refine cH ?_ hb ⟨v2,fe,f2⟩ _ trivial;refine cH ?_ hb ⟨v1,cU,f1⟩ _ trivial;refine cH ?_ hb ⟨v0,iw,f0⟩ _ trivial;exact Mk.refl _ _
   case measure=>simp[intOf];omega
  ·have HK:Hid (j=n):=by show _=_;omega
   go_wp2_with fail
   go_ret;rw[HK.out];exact⟨rfl,hm⟩
structure xD (w:World)(S:Nat->Prop)(b o:Nat)(n:ak):Prop where
 flat:∀ r,r<5->∃ v,w.cell? (a_ b (o+r))=some v/\uy v
 ups:∃ a c,w.cell? (a_ b (o+5))=some (.slice a n.ups.length c)/\dK w S a (n.ups.length * 2)
 consts:∃ a c,w.cell? (a_ b (o+6))=some (.slice a n.consts.length c)/\dK w S a (n.consts.length * 5)
 ins:∃ a c,w.cell? (a_ b (o+7))=some (.slice a n.ins.length c)/\dK w S a (n.ins.length * 5)
 named:∃ a c,w.cell? (a_ b (o+8))=some (.slice a n.named.length c)/\dK w S a (n.named.length * 4)
def nP (w:World)(S:Nat->Prop)(a:o_)(l:List ak):Prop:=
 0<l.length->∃ b off,a=some (a_ b off)/\S b/\∀ j,j<l.length->xD w S b (off+j * 9) (l[j]?.getD ak.z)
section
variable {S:Nat->Prop} {w w':World}
theorem xD.mk' {b o:Nat}{n:ak}(h:xD w S b o n)(k:Mk S w w'):xD w' S b o n where
 flat r hr:=by obtain⟨v,e,f⟩:=h.flat r hr;exact k.flat _ _ v e f
 ups:=by obtain⟨a,c,e,f⟩:=h.ups;exact⟨a,c,k.hdr _ _ _ _ _ e,f.mk k⟩
 consts:=by obtain⟨a,c,e,f⟩:=h.consts;exact⟨a,c,k.hdr _ _ _ _ _ e,f.mk k⟩
 ins:=by obtain⟨a,c,e,f⟩:=h.ins;exact⟨a,c,k.hdr _ _ _ _ _ e,f.mk k⟩
 named:=by obtain⟨a,c,e,f⟩:=h.named;exact⟨a,c,k.hdr _ _ _ _ _ e,f.mk k⟩
theorem nP.mk' {a:o_}{l:List ak}(h:nP w S a l)(k:Mk S w w'):nP w' S a l:=fun hl=>by
 obtain⟨b,off,e,hs,hc⟩:=h hl;exact⟨b,off,e,hs,fun j hj=>(hc j hj).mk' k⟩
theorem n9 {a:o_}{n m:Nat}(hm:0<m)(h:0<n->∃ b off,a=some (a_ b off)/\S b/\∀ j,j<n->∀ r,r<m->∃ v,w.cell? (a_ b (off+j * m+r))=some v/\uy v):dK w S a (n * m):=fun hl=>by
 obtain⟨b,off,e,hs,hc⟩:=h (Nat.pos_of_ne_zero (fun e=>by rw[e,Nat.zero_mul]at hl;exact Nat.lt_irrefl _ hl));refine⟨b,off,e,hs,fun j hj=>?_⟩;have h1:=hc (j / m) (Nat.div_lt_of_lt_mul (by rwa [Nat.mul_comm]at hj)) (j % m) (Nat.mod_lt _ hm)
 rwa [Nat.add_assoc,Nat.div_add_mod']at h1
theorem Cd {a:o_}{l:List ak}(h:ao w S a l):nP w S a l:=fun hl=>by
 obtain⟨b,off,e,hs,hc⟩:=h.2 hl;refine⟨b,off,e,hs,fun j hj=>?_⟩;have N:=hc j hj;obtain⟨a1,c1,e1,i1⟩:=N.ups;obtain⟨a2,c2,e2,i2⟩:=N.consts;obtain⟨a3,c3,e3,i3⟩:=N.ins;obtain⟨a4,c4,e4,i4⟩:=N.named;refine⟨fun r hr=>?_,⟨a1,c1,e1,n9 (by decide) fun h0=>?_⟩,⟨a2,c2,e2,n9 (by decide) fun h0=>?_⟩,⟨a3,c3,e3,n9 (by decide) fun h0=>?_⟩,⟨a4,c4,e4,n9 (by decide) fun h0=>?_⟩⟩
 ·match r,hr with
  | 0,_=>exact⟨_,N.name,trivial⟩
  | 1,_=>exact⟨_,N.line,trivial⟩
  | 2,_=>exact⟨_,N.params,trivial⟩
  | 3,_=>exact⟨_,N.rest,trivial⟩
  | 4,_=>exact⟨_,N.regs,trivial⟩
 ·obtain⟨b,off,e,hs,hc⟩:=i1.2 h0;refine⟨b,off,e,hs,fun j hj r hr=>?_⟩
  match r,hr with
  | 0,_=>exact⟨_,(hc j hj).1,trivial⟩
  | 1,_=>exact⟨_,(hc j hj).2,trivial⟩
 ·obtain⟨b,off,e,hs,hc⟩:=i2.2 h0;refine⟨b,off,e,hs,fun j hj r hr=>?_⟩
  match r,hr with
  | 0,_=>exact⟨_,(hc j hj).kind,trivial⟩
  | 1,_=>exact⟨_,(hc j hj).num,trivial⟩
  | 2,_=>exact⟨_,(hc j hj).flt,trivial⟩
  | 3,_=>exact⟨_,(hc j hj).str,trivial⟩
  | 4,_=>exact⟨_,(hc j hj).ref,trivial⟩
 ·obtain⟨b,off,e,hs,hc⟩:=i3.2 h0;refine⟨b,off,e,hs,fun j hj r hr=>?_⟩
  match r,hr with
  | 0,_=>exact⟨_,(hc j hj).op,trivial⟩
  | 1,_=>exact⟨_,(hc j hj).fa,trivial⟩
  | 2,_=>exact⟨_,(hc j hj).fb,trivial⟩
  | 3,_=>exact⟨_,(hc j hj).fc,trivial⟩
  | 4,_=>exact⟨_,(hc j hj).fd,trivial⟩
 ·obtain⟨b,off,e,hs,hc⟩:=i4.2 h0;refine⟨b,off,e,hs,fun j hj r hr=>?_⟩
  match r,hr with
  | 0,_=>exact⟨_,(hc j hj).name,trivial⟩
  | 1,_=>exact⟨_,(hc j hj).reg,trivial⟩
  | 2,_=>exact⟨_,(hc j hj).fro,trivial⟩
  | 3,_=>exact⟨_,(hc j hj).til,trivial⟩
end
def aM (n:ak):Nat:=5+2 * n.ups.length+5 * n.consts.length+5 * n.ins.length+4 * n.named.length
theorem oP:∀ l:List ak,aS aM l<=6 * aI l
 | []=>by simp[aS]
 | x::l=>by
  have h1:=oP l;have h2:aM x<=5+6 * dx x:=by unfold aM dx fq iq;omega
  simp[aS,aI]at *;omega
theorem tS (a:o_)(l:List ak)(c:Nat)(k:Int)(S:Nat->Prop)(w:World)(hs:nP w S a l)(hS:lP w S)(h0:0<=k)(hk:k+aS aM l<=1000000000)(hn:l.length<=1000000000) :
  c_ 18 #[.slice a l.length c,i_ k] w fun e w'=>e=.returned (i_ (k+aS aM l))/\Mk S w w':=by
 have Ly:Hid (∀ j,j<l.length->bw aM l (j+1)=bw aM l j+aM (l[j]?.getD ak.z)/\bw aM l (j+1)<=aS aM l):=fun j hj=>⟨dJ aM l j ak.z hj,gw _ _ _⟩;go_enter Tryz.func18,Tryz.ntmps18;go_wp2_with fail
 go_loopw [1,5] (fun q i wr=>∃(j:Nat),j<=l.length/\q=i_ (k+bw aM l j)/\i=i_ j/\Mk S w wr) (fun _ i _=>l.length-(intOf i).toNat)
 case atStart=>exact⟨0,Nat.zero_le _,by simp[fi],rfl,Mk.refl _ _⟩
 case round=>
  obtain⟨j,hj,rfl,rfl,hm⟩:=hrel;by_cases ax:j<l.length
  ·obtain⟨jf,sr⟩:=aa Ly j ax;obtain⟨b,off,rfl,hb,aE⟩:=(hs.mk' hm) (by omega);have N:=aE j ax;clear aE;generalize hx:l[j]?.getD ak.z=x at N jf;clear hx;have he:aM x=5+2 * x.ups.length+5 * x.consts.length+5 * x.ins.length+4 * x.named.length:=rfl;obtain⟨kj,jL⟩:∃ kj:Int,kj=k+bw aM l j:=⟨_,rfl⟩;rw[<-jL];have Y3:0<=kj/\kj+5+2 * x.ups.length+5 * x.consts.length+5 * x.ins.length+4 * x.named.length<=1000000000:=by omega
   have HE:Hid (kj+5+2 * x.ups.length+5 * x.consts.length+5 * x.ins.length+4 * x.named.length=k+bw aM l (j+1)):=by show _=_;omega
   obtain⟨WZ,Ww⟩:=Y3;clear he jf sr jL hk;have Lh:=af (hS.mk hm);have HN:=af N;have HM:=af hm;clear N hm;have HB:Hid (kj<=1000000000000):=by show _<=_;omega
   go_wp2_with fail
   refine(lZ _ _ HB.out).mono ?_;rintro e w1 ⟨s,rfl,au⟩;have m1:Mk S wr w1:=Mk.of_below au;obtain⟨v0,iw,f0⟩:=(HN.out.mk' m1).flat 0 (by omega);obtain⟨v1,cU,f1⟩:=(HN.out.mk' m1).flat 1 (by omega);obtain⟨v2,fe,f2⟩:=(HN.out.mk' m1).flat 2 (by omega);obtain⟨v3,jD,f3⟩:=(HN.out.mk' m1).flat 3 (by omega);obtain⟨v4,pk,f4⟩:=(HN.out.mk' m1).flat 4 (by omega);rw[Nat.add_zero]at iw;obtain⟨ra,rc,hr,hrF⟩:=(HN.out.mk' m1).ups;have fJ:=((Lh.out.mk m1) b hb).2;have M1:=af m1;have HRF:=af hrF;clear hrF m1 au;go_wp2_with fail
   have m2:Mk S w1 (((((w1.setCell (a_ b (off+j * 9)) (.string s)).setCell (a_ b (off+j * 9+1)) (i_ (kj+1))).setCell (a_ b (off+j * 9+2)) (i_ (kj+1+1))).setCell (a_ b (off+j * 9+3)) (.bool (decide ((kj+1+1+1) % 3=0)))).setCell (a_ b (off+j * 9+4)) (i_ (kj+1+1+1+1))):=by
    refine cH ?_ hb ⟨v4,pk,f4⟩ _ trivial;refine cH ?_ hb ⟨v3,jD,f3⟩ _ trivial;refine cH ?_ hb ⟨v2,fe,f2⟩ _ trivial;refine cH ?_ hb ⟨v1,cU,f1⟩ _ trivial;refine cH ?_ hb ⟨v0,iw,f0⟩ _ trivial;exact Mk.refl _ _
   have M2:=af (M1.out.trans m2);refine(AJ ra _ rc _ S _ (HRF.out.mk m2) (Lh.out.mk M2.out) (by omega) (by omega)).mono ?_;rintro e w2 ⟨rfl,m3⟩;have m4:=M2.out.trans m3;obtain⟨ka,kc,Tp,hkF⟩:=(HN.out.mk' m4).consts;clear iw f0 v0 cU f1 v1 fe f2 v2 jD f3 v3 pk f4 v4 hr m3 m2 M1 M2 HRF fJ;have HKF:=af hkF;have M4:=af m4;clear hkF m4;go_wp2_with fail
   refine(ud ka _ kc _ S _ HKF.out (Lh.out.mk M4.out) (by omega) (by omega)).mono ?_;rintro e w3 ⟨rfl,m5⟩;have m6:=M4.out.trans m5;obtain⟨na,nc,Ts,hnF⟩:=(HN.out.mk' m6).ins;have HNF:=af hnF;have M6:=af m6;clear m5 Tp m6 HKF hnF M4;go_wp2_with fail
   refine(xY na _ nc _ S _ HNF.out (Lh.out.mk M6.out) (by omega) (by omega)).mono ?_;rintro e w4 ⟨rfl,m7⟩;have m8:=M6.out.trans m7;obtain⟨qa,qc,hr4,hqF⟩:=(HN.out.mk' m8).named;have HQF:=af hqF;have M8:=af m8;clear m7 Ts m8 HNF hqF M6;go_wp2_with fail
   refine(um qa _ qc _ S _ HQF.out (Lh.out.mk M8.out) (by omega) (by omega)).mono ?_;rintro e w5 ⟨rfl,m9⟩;have M9:=af (HM.out.trans (M8.out.trans m9));clear m9 hr4;go_wp2_with fail
   go_roundw
   case rel=>exact⟨j+1,by omega,by rw[<-HE.out];go_num,by go_num,M9.out⟩
   case measure=>simp[intOf];omega
  ·have HK:Hid (j=l.length):=by show _=_;omega
   go_wp2_with fail
   go_ret;rw[HK.out,fI];exact⟨rfl,hm⟩
theorem yp (a:o_)(l:List ak)(c:Nat)(k:Int)(S:Nat->Prop)(w:World)(hs:nP w S a l)(hS:lP w S)(h0:0<=k)(hk:k+aS aM l<=1000000000)(hn:l.length<=1000000000) :
  c_ 9 #[.agg #[.slice a l.length c],i_ k] w fun e w'=>e=.returned (i_ (k+aS aM l))/\Mk S w w':=by
 have dF:b_ w (w.alloc (.cells #[.slice a l.length c] 28)):=r_.alloc n_ _;have dR:=af dF;clear dF;go_enter Tryz.func9,Tryz.ntmps9;go_wp2_with fail
 refine(tS a l c k S _ (hs.mk' (Mk.of_below dR.out)) (hS.mk (Mk.of_below dR.out)) h0 hk hn).mono ?_;rintro e w1 ⟨rfl,m1⟩;go_wp2_with fail
 go_ret;exact⟨rfl,(Mk.of_below dR.out).trans m1⟩
end Go.Proofs.YtcjfjflljdojlaaGreatDoor
