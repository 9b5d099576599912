import Derived.Test.YtmjcpapdncfkpaaGreatDoorPart08
set_option linter.unusedSimpArgs false
set_option linter.unusedVariables false
set_option maxHeartbeats 8000000
set_option maxRecDepth 100000
namespace Go.Proofs.YtmjcpapdncfkpaaGreatDoor
open Go.RowKit
def allFrom (q:Nat→Bool)(f t:Nat):Bool:=(List.range' f (t-f)).all q
theorem allFrom_true {q:Nat→Bool}{f t:Nat}(h:∀ i,f≤i→i<t→q i=true):allFrom q f t=true:=by
 unfold allFrom
 rw[List.all_eq_true]
 intro x hx
 rw[List.mem_range'_1]at hx
 exact h x hx.1 (by omega)
theorem allFrom_false {q:Nat→Bool}{f t i:Nat}(h1:f≤i)(h2:i<t)(h:q i=false):allFrom q f t=false:=by
 unfold allFrom
 rw[List.all_eq_false]
 exact⟨i,by rw[List.mem_range'_1];omega,by simp[h]⟩
theorem allFrom_get {q:Nat→Bool}{f t:Nat}(h:allFrom q f t=true)(i:Nat)(h1:f≤i)(h2:i<t):q i=true:=by
 unfold allFrom at h
 rw[List.all_eq_true]at h
 exact h i (by rw[List.mem_range'_1];omega)
theorem below_drewN (B:Nat)(w:World):∀ n,Below B w (w.drewN n)
 | 0=>Below.refl _ _
 | n+1=>(below_drewN B w n).drew
def upOkC (n:ProtoD)(u:Bool×Int):Bool:=if u.1 then sIn u.2 0 (n.regs-1)else sIn u.2 0 ((n.ups.length:Int)-1)
def sUpsC (n:ProtoD)(us:List (Bool×Int)):Bool:=allFrom (fun i=>upOkC n (us[i]?.getD (false,0))) 0 us.length
theorem l6upsOk_any (a:Option Addr)(l:List ProtoD)(c p g:Nat)(S:Nat→Prop)(w:World)(hs:ProtosAt w S a l)(hB:∀ b,S b→b<w.heap.size)(hp:p<l.length)(hg:g<l.length)(hrg:0≤(prD l p).regs∧(prD l p).regs≤250) :
  Calls Tryz.prog 20 #[.agg #[.slice a l.length c],.int .i64 p,.int .i64 g] w fun e w'=>e=.returned (.bool (sUpsC (prD l p) (prD l g).ups))∧Below w.heap.size w w':=by
 have hn:=hs.1
 obtain⟨b,off,rfl,hb,hcc⟩:=hs.2 (by omega)
 have NP:ProtoCells w S b (off+p * 9) (prD l p):=hcc p hp
 have NG:ProtoCells w S b (off+g * 9) (prD l g):=hcc g hg
 have hbl:=hB b hb
 obtain⟨a5,c5,h5,H5⟩:=NP.ups
 obtain⟨ag,cg,hgu,HG⟩:=NG.ups
 have hreg:=NP.regs
 have hul:=HG.1
 have hpl:=H5.1
 have HU:=hide HG
 have HB:=hide hB
 clear hcc hs hB NP NG H5 HG
 obtain⟨hr0,hr1⟩:=hrg
 have E:Hid (∀ u,upOkC (prD l p) u=if u.1 then sIn u.2 0 ((prD l p).regs-1)else sIn u.2 0 (((prD l p).ups.length:Int)-1)):=fun _=>rfl
 obtain⟨rg,hrge⟩:∃ rg,rg=(prD l p).regs:=⟨_,rfl⟩
 obtain⟨nu,hnu⟩:∃ nu,nu=(prD l p).ups.length:=⟨_,rfl⟩
 rw[←hrge]at hreg hr0 hr1
 rw[←hnu]at h5 hpl
 rw[←hrge,←hnu]at E
 clear hrge hnu
 obtain⟨us,hus⟩:∃ us,us=(prD l g).ups:=⟨_,rfl⟩
 rw[←hus]at hgu hul HU
 have HUS:Hid (us=(prD l g).ups):=hus
 rw[←hus]
 clear hus
 have P0:Hid (∀ W,Below (w.heap.size+1) (w.alloc (.cells #[.slice (some ⟨b,off,none⟩) l.length c] 31)) W→W.cell? ⟨w.heap.size,0,none⟩=some (.slice (some ⟨b,off,none⟩) l.length c)∧Below w.heap.size w W):=fun W hW=>
  ⟨by rw[hW.cell (p:=⟨w.heap.size,0,none⟩) (by simp)];simp[go_sem],((Below.refl _ _).alloc (Nat.le_refl _) _).trans (hW.mono (by omega))⟩
 go_enter Tryz.func20,Tryz.ntmps20
 go_wp2_with fail
 go_loopg [16] us.length (fun gg i wr=>∃(k:Nat),k+gg=us.length∧i=.int .i64 k∧Below (w.heap.size+1) (w.alloc (.cells #[.slice (some ⟨b,off,none⟩) l.length c] 31)) wr∧Hid (∀ j,j<k→upOkC (prD l p) (us[j]?.getD (false,0))=true))
 case atStart=>exact⟨0,by omega,rfl,Below.refl _ _,fun j h=>absurd h (Nat.not_lt_zero _)⟩
 case round=>
  obtain⟨k,hk,rfl,hW,hall⟩:=hrel
  obtain⟨cc,hb1⟩:=unhide P0 wr hW
  by_cases hlt:k<us.length
  ·obtain⟨bu,offu,rfl,hbu,hcc⟩:=((unhide HU).keep hb1 (unhide HB)).2 (by omega)
   obtain⟨u0,u1⟩:=hcc k hlt
   clear hcc
   have hbw:bu<wr.heap.size:=Nat.lt_of_lt_of_le (unhide HB bu hbu) hb1.size
   have hcw:w.heap.size<wr.heap.size:=by have:=hW.size;simp at this;omega
   have hbb:b<wr.heap.size:=Nat.lt_of_lt_of_le hbl hb1.size
   have creg:=(hb1.cell (p:=⟨b,off+p * 9+4,none⟩) hbl).trans hreg
   have cups:=(hb1.cell (p:=⟨b,off+p * 9+5,none⟩) hbl).trans h5
   have HBA:Hid (∀ o n,Below (w.heap.size+1) (w.alloc (.cells #[.slice (some ⟨b,off,none⟩) l.length c] 31)) ((wr.alloc o).drewN n)):=fun o n=>(hW.alloc (by omega) o).trans (below_drewN _ _ n)
   obtain⟨⟨loc,ix⟩,hu⟩:∃ u,us[k]?.getD (false,0)=u:=⟨_,rfl⟩
   have hu1:(us[k]?.getD (false,0)).1=loc:=by rw[hu]
   have hu2:(us[k]?.getD (false,0)).2=ix:=by rw[hu]
   rw[hu1]at u0
   rw[hu2]at u1
   have hq0:=unhide E (loc,ix)
   clear hu1 hu2 hW hb1
   cases hq:upOkC (prD l p) (loc,ix)
   ·have HF:Hid (sUpsC (prD l p) us=false):=allFrom_false (Nat.zero_le _) hlt (by rw[hu];exact hq)
    rw[hq]at hq0
    clear hu hall hq
    cases loc
    ·have hs0:sIn ix 0 ((nu:Int)-1)=false:=hq0.symm
     have HQ:Hid (∀ W:World,Calls Tryz.prog 54 #[.int .i64 ix,.int .i64 0,.int .i64 ((nu:Int)-1)] W fun e w'=>e=.returned (.bool false)∧w'=W):=fun W=>(l6in_any _ _ _ W).mono (by rintro e w' ⟨rfl,rfl⟩;exact⟨ret_bool hs0,rfl⟩)
     clear hs0 hq0
     go_wp2_with fail
     go_quiet (first | (go_at_call 54;refine Calls.quiet_of_same (unhide HQ _)))
     go_wp2_with fail
     go_ret
     exact⟨ret_bool HF.out.symm,(unhide P0 _ (unhide HBA _ _)).2⟩
    ·have hs0:sIn ix 0 (rg-1)=false:=hq0.symm
     have HQ:Hid (∀ W:World,Calls Tryz.prog 54 #[.int .i64 ix,.int .i64 0,.int .i64 (rg-1)] W fun e w'=>e=.returned (.bool false)∧w'=W):=fun W=>(l6in_any _ _ _ W).mono (by rintro e w' ⟨rfl,rfl⟩;exact⟨ret_bool hs0,rfl⟩)
     clear hs0 hq0
     go_wp2_with fail
     go_quiet (first | (go_at_call 54;refine Calls.quiet_of_same (unhide HQ _)))
     go_wp2_with fail
     go_ret
     exact⟨ret_bool HF.out.symm,(unhide P0 _ (unhide HBA _ _)).2⟩
   ·have HT:Hid (∀ j,j<k+1→upOkC (prD l p) (us[j]?.getD (false,0))=true):=fun j hj=>by
     by_cases e:j=k
     ·subst e;rw[hu];exact hq
     ·exact hall.out j (by omega)
    rw[hq]at hq0
    clear hu hall hq
    cases loc
    ·have hs0:sIn ix 0 ((nu:Int)-1)=true:=hq0.symm
     have HQ:Hid (∀ W:World,Calls Tryz.prog 54 #[.int .i64 ix,.int .i64 0,.int .i64 ((nu:Int)-1)] W fun e w'=>e=.returned (.bool true)∧w'=W):=fun W=>(l6in_any _ _ _ W).mono (by rintro e w' ⟨rfl,rfl⟩;exact⟨ret_bool hs0,rfl⟩)
     clear hs0 hq0
     go_wp2_with fail
     go_quiet (first | (go_at_call 54;refine Calls.quiet_of_same (unhide HQ _)))
     go_wp2_with fail
     go_roundg (us.length-(k+1))
     case measure=>omega
     case rel=>exact⟨k+1,by omega,by go_num,unhide HBA _ _,HT⟩
    ·have hs0:sIn ix 0 (rg-1)=true:=hq0.symm
     have HQ:Hid (∀ W:World,Calls Tryz.prog 54 #[.int .i64 ix,.int .i64 0,.int .i64 (rg-1)] W fun e w'=>e=.returned (.bool true)∧w'=W):=fun W=>(l6in_any _ _ _ W).mono (by rintro e w' ⟨rfl,rfl⟩;exact⟨ret_bool hs0,rfl⟩)
     clear hs0 hq0
     go_wp2_with fail
     go_quiet (first | (go_at_call 54;refine Calls.quiet_of_same (unhide HQ _)))
     go_wp2_with fail
     go_roundg (us.length-(k+1))
     case measure=>omega
     case rel=>exact⟨k+1,by omega,by go_num,unhide HBA _ _,HT⟩
  ·have HF:Hid (sUpsC (prD l p) us=true):=allFrom_true (fun j _ h2=>hall.out j (by omega))
   go_wp2_with fail
   go_ret
   exact⟨ret_bool HF.out.symm,hb1⟩
def fltZero (x:Nat):Bool:=FloatKind.f64.format.order x 0==some Ordering.eq
def strNone (s:ByteArray):Bool:=s.toList.isEmpty
def zeroV (n:ValD)(bn bf bs br:Bool):Bool:=(bn||n.num==0)&&(bf||fltZero n.flt)&&(bs||strNone n.str)&&(br||n.ref==0)
theorem l1zero_any (kind num:Int)(flt:Nat)(str:ByteArray)(ref:Int)(bn bf bs br:Bool)(w:World) :
    Calls Tryz.prog 113 #[.agg #[.int .i64 kind,.int .i64 num,.float .f64 flt,.string str,.int .i64 ref],.bool bn,.bool bf,.bool bs,.bool br] w fun e w'=>e=.returned (.bool (zeroV ⟨kind,num,flt,str,ref⟩ bn bf bs br))∧Below w.heap.size w w':=by
  have hbA:∀ o,Below w.heap.size w (w.alloc o):=fun o=>(Below.refl _ _).alloc (Nat.le_refl _) o
  simp only[zeroV,fltZero,strNone]
  cases bn<;>cases bf<;>cases bs<;>cases br<;>
  (go_enter Tryz.func113,Tryz.ntmps113
   go_wp2_with fail
   all_goals
     go_ret
     exact⟨by simp[*],hbA _⟩)
end Go.Proofs.YtmjcpapdncfkpaaGreatDoor
