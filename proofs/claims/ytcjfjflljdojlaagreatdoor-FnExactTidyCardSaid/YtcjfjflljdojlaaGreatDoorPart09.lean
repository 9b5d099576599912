import Derived.Test.YtcjfjflljdojlaaGreatDoorPart08
set_option linter.unusedSimpArgs false
set_option linter.unusedVariables false
set_option maxHeartbeats 8000000
set_option maxRecDepth 100000
namespace Go.Proofs.YtcjfjflljdojlaaGreatDoor
open Go.RowKit
def mf (q:Nat->Bool)(f t:Nat):Bool:=(List.range' f (t-f)).all q
theorem pz {q:Nat->Bool}{f t:Nat}(h:∀ i,f<=i->i<t->q i=true):mf q f t=true:=by
 unfold mf;rw[List.all_eq_true];intro x hx;rw[List.mem_range'_1]at hx;exact h x hx.1 (by omega)
theorem oE {q:Nat->Bool}{f t i:Nat}(h1:f<=i)(h2:i<t)(h:q i=false):mf q f t=false:=by
 unfold mf;rw[List.all_eq_false];exact⟨i,by rw[List.mem_range'_1];omega,by simp[h]⟩
theorem Ax {q:Nat->Bool}{f t:Nat}(h:mf q f t=true)(i:Nat)(h1:f<=i)(h2:i<t):q i=true:=by
 unfold mf at h;rw[List.all_eq_true]at h;exact h i (by rw[List.mem_range'_1];omega)
theorem ay (B:Nat)(w:World):∀ n,Below B w (w.drewN n)
 | 0=>r_
 | n+1=>(ay B w n).drew
def nE (n:ak)(u:Bool×Int):Bool:=if u.1 then dw u.2 0 (n.regs-1)else dw u.2 0 ((n.ups.length:Int)-1)
def kz (n:ak)(us:List (Bool×Int)):Bool:=mf (fun i=>nE n (us[i]?.getD (false,0))) 0 us.length
theorem zN (a:o_)(l:List ak)(c p g:Nat)(S:Nat->Prop)(w:World)(hs:ao w S a l)(hB:∀ b,S b->b<w.heap.size)(hp:p<l.length)(hg:g<l.length)(ko:0<=(am l p).regs/\(am l p).regs<=250) :
  c_ 54 #[.agg #[.slice a l.length c],i_ p,i_ g] w fun e w'=>e=.returned (.bool (kz (am l p) (am l g).ups))/\b_ w w':=by
 have hn:=hs.1;obtain⟨b,off,rfl,hb,aE⟩:=hs.2 (by omega);have NP:aU w S b (off+p * 9) (am l p):=aE p hp;have NG:aU w S b (off+g * 9) (am l g):=aE g hg;have cZ:=hB b hb;obtain⟨a5,c5,h5,H5⟩:=NP.ups;obtain⟨ag,cg,XO,HG⟩:=NG.ups;have pn:=NP.regs;have sT:=HG.1;have rE:=H5.1;have HU:=af HG;have HB:=af hB;clear aE hs hB NP NG H5 HG;obtain⟨qK,vj⟩:=ko;have E:Hid (∀ u,nE (am l p) u=if u.1 then dw u.2 0 ((am l p).regs-1)else dw u.2 0 (((am l p).ups.length:Int)-1)):=fun _=>rfl;obtain⟨rg,QP⟩:∃ rg,rg=(am l p).regs:=⟨_,rfl⟩;obtain⟨nu,hnu⟩:∃ nu,nu=(am l p).ups.length:=⟨_,rfl⟩;rw[<-QP]at pn qK vj;rw[<-hnu]at h5 rE;rw[<-QP,<-hnu]at E;clear QP hnu;obtain⟨us,XR⟩:∃ us,us=(am l g).ups:=⟨_,rfl⟩;rw[<-XR]at XO sT HU;have HUS:Hid (us=(am l g).ups):=XR;rw[<-XR];clear XR;have P0:Hid (∀ W,Below (w.heap.size+1) (w.alloc (.cells #[.slice (some (a_ b off)) l.length c] 28)) W->W.cell? (a_ w.heap.size 0)=some (.slice (some (a_ b off)) l.length c)/\b_ w W):=fun W hW=>
  ⟨by rw[hW.cell (p:=(a_ w.heap.size 0)) (by simp)];simp[go_sem],(r_.alloc n_ _).trans (hW.mono (by omega))⟩
 go_enter Tryz.func54,Tryz.ntmps54;go_wp2_with fail
 go_loopg [16] us.length (fun gg i wr=>∃(k:Nat),k+gg=us.length/\i=i_ k/\Below (w.heap.size+1) (w.alloc (.cells #[.slice (some (a_ b off)) l.length c] 28)) wr/\Hid (∀ j,j<k->nE (am l p) (us[j]?.getD (false,0))=true))
 case atStart=>exact⟨0,by omega,rfl,r_,fun j h=>absurd h (Nat.not_lt_zero _)⟩
 case round=>
  obtain⟨k,hk,rfl,hW,bN⟩:=hrel;obtain⟨cc,au⟩:=aa P0 wr hW;by_cases ax:k<us.length
  ·obtain⟨bu,Zi,rfl,hbu,aE⟩:=((aa HU).keep au (aa HB)).2 (by omega);obtain⟨u0,u1⟩:=aE k ax;clear aE;have eo:bu<wr.heap.size:=l_ (aa HB bu hbu) au.size;have hcw:w.heap.size<wr.heap.size:=by have:=hW.size;simp at this;omega
   have T9:b<wr.heap.size:=l_ cZ au.size;have creg:=(au.cell (p:=(a_ b (off+p * 9+4))) cZ).trans pn;have cups:=(au.cell (p:=(a_ b (off+p * 9+5))) cZ).trans h5;have dR:Hid (∀ o n,Below (w.heap.size+1) (w.alloc (.cells #[.slice (some (a_ b off)) l.length c] 28)) ((wr.alloc o).drewN n)):=fun o n=>(hW.alloc (by omega) o).trans (ay _ _ n);obtain⟨⟨BN,ix⟩,hu⟩:∃ u,us[k]?.getD (false,0)=u:=⟨_,rfl⟩;have hu1:(us[k]?.getD (false,0)).1=BN:=by rw[hu]
   have Vv:(us[k]?.getD (false,0)).2=ix:=by rw[hu]
   rw[hu1]at u0;rw[Vv]at u1;have LV:=aa E (BN,ix);clear hu1 Vv hW au;cases hq:nE (am l p) (BN,ix)
   ·have HF:Hid (kz (am l p) us=false):=oE (Nat.zero_le _) ax (by rw[hu];exact hq);rw[hq]at LV;clear hu bN hq;cases BN
    ·have Fs:dw ix 0 ((nu:Int)-1)=false:=LV.symm;have HQ:Hid (∀ W:World,c_ 101 #[i_ ix,i_ 0,i_ ((nu:Int)-1)] W fun e w'=>e=.returned (.bool false)/\w'=W):=fun W=>(aB _ _ _ W).mono (by rintro e w' ⟨rfl,rfl⟩;exact⟨al Fs,rfl⟩);clear Fs LV;go_wp2_with fail
     go_quiet (first | (go_at_call 101;refine Calls.quiet_of_same (aa HQ _)))
     go_wp2_with fail
     go_ret;exact⟨al HF.out.symm,(aa P0 _ (aa dR _ _)).2⟩
    ·have Fs:dw ix 0 (rg-1)=false:=LV.symm;have HQ:Hid (∀ W:World,c_ 101 #[i_ ix,i_ 0,i_ (rg-1)] W fun e w'=>e=.returned (.bool false)/\w'=W):=fun W=>(aB _ _ _ W).mono (by rintro e w' ⟨rfl,rfl⟩;exact⟨al Fs,rfl⟩);clear Fs LV;go_wp2_with fail
     go_quiet (first | (go_at_call 101;refine Calls.quiet_of_same (aa HQ _)))
     go_wp2_with fail
     go_ret;exact⟨al HF.out.symm,(aa P0 _ (aa dR _ _)).2⟩
   ·have HT:Hid (∀ j,j<k+1->nE (am l p) (us[j]?.getD (false,0))=true):=fun j hj=>by
     by_cases e:j=k
     ·aj e;rw[hu];exact hq
     ·exact bN.out j (by omega)
    rw[hq]at LV;clear hu bN hq;cases BN
    ·have Fs:dw ix 0 ((nu:Int)-1)=true:=LV.symm;have HQ:Hid (∀ W:World,c_ 101 #[i_ ix,i_ 0,i_ ((nu:Int)-1)] W fun e w'=>e=.returned (.bool true)/\w'=W):=fun W=>(aB _ _ _ W).mono (by rintro e w' ⟨rfl,rfl⟩;exact⟨al Fs,rfl⟩);clear Fs LV;go_wp2_with fail
     go_quiet (first | (go_at_call 101;refine Calls.quiet_of_same (aa HQ _)))
     go_wp2_with fail
     go_roundg (us.length-(k+1))
     case measure=>omega
     case rel=>exact⟨k+1,by omega,by go_num,aa dR _ _,HT⟩
    ·have Fs:dw ix 0 (rg-1)=true:=LV.symm;have HQ:Hid (∀ W:World,c_ 101 #[i_ ix,i_ 0,i_ (rg-1)] W fun e w'=>e=.returned (.bool true)/\w'=W):=fun W=>(aB _ _ _ W).mono (by rintro e w' ⟨rfl,rfl⟩;exact⟨al Fs,rfl⟩);clear Fs LV;go_wp2_with fail
     go_quiet (first | (go_at_call 101;refine Calls.quiet_of_same (aa HQ _)))
     go_wp2_with fail
     go_roundg (us.length-(k+1))
     case measure=>omega
     case rel=>exact⟨k+1,by omega,by go_num,aa dR _ _,HT⟩
  ·have HF:Hid (kz (am l p) us=true):=pz (fun j _ h2=>bN.out j (by omega));go_wp2_with fail
   go_ret;exact⟨al HF.out.symm,au⟩
def cJ (x:Nat):Bool:=FloatKind.f64.format.order x 0==some Ordering.eq
def aZ (s:ByteArray):Bool:=s.toList.isEmpty
def eJ (n:cS)(bn bf bs br:Bool):Bool:=(bn||n.num==0)&&(bf||cJ n.flt)&&(bs||aZ n.str)&&(br||n.ref==0)
theorem fQ (kind num:Int)(flt:Nat)(str:ByteArray)(ref:Int)(bn bf bs br:Bool)(w:World) :
    c_ 151 #[.agg #[i_ kind,i_ num,.float .f64 flt,.string str,i_ ref],.bool bn,.bool bf,.bool bs,.bool br] w fun e w'=>e=.returned (.bool (eJ ⟨kind,num,flt,str,ref⟩ bn bf bs br))/\b_ w w':=by
  have dF:∀ o,b_ w (w.alloc o):=fun o=>r_.alloc n_ o;simp only[eJ,cJ,aZ];cases bn<;>cases bf<;>cases bs<;>cases br<;>
  (go_enter Tryz.func151,Tryz.ntmps151
   go_wp2_with fail
   all_goals
     go_ret;exact⟨by simp[*],dF _⟩)
end Go.Proofs.YtcjfjflljdojlaaGreatDoor
