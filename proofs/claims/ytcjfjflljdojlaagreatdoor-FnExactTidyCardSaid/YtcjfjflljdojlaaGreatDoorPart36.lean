import Derived.Test.YtcjfjflljdojlaaGreatDoorPart35
import Derived.Deep.CutRange
import Derived.Deep.RegionHeld3
import Derived.Deep.RegionWith
import Derived.BigQuiet
import Derived.Test.YtcjfjflljdojlaaGreatDoorPart32
set_option linter.unusedSimpArgs false
set_option linter.unusedVariables false
set_option maxHeartbeats 8000000
set_option maxRecDepth 1000000
namespace Go.Proofs.YtcjfjflljdojlaaGreatDoor
open Go.RowKit
theorem EH:(Tryz.prog.info? 97).map (fun i=>(i.zero,i.size,i.bytes))=some (some (.agg #[.bool false,.slice none 0 0,.slice none 0 0]),3,56):=by kernel_rfl
theorem oa:(Tryz.prog.info? 4).map (fun i=>(i.zero,i.size,i.bytes))=some (some (.bool false),1,1):=by kernel_rfl
theorem CV (l:List ak)(p c:Nat)(a:o_)(S:Nat->Prop)(w:World)(hs:ao w S a l)(hB:∀ b,S b->b<w.heap.size)(hk:uD l p) :
  c_ 22 #[.agg #[.slice a l.length c],i_ p] w (ie l p w):=by
 obtain⟨b,off,rfl,hb,vf⟩:=hs.2 (by have:=hk.here;omega);have PC:aU w S b (off+p * 9) (am l p):=vf p hk.here;have kO:b<w.heap.size:=hB b hb;obtain⟨a5,c5,e5,i5⟩:=PC.ups;obtain⟨a6,c6,e6,i6⟩:=PC.consts;obtain⟨a7,c7,e7,i7⟩:=PC.ins;obtain⟨a8,c8,e8,i8⟩:=PC.named;have e0:=PC.name;have e1:=PC.line;have e2:=PC.params;have e3:=PC.rest;have e4:=PC.regs;have qH:=af hs;have gW:=af hB;have HK:=af hk;have Fi:=af i7;obtain⟨m,hm⟩:∃ m,l.length=m:=⟨_,rfl⟩;have HM:=af hm;rw[hm];have rE:(p:Int)<m:=by have:=hk.here;omega
 have kp:=hk.few;have Fm:=hk.some_;obtain⟨rg,ko⟩:=Int.eq_ofNat_of_zero_le hk.regs.1;obtain⟨pr,Ix⟩:=Int.eq_ofNat_of_zero_le hk.pars.1;have Xi:rg<=250:=by have:=hk.regs.2;omega
 have hprg:pr<=rg:=by have:=hk.pars.2;omega
 have Xa:(am l p).rest=true->pr<rg:=fun h=>by have:=hk.rest h;omega
 rw[ko]at e4;rw[Ix]at e2;have xm:=af ko;have UW:=af Ix;have hml:m<=200:=by have:=hk.many;omega
 have FG:Hid (∀ j,j<rg->(dA (am l p))[j]?.getD 0=if j<pr then 1 else if(am l p).rest=true/\j=pr then 3 else 0):=fun j hj=>by
  rw[wu _ hk.regs.1 j (by omega),Ix];by_cases c1:j<pr
  ·rw[if_pos c1,if_pos (by omega)]
  ·rw[if_neg c1,if_neg (by omega)];by_cases c2:(am l p).rest=true/\j=pr
   ·rw[if_pos c2,if_pos ⟨c2.1,by omega⟩]
   ·rw[if_neg c2,if_neg (fun h=>c2 ⟨h.1,by omega⟩)]
 have FL:Hid ((dA (am l p)).length=rg):=by show _=_;rw[qM,ko];rfl
 have Vj:Hid (oV (am l p).regs.toNat (am l p).ins.length (jb (am l p))):=pE (am l p) hk.some_ hk.regs.1;clear hs hB hk i5 i6 i7 i8 PC vf ko Ix hm;generalize Nw:(am l p).name=nm at *;generalize ZA:(am l p).line=ln at *;generalize hn5:(am l p).ups.length=n5 at *;generalize hn6:(am l p).consts.length=n6 at *;generalize hn8:(am l p).named.length=n8 at *;obtain⟨ni,Z4⟩:∃ ni,(am l p).ins.length=ni:=⟨_,rfl⟩;have jO:=af Z4;rw[Z4]at e7 kp Fm Vj;generalize cM:(am l p).rest=rs at *;have Ou:=ew (P:=Tryz.prog) 64 97 _ 3 56 Tryz.underlying64 EH .i64 .i64 ni (by omega) (by omega);have OS:=run_make_row' (P:=Tryz.prog) 68 4 (.bool false) 1 Tryz.underlying68 oa rfl .i64 .i64 ni (by omega) (by omega);have aaA:=run_make_row' (P:=Tryz.prog) 70 3 (i_ 0) 8 Tryz.underlying70 dT rfl .i64 .i64 rg (by omega) (by omega);have QJ:=af Xa;clear Nw ZA cM hn5 hn6 hn8 Z4 Xa;go_enter Tryz.func22,Tryz.ntmps22;go_wp2_with fail
 clear Ou OS aaA e0 e1 e2 e3 e4 e5 e6 e7 e8;obtain⟨bC,hC⟩:∃ x,x=w.heap.size:=⟨_,rfl⟩;obtain⟨bF,hF⟩:∃ x,x=w.heap.size+1:=⟨_,rfl⟩;obtain⟨bP,hP⟩:∃ x,x=w.heap.size+1+1:=⟨_,rfl⟩;obtain⟨bS,hS⟩:∃ x,x=w.heap.size+1+1+1:=⟨_,rfl⟩;obtain⟨bD,hD⟩:∃ x,x=w.heap.size+1+1+1+1:=⟨_,rfl⟩;obtain⟨bT,hT⟩:∃ x,x=w.heap.size+1+1+1+1+1:=⟨_,rfl⟩;have HB:Hid (LJ w bC bF bP bS bD bT):=⟨by omega,by omega,by omega,by omega,by omega,by omega⟩;have sM:=Ja w (some (a_ b off)) m c nm ln (pr:Int) rs (rg:Int) (.slice a5 n5 c5) (.slice a6 n6 c6) (.slice a7 ni c7) (.slice a8 n8 c8) ni rg;rw[<-hT,<-hD,<-hS,<-hP,<-hF,<-hC]at sM;obtain⟨sM,KB⟩:=sM;rw[<-hT,<-hD,<-hS,<-hP,<-hF,<-hC];have La:=sM;have RU:=KB;unfold ph at La RU;clear sM KB;have p2:=(aa La).prot.2.2.1;have p3:=(aa La).prot.2.2.2.1;generalize (((((w.alloc (.cells #[.slice (some (a_ b off)) m c] 28)).alloc (.cells #[i_ 0,i_ 0,i_ 0] 36)).alloc (.cells #[.string nm,i_ ln,i_ (pr:Int),.bool rs,i_ (rg:Int),.slice a5 n5 c5,.slice a6 n6 c6,.slice a7 ni c7,.slice a8 n8 c8] 43)).alloc (.cells (madeCells #[.bool false,.slice none 0 0,.slice none 0 0] (ni * 3)) 97)).alloc (.cells (madeCells #[.bool false] ni) 4)).alloc (.cells (madeCells #[i_ 0] rg) 3)=w0 at *;have HZ:Hid (bC=w.heap.size/\bF=w.heap.size+1/\bP=w.heap.size+1+1/\bS=w.heap.size+1+1+1/\bD=w.heap.size+1+1+1+1/\bT=w.heap.size+1+1+1+1+1):=⟨hC,hF,hP,hS,hD,hT⟩;clear hC hF hP hS hD hT;go_loopg [10] pr (fun gg i wr=>∃ r:Nat,r+gg=pr/\i=i_ r/\ou w bC bF bP bS bD bT (some (a_ b off)) m c nm ln pr rs rg (.slice a5 n5 c5) (.slice a6 n6 c6) (.slice a7 ni c7) (.slice a8 n8 c8) ni mD (fun _=>mC) wr/\wr.rowIs bT 3 rg (fun j=>i_ (if j<r then 1 else 0)))
 case atStart=>exact⟨0,by omega,rfl,aa La,(aa RU).congr (fun j hj=>by simp)⟩
 case round=>
  clear La RU p2 p3;obtain⟨r,hr,rfl,hW,bz⟩:=hrel;have q2:=hW.prot.2.2.1;have q3:=hW.prot.2.2.2.1;have yP:bP<wr.heap.size:=World.block_lt_of_cell? _ _ q2;have Xc:=bz.lt;by_cases ax:r<pr
  ·have hg:=bz.cell (i:=r) (by omega);have hz:=bz.frozen r;have Om:(r:Int)<rg:=by omega
   have lz:=af (hW.setNew (aa HB) bT r (i_ 1) n_);have rH:Hid ((wr.setCell (a_ bT r) (i_ 1)).rowIs bT 3 rg (fun j=>i_ (if j<r+1 then 1 else 0))):=(bz.set r _).congr (fun j hj=>by
    by_cases e:j=r
    ·aj e;simp
    ·have:(j<r+1)=(j<r):=by apply propext;omega
     simp[e,this])
   clear hW bz;go_wp2_with fail
   go_roundg (pr-(r+1))
   case measure=>omega
   case rel=>exact⟨r+1,by omega,by go_num,aa lz,aa rH⟩
  ·have hrp:r=pr:=by omega
   aj hrp
   have HW:=af hW;have nK:=af bz;clear hW bz;cases rs
   ·have mF:Hid (ar wr bT (.slice (some (a_ bT 0)) rg rg) (dA (am l p))):=l9 (aa nK) FL.out n_ (by omega) (fun j hj=>by
     rw[aa FG j hj];by_cases c:j<r
     ·rw[if_pos c,if_pos c]
     ·rw[if_neg c,if_neg c,if_neg (fun h=>Bool.noConfusion h.1)])
    go_upto_region 11 with fail
    rename_i K9 h9;exact Uu l p S w bC bF bP bS bD bT _ m c nm ln _ _ _ a5 a6 a7 a8 n5 n6 ni n8 c5 c6 c7 c8 HB HK jO HM qH gW Fi kp _ _ _ _ _ _ _ _ _ _ _ _ _ _ _ _ _ _ _ _ _ _ _ _ _ _ _ _ _ _ _ _ _ _ _ _ _ _ _ _ _ _ _ _ _ _ _ _ _ _ _ _ _ _ _ _ _ _ _ _ _ _ _ _ _ _ _ _ _ _ _ _ _ _ _ _ _ _ _ _ _ _ _ _ _ _ _ _ _ _ _ _ _ _ _ _ _ _ _ _ _ _ _ _ _ _ _ _ _ _ _ _ _ _ _ _ _ _ _ _ _ _ _ _ _ _ _ _ _ _ _ _ _ _ _ _ _ _ _ _ _ _ _ _ _ _ _ _ _ _ _ _ _ _ _ _ _ _ _ _ _ _ _ _ _ _ _ _ _ _ _ _ _ _ _ _ _ _ _ _ _ _ _ _ _ _ _ _ _ _ _ _ _ _ _ _ _ _ _ _ _ _ wr rg Fm HW mF Vj K9 h9
   ·have hrr:r<rg:=QJ.out rfl;have hg:=(aa nK).cell (i:=r) hrr;have hz:=(aa nK).frozen r;have Om:(r:Int)<rg:=by omega
    have lz:=af ((aa HW).setNew (aa HB) bT r (i_ 3) n_);have mF:Hid (ar (wr.setCell (a_ bT r) (i_ 3)) bT (.slice (some (a_ bT 0)) rg rg) (dA (am l p))):=l9 ((aa nK).set r _) FL.out n_ (by omega) (fun j hj=>by
     rw[aa FG j hj];show(if j=r then Value.int .i64 3 else i_ (if j<r then 1 else 0))=_;by_cases c:j<r
     ·rw[if_neg (by omega),if_pos c,if_pos c]
     ·by_cases c2:j=r
      ·rw[if_pos c2,if_neg c,if_pos ⟨rfl,c2⟩]
      ·rw[if_neg c2,if_neg c,if_neg c,if_neg (fun h=>c2 h.2)])
    clear HW nK
    go_upto_region 11 with fail
    rename_i K9 h9;exact Uu l p S w bC bF bP bS bD bT _ m c nm ln _ _ _ a5 a6 a7 a8 n5 n6 ni n8 c5 c6 c7 c8 HB HK jO HM qH gW Fi kp _ _ _ _ _ _ _ _ _ _ _ _ _ _ _ _ _ _ _ _ _ _ _ _ _ _ _ _ _ _ _ _ _ _ _ _ _ _ _ _ _ _ _ _ _ _ _ _ _ _ _ _ _ _ _ _ _ _ _ _ _ _ _ _ _ _ _ _ _ _ _ _ _ _ _ _ _ _ _ _ _ _ _ _ _ _ _ _ _ _ _ _ _ _ _ _ _ _ _ _ _ _ _ _ _ _ _ _ _ _ _ _ _ _ _ _ _ _ _ _ _ _ _ _ _ _ _ _ _ _ _ _ _ _ _ _ _ _ _ _ _ _ _ _ _ _ _ _ _ _ _ _ _ _ _ _ _ _ _ _ _ _ _ _ _ _ _ _ _ _ _ _ _ _ _ _ _ _ _ _ _ _ _ _ _ _ _ _ _ _ _ _ _ _ _ _ _ _ _ _ _ _ _ rg Fm lz mF Vj K9 h9
structure Tc (w:World)(a:o_)(m c:Nat)(wr:World):Prop where
 old:b_ w wr
 code:wr.cell? (a_ w.heap.size 0)=some (.slice a m c)
 res:wr.rowIs (w.heap.size+1) 36 3 (fun _=>i_ 0)
theorem Tc.below {w:World}{a:o_}{m c:Nat}{wr w2:World}(h:Tc w a m c wr)(hb:b_ wr w2):Tc w a m c w2:=
 ⟨h.old.trans (hb.mono h.old.size),(hb.cell (p:=(a_ w.heap.size 0)) (World.block_lt_of_cell? _ _ h.code)).trans h.code,h.res.of_block (hb.block _ h.res.lt)⟩
theorem zT (w:World)(a:o_)(m c:Nat):Tc w a m c ((w.alloc (.cells #[.slice a m c] 28)).alloc (.cells #[i_ 0,i_ 0,i_ 0] 36)):=by
 refine⟨(r_.alloc n_ _).alloc (by simp) _,by simp[go_sem],?_⟩;have h:=World.rowIs_alloc (w.alloc (.cells #[.slice a m c] 28)) #[i_ 0,i_ 0,i_ 0] 36 (fun _=>i_ 0) (fun i hi=>by
  match i,hi with
  | 0,_=>rfl
  | 1,_=>rfl
  | 2,_=>rfl)
 exact tH h (by simp)
theorem qX {l:List ak}{x:ak}{σ:dX}{N a n:Nat}(ha:di σ N a)(hm:σ.st a≠none):fT l x σ a≠.inl (0,n):=by
 unfold fT;cases e:σ.st a with
 | none=>exact absurd e hm
 | some s=>
  intro h;change (match bI l (aT x a) s.types with | none=>(Sum.inl (10,a):(Int×Nat) ⊕ dX) | some r=>_)=_ at h;cases e1:bI l (aT x a) s.types with
  | none=>rw[e1]at h;simp at h
  | some r=>
   rw[e1]at h;change (match aQ (aT x a) s.guards with | none=>(Sum.inl (11,a):(Int×Nat) ⊕ dX) | some g=>_)=_ at h;cases e2:aQ (aT x a) s.guards with
   | none=>rw[e2]at h;simp at h
   | some g=>
    rw[e2]at h;change (if _ then _ else _)=_ at h;split at h
    ·cases e3:fk (bK (aT x a) a s (bh (aT x a) r.types) g) ⟨σ.st,bZ σ.due a false⟩with
     | inl y=>rw[e3]at h;simp at h
     | inr σ2=>rw[e3]at h;cases h
    ·simp at h
theorem yH {l:List ak}{x:ak}{R:Nat}(hf:∀ a,a<x.ins.length->wZ (aT x a) a R x.ins.length)(h0:oV R x.ins.length (jb x)):∀{k:Nat}{σ:dX},jw l x k σ->oV R x.ins.length σ
 | 0,σ,h=>by rw[h];exact h0
 | k+1,σ,⟨σ',a,h1,h2,h3⟩=>(uA (hf a h2.1) (yH hf h0 h1) h2 h3).1
theorem qe {l:List ak}{f n:Int}(h:da l 0 f n):f=0/\n=0:=by
 rcases h with⟨_,h⟩ | ⟨_,h,_⟩ | ⟨_,_,h,_⟩ | ⟨_,_,_,h1,h2,_⟩
 ·exact absurd rfl h
 ·exact absurd h (by decide)
 ·exact absurd h (by decide)
 ·exact⟨h1,h2⟩
theorem pi (a:o_)(l:List ak)(c:Nat)(S:Nat->Prop)(w:World)(hs:ao w S a l)(hB:∀ b,S b->b<w.heap.size)(hl:aI l<=1048576) :
  c_ 12 #[.agg #[.slice a l.length c]] w fun e w'=>∃ x f n,e=.returned (.agg #[i_ x,i_ f,i_ n])/\dO l x f n/\b_ w w':=by
 have py:l.length<=1048576:=by unfold aI at hl;omega
 have qH:=af hs;have gW:=af hB;have LS:=af (zT w a l.length c);have Vf:Hid (c_ 21 #[.agg #[.slice a l.length c]] ((w.alloc (.cells #[.slice a l.length c] 28)).alloc (.cells #[i_ 0,i_ 0,i_ 0] 36)) fun e w'=>∃ x f n,e=.returned (.agg #[i_ x,i_ f,i_ n])/\da l x f n/\Below ((w.alloc (.cells #[.slice a l.length c] 28)).alloc (.cells #[i_ 0,i_ 0,i_ 0] 36)).heap.size ((w.alloc (.cells #[.slice a l.length c] 28)).alloc (.cells #[i_ 0,i_ 0,i_ 0] 36)) w'):=
  sA a l c S _ (hs.keep (aa LS).old hB) (fun b h=>l_ (hB b h) (aa LS).old.size) hl
 clear hs hB;go_enter Tryz.func12,Tryz.ntmps12;go_wp2_with fail
 refine(aa Vf).mono ?_;rintro e w1 ⟨x,f,n,rfl,fX,au⟩;have zh:=(aa LS).below au;have VK:b_ w1 (w1.alloc (.cells #[i_ x,i_ f,i_ n] 36)):=r_.alloc n_ _;have SU:=af (zh.below VK);have kG:=af fX;have cM:=zh.res;have r0:=cM.cell (i:=0) (by omega);have r1:=cM.cell (i:=1) (by omega);have r2:=cM.cell (i:=2) (by omega);have z0:=cM.frozen 0;have z1:=cM.frozen 1;have z2:=cM.frozen 2;have oq:=cM.lt;have k0:=zh.code;have Mb:w.heap.size<w1.heap.size:=World.block_lt_of_cell? _ _ k0;clear fX au VK cM Vf LS;by_cases hx:x=0
 case neg=>
  have YG:(x != 0)=true:=by simpa using hx
  have BB:Hid (∀ v0 v1 v2,b_ w ((((w1.setCell (a_ (w.heap.size+1) 0) v0).setCell (a_ (w.heap.size+1) 1) v1).setCell (a_ (w.heap.size+1) 2) v2).alloc (.cells #[i_ x,i_ f,i_ n] 36))):=fun v0 v1 v2=>(dC zh.old (by omega) v0 v1 v2).alloc (by simp;omega) _;have SD:Hid (dO l x f n):=.inl ⟨kG.out,hx⟩;clear zh hx;go_wp2_with fail
  exact bodyPost_ret (v:=.agg #[i_ x,i_ f,i_ n]) (by simp[results,Tryz.results12,go_sem,r0,r1,r2,oq]) rfl ⟨x,f,n,rfl,SD.out,BB.out _ _ _⟩
 aj hx
 obtain⟨rfl,rfl⟩:=qe kG.out;clear zh;go_wp2_with fail
 clear r0 r1 r2 z0 z1 z2 oq k0;go_loopg [16] l.length (fun gg i wr=>∃ q:Nat,q+gg=l.length/\i=i_ q/\Tc w a l.length c wr/\Hid (∀ g,g<q->fU l (am l g) 0 0))
 case atStart=>exact⟨0,by omega,rfl,aa SU,fun g h=>absurd h (Nat.not_lt_zero _)⟩
 case round=>
  clear SU Mb;obtain⟨q,hq,rfl,hC,bN⟩:=hrel;have k0:=hC.code;have Mb:w.heap.size<wr.heap.size:=World.block_lt_of_cell? _ _ k0;by_cases ax:q<l.length
  ·have HC:=af hC;have WK:Hid (c_ 22 #[.agg #[.slice a l.length c],i_ q] wr (ie l q wr)):=CV l q c a S wr ((aa qH).keep hC.old (aa gW)) (fun b h=>l_ (aa gW b h) hC.old.size) (nX kG.out ax);clear hC;go_wp2_with fail
   refine(aa WK).mono ?_;rintro e w3 ⟨v,x,n,rfl,En,_,bY⟩;have Hs:=(aa HC).below bY;have Nx:b_ w3 (w3.alloc (.cells #[i_ x,i_ (if x=0 then 0 else(q:Int)),i_ (n:Int)] 36)):=r_.alloc n_ _;have SZ:=af (Hs.below Nx);have U8:=af Hs;have cM:=Hs.res;have BR:=af En;have r0:=cM.cell (i:=0) (by omega);have r1:=cM.cell (i:=1) (by omega);have r2:=cM.cell (i:=2) (by omega);have z0:=cM.frozen 0;have z1:=cM.frozen 1;have z2:=cM.frozen 2;have oq:=cM.lt;clear En bY Hs Nx cM WK k0 Mb;by_cases hx:x=0
   ·aj hx
    have NX:Hid (∀ g,g<q+1->fU l (am l g) 0 0):=fun g hg=>by
     by_cases e:g=q
     ·aj e
      have h:=BR.out;obtain⟨k,σ,h1,h2⟩:=h;have h3:=h2;rcases h2 with⟨b,h4,h5⟩ | ⟨_,h4,_⟩ | ⟨_,_,h4,_⟩
      ·have hk:=nX kG.out ax;have hm:=yH (fun a ha=>je (hk.ins a ha) ha hk.regs.1) (pE (am l g) hk.some_ hk.regs.1) h1;exact absurd h5 (qX h4 (hm.due b h4.2.1).2)
      ·exact absurd h4 (by decide)
      ·aj h4;exact⟨k,σ,h1,h3⟩
     ·exact bN.out g (by omega)
    rw[if_pos rfl]at SZ;clear r0 r1 r2 z0 z1 z2 oq;go_wp2_with fail
    go_roundg (l.length-(q+1))
    case measure=>omega
    case rel=>exact⟨q+1,by omega,by go_num,aa SZ,NX⟩
   ·have YG:(x != 0)=true:=by simpa using hx
    rw[if_neg hx]at SZ;have Lp:(if x=0 then 0 else(q:Int))=(q:Int):=if_neg hx;rw[Lp];have BB:Hid (∀ v0 v1 v2,b_ w ((((w3.setCell (a_ (w.heap.size+1) 0) v0).setCell (a_ (w.heap.size+1) 1) v1).setCell (a_ (w.heap.size+1) 2) v2).alloc (.cells #[i_ x,i_ (q:Int),i_ (n:Int)] 36))):=fun v0 v1 v2=>(dC (aa U8).old (by omega) v0 v1 v2).alloc (by have:=(aa U8).old.size;simp;omega) _;have SD:Hid (dO l x (q:Int) (n:Int)):=.inr (.inl ⟨kG.out,hx,q,n,rfl,rfl,ax,BR.out,bN.out⟩);clear hx Lp;go_wp2_with fail
    exact bodyPost_ret (v:=.agg #[i_ x,i_ (q:Int),i_ (n:Int)]) (by simp[results,Tryz.results12,go_sem,r0,r1,r2,oq]) rfl ⟨x,q,n,rfl,SD.out,BB.out _ _ _⟩
  ·have fw:q=l.length:=by omega
   have cM:=hC.res;have r0:=cM.cell (i:=0) (by omega);have r1:=cM.cell (i:=1) (by omega);have r2:=cM.cell (i:=2) (by omega);have z0:=cM.frozen 0;have z1:=cM.frozen 1;have z2:=cM.frozen 2;have oq:=cM.lt;have BB:Hid (∀ v0 v1 v2,b_ w (((wr.setCell (a_ (w.heap.size+1) 0) v0).setCell (a_ (w.heap.size+1) 1) v1).setCell (a_ (w.heap.size+1) 2) v2)):=fun v0 v1 v2=>dC hC.old (by omega) v0 v1 v2;have SD:Hid (dO l 0 0 0):=.inr (.inr ⟨kG.out,rfl,rfl,rfl,fun g hg=>bN.out g (by omega)⟩);have Sv:¬((q:Int)<(l.length:Int)):=by omega
   clear cM fw hC;go_wp2_with fail
   exact bodyPost_ret (v:=.agg #[i_ 0,i_ 0,i_ 0]) (by simp[results,Tryz.results12,go_sem,r0,r1,r2,oq]) rfl ⟨0,0,0,rfl,SD.out,BB.out _ _ _⟩
end Go.Proofs.YtcjfjflljdojlaaGreatDoor
namespace Go.Proofs.YtcjfjflljdojlaaGreatDoor
structure TD where
 types:List Int
 seen:List Nat
 taken:List Nat
 puts:List (Nat×Int)
 wrong:Bool
def dL (reg:Nat)(kind:Int)(t:TD):TD:=⟨t.types,t.seen++[reg],t.taken,t.puts,t.wrong||bb t.types reg != kind⟩
def pU (reg:Nat)(kind:Int)(t:TD):TD:=⟨t.types,t.seen,t.taken,t.puts++[(reg,kind)],t.wrong⟩
def pP (reg:Nat)(t:TD):TD:=⟨t.types,t.seen,t.taken++[reg],t.puts,t.wrong⟩
def gL (x kind:Int)(t:TD):TD:=
 if 0<=x then⟨t.types,t.seen,t.taken,t.puts,t.wrong||bb t.types x.toNat != kind⟩
 else⟨t.types.set (-1-x).toNat 0,t.seen,t.taken++[(-1-x).toNat],t.puts,t.wrong||bb t.types (-1-x).toNat != kind||t.seen.contains (-1-x).toNat⟩
def du (r:Nat)(x:Int)(t:TD):TD:=
 if r=12 then gL x 1 t
 else if r=13 then gL x 3 t
 else if r=14 then dL x.toNat 1 t
 else if r=15 then dL x.toNat 2 t
 else if r=16 then dL x.toNat 3 t
 else if r=17 then dL (x.toNat+1) 1 (dL x.toNat 1 t)
 else if r=18 then dL (x.toNat+2) 1 (dL (x.toNat+1) 1 (dL x.toNat 1 t))
 else if r=19 then pU (x.toNat+1) 1 (pP x.toNat (dL (x.toNat+1) 0 (dL x.toNat 1 t)))
 else if r=20 then pU x.toNat 1 t
 else if r=21 then pU x.toNat 2 t
 else if r=22 then pU x.toNat 3 t
 else if r=23 then pU x.toNat 0 t
 else t
def dg (n:aA)(t:TD):Nat->TD
 | 0=>t
 | k+1=>du (aC n.op.toNat k) (dm n k) (dg n t k)
def jr (us:List (Bool×Int))(t:TD):Nat->TD
 | 0=>t
 | k+1=>if(us[k]?.getD (false,0)).1 then dL (us[k]?.getD (false,0)).2.toNat 2 (jr us t k)else jr us t k
def fV (ps:List (Nat×Int))(ty:List Int):Nat->List Int
 | 0=>ty
 | k+1=>(fV ps ty k).set (ps[k]?.getD (0,0)).1 (ps[k]?.getD (0,0)).2
def start (ty:List Int):TD:=⟨ty,[],[],[],false⟩
def eL (l:List ak)(n:aA)(ty:List Int):TD:=if n.op=11 then jr (am l n.fb.toNat).ups (dg n (start ty) 4) (am l n.fb.toNat).ups.length else dg n (start ty) 4
def fP (l:List ak)(n:aA)(ty:List Int):TD:=let t:=eL l n ty;⟨fV t.puts t.types t.puts.length,t.seen,t.taken,t.puts,t.wrong⟩
def ot (o:Option gX)(t:TD):Prop:=match o with
 | none=>t.wrong=true
 | some s=>t.wrong=false/\t.types=s.types/\t.taken=s.taken/\t.seen=s.stay
theorem wO {o:Option gX}{t:TD}{x W:Int}{q:Nat}(hq:q=2/\W=1\/q=3/\W=3)(h:ot o t):ot (o.bind fun s=>gK q x s) (gL x W t):=by
 cases o with
 | none=>
  change t.wrong=true at h;show(gL x W t).wrong=true;unfold gL;split<;>simp[h]
 | some s=>
  obtain⟨h1,h2,h3,h4⟩:=h;show ot (gK q x s) (gL x W t);rw[BT hq];by_cases hx:x<0
  ·have ZL:¬0<=x:=by omega
   have e:eU true x=(-1-x).toNat:=by unfold eU;rw[if_pos ⟨rfl,hx⟩]
   rw[e,if_pos hx];unfold gL;rw[if_neg ZL,h2,h4];by_cases c1:bb s.types (-1-x).toNat=W
   ·rw[if_neg (fun c=>c c1)];by_cases c2:(-1-x).toNat∈s.stay
    ·rw[if_pos c2];show _=true;simp[c2]
    ·rw[if_neg c2];exact⟨by simp[h1,c1,c2],rfl,by rw[h3],rfl⟩
   ·rw[if_pos c1];show _=true;simp[c1]
  ·have ZL:0<=x:=by omega
   have e:eU true x=x.toNat:=by unfold eU;rw[if_neg (fun h=>hx h.2)]
   rw[e,if_neg hx];unfold gL;rw[if_pos ZL,h2];by_cases c1:bb s.types x.toNat=W
   ·rw[if_neg (fun c=>c c1)];exact⟨by simp[h1,c1],rfl,h3,h4⟩
   ·rw[if_pos c1];show _=true;simp[c1]
theorem tL {o:Option gX}{t:TD}{x W:Int}{q:Nat}(hq:q=4/\W=1\/q=5/\W=2\/q=6/\W=3)(h:ot o t):ot (o.bind fun s=>gK q x s) (dL x.toNat W t):=by
 cases o with
 | none=>
  change t.wrong=true at h;show(dL x.toNat W t).wrong=true;simp[dL,h]
 | some s=>
  obtain⟨h1,h2,h3,h4⟩:=h;show ot (gK q x s) (dL x.toNat W t);by_cases c1:bb s.types x.toNat=W
  ·rw[wH hq c1];exact⟨by simp[dL,h1,h2,c1],h2,h3,by simp[dL,h4]⟩
  ·have hw:cN q=(W,false):=by rcases hq with⟨rfl,rfl⟩ | ⟨rfl,rfl⟩ | ⟨rfl,rfl⟩<;>rfl
   have hW0:W≠0:=by rcases hq with⟨_,rfl⟩ | ⟨_,rfl⟩ | ⟨_,rfl⟩<;>decide
   rw[qi hw hW0 (by unfold eU;rw[if_neg (fun h=>Bool.noConfusion h.1)];exact c1)];show _=true;simp[dL,h2,c1]
theorem G5 {o:Option gX}{t t':TD}{x:Int}{q:Nat}(hq:(cN q).1=0)(ht:t'.wrong=t.wrong/\t'.types=t.types/\t'.taken=t.taken/\t'.seen=t.seen)(h:ot o t):ot (o.bind fun s=>gK q x s) t':=by
 obtain⟨e1,e2,e3,e4⟩:=ht;cases o with
 | none=>show t'.wrong=true;rw[e1];exact h
 | some s=>
  show ot (gK q x s) t';rw[qs hq];obtain⟨h1,h2,h3,h4⟩:=h;exact⟨e1.trans h1,e2.trans h2,e3.trans h3,e4.trans h4⟩
theorem DV {o:Option gX}{t:TD}{x:Int}{r:Nat}(hr:r<=23)(h17:r≠17/\r≠18/\r≠19)(h:ot o t):ot (o.bind fun s=>gK (iD r) x s) (du r x t):=by
 have hc:r=0\/r=1\/r=2\/r=3\/r=4\/r=5\/r=6\/r=7\/r=8\/r=9\/r=10\/r=11\/r=12\/r=13\/r=14\/r=15\/r=16\/r=20\/r=21\/r=22\/r=23:=by omega
 rcases hc with rfl | rfl | rfl | rfl | rfl | rfl | rfl | rfl | rfl | rfl | rfl | rfl | rfl | rfl | rfl | rfl | rfl | rfl | rfl | rfl | rfl
 all_goals first
  | exact G5 (by decide) ⟨rfl,rfl,rfl,rfl⟩ h
  | exact wO (.inl ⟨rfl,rfl⟩) h
  | exact wO (.inr ⟨rfl,rfl⟩) h
  | exact tL (.inl ⟨rfl,rfl⟩) h
  | exact tL (.inr (.inl ⟨rfl,rfl⟩)) h
  | exact tL (.inr (.inr ⟨rfl,rfl⟩)) h
def iO (o:Option gX)(t:TD):Prop:=match o with
 | none=>t.wrong=true
 | some s=>t.wrong=false/\t.types=s.types/\t.taken=s.taken
theorem ot.weak {o:Option gX}{t:TD}(h:ot o t):iO o t:=by
 cases o with
 | none=>exact h
 | some s=>exact⟨h.1,h.2.1,h.2.2.1⟩
theorem mQ {r:List Nat}{n:aA}{s:gX}{k:Nat}:aX r n s (k+1)=(aX r n s k).bind fun s'=>gK (r[k]?.getD 0) (dm n k) s':=by
 show(match aX r n s k with | none=>none | some s'=>gK (r[k]?.getD 0) (dm n k) s')=_;cases aX r n s k<;>rfl
def uO (op:Nat):List Nat:=[iD (aC op 0),iD (aC op 1),iD (aC op 2),iD (aC op 3)]
theorem rm (op k:Nat)(hk:k<4):(uO op)[k]?.getD 0=iD (aC op k):=by
 have hc:k=0\/k=1\/k=2\/k=3:=by omega
 rcases hc with rfl | rfl | rfl | rfl<;>rfl
def p9 (op:Nat):Bool:=(List.range 4).all fun k=>decide (aC op k≠17/\aC op k≠18/\aC op k≠19)
theorem FM:∀ op,op<43->op=37\/op=38\/op=39\/op=40\/op=41\/p9 op=true:=by decide
theorem Gy (op:Nat)(h:op<43)(h1:op≠37)(h2:op≠38)(h3:op≠39)(h4:op≠40)(h5:op≠41):p9 op=true:=by
 rcases FM op h with e | e | e | e | e | e
 ·exact absurd e h1
 ·exact absurd e h2
 ·exact absurd e h3
 ·exact absurd e h4
 ·exact absurd e h5
 ·exact e
theorem F7 {op k:Nat}(h:p9 op=true)(hk:k<4):aC op k≠17/\aC op k≠18/\aC op k≠19:=by
 unfold p9 at h;rw[List.all_eq_true]at h;have:=h k (List.mem_range.2 hk);simpa using this
theorem Cc (ty:List Int):ot (some ⟨ty,[],[]⟩) (start ty):=⟨rfl,rfl,rfl,rfl⟩
theorem rS {n:aA}{op:Nat}(ho:n.op=(op:Int))(mj:op<43)(hp:p9 op=true)(ty:List Int):∀ k,k<=4->ot (aX (uO op) n ⟨ty,[],[]⟩ k) (dg n (start ty) k)
 | 0,_=>Cc ty
 | k+1,hk=>by
  rw[mQ,rm op k (by omega)];show ot _ (du (aC n.op.toNat k) (dm n k) (dg n (start ty) k));rw[ho,Int.toNat_natCast];exact DV (fE op mj k (by omega)) (F7 hp (by omega)) (rS ho mj hp ty k (by omega))
theorem CG {o:Option gX}{t t':TD}{x:Int}{q:Nat}(hq:(cN q).1=0)(ht:t'.wrong=t.wrong/\t'.types=t.types/\t'.taken=t.taken)(h:iO o t):iO (o.bind fun s=>gK q x s) t':=by
 obtain⟨e1,e2,e3⟩:=ht;cases o with
 | none=>show t'.wrong=true;rw[e1];exact h
 | some s=>
  show iO (gK q x s) t';rw[qs hq];obtain⟨h1,h2,h3⟩:=h;exact⟨e1.trans h1,e2.trans h2,e3.trans h3⟩
theorem zM {r:Nat}{x:Int}{t:TD}(hr:r<=11\/20<=r)(h23:r<=23):(cN (iD r)).1=0/\(du r x t).wrong=t.wrong/\(du r x t).types=t.types/\(du r x t).taken=t.taken:=by
 have hc:r=0\/r=1\/r=2\/r=3\/r=4\/r=5\/r=6\/r=7\/r=8\/r=9\/r=10\/r=11\/r=20\/r=21\/r=22\/r=23:=by omega
 rcases hc with rfl | rfl | rfl | rfl | rfl | rfl | rfl | rfl | rfl | rfl | rfl | rfl | rfl | rfl | rfl | rfl<;>exact⟨by decide,rfl,rfl,rfl⟩
def Jc (op:Nat):Bool:=(List.range 3).all fun k=>decide (aC op (k+1)<=11\/20<=aC op (k+1))
theorem Nv {op k:Nat}(h:Jc op=true)(hk:k<3):aC op (k+1)<=11\/20<=aC op (k+1):=by
 unfold Jc at h;rw[List.all_eq_true]at h;have:=h k (List.mem_range.2 hk);simpa using this
theorem Aa {n:aA}{op:Nat}(ho:n.op=(op:Int))(ty:List Int)(hr:aC op 0=17\/aC op 0=18\/aC op 0=19):iO (aX (uO op) n ⟨ty,[],[]⟩ 1) (dg n (start ty) 1):=by
 rw[mQ,rm op 0 (by omega)];show iO (gK (iD (aC op 0)) (dm n 0) ⟨ty,[],[]⟩) (du (aC n.op.toNat 0) (dm n 0) (start ty));rw[ho,Int.toNat_natCast];generalize dm n 0=x;have bad:∀ q,cN q=(1,false)->bb ty x.toNat≠1->gK q x ⟨ty,[],[]⟩=none:=fun q hq h=>qi hq (by decide) (by unfold eU;rw[if_neg (fun h=>Bool.noConfusion h.1)];exact h);by_cases c0:bb ty x.toNat=1
 ·rcases hr with e | e | e
  ·rw[e];show iO (gK 20 x ⟨ty,[],[]⟩) (dL (x.toNat+1) 1 (dL x.toNat 1 (start ty)));rw[JT c0];by_cases c1:bb ty (x.toNat+1)=1
   ·rw[if_neg (fun c=>c c1)];exact⟨by simp[dL,start,c0,c1],rfl,rfl⟩
   ·rw[if_pos c1];show _=true;simp[dL,start,c1]
  ·rw[e];show iO (gK 18 x ⟨ty,[],[]⟩) (dL (x.toNat+2) 1 (dL (x.toNat+1) 1 (dL x.toNat 1 (start ty))));rw[JI c0];by_cases c1:bb ty (x.toNat+1)=1
   ·rw[if_neg (fun c=>c c1)];by_cases c2:bb ty (x.toNat+2)=1
    ·rw[if_neg (fun c=>c c2)];exact⟨by simp[dL,start,c0,c1,c2],rfl,rfl⟩
    ·rw[if_pos c2];show _=true;simp[dL,start,c2]
   ·rw[if_pos c1];show _=true;simp[dL,start,c1]
  ·rw[e];show iO (gK 19 x ⟨ty,[],[]⟩) (pU (x.toNat+1) 1 (pP x.toNat (dL (x.toNat+1) 0 (dL x.toNat 1 (start ty)))));rw[Ji c0];by_cases c1:bb ty (x.toNat+1)=0
   ·rw[if_neg (fun c=>c c1)];exact⟨by simp[dL,pU,pP,start,c0,c1],rfl,rfl⟩
   ·rw[if_pos c1];show _=true;simp[dL,pU,pP,start,c1]
 ·rcases hr with e | e | e
  ·rw[e];show iO (gK 20 x ⟨ty,[],[]⟩) (dL (x.toNat+1) 1 (dL x.toNat 1 (start ty)));rw[bad 20 rfl c0];show _=true;simp[dL,start,c0]
  ·rw[e];show iO (gK 18 x ⟨ty,[],[]⟩) (dL (x.toNat+2) 1 (dL (x.toNat+1) 1 (dL x.toNat 1 (start ty))));rw[bad 18 rfl c0];show _=true;simp[dL,start,c0]
  ·rw[e];show iO (gK 19 x ⟨ty,[],[]⟩) (pU (x.toNat+1) 1 (pP x.toNat (dL (x.toNat+1) 0 (dL x.toNat 1 (start ty)))));rw[bad 19 rfl c0];show _=true;simp[dL,pU,pP,start,c0]
theorem wX {n:aA}{op:Nat}(ho:n.op=(op:Int))(mj:op<43)(hb:Jc op=true)(ty:List Int)(hr:aC op 0=17\/aC op 0=18\/aC op 0=19):∀ k,k<=3->iO (aX (uO op) n ⟨ty,[],[]⟩ (k+1)) (dg n (start ty) (k+1))
 | 0,_=>Aa ho ty hr
 | k+1,hk=>by
  rw[mQ,rm op (k+1) (by omega)];show iO _ (du (aC n.op.toNat (k+1)) (dm n (k+1)) (dg n (start ty) (k+1)));rw[ho,Int.toNat_natCast];obtain⟨e1,e2⟩:=zM (x:=dm n (k+1)) (t:=dg n (start ty) (k+1)) (Nv hb (k:=k) (by omega)) (fE op mj (k+1) (by omega));exact CG e1 e2 (wX ho mj hb ty hr k (by omega))
theorem yr {n:aA}{op:Nat}(ho:n.op=(op:Int))(mj:op<43)(ty:List Int):iO (aX (uO op) n ⟨ty,[],[]⟩ 4) (dg n (start ty) 4):=by
 by_cases c:op≠37/\op≠38/\op≠39/\op≠40/\op≠41
 ·exact(rS ho mj (Gy op mj c.1 c.2.1 c.2.2.1 c.2.2.2.1 c.2.2.2.2) ty 4 n_).weak
 ·have hc:op=37\/op=38\/op=39\/op=40\/op=41:=by omega
  rcases hc with rfl | rfl | rfl | rfl | rfl
  all_goals exact wX ho mj (by decide) ty (by decide) 3 n_
theorem iQ (us:List (Bool×Int))(t:TD):∀ k,(jr us t k).puts=t.puts/\(jr us t k).types=t.types/\(jr us t k).taken=t.taken
 | 0=>⟨rfl,rfl,rfl⟩
 | k+1=>by
  obtain⟨h1,h2,h3⟩:=iQ us t k;show(if _ then _ else _:TD).puts=_/\(if _ then _ else _:TD).types=_/\(if _ then _ else _:TD).taken=_;split
  ·exact⟨h1,h2,h3⟩
  ·exact⟨h1,h2,h3⟩
theorem oZ (us:List (Bool×Int))(t:TD):∀ k,k<=us.length->((jr us t k).wrong=true↔t.wrong=true\/((us.take k).any fun u=>u.1&&bb t.types u.2.toNat != 2)=true)
 | 0,_=>by simp[jr]
 | k+1,hk=>by
  have ih:=oZ us t k (by omega);have ht:=(iQ us t k).2.1;have hg:us[k]? = some us[k]:=g_ (by omega);have e:us[k]?.getD (false,0)=us[k]:=by rw[hg];rfl
  show(if(us[k]?.getD (false,0)).1 then dL (us[k]?.getD (false,0)).2.toNat 2 (jr us t k)else jr us t k).wrong=true↔_;rw[e,List.take_add_one,hg,List.any_append];cases c:us[k].1
  ·rw[if_neg (by simp)];simp[ih,c]
  ·rw[if_pos rfl];simp[dL,ht,ih,c,or_assoc]
theorem rP {l:List ak}{n:aA}(h1:1<=n.op)(h2:n.op<=42)(ty:List Int):iO (bI l n ty) (eL l n ty):=by
 obtain⟨op,ho⟩:∃ op:Nat,n.op=op:=⟨n.op.toNat,by omega⟩;have mj:op<43:=by omega
 have hr:bj n.op=some (uO op):=by rw[ho];exact kQ op mj (by omega)
 have hf:=yr ho mj ty;unfold bI eL;rw[hr];simp only[Option.getD_some];cases e:aX (uO op) n ⟨ty,[],[]⟩ 4 with
 | none=>
  rw[e]at hf;have hf:(dg n (start ty) 4).wrong=true:=hf;show iO none _;show _=true;split
  ·rw[(oZ _ _ _ n_)];exact .inl hf
  ·exact hf
 | some s=>
  rw[e]at hf;obtain⟨f1,f2,f3⟩:=hf;show iO (if _ then none else some s) _;by_cases c:n.op=11
  ·rw[if_pos c];obtain⟨g1,g2,g3⟩:=iQ (am l n.fb.toNat).ups (dg n (start ty) 4) (am l n.fb.toNat).ups.length;have hw:=oZ (am l n.fb.toNat).ups (dg n (start ty) 4) _ n_;rw[List.take_length,f2]at hw;by_cases cu:((am l n.fb.toNat).ups.any fun u=>u.1&&bb s.types u.2.toNat != 2)=true
   ·rw[if_pos ⟨c,cu⟩];exact hw.2 (.inr cu)
   ·rw[if_neg (fun h=>cu h.2)];refine⟨?_,g2.trans f2,g3.trans f3⟩;cases e2:(jr (am l n.fb.toNat).ups (dg n (start ty) 4) (am l n.fb.toNat).ups.length).wrong with
    | false=>rfl
    | true=>
     rcases hw.1 e2 with h | h
     ·rw[f1]at h;cases h
     ·exact absurd h cu
  ·rw[if_neg c,if_neg (fun h=>c h.1)];exact⟨f1,f2,f3⟩
def fF (r:Nat)(x:Int):List (Nat×Int):=if r=19 then[(x.toNat+1,1)]else if r=20 then[(x.toNat,1)]else if r=21 then[(x.toNat,2)]else if r=22 then[(x.toNat,3)]else if r=23 then[(x.toNat,0)]else[]
theorem CN (x k:Int)(t:TD):(gL x k t).puts=t.puts:=by unfold gL;split<;>rfl
theorem kC {r:Nat}(hr:r<=23)(x:Int)(t:TD):(du r x t).puts=t.puts++fF r x:=by
 have hc:r=0\/r=1\/r=2\/r=3\/r=4\/r=5\/r=6\/r=7\/r=8\/r=9\/r=10\/r=11\/r=12\/r=13\/r=14\/r=15\/r=16\/r=17\/r=18\/r=19\/r=20\/r=21\/r=22\/r=23:=by omega
 rcases hc with rfl | rfl | rfl | rfl | rfl | rfl | rfl | rfl | rfl | rfl | rfl | rfl | rfl | rfl | rfl | rfl | rfl | rfl | rfl | rfl | rfl | rfl | rfl | rfl
 all_goals simp[du,fF,CN,dL,pU,pP]
theorem qq {n:aA}{op:Nat}(ho:n.op=(op:Int))(mj:op<43)(t:TD):(dg n t 4).puts=t.puts++fF (aC op 0) n.fa++fF (aC op 1) n.fb++fF (aC op 2) n.fc++fF (aC op 3) n.fd:=by
 show(du (aC n.op.toNat 3) (dm n 3) (du (aC n.op.toNat 2) (dm n 2) (du (aC n.op.toNat 1) (dm n 1) (du (aC n.op.toNat 0) (dm n 0) t)))).puts=_;rw[ho,Int.toNat_natCast,kC (fE op mj 3 (by omega)),kC (fE op mj 2 (by omega)),kC (fE op mj 1 (by omega)),kC (fE op mj 0 (by omega))];rfl
theorem Cn {n:aA}{op:Nat}(ho:n.op=(op:Int))(mj:op<43)(h1:1<=op)(ty:List Int)(ps:List (Nat×Int))(hps:ps=fF (aC op 0) n.fa++fF (aC op 1) n.fb++fF (aC op 2) n.fc++fF (aC op 3) n.fd):fV ps ty ps.length=bh n ty:=by
 obtain⟨nop,fa,fb,fc,fd⟩:=n;simp only at ho
 aj ho
 aj hps
 have hc:op=1\/op=2\/op=3\/op=4\/op=5\/op=6\/op=7\/op=8\/op=9\/op=10\/op=11\/op=12\/op=13\/op=14\/op=15\/op=16\/op=17\/op=18\/op=19\/op=20\/op=21\/op=22\/op=23\/op=24\/op=25\/op=26\/op=27\/op=28\/op=29\/op=30\/op=31\/op=32\/op=33\/op=34\/op=35\/op=36\/op=37\/op=38\/op=39\/op=40\/op=41\/op=42:=by omega
 rcases hc with rfl | rfl | rfl | rfl | rfl | rfl | rfl | rfl | rfl | rfl | rfl | rfl | rfl | rfl | rfl | rfl | rfl | rfl | rfl | rfl | rfl | rfl | rfl | rfl | rfl | rfl | rfl | rfl | rfl | rfl | rfl | rfl | rfl | rfl | rfl | rfl | rfl | rfl | rfl | rfl | rfl | rfl
 all_goals rfl
end Go.Proofs.YtcjfjflljdojlaaGreatDoor
