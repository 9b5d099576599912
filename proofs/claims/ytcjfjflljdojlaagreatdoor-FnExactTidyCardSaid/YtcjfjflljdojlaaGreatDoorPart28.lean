import Derived.Test.YtcjfjflljdojlaaGreatDoorPart27
set_option linter.all false
set_option maxHeartbeats 8000000
set_option maxRecDepth 1000000
namespace Go.Proofs.YtcjfjflljdojlaaGreatDoor
open Go.RowKit
theorem EJ:(Tryz.prog.info? 97).map (fun i=>(i.zero,i.size,i.bytes))=some (some (.agg #[.bool false,.slice none 0 0,.slice none 0 0]),3,56):=by kernel_rfl
theorem oe:(Tryz.prog.info? 4).map (fun i=>(i.zero,i.size,i.bytes))=some (some (.bool false),1,1):=by kernel_rfl
theorem DS (l:List aj)(p c:Nat)(a:o_)(S:Nat->Prop)(w:w_)(hs:am w S a l)(hB:∀ b,S b->b<w.heap.size)(hk:uU l p) :
  c_ 22 #[.agg #[.slice a l.length c],i_ p] w (hZ l p w):=by
 obtain⟨b,off,rfl,hb,uV⟩:=hs.2 (by have:=hk.here;omega);have PC:aT w S b (off+p * 9) (al l p):=uV p hk.here;have kN:b<w.heap.size:=hB b hb;obtain⟨a5,c5,e5,i5⟩:=PC.s;obtain⟨a6,c6,e6,i6⟩:=PC.k;obtain⟨a7,c7,e7,i7⟩:=PC.u;obtain⟨a8,c8,e8,i8⟩:=PC.g;have e0:=PC.name;have e1:=PC.f;have e2:=PC.l;have e3:=PC.e;have e4:=PC.m;have qJ:=af hs;have gV:=af hB;have HK:=af hk;have Fh:=af i7;obtain⟨m,hm⟩:∃ m,l.length=m:=⟨_,rfl⟩;have HM:=af hm;rw[hm];have ry:(p:Int)<m:=by have:=hk.here;omega
 have kn:=hk.few;have Fl:=hk.some_;obtain⟨rg,ko⟩:=iV hk.m.1;obtain⟨pr,Ig⟩:=iV hk.pars.1;have Vp:rg<=250:=by{have:=hk.m.2;omega};have hprg:pr<=rg:=by{have:=hk.pars.2;omega};have Xh:(al l p).e=true->pr<rg:=fun h=>by{have:=hk.e h;omega};rw[ko]at e4;rw[Ig]at e2;have xp:=af ko;have U4:=af Ig;have hml:m<=200:=by{have:=hk.many;omega};have FG:H_ (∀ j,j<rg->(dy (al l p))[j]?.getD 0=if j<pr then 1 else if(al l p).e=true/\j=pr then 3 else 0):=fun j hj=>by{rw[wW _ hk.m.1 j (by omega),Ig];by_cases c1:j<pr;{rw[zca c1,zca (by omega)]};{rw[zcb c1,zcb (by omega)];by_cases c2:(al l p).e=true/\j=pr;{rw[zca c2,zca ⟨c2.1,by omega⟩]};{rw[zcb c2,zcb (fun h=>c2 ⟨h.1,by omega⟩)]}}};have FL:H_ ((dy (al l p)).length=rg):=by show _=_;rw[ri,ko];rfl
 have UK:H_ (oR (al l p).m.toNat (al l p).u.length (iZ (al l p))):=pS (al l p) hk.some_ hk.m.1;clear hs hB hk i5 i6 i7 i8 PC uV ko Ig hm;generalize Oa:(al l p).name=nm at *;generalize hln:(al l p).f=ln at *;generalize hn5:(al l p).s.length=n5 at *;generalize hn6:(al l p).k.length=n6 at *;generalize hn8:(al l p).g.length=n8 at *;obtain⟨ni,hnI⟩:∃ ni,(al l p).u.length=ni:=⟨_,rfl⟩;have jM:=af hnI;rw[hnI]at e7 kn Fl UK;generalize cK:(al l p).e=rs at *;have OE:=ex (P:=Tryz.prog) 64 97 _ 3 56 Tryz.underlying64 EJ .i64 .i64 ni (by omega) (by omega);have Oo:=run_make_row' (P:=Tryz.prog) 68 4 (.bool false) 1 Tryz.underlying68 oe rfl .i64 .i64 ni (by omega) (by omega);have aaf:=run_make_row' (P:=Tryz.prog) 70 3 (i_ 0) 8 Tryz.underlying70 dR rfl .i64 .i64 rg (by omega) (by omega);have Sp:=af Xh;clear Oa hln cK hn5 hn6 hn8 hnI Xh;go_enter Tryz.func22,Tryz.ntmps22;go_wp2_with fail
 clear OE Oo aaf e0 e1 e2 e3 e4 e5 e6 e7 e8;obtain⟨bC,hC⟩:∃ x,x=w.heap.size:=⟨_,rfl⟩;obtain⟨bF,hF⟩:∃ x,x=w.heap.size+1:=⟨_,rfl⟩;obtain⟨bP,hP⟩:∃ x,x=w.heap.size+1+1:=⟨_,rfl⟩;obtain⟨bS,hS⟩:∃ x,x=w.heap.size+1+1+1:=⟨_,rfl⟩;obtain⟨bD,hD⟩:∃ x,x=w.heap.size+1+1+1+1:=⟨_,rfl⟩;obtain⟨bT,hT⟩:∃ x,x=w.heap.size+1+1+1+1+1:=⟨_,rfl⟩;have HB:H_ (LI w bC bF bP bS bD bT):=⟨by omega,by omega,by omega,by omega,by omega,by omega⟩;have sR:=JJ w (some (a_ b off)) m c nm ln (pr:Int) rs (rg:Int) (.slice a5 n5 c5) (.slice a6 n6 c6) (.slice a7 ni c7) (.slice a8 n8 c8) ni rg;rw[<-hT,<-hD,<-hS,<-hP,<-hF,<-hC]at sR;obtain⟨sR,Lu⟩:=sR;rw[<-hT,<-hD,<-hS,<-hP,<-hF,<-hC];have KG:=sR;have Sy:=Lu;unfold oK at KG Sy;clear sR Lu;have p2:=(aa KG).prot.2.2.1;have p3:=(aa KG).prot.2.2.2.1;generalize (((((w.alloc (.cells #[s_ b off m c] 28)).alloc (.cells #[i_ 0,i_ 0,i_ 0] 36)).alloc (.cells #[.string nm,i_ ln,i_ (pr:Int),.bool rs,i_ (rg:Int),.slice a5 n5 c5,.slice a6 n6 c6,.slice a7 ni c7,.slice a8 n8 c8] 43)).alloc (.cells (madeCells #[.bool false,.slice none 0 0,.slice none 0 0] (ni * 3)) 97)).alloc (.cells (madeCells #[.bool false] ni) 4)).alloc (.cells (madeCells #[i_ 0] rg) 3)=w0 at *;have HZ:H_ (bC=w.heap.size/\bF=w.heap.size+1/\bP=w.heap.size+1+1/\bS=w.heap.size+1+1+1/\bD=w.heap.size+1+1+1+1/\bT=w.heap.size+1+1+1+1+1):=⟨hC,hF,hP,hS,hD,hT⟩;clear hC hF hP hS hD hT;go_loopg [10] pr (fun gg i wr=>∃ r:Nat,r+gg=pr/\i=i_ r/\oq w bC bF bP bS bD bT (some (a_ b off)) m c nm ln pr rs rg (.slice a5 n5 c5) (.slice a6 n6 c6) (.slice a7 ni c7) (.slice a8 n8 c8) ni mD (fun _=>mE) wr/\wr.rowIs bT 3 rg (fun j=>i_ (if j<r then 1 else 0)))
 (case atStart=>exact⟨0,by omega,rfl,aa KG,(aa Sy).congr (fun j hj=>by simp)⟩);case round=>
  clear KG Sy p2 p3;obtain⟨r,hr,rfl,hW,bx⟩:=hrel;have q2:=hW.prot.2.2.1;have q3:=hW.prot.2.2.2.1;have yQ:bP<wr.heap.size:=zbd _ _ q2;have UT:=bx.lt;by_cases au:r<pr
  ·have hg:=bx.cell (i:=r) (by omega);have hz:=bx.frozen r;have Oh:(r:Int)<rg:=by omega
   have lz:=af (hW.setNew (aa HB) bT r (i_ 1) n_);have rB:H_ ((wr.setCell (a_ bT r) (i_ 1)).rowIs bT 3 rg (fun j=>i_ (if j<r+1 then 1 else 0))):=(bx.set r _).congr (fun j hj=>by
    by_cases e:j=r;{subst e;simp}
    ·have:(j<r+1)=(j<r):=by apply propext;omega
     simp[e,this])
   clear hW bx;go_wp2;go_roundg (pr-(r+1));(case measure=>omega);case rel=>exact⟨r+1,by omega,by go_num,aa lz,aa rB⟩
  ·have hrp:r=pr:=by{omega};subst hrp;have HW:=af hW;have nI:=af bx;clear hW bx;cases rs
   ·have mI:H_ (ao wr bT (s_ bT 0 rg rg) (dy (al l p))):=l9 (aa nI) FL.o n_ (by omega) (fun j hj=>by
     rw[aa FG j hj];by_cases c:j<r;{rw[zca c,zca c]}
     ·rw[zcb c,zcb c,zcb (fun h=>Bool.noConfusion h.1)])
    go_upto_region 11 with fail;rename_i K9 h9;exact UA l p S w bC bF bP bS bD bT _ m c nm ln _ _ _ a5 a6 a7 a8 n5 n6 ni n8 c5 c6 c7 c8 HB HK jM HM qJ gV Fh kn _ _ _ _ _ _ _ _ _ _ _ _ _ _ _ _ _ _ _ _ _ _ _ _ _ _ _ _ _ _ _ _ _ _ _ _ _ _ _ _ _ _ _ _ _ _ _ _ _ _ _ _ _ _ _ _ _ _ _ _ _ _ _ _ _ _ _ _ _ _ _ _ _ _ _ _ _ _ _ _ _ _ _ _ _ _ _ _ _ _ _ _ _ _ _ _ _ _ _ _ _ _ _ _ _ _ _ _ _ _ _ _ _ _ _ _ _ _ _ _ _ _ _ _ _ _ _ _ _ _ _ _ _ _ _ _ _ _ _ _ _ _ _ _ _ _ _ _ _ _ _ _ _ _ _ _ _ _ _ _ _ _ _ _ _ _ _ _ _ _ _ _ _ _ _ _ _ _ _ _ _ _ _ _ _ _ _ _ _ _ _ _ _ _ _ _ _ _ _ _ _ _ wr rg Fl HW mI UK K9 h9
   ·have hrr:r<rg:=Sp.o rfl;have hg:=(aa nI).cell (i:=r) hrr;have hz:=(aa nI).frozen r;have Oh:(r:Int)<rg:=by omega
    have lz:=af ((aa HW).setNew (aa HB) bT r (i_ 3) n_);have mI:H_ (ao (wr.setCell (a_ bT r) (i_ 3)) bT (s_ bT 0 rg rg) (dy (al l p))):=l9 ((aa nI).set r _) FL.o n_ (by omega) (fun j hj=>by
     rw[aa FG j hj];show(if j=r then Value.int .i64 3 else i_ (if j<r then 1 else 0))=_;by_cases c:j<r;{rw[zcb (by omega),zca c,zca c]}
     ·by_cases c2:j=r;{rw[zca c2,zcb c,zca ⟨rfl,c2⟩]}
      ·rw[zcb c2,zcb c,zcb c,zcb (fun h=>c2 h.2)])
    clear HW nI;go_upto_region 11 with fail;rename_i K9 h9;exact UA l p S w bC bF bP bS bD bT _ m c nm ln _ _ _ a5 a6 a7 a8 n5 n6 ni n8 c5 c6 c7 c8 HB HK jM HM qJ gV Fh kn _ _ _ _ _ _ _ _ _ _ _ _ _ _ _ _ _ _ _ _ _ _ _ _ _ _ _ _ _ _ _ _ _ _ _ _ _ _ _ _ _ _ _ _ _ _ _ _ _ _ _ _ _ _ _ _ _ _ _ _ _ _ _ _ _ _ _ _ _ _ _ _ _ _ _ _ _ _ _ _ _ _ _ _ _ _ _ _ _ _ _ _ _ _ _ _ _ _ _ _ _ _ _ _ _ _ _ _ _ _ _ _ _ _ _ _ _ _ _ _ _ _ _ _ _ _ _ _ _ _ _ _ _ _ _ _ _ _ _ _ _ _ _ _ _ _ _ _ _ _ _ _ _ _ _ _ _ _ _ _ _ _ _ _ _ _ _ _ _ _ _ _ _ _ _ _ _ _ _ _ _ _ _ _ _ _ _ _ _ _ _ _ _ _ _ _ _ _ _ _ _ _ _ rg Fl lz mI UK K9 h9
structure Ta (w:w_)(a:o_)(m c:Nat)(wr:w_):Prop where
 old:b_ w wr
 code:wr.cell? (a_ w.heap.size 0)=some (.slice a m c)
 res:wr.rowIs (w.heap.size+1) 36 3 (fun _=>i_ 0)
theorem Ta.below {w:w_}{a:o_}{m c:Nat}{wr w2:w_}(h:Ta w a m c wr)(hb:b_ wr w2):Ta w a m c w2:=
 ⟨h.old.trans (hb.mono h.old.size),(hb.cell (p:=(a_ w.heap.size 0)) (zbd _ _ h.code)).trans h.code,h.res.of_block (hb.block _ h.res.lt)⟩
theorem zW (w:w_)(a:o_)(m c:Nat):Ta w a m c ((w.alloc (.cells #[.slice a m c] 28)).alloc (.cells #[i_ 0,i_ 0,i_ 0] 36)):=by
 refine⟨(r_.alloc n_ _).alloc (by simp) _,by simp[go_sem],?_⟩;have h:=World.rowIs_alloc (w.alloc (.cells #[.slice a m c] 28)) #[i_ 0,i_ 0,i_ 0] 36 (fun _=>i_ 0) (fun i hi=>by
  match i,hi with
  | 0,_=>rfl
  | 1,_=>rfl
  | 2,_=>rfl)
 exact tQ h (by simp)
theorem rp {l:List aj}{x:aj}{σ:dW}{N a n:Nat}(ha:dg σ N a)(hm:σ.st a≠none):fV l x σ a≠.inl (0,n):=by
 unfold fV;cases e:σ.st a with
 | none=>exact zcc e hm
 | some s=>
  intro h;change (match bH l (aR x a) s.d with | none=>(Sum.inl (10,a):(Int×Nat) ⊕ dW) | some r=>_)=_ at h;cases e1:bH l (aR x a) s.d with
  | none=>rw[e1]at h;simp at h
  | some r=>
   rw[e1]at h;change (match aP (aR x a) s.r with | none=>(Sum.inl (11,a):(Int×Nat) ⊕ dW) | some g=>_)=_ at h;cases e2:aP (aR x a) s.r with
   | none=>rw[e2]at h;simp at h
   | some g=>
    rw[e2]at h;change (if _ then _ else _)=_ at h;split at h
    ·cases e3:fi (bI (aR x a) a s (bg (aR x a) r.d) g) ⟨σ.st,bY σ.b a false⟩with
     | inl y=>rw[e3]at h;simp at h
     | inr σ2=>rw[e3]at h;cases h
    {simp at h}
theorem xL {l:List aj}{x:aj}{R:Nat}(hf:∀ a,a<x.u.length->wN (aR x a) a R x.u.length)(h0:oR R x.u.length (iZ x)):∀{k:Nat}{σ:dW},ju l x k σ->oR R x.u.length σ
 | 0,σ,h=>by rw[h];exact h0
 | k+1,σ,⟨σ',a,h1,h2,h3⟩=>(tU (hf a h2.1) (xL hf h0 h1) h2 h3).1
theorem qs {l:List aj}{f n:Int}(h:cZ l 0 f n):f=0/\n=0:=by
 rcases h with⟨_,h⟩ | ⟨_,h,_⟩ | ⟨_,_,h,_⟩ | ⟨_,_,_,h1,h2,_⟩;{exact zcc rfl h};{exact zcc h (by decide)};{exact zcc h (by decide)};{exact⟨h1,h2⟩}
theorem oX (a:o_)(l:List aj)(c:Nat)(S:Nat->Prop)(w:w_)(hs:am w S a l)(hB:∀ b,S b->b<w.heap.size)(hl:aH l<=1048576) :
  c_ 12 #[.agg #[.slice a l.length c]] w fun e w'=>∃ x f n,e=.returned (.agg #[i_ x,i_ f,i_ n])/\dM l x f n/\b_ w w':=by
 have pt:l.length<=1048576:=by unfold aH at hl;omega
 have qJ:=af hs;have gV:=af hB;have Mc:=af (zW w a l.length c);have Xt:H_ (c_ 21 #[.agg #[.slice a l.length c]] ((w.alloc (.cells #[.slice a l.length c] 28)).alloc (.cells #[i_ 0,i_ 0,i_ 0] 36)) fun e w'=>∃ x f n,e=.returned (.agg #[i_ x,i_ f,i_ n])/\cZ l x f n/\Below ((w.alloc (.cells #[.slice a l.length c] 28)).alloc (.cells #[i_ 0,i_ 0,i_ 0] 36)).heap.size ((w.alloc (.cells #[.slice a l.length c] 28)).alloc (.cells #[i_ 0,i_ 0,i_ 0] 36)) w'):=
  sA a l c S _ (hs.keep (aa Mc).old hB) (fun b h=>l_ (hB b h) (aa Mc).old.size) hl
 clear hs hB;go_enter Tryz.func12,Tryz.ntmps12;go_wp2_with fail
 refine(aa Xt).mono ?_;rintro e w1 ⟨x,f,n,rfl,fX,ar⟩;have ze:=(aa Mc).below ar;have Wp:b_ w1 (w1.alloc (.cells #[i_ x,i_ f,i_ n] 36)):=r_.alloc n_ _;have Rp:=af (ze.below Wp);have kF:=af fX;have cK:=ze.res;have r0:=cK.cell (i:=0) (by omega);have r1:=cK.cell (i:=1) (by omega);have r2:=cK.cell (i:=2) (by omega);have z0:=cK.frozen 0;have z1:=cK.frozen 1;have z2:=cK.frozen 2;have oo:=cK.lt;have k0:=ze.code;have Ma:w.heap.size<w1.heap.size:=zbd _ _ k0;clear fX ar Wp cK Xt Mc;by_cases hx:x=0;(case neg=>have Yz:(x != 0)=true:=by{simpa using hx};have BB:H_ (∀ v0 v1 v2,b_ w ((((w1.setCell (a_ (w.heap.size+1) 0) v0).setCell (a_ (w.heap.size+1) 1) v1).setCell (a_ (w.heap.size+1) 2) v2).alloc (.cells #[i_ x,i_ f,i_ n] 36))):=fun v0 v1 v2=>(dB ze.old (by omega) v0 v1 v2).alloc (by simp;omega) _;have SD:H_ (dM l x f n):=.inl ⟨kF.o,hx⟩;clear ze hx;go_wp2_with fail;exact zcd (v:=.agg #[i_ x,i_ f,i_ n]) (by simp[results,Tryz.results12,go_sem,r0,r1,r2,oo]) rfl ⟨x,f,n,rfl,SD.o,BB.o _ _ _⟩);subst hx;obtain⟨rfl,rfl⟩:=qs kF.o;clear ze;go_wp2_with fail;clear r0 r1 r2 z0 z1 z2 oo k0;go_loopg [16] l.length (fun gg i wr=>∃ q:Nat,q+gg=l.length/\i=i_ q/\Ta w a l.length c wr/\H_ (∀ g,g<q->fU l (al l g) 0 0));(case atStart=>exact⟨0,by omega,rfl,aa Rp,fun g h=>zcc h (bW _)⟩);case round=>clear Rp Ma;obtain⟨q,hq,rfl,hC,bK⟩:=hrel;have k0:=hC.code;have Ma:w.heap.size<wr.heap.size:=zbd _ _ k0;by_cases au:q<l.length;{have HC:=af hC;have WK:H_ (c_ 22 #[.agg #[.slice a l.length c],i_ q] wr (hZ l q wr)):=DS l q c a S wr ((aa qJ).keep hC.old (aa gV)) (fun b h=>l_ (aa gV b h) hC.old.size) (oa kF.o au);clear hC;go_wp2_with fail;refine(aa WK).mono ?_;rintro e w3 ⟨v,x,n,rfl,Ei,_,bU⟩;have Hs:=(aa HC).below bU;have NW:b_ w3 (w3.alloc (.cells #[i_ x,i_ (if x=0 then 0 else(q:Int)),i_ (n:Int)] 36)):=r_.alloc n_ _;have RZ:=af (Hs.below NW);have U7:=af Hs;have cK:=Hs.res;have BG:=af Ei;have r0:=cK.cell (i:=0) (by omega);have r1:=cK.cell (i:=1) (by omega);have r2:=cK.cell (i:=2) (by omega);have z0:=cK.frozen 0;have z1:=cK.frozen 1;have z2:=cK.frozen 2;have oo:=cK.lt;clear Ei bU Hs NW cK WK k0 Ma;by_cases hx:x=0;{subst hx;have NX:H_ (∀ g,g<q+1->fU l (al l g) 0 0):=fun g hg=>by{by_cases e:g=q;{subst e;have h:=BG.o;obtain⟨k,σ,h1,h2⟩:=h;have h3:=h2;rcases h2 with⟨b,h4,h5⟩ | ⟨_,h4,_⟩ | ⟨_,_,h4,_⟩;{have hk:=oa kF.o au;have hm:=xL (fun a ha=>jd (hk.u a ha) ha hk.m.1) (pS (al l g) hk.some_ hk.m.1) h1;exact zcc h5 (rp h4 (hm.b b h4.2.1).2)};{exact zcc h4 (by decide)};{subst h4;exact⟨k,σ,h1,h3⟩}};{exact bK.o g (by omega)}};rw[zca rfl]at RZ;clear r0 r1 r2 z0 z1 z2 oo;go_wp2;go_roundg (l.length-(q+1));(case measure=>omega);case rel=>exact⟨q+1,by omega,by go_num,aa RZ,NX⟩};{have Yz:(x != 0)=true:=by{simpa using hx};rw[zcb hx]at RZ;have KY:(if x=0 then 0 else(q:Int))=(q:Int):=zcb hx;rw[KY];have BB:H_ (∀ v0 v1 v2,b_ w ((((w3.setCell (a_ (w.heap.size+1) 0) v0).setCell (a_ (w.heap.size+1) 1) v1).setCell (a_ (w.heap.size+1) 2) v2).alloc (.cells #[i_ x,i_ (q:Int),i_ (n:Int)] 36))):=fun v0 v1 v2=>(dB (aa U7).old (by omega) v0 v1 v2).alloc (by have:=(aa U7).old.size;simp;omega) _;have SD:H_ (dM l x (q:Int) (n:Int)):=.inr (.inl ⟨kF.o,hx,q,n,rfl,rfl,au,BG.o,bK.o⟩);clear hx KY;go_wp2_with fail;exact zcd (v:=.agg #[i_ x,i_ (q:Int),i_ (n:Int)]) (by simp[results,Tryz.results12,go_sem,r0,r1,r2,oo]) rfl ⟨x,q,n,rfl,SD.o,BB.o _ _ _⟩}};{have fq:q=l.length:=by{omega};have cK:=hC.res;have r0:=cK.cell (i:=0) (by omega);have r1:=cK.cell (i:=1) (by omega);have r2:=cK.cell (i:=2) (by omega);have z0:=cK.frozen 0;have z1:=cK.frozen 1;have z2:=cK.frozen 2;have oo:=cK.lt;have BB:H_ (∀ v0 v1 v2,b_ w (((wr.setCell (a_ (w.heap.size+1) 0) v0).setCell (a_ (w.heap.size+1) 1) v1).setCell (a_ (w.heap.size+1) 2) v2)):=fun v0 v1 v2=>dB hC.old (by omega) v0 v1 v2;have SD:H_ (dM l 0 0 0):=.inr (.inr ⟨kF.o,rfl,rfl,rfl,fun g hg=>bK.o g (by omega)⟩);have Ru:¬((q:Int)<(l.length:Int)):=by{omega};clear cK fq hC;go_wp2_with fail;exact zcd (v:=.agg #[i_ 0,i_ 0,i_ 0]) (by simp[results,Tryz.results12,go_sem,r0,r1,r2,oo]) rfl ⟨0,0,0,rfl,SD.o,BB.o _ _ _⟩}
end Go.Proofs.YtcjfjflljdojlaaGreatDoor
namespace Go.Proofs.YtcjfjflljdojlaaGreatDoor
structure TD where
 d:List Int
 y:List Nat
 p:List Nat
 v:List (Nat×Int)
 h:Bool
def dK (reg:Nat)(kind:Int)(t:TD):TD:=⟨t.d,t.y++[reg],t.p,t.v,t.h||ba t.d reg != kind⟩
def pC (reg:Nat)(kind:Int)(t:TD):TD:=⟨t.d,t.y,t.p,t.v++[(reg,kind)],t.h⟩
def pA (reg:Nat)(t:TD):TD:=⟨t.d,t.y,t.p++[reg],t.v,t.h⟩
def gL (x kind:Int)(t:TD):TD:=
 if 0<=x then⟨t.d,t.y,t.p,t.v,t.h||ba t.d x.toNat != kind⟩
 else⟨t.d.set (-1-x).toNat 0,t.y,t.p++[(-1-x).toNat],t.v,t.h||ba t.d (-1-x).toNat != kind||t.y.contains (-1-x).toNat⟩
def dt (r:Nat)(x:Int)(t:TD):TD:=
 if r=12 then gL x 1 t
 else if r=13 then gL x 3 t
 else if r=14 then dK x.toNat 1 t
 else if r=15 then dK x.toNat 2 t
 else if r=16 then dK x.toNat 3 t
 else if r=17 then dK (x.toNat+1) 1 (dK x.toNat 1 t)
 else if r=18 then dK (x.toNat+2) 1 (dK (x.toNat+1) 1 (dK x.toNat 1 t))
 else if r=19 then pC (x.toNat+1) 1 (pA x.toNat (dK (x.toNat+1) 0 (dK x.toNat 1 t)))
 else if r=20 then pC x.toNat 1 t
 else if r=21 then pC x.toNat 2 t
 else if r=22 then pC x.toNat 3 t
 else if r=23 then pC x.toNat 0 t
 else t
def df (n:az)(t:TD):Nat->TD
 | 0=>t
 | k+1=>dt (aA n.op.toNat k) (dj n k) (df n t k)
def jo (us:List (Bool×Int))(t:TD):Nat->TD
 | 0=>t
 | k+1=>if(us[k]?.getD (false,0)).1 then dK (us[k]?.getD (false,0)).2.toNat 2 (jo us t k)else jo us t k
def fT (ps:List (Nat×Int))(ty:List Int):Nat->List Int
 | 0=>ty
 | k+1=>(fT ps ty k).set (ps[k]?.getD (0,0)).1 (ps[k]?.getD (0,0)).2
def start (ty:List Int):TD:=⟨ty,[],[],[],false⟩
def eK (l:List aj)(n:az)(ty:List Int):TD:=if n.op=11 then jo (al l n.fb.toNat).s (df n (start ty) 4) (al l n.fb.toNat).s.length else df n (start ty) 4
def fO (l:List aj)(n:az)(ty:List Int):TD:=let t:=eK l n ty;⟨fT t.v t.d t.v.length,t.y,t.p,t.v,t.h⟩
def ou (o:Option gY)(t:TD):Prop:=match o with
 | none=>t.h=true
 | some s=>t.h=false/\t.d=s.d/\t.p=s.p/\t.y=s.x
theorem wt {o:Option gY}{t:TD}{x W:Int}{q:Nat}(hq:q=2/\W=1\/q=3/\W=3)(h:ou o t):ou (o.bind fun s=>gJ q x s) (gL x W t):=by
 cases o with
 | none=>
  change t.h=true at h;show(gL x W t).h=true;unfold gL;split<;>simp[h]
 | some s=>
  obtain⟨h1,h2,h3,h4⟩:=h;show ou (gJ q x s) (gL x W t);rw[Dk hq];by_cases hx:x<0;{have ZM:¬0<=x:=by{omega};have e:eV true x=(-1-x).toNat:=by{unfold eV;rw[zca ⟨rfl,hx⟩]};rw[e,zca hx];unfold gL;rw[zcb ZM,h2,h4];by_cases c1:ba s.d (-1-x).toNat=W;{rw[zcb (fun c=>c c1)];by_cases c2:(-1-x).toNat∈s.x;{rw[zca c2];show _=true;simp[c2]};{rw[zcb c2];exact⟨by simp[h1,c1,c2],rfl,by rw[h3],rfl⟩}};{rw[zca c1];show _=true;simp[c1]}};{have ZM:0<=x:=by{omega};have e:eV true x=x.toNat:=by{unfold eV;rw[zcb (fun h=>hx h.2)]};rw[e,zcb hx];unfold gL;rw[zca ZM,h2];by_cases c1:ba s.d x.toNat=W;{rw[zcb (fun c=>c c1)];exact⟨by simp[h1,c1],rfl,h3,h4⟩};{rw[zca c1];show _=true;simp[c1]}}
theorem tP {o:Option gY}{t:TD}{x W:Int}{q:Nat}(hq:q=4/\W=1\/q=5/\W=2\/q=6/\W=3)(h:ou o t):ou (o.bind fun s=>gJ q x s) (dK x.toNat W t):=by
 cases o with
 | none=>
  change t.h=true at h;show(dK x.toNat W t).h=true;simp[dK,h]
 | some s=>
  obtain⟨h1,h2,h3,h4⟩:=h;show ou (gJ q x s) (dK x.toNat W t);by_cases c1:ba s.d x.toNat=W;{rw[wM hq c1];exact⟨by simp[dK,h1,h2,c1],h2,h3,by simp[dK,h4]⟩};{have hw:cM q=(W,false):=by{rcases hq with⟨rfl,rfl⟩ | ⟨rfl,rfl⟩ | ⟨rfl,rfl⟩<;>rfl};have hW0:W≠0:=by{rcases hq with⟨_,rfl⟩ | ⟨_,rfl⟩ | ⟨_,rfl⟩<;>decide};rw[pJ hw hW0 (by unfold eV;rw[zcb (fun h=>Bool.noConfusion h.1)];exact c1)];show _=true;simp[dK,h2,c1]}
theorem G7 {o:Option gY}{t t':TD}{x:Int}{q:Nat}(hq:(cM q).1=0)(ht:t'.h=t.h/\t'.d=t.d/\t'.p=t.p/\t'.y=t.y)(h:ou o t):ou (o.bind fun s=>gJ q x s) t':=by
 obtain⟨e1,e2,e3,e4⟩:=ht;cases o with
 | none=>show t'.h=true;rw[e1];exact h
 | some s=>
  show ou (gJ q x s) t';rw[pV hq];obtain⟨h1,h2,h3,h4⟩:=h;exact⟨e1.trans h1,e2.trans h2,e3.trans h3,e4.trans h4⟩
theorem Cz {o:Option gY}{t:TD}{x:Int}{r:Nat}(hr:r<=23)(h17:r≠17/\r≠18/\r≠19)(h:ou o t):ou (o.bind fun s=>gJ (iy r) x s) (dt r x t):=by
 have hc:r=0\/r=1\/r=2\/r=3\/r=4\/r=5\/r=6\/r=7\/r=8\/r=9\/r=10\/r=11\/r=12\/r=13\/r=14\/r=15\/r=16\/r=20\/r=21\/r=22\/r=23:=by{omega};rcases hc with rfl | rfl | rfl | rfl | rfl | rfl | rfl | rfl | rfl | rfl | rfl | rfl | rfl | rfl | rfl | rfl | rfl | rfl | rfl | rfl | rfl
 all_goals first
  | exact G7 (by decide) ⟨rfl,rfl,rfl,rfl⟩ h
  | exact wt (.inl ⟨rfl,rfl⟩) h
  | exact wt (.inr ⟨rfl,rfl⟩) h
  | exact tP (.inl ⟨rfl,rfl⟩) h
  | exact tP (.inr (.inl ⟨rfl,rfl⟩)) h
  | exact tP (.inr (.inr ⟨rfl,rfl⟩)) h
def iM (o:Option gY)(t:TD):Prop:=match o with
 | none=>t.h=true
 | some s=>t.h=false/\t.d=s.d/\t.p=s.p
theorem ou.weak {o:Option gY}{t:TD}(h:ou o t):iM o t:=by
 cases o with
 | none=>exact h
 | some s=>exact⟨h.1,h.2.1,h.2.2.1⟩
theorem mM {r:List Nat}{n:az}{s:gY}{k:Nat}:aW r n s (k+1)=(aW r n s k).bind fun s'=>gJ (r[k]?.getD 0) (dj n k) s':=by
 show(match aW r n s k with | none=>none | some s'=>gJ (r[k]?.getD 0) (dj n k) s')=_;cases aW r n s k<;>rfl
def tE (op:Nat):List Nat:=[iy (aA op 0),iy (aA op 1),iy (aA op 2),iy (aA op 3)]
theorem qZ (op k:Nat)(hk:k<4):(tE op)[k]?.getD 0=iy (aA op k):=by
 have hc:k=0\/k=1\/k=2\/k=3:=by{omega};rcases hc with rfl | rfl | rfl | rfl<;>rfl
def pB (op:Nat):Bool:=(List.range 4).all fun k=>decide (aA op k≠17/\aA op k≠18/\aA op k≠19)
theorem GV:∀ op,op<43->op=37\/op=38\/op=39\/op=40\/op=41\/pB op=true:=by decide
theorem Ft (op:Nat)(h:op<43)(h1:op≠37)(h2:op≠38)(h3:op≠39)(h4:op≠40)(h5:op≠41):pB op=true:=by
 rcases GV op h with e | e | e | e | e | e;{exact zcc e h1};{exact zcc e h2};{exact zcc e h3};{exact zcc e h4};{exact zcc e h5};{exact e}
theorem GQ {op k:Nat}(h:pB op=true)(hk:k<4):aA op k≠17/\aA op k≠18/\aA op k≠19:=by
 unfold pB at h;rw[List.all_eq_true]at h;have:=h k (List.mem_range.2 hk);simpa using this
theorem DC (ty:List Int):ou (some ⟨ty,[],[]⟩) (start ty):=⟨rfl,rfl,rfl,rfl⟩
theorem rS {n:az}{op:Nat}(ho:n.op=(op:Int))(mi:op<43)(hp:pB op=true)(ty:List Int):∀ k,k<=4->ou (aW (tE op) n ⟨ty,[],[]⟩ k) (df n (start ty) k)
 | 0,_=>DC ty
 | k+1,hk=>by
  rw[mM,qZ op k (by omega)];show ou _ (dt (aA n.op.toNat k) (dj n k) (df n (start ty) k));rw[ho,Int.toNat_natCast];exact Cz (fF op mi k (by omega)) (GQ hp (by omega)) (rS ho mi hp ty k (by omega))
theorem Ce {o:Option gY}{t t':TD}{x:Int}{q:Nat}(hq:(cM q).1=0)(ht:t'.h=t.h/\t'.d=t.d/\t'.p=t.p)(h:iM o t):iM (o.bind fun s=>gJ q x s) t':=by
 obtain⟨e1,e2,e3⟩:=ht;cases o with
 | none=>show t'.h=true;rw[e1];exact h
 | some s=>
  show iM (gJ q x s) t';rw[pV hq];obtain⟨h1,h2,h3⟩:=h;exact⟨e1.trans h1,e2.trans h2,e3.trans h3⟩
theorem AF {r:Nat}{x:Int}{t:TD}(hr:r<=11\/20<=r)(h23:r<=23):(cM (iy r)).1=0/\(dt r x t).h=t.h/\(dt r x t).d=t.d/\(dt r x t).p=t.p:=by
 have hc:r=0\/r=1\/r=2\/r=3\/r=4\/r=5\/r=6\/r=7\/r=8\/r=9\/r=10\/r=11\/r=20\/r=21\/r=22\/r=23:=by{omega};rcases hc with rfl | rfl | rfl | rfl | rfl | rfl | rfl | rfl | rfl | rfl | rfl | rfl | rfl | rfl | rfl | rfl<;>exact⟨by decide,rfl,rfl,rfl⟩
def Kg (op:Nat):Bool:=(List.range 3).all fun k=>decide (aA op (k+1)<=11\/20<=aA op (k+1))
theorem Nm {op k:Nat}(h:Kg op=true)(hk:k<3):aA op (k+1)<=11\/20<=aA op (k+1):=by
 unfold Kg at h;rw[List.all_eq_true]at h;have:=h k (List.mem_range.2 hk);simpa using this
theorem AO {n:az}{op:Nat}(ho:n.op=(op:Int))(ty:List Int)(hr:aA op 0=17\/aA op 0=18\/aA op 0=19):iM (aW (tE op) n ⟨ty,[],[]⟩ 1) (df n (start ty) 1):=by
 rw[mM,qZ op 0 (by omega)];show iM (gJ (iy (aA op 0)) (dj n 0) ⟨ty,[],[]⟩) (dt (aA n.op.toNat 0) (dj n 0) (start ty));rw[ho,Int.toNat_natCast];generalize dj n 0=x;have bad:∀ q,cM q=(1,false)->ba ty x.toNat≠1->gJ q x ⟨ty,[],[]⟩=none:=fun q hq h=>pJ hq (by decide) (by unfold eV;rw[zcb (fun h=>Bool.noConfusion h.1)];exact h);by_cases c0:ba ty x.toNat=1
 {rcases hr with e | e | e;{rw[e];show iM (gJ 20 x ⟨ty,[],[]⟩) (dK (x.toNat+1) 1 (dK x.toNat 1 (start ty)));rw[IX c0];by_cases c1:ba ty (x.toNat+1)=1;{rw[zcb (fun c=>c c1)];exact⟨by simp[dK,start,c0,c1],rfl,rfl⟩};{rw[zca c1];show _=true;simp[dK,start,c1]}};{rw[e];show iM (gJ 18 x ⟨ty,[],[]⟩) (dK (x.toNat+2) 1 (dK (x.toNat+1) 1 (dK x.toNat 1 (start ty))));rw[JE c0];by_cases c1:ba ty (x.toNat+1)=1;{rw[zcb (fun c=>c c1)];by_cases c2:ba ty (x.toNat+2)=1;{rw[zcb (fun c=>c c2)];exact⟨by simp[dK,start,c0,c1,c2],rfl,rfl⟩};{rw[zca c2];show _=true;simp[dK,start,c2]}};{rw[zca c1];show _=true;simp[dK,start,c1]}};{rw[e];show iM (gJ 19 x ⟨ty,[],[]⟩) (pC (x.toNat+1) 1 (pA x.toNat (dK (x.toNat+1) 0 (dK x.toNat 1 (start ty)))));rw[I7 c0];by_cases c1:ba ty (x.toNat+1)=0;{rw[zcb (fun c=>c c1)];exact⟨by simp[dK,pC,pA,start,c0,c1],rfl,rfl⟩};{rw[zca c1];show _=true;simp[dK,pC,pA,start,c1]}}};{rcases hr with e | e | e;{rw[e];show iM (gJ 20 x ⟨ty,[],[]⟩) (dK (x.toNat+1) 1 (dK x.toNat 1 (start ty)));rw[bad 20 rfl c0];show _=true;simp[dK,start,c0]};{rw[e];show iM (gJ 18 x ⟨ty,[],[]⟩) (dK (x.toNat+2) 1 (dK (x.toNat+1) 1 (dK x.toNat 1 (start ty))));rw[bad 18 rfl c0];show _=true;simp[dK,start,c0]};{rw[e];show iM (gJ 19 x ⟨ty,[],[]⟩) (pC (x.toNat+1) 1 (pA x.toNat (dK (x.toNat+1) 0 (dK x.toNat 1 (start ty)))));rw[bad 19 rfl c0];show _=true;simp[dK,pC,pA,start,c0]}}
theorem wG {n:az}{op:Nat}(ho:n.op=(op:Int))(mi:op<43)(hb:Kg op=true)(ty:List Int)(hr:aA op 0=17\/aA op 0=18\/aA op 0=19):∀ k,k<=3->iM (aW (tE op) n ⟨ty,[],[]⟩ (k+1)) (df n (start ty) (k+1))
 | 0,_=>AO ho ty hr
 | k+1,hk=>by
  rw[mM,qZ op (k+1) (by omega)];show iM _ (dt (aA n.op.toNat (k+1)) (dj n (k+1)) (df n (start ty) (k+1)));rw[ho,Int.toNat_natCast];obtain⟨e1,e2⟩:=AF (x:=dj n (k+1)) (t:=df n (start ty) (k+1)) (Nm hb (k:=k) (by omega)) (fF op mi (k+1) (by omega));exact Ce e1 e2 (wG ho mi hb ty hr k (by omega))
theorem xV {n:az}{op:Nat}(ho:n.op=(op:Int))(mi:op<43)(ty:List Int):iM (aW (tE op) n ⟨ty,[],[]⟩ 4) (df n (start ty) 4):=by
 by_cases c:op≠37/\op≠38/\op≠39/\op≠40/\op≠41;{exact(rS ho mi (Ft op mi c.1 c.2.1 c.2.2.1 c.2.2.2.1 c.2.2.2.2) ty 4 n_).weak};{have hc:op=37\/op=38\/op=39\/op=40\/op=41:=by{omega};rcases hc with rfl | rfl | rfl | rfl | rfl;all_goals exact wG ho mi (by decide) ty (by decide) 3 n_}
theorem i9 (us:List (Bool×Int))(t:TD):∀ k,(jo us t k).v=t.v/\(jo us t k).d=t.d/\(jo us t k).p=t.p
 | 0=>⟨rfl,rfl,rfl⟩
 | k+1=>by
  obtain⟨h1,h2,h3⟩:=i9 us t k;show(if _ then _ else _:TD).v=_/\(if _ then _ else _:TD).d=_/\(if _ then _ else _:TD).p=_;split
  ·exact⟨h1,h2,h3⟩
  ·exact⟨h1,h2,h3⟩
theorem pf (us:List (Bool×Int))(t:TD):∀ k,k<=us.length->((jo us t k).h=true↔t.h=true\/((us.take k).any fun u=>u.1&&ba t.d u.2.toNat != 2)=true)
 | 0,_=>by simp[jo]
 | k+1,hk=>by
  have ih:=pf us t k (by omega);have ht:=(i9 us t k).2.1;have hg:us[k]? = some us[k]:=g_ (by omega);have e:us[k]?.getD (false,0)=us[k]:=by rw[hg];rfl
  show(if(us[k]?.getD (false,0)).1 then dK (us[k]?.getD (false,0)).2.toNat 2 (jo us t k)else jo us t k).h=true↔_;rw[e,List.take_add_one,hg,List.any_append];cases c:us[k].1
  ·rw[zcb (by simp)];simp[ih,c]
  ·rw[zca rfl];simp[dK,ht,ih,c,or_assoc]
theorem rY {l:List aj}{n:az}(h1:1<=n.op)(h2:n.op<=42)(ty:List Int):iM (bH l n ty) (eK l n ty):=by
 obtain⟨op,ho⟩:∃ op:Nat,n.op=op:=⟨n.op.toNat,by omega⟩;have mi:op<43:=by omega
 have hr:bh n.op=some (tE op):=by{rw[ho];exact kW op mi (by omega)};have hf:=xV ho mi ty;unfold bH eK;rw[hr];simp only[Option.getD_some];cases e:aW (tE op) n ⟨ty,[],[]⟩ 4 with
 | none=>
  rw[e]at hf;have hf:(df n (start ty) 4).h=true:=hf;show iM none _;show _=true;split;{rw[(pf _ _ _ n_)];exact .inl hf};{exact hf}
 | some s=>
  rw[e]at hf;obtain⟨f1,f2,f3⟩:=hf;show iM (if _ then none else some s) _;by_cases c:n.op=11
  ·rw[zca c];obtain⟨g1,g2,g3⟩:=i9 (al l n.fb.toNat).s (df n (start ty) 4) (al l n.fb.toNat).s.length;have hw:=pf (al l n.fb.toNat).s (df n (start ty) 4) _ n_;rw[List.take_length,f2]at hw;by_cases cu:((al l n.fb.toNat).s.any fun u=>u.1&&ba s.d u.2.toNat != 2)=true;{rw[zca ⟨c,cu⟩];exact hw.2 (.inr cu)}
   ·rw[zcb (fun h=>cu h.2)];refine⟨?_,g2.trans f2,g3.trans f3⟩;cases e2:(jo (al l n.fb.toNat).s (df n (start ty) 4) (al l n.fb.toNat).s.length).h with
    | false=>rfl
    | true=>
     rcases hw.1 e2 with h | h;{rw[f1]at h;cases h};{exact zcc h cu}
  {rw[zcb c,zcb (fun h=>c h.1)];exact⟨f1,f2,f3⟩}
def fG (r:Nat)(x:Int):List (Nat×Int):=if r=19 then[(x.toNat+1,1)]else if r=20 then[(x.toNat,1)]else if r=21 then[(x.toNat,2)]else if r=22 then[(x.toNat,3)]else if r=23 then[(x.toNat,0)]else[]
theorem Cf (x k:Int)(t:TD):(gL x k t).v=t.v:=by unfold gL;split<;>rfl
theorem kA {r:Nat}(hr:r<=23)(x:Int)(t:TD):(dt r x t).v=t.v++fG r x:=by
 have hc:r=0\/r=1\/r=2\/r=3\/r=4\/r=5\/r=6\/r=7\/r=8\/r=9\/r=10\/r=11\/r=12\/r=13\/r=14\/r=15\/r=16\/r=17\/r=18\/r=19\/r=20\/r=21\/r=22\/r=23:=by{omega};rcases hc with rfl | rfl | rfl | rfl | rfl | rfl | rfl | rfl | rfl | rfl | rfl | rfl | rfl | rfl | rfl | rfl | rfl | rfl | rfl | rfl | rfl | rfl | rfl | rfl;all_goals simp[dt,fG,Cf,dK,pC,pA]
theorem pN {n:az}{op:Nat}(ho:n.op=(op:Int))(mi:op<43)(t:TD):(df n t 4).v=t.v++fG (aA op 0) n.fa++fG (aA op 1) n.fb++fG (aA op 2) n.fc++fG (aA op 3) n.fd:=by
 show(dt (aA n.op.toNat 3) (dj n 3) (dt (aA n.op.toNat 2) (dj n 2) (dt (aA n.op.toNat 1) (dj n 1) (dt (aA n.op.toNat 0) (dj n 0) t)))).v=_;rw[ho,Int.toNat_natCast,kA (fF op mi 3 (by omega)),kA (fF op mi 2 (by omega)),kA (fF op mi 1 (by omega)),kA (fF op mi 0 (by omega))];rfl
theorem DH {n:az}{op:Nat}(ho:n.op=(op:Int))(mi:op<43)(h1:1<=op)(ty:List Int)(ps:List (Nat×Int))(hps:ps=fG (aA op 0) n.fa++fG (aA op 1) n.fb++fG (aA op 2) n.fc++fG (aA op 3) n.fd):fT ps ty ps.length=bg n ty:=by
 obtain⟨nop,fa,fb,fc,fd⟩:=n;simp only at ho;subst ho;subst hps;have hc:op=1\/op=2\/op=3\/op=4\/op=5\/op=6\/op=7\/op=8\/op=9\/op=10\/op=11\/op=12\/op=13\/op=14\/op=15\/op=16\/op=17\/op=18\/op=19\/op=20\/op=21\/op=22\/op=23\/op=24\/op=25\/op=26\/op=27\/op=28\/op=29\/op=30\/op=31\/op=32\/op=33\/op=34\/op=35\/op=36\/op=37\/op=38\/op=39\/op=40\/op=41\/op=42:=by{omega};rcases hc with rfl | rfl | rfl | rfl | rfl | rfl | rfl | rfl | rfl | rfl | rfl | rfl | rfl | rfl | rfl | rfl | rfl | rfl | rfl | rfl | rfl | rfl | rfl | rfl | rfl | rfl | rfl | rfl | rfl | rfl | rfl | rfl | rfl | rfl | rfl | rfl | rfl | rfl | rfl | rfl | rfl | rfl;all_goals rfl
end Go.Proofs.YtcjfjflljdojlaaGreatDoor
