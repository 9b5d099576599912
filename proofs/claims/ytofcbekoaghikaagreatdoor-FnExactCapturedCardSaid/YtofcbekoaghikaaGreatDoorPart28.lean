import Derived.Test.YtofcbekoaghikaaGreatDoorPart27
import Derived.Test.YtofcbekoaghikaaGreatDoorPart26
set_option linter.unusedSimpArgs false
set_option linter.unusedVariables false
set_option maxHeartbeats 16000000
set_option maxRecDepth 100000
namespace Go.Proofs.YtofcbekoaghikaaGreatDoor
open Go.RowKit
attribute [local go_sem] run_store_float
theorem letSum_same {C D:VC}(hl:C.l=D.l)(hf:C.f=D.f)(v n:Nat):∀ i,letSum C n i v=letSum D n i v
 | 0=>rfl
 | i+1=>by
  have ih:=letSum_same hl hf v n i;unfold letSum letOf kindN refsN kidN VC.x;rw[ih,hl,hf]
theorem scAt_same {C D:VC}(hl:C.l=D.l)(hf:C.f=D.f)(v n y:Nat):scAt C v n y=scAt D v n y:=by
 unfold scAt;rw[letSum_same hl hf];unfold kindN nkidN refsN VC.x;rw[hl,hf]
theorem lpAt_same {C D:VC}(hl:C.l=D.l)(hf:C.f=D.f)(n y:Nat):lpAt C n y=lpAt D n y:=by
 unfold lpAt kindN nkidN VC.x;rw[hl,hf]
theorem cxOf_same {C D:VC}(hl:C.l=D.l)(hf:C.f=D.f):cxOf C=cxOf D:=by
 have h1:scAt C=scAt D:=by funext v n y;exact scAt_same hl hf v n y
 have h2:lpAt C=lpAt D:=by funext n y;exact lpAt_same hl hf n y
 have hx:C.x=D.x:=by unfold VC.x;rw[hl,hf]
 unfold cxOf;rw[h1,h2,hx]
theorem fnBad_same {C D:VC}(hl:C.l=D.l)(hf:C.f=D.f)(hm:C.M=D.M)(c:Int)(p:Nat):FnBad C c p↔FnBad D c p:=by
 have hx:C.x=D.x:=by unfold VC.x;rw[hl,hf]
 have h1:∀(s:VS) r,inSc C s r=inSc D s r:=fun s r=>by unfold inSc isVar;rw[hx]
 have h2:∀(s:VS) us,upsFits C s us=upsFits D s us:=fun s us=>by
  unfold upsFits
  congr 1
  funext i
  unfold upFits;rw[h1,hx]
 unfold FnBad bad kindN;rw[cxOf_same hl hf,h1,h2,hx,hl,hf,hm]
def FBadK (l:List FnD)(k:Nat)(c f p:Int):Prop:=∃ F P:Nat,f=F/\p=P/\F<k/\P<(fnD l F).nodes.length/\FnBad (vc0 l F) c P
theorem fbadK_next {l:List FnD}{C:VC}(hl:C.l=l)(hm:C.M=mkV l)(hF:FnOk C)(c f p:Int) :
  FBadK l (C.f+1) c f p↔((FBadK l C.f c f p\/(c=6/\f=C.f/\∃ q:Nat,p=q/\DeclFirst C.x q))\/Tr C (cxOf C) (C.x.nodes.length-1) c f p):=by
 have hx:C.x=fnD l C.f:=by unfold VC.x;rw[hl]
 have same:∀ c q,FnBad C c q↔FnBad (vc0 l C.f) c q:=fun c q=>fnBad_same (D:=vc0 l C.f) hl rfl hm c q;rw[hF.tr_all];constructor
 ·rintro⟨F,P,rfl,rfl,hFk,hP,hb⟩;by_cases e:F=C.f
  ·subst e;rcases(same c P).2 hb with q | ⟨q1,q2⟩
   ·exact .inr ⟨rfl,P,rfl,by rw[hx];exact hP,q⟩
   ·exact .inl (.inr ⟨q1,rfl,P,rfl,q2⟩)
  ·exact .inl (.inl ⟨F,P,rfl,rfl,by omega,hP,hb⟩)
 ·rintro((⟨F,P,rfl,rfl,hFk,hP,hb⟩ | ⟨rfl,rfl,q,rfl,hd⟩) | ⟨rfl,q,rfl,hq,hb⟩)
  ·exact⟨F,P,rfl,rfl,by omega,hP,hb⟩
  ·exact⟨C.f,q,rfl,rfl,by omega,by rw[<-hx];exact hd.1,(same 6 q).1 (.inr ⟨rfl,hd⟩)⟩
  ·exact⟨C.f,q,rfl,rfl,by omega,by rw[<-hx];exact hq,(same c q).1 (.inl hb)⟩
theorem fbadK_none {l:List FnD}(c f p:Int):¬FBadK l 0 c f p:=fun⟨_,_,_,_,h,_⟩=>absurd h (Nat.not_lt_zero _)
theorem fbadK_all {l:List FnD}(c f p:Int):FBad l c f p↔FBadK l l.length c f p:=Iff.rfl
structure TrW (w:World)(a:Option Addr)(nl c bm L:Nat)(M:Int->Option Value)(x y z:Int)(wr:World):Prop where
 box:Box2 w a nl c wr
 m:MapI wr bm M
 r:wr.rowIs L 39 3 (fun j=>.int .i64 (if j=0 then x else if j=1 then y else z))
 n1:w.heap.size+2<=L
 n2:w.heap.size+2<=bm
 n3:L≠bm
section
variable {w:World} {a:Option Addr} {nl c bm L:Nat} {M:Int->Option Value} {x y z:Int} {wr w2:World}
theorem TrW.below (h:TrW w a nl c bm L M x y z wr)(hb:Below wr.heap.size wr w2):TrW w a nl c bm L M x y z w2:=
 {h with box:=h.box.below' hb,m:=h.m.keep hb h.m.lt,r:=h.r.of_block (hb.block _ h.r.lt) }
theorem TrW.alloc (h:TrW w a nl c bm L M x y z wr)(o:Obj):TrW w a nl c bm L M x y z (wr.alloc o):=h.below ((Below.refl _ _).alloc (Nat.le_refl _) o)
theorem TrW.but {T:Nat->Prop}{B:Nat}(h:TrW w a nl c bm L M x y z wr)(hb:ButS T wr.heap.size wr w2)(hT:∀ k,T k->B<=k)(hL:L<B)(hm:bm<B):TrW w a nl c bm L M x y z w2:=
 {h with
  box:=⟨{ os:=hb.os.trans h.box.below.os,tape:=hb.tape.trans h.box.below.tape,output:=hb.output.trans h.box.below.output,size:=Nat.le_trans h.box.below.size hb.size,block:=fun k hk=>(hb.block k (Nat.lt_of_lt_of_le hk h.box.size) (fun t=>by have:=hT k t;have:=h.n1;omega)).trans (h.box.below.block k hk) }⟩
  m:=h.m.block (hb.block _ h.m.lt (fun t=>by have:=hT _ t;omega))
  r:=h.r.of_block (hb.block _ h.r.lt (fun t=>by have:=hT _ t;omega)) }
theorem TrW.set (h:TrW w a nl c bm L M x y z wr)(x' y' z':Int):TrW w a nl c bm L M x' y' z' (((wr.setCell ⟨L,0,none⟩ (.int .i64 x')).setCell ⟨L,1,none⟩ (.int .i64 y')).setCell ⟨L,2,none⟩ (.int .i64 z')):=
 {h with
  box:=⟨((h.box.below.setCell h.n1 _).setCell h.n1 _).setCell h.n1 _⟩
  m:=h.m.block ((Below.heap_setCell _ ⟨L,2,none⟩ _ _ (fun e=>h.n3 e.symm)).trans ((Below.heap_setCell _ ⟨L,1,none⟩ _ _ (fun e=>h.n3 e.symm)).trans (Below.heap_setCell _ ⟨L,0,none⟩ _ _ (fun e=>h.n3 e.symm))))
  r:=(((h.r.set 0 _).set 1 _).set 2 _).congr fun i hi=>by
   match i,hi with
   | 0,_=>rfl | 1,_=>rfl | 2,_=>rfl | n+3,h=>exact absurd h (by omega) }
theorem TrW.c0 (h:TrW w a nl c bm L M x y z wr):wr.cell? ⟨L,0,none⟩=some (.int .i64 x):=h.r.cell (i:=0) (by omega)
theorem TrW.c1 (h:TrW w a nl c bm L M x y z wr):wr.cell? ⟨L,1,none⟩=some (.int .i64 y):=h.r.cell (i:=1) (by omega)
theorem TrW.c2 (h:TrW w a nl c bm L M x y z wr):wr.cell? ⟨L,2,none⟩=some (.int .i64 z):=h.r.cell (i:=2) (by omega)
end
theorem checkTrees_any (a:Option Addr)(l:List FnD)(c:Nat)(S:Nat->Prop)(w:World)(hs:FnsAt w S a l)(hB:∀ b,S b->b<w.heap.size)(hsh:Shaped l)(hpar:NoBad l (parentBad l))(hr:∀ f p,(nd (fnD l f).nodes p).refs.length<=1048576) :
  Calls Tryz.prog 51 #[.agg #[.slice a l.length c]] w fun e w'=>∃ x f n:Int,e=.returned (.agg #[.int .i64 x,.int .i64 f,.int .i64 n])/\TreesSaid l x f n/\Below w.heap.size w w':=by
 have hn:=hs.1;have hone:∀ f p,f<l.length->p<(fnD l f).nodes.length->(nd (fnD l f).nodes p).kind=36->0<(nd (fnD l f).nodes p).refs.length:=fun f p h1 h2 h3=>by
  have:=hsh.ref1 h1 h2 (.inr (.inr h3));omega
 have HSH:=hide hsh;have HPAR:=hide hpar;have HR:=hide hr;have HS:=hide hs;have HB:=hide hB;have X0:Hid (Box2 w a l.length c (box2 w a l.length c)):=Box2.start w a l.length c;have MK:Hid (Calls Tryz.prog 70 #[.agg #[.slice a l.length c]] (box2 w a l.length c) fun e w'=>∃ b,e=.returned (.map (some b))/\MapI w' b (mkV l)/\(box2 w a l.length c).heap.size<=b/\Below (box2 w a l.length c).heap.size (box2 w a l.length c) w'):=
  makers_any a l c S _ (hs.keep (box2_below w a l.length c) hB) (fun b h=>Nat.lt_of_lt_of_le (hB b h) (box2_below w a l.length c).size) hone
 clear hs hB hsh hpar hr hone;go_enter Tryz.func51,Tryz.ntmps51;go_wp2_with fail
 refine(unhide MK).mono ?_;rintro e w1 ⟨bm,rfl,hM1,hbm,hb1⟩;have W0:Hid (TrW w a l.length c bm w1.heap.size (mkV l) 0 0 0 (w1.alloc (.cells #[.int .i64 0,.int .i64 0,.int .i64 0] 39))):=
  {box:=((unhide X0).below' hb1).alloc _
   m:=hM1.block (Below.heap_alloc w1 _ _ hM1.lt)
   r:=World.rowIs_alloc w1 #[.int .i64 0,.int .i64 0,.int .i64 0] 39 _ (fun i hi=>by
    match i,hi with
    | 0,_=>rfl | 1,_=>rfl | 2,_=>rfl | n+3,h=>exact absurd h (by simp))
   n1:=by have:=((unhide X0).below' hb1).size;omega
   n2:=by rw[box2_size]at hbm;exact hbm
   n3:=by have:=hM1.lt;omega }
 have u1:=(unhide W0).box.unit;have L0:Hid (Least (FBadK l 0) ⟨fun _=>0,0,0,0,0,0⟩):=.inl ⟨rfl,rfl,rfl,fbadK_none⟩;clear hM1 hbm hb1 MK X0;generalize hLL:w1.heap.size=L at *;go_wp2_with fail
 go_loopg [14] l.length (fun g i wr=>∃(k:Nat),k+g=l.length/\i=.int .i64 k/\∃ s:VS,TrW w a l.length c bm L (mkV l) s.lc s.lf s.ln wr/\Hid (Least (FBadK l k) s))
 case atStart=>exact⟨0,by omega,rfl,_,unhide W0,L0⟩
 case round=>
  clear u1 W0 L0;obtain⟨f,hk,rfl,s,hw,hL⟩:=hrel;have hx:=hw.box;have u0:=hx.unit;by_cases hlt:f<l.length
  ·obtain⟨b,off,rfl,hb,hcc⟩:=((unhide HS).keep hx.old (unhide HB)).2 (by omega);have N:FnCells wr S b (off+f * 7) (fnD l f):=hcc f hlt;have HBr:Hid (∀ b,S b->b<wr.heap.size):=fun b h=>Nat.lt_of_lt_of_le (unhide HB b h) hx.old.size;have HFS:Hid (FnsAt wr S (some ⟨b,off,none⟩) l):=(unhide HS).keep hx.old (unhide HB);have HEAD:=hide ((unhide HSH).head hlt);have HPOS:=hide ((unhide HSH).pos hlt);clear hcc;obtain⟨x,hxe⟩:∃ x,x=fnD l f:=⟨_,rfl⟩;have HXE:=hide hxe;rw[<-hxe]at N HEAD HPOS;clear hxe;obtain⟨va,vc,hv,hvI⟩:=N.vars;obtain⟨ua,uc,hu,huI⟩:=N.ups;obtain⟨na,nc,hno,hnI⟩:=N.nodes;have c0:=N.name;have c1:=N.line;have c2:=N.params;have c3:=N.rest;have hnl:=hnI.1;obtain⟨nm,ln,pr,rs,vars,ups,ns⟩:=x;simp only at *;clear N hvI huI hnI;have hnp:1<=ns.length:=unhide HPOS;obtain⟨m,hm⟩:∃ m,ns.length=m+1:=⟨ns.length-1,by omega⟩;rw[hm]at hno;have hml:m+1<=9223372036854775807:=by omega
   have HM:=hide hm;clear hm hnl hnp;obtain⟨wo,hwo⟩:∃ wo,wo=wr.alloc (.cells #[.string nm,.int .i64 ln,.int .i64 pr,.bool rs,.slice va vars.length vc,.slice ua ups.length uc,.slice na (m+1) nc] 54):=⟨_,rfl⟩;have HWO:=hide hwo;have TW:Hid (TrW w (some ⟨b,off,none⟩) l.length c bm L (mkV l) s.lc s.lf s.ln wo):=by show TrW _ _ _ _ _ _ _ _ _ _ _;rw[hwo];exact hw.alloc _
   have uo:wo.cell? ⟨w.heap.size,0,none⟩=some (.slice (some ⟨b,off,none⟩) l.length c):=(unhide TW).box.unit;have f6:Hid (wo.cell? ⟨wr.heap.size,6,none⟩=some (.slice na (m+1) nc)):=by show _=_;rw[hwo];simp[go_sem]
   have hbf:wr.heap.size<wo.heap.size:=by rw[hwo];simp
   have NV:Hid (Calls Tryz.prog 71 #[.agg #[.slice (some ⟨b,off,none⟩) l.length c],.int .i64 f,.map (some bm)] wo (NewVis l f (mkV l) wo)):=
    newVisitor_any _ l c f bm (mkV l) S wo ((unhide HFS).same (by rw[hwo];exact(Same.refl).alloc (unhide HBr) _)) (fun b h=>Nat.lt_trans (unhide HBr b h) hbf) hlt (unhide TW).m (by have h:=(unhide HEAD).1;rw[<-HXE.out];exact h) (by have h:=(unhide HEAD).2.2.1;rw[<-HXE.out];exact h) (by have h:=(unhide HEAD).2.2.2;rw[<-HXE.out];exact h)
   have NV2:Hid (Calls Tryz.prog 71 #[.agg #[.slice (some ⟨b,off,none⟩) l.length c],.int .i64 f,.map (some bm)] (wr.alloc (.cells #[.string nm,.int .i64 ln,.int .i64 pr,.bool rs,.slice va vars.length vc,.slice ua ups.length uc,.slice na (m+1) nc] 54)) (NewVis l f (mkV l) wo)):=by
    show Calls _ _ _ _ _;rw[<-HWO.out];exact unhide NV
   have hszw:w.heap.size<wr.heap.size:=by have:=hx.size;omega
   clear hw hx uo hwo NV;go_wp2_with fail
   refine(unhide NV2).mono ?_;rintro e w2 ⟨C,rfl,hCl,hCf,hCM,hvb,hsb,hV,hB2⟩;have HC:Hid (C.l=l/\C.f=f/\C.M=mkV l):=⟨hCl,hCf,hCM⟩;have HFN:Hid (FnOk C):=fnOk_of (by rw[hCl];exact unhide HSH) (by rw[hCl];exact unhide HPAR) (by rw[hCl,hCf];exact hlt) (by rw[hCl];exact unhide HR);have T2:=hide ((unhide TW).below hB2);have l0:=(unhide T2).c0;have l1:=(unhide T2).c1;have l2:=(unhide T2).c2;have v14:=hV.c14;have v15:=hV.c15;have v16:=hV.c16;have z14:=hV.v.frozen 14;have z15:=hV.v.frozen 15;have z16:=hV.v.frozen 16;have HLB:Hid (L<wo.heap.size/\bm<wo.heap.size):=⟨(unhide TW).r.lt,(unhide TW).m.lt⟩;have HT:Hid (∀ k,C.T k->wo.heap.size<=k):=fun k t=>t.elim (fun e=>by rw[e];exact hvb) (fun e=>by rw[e];exact hsb);have HV3:=hide (setCell3_vis hV s.lc s.lf s.ln);have HB3:Hid (ButS C.T w2.heap.size w2 (((w2.setCell ⟨C.vb,14,none⟩ (.int .i64 s.lc)).setCell ⟨C.vb,15,none⟩ (.int .i64 s.lf)).setCell ⟨C.vb,16,none⟩ (.int .i64 s.ln))):=setCell3_but (ButS.refl _ _ _) _ _ _;have hXX:Hid (C.x=fnD l f):=by show _=_;unfold VC.x;rw[hCl,hCf]
   have DE:=hide (declarations_any C { vs0 C with lc:=s.lc,lf:=s.lf,ln:=s.ln } _ (FBadK l f) (unhide HV3) (unhide HFN) (hL.out.congr (fun _ _ _=>Iff.rfl) rfl rfl rfl) (by rw[hXX.out,<-HXE.out];exact(unhide HEAD).2.2.1) (by rw[hXX.out,<-HXE.out];exact(unhide HEAD).2.2.2));have f62:Hid (w2.cell? ⟨wr.heap.size,6,none⟩=some (.slice na (m+1) nc)):=(hB2.cell (p:=⟨wr.heap.size,6,none⟩) hbf).trans (unhide f6);have hwr2:wr.heap.size<w2.heap.size:=Nat.lt_of_lt_of_le hbf hB2.size;have HWT:Hid (¬C.T wr.heap.size):=fun t=>by have:=unhide HT _ t;omega
   clear hCl hCf hCM hvb hsb hV hB2 NV2 hL;go_wp2_with fail
   refine(unhide DE).mono ?_;rintro e w3 ⟨rfl,s3,hV3,hk3,hL3,hB3⟩;have B3:=hide (ButS.trans (unhide HB3) (hB3.mono (by simp)));have f63:w3.cell? ⟨wr.heap.size,6,none⟩=some (.slice na (m+1) nc):=((unhide B3).cell hwr2 HWT.out 6).trans (unhide f62);have hNN:Hid (C.x.nodes.length=m+1):=by show _=_;rw[hXX.out,<-HXE.out];exact HM.out
   have VI:Hid (∀ z:Int,z=m->Calls Tryz.prog 73 #[.pointer (some ⟨C.vb,0,none⟩),.int .i64 z] w3 fun e w'=>e=.returned (.tuple #[])/\∃ s',Vis C s' w'/\Least (FBadK l (f+1)) s'/\ButS C.T w3.heap.size w3 w'):=fun z hz=>by
    subst hz;have hroot:m+1=C.x.nodes.length:=hNN.out.symm;have hmade:∀ n,n<C.x.nodes.length->kindN C n=36->∃ f' n',C.M (ref0 (nd C.x.nodes n))=some (siteV f' n'):=fun n h1 h2=>by
     rw[(unhide HC).2.2];rw[hXX.out]at h1 ⊢;obtain⟨t,ht,_⟩:=mk_of (l:=l) (f:=f) hlt h1 (by have h2:(nd C.x.nodes n).kind=36:=h2;rw[hXX.out]at h2;exact h2);exact⟨t.1,t.2,by unfold mkV;rw[ht];rfl⟩
    have hup:∀(z:Int) (q:Nat->Nat->Int),upSum C.x.nodes z q C.x.nodes.length m=z:=fun z q=>by
     rw[hNN.out];show(if sPar C.x.nodes m<0 then z else _)=z;rw[if_pos (by have:=(unhide HFN).tree.root hroot;omega)]
    have hah:Ahead C s3 ((cxOf C).cnt m) ((cxOf C).lps m) ((cxOf C).dpt m):=
     ⟨fun v _=>by rw[hk3.1];exact(hup _ _).symm,by rw[hk3.2.1];exact(hup _ _).symm,by rw[hk3.2.2];exact(dep_root hroot).symm⟩
    refine(visit_all C (cxOf C) ((unhide HFN).cxOk hmade) m (by omega) s3 w3 _ hV3 hah hL3).mono ?_;rintro e w' ⟨rfl,s',h1,_,h3,h4⟩;refine⟨rfl,s',h1,h3.congr (fun c f' p=>?_) rfl rfl rfl,h4⟩;have e1:=fbadK_next (unhide HC).1 (unhide HC).2.2 (unhide HFN) c f' p;rw[(unhide HC).2.1,show C.x.nodes.length-1=m by omega]at e1;rw[(unhide HC).2.1];exact e1
   have hV3f:=hide hV3;clear hV3 hk3 hL3 hB3 DE;go_wp2_with fail
   refine(unhide VI _ (by omega)).mono ?_;rintro e w4 ⟨rfl,s4,hV4,hL4,hB4⟩;have B4:=hide (ButS.trans (unhide B3) (hB4.mono (unhide B3).size));have T4:=hide ((unhide T2).but (unhide B4) (unhide HT) (unhide HLB).1 (unhide HLB).2);have q14:=hV4.c14;have q15:=hV4.c15;have q16:=hV4.c16;have l0:=(unhide T4).c0;have l1:=(unhide T4).c1;have l2:=(unhide T4).c2;have y0:=(unhide T4).r.frozen 0;have y1:=(unhide T4).r.frozen 1;have y2:=(unhide T4).r.frozen 2;have HL4:=hide hL4;clear hV4 hL4 hB4 VI;go_wp2_with fail
   go_roundg (l.length-(f+1))
   case measure=>omega
   case rel=>exact⟨f+1,by omega,by go_num,s4,(unhide T4).set _ _ _,unhide HL4⟩
  ·have e:f=l.length:=by omega
   have SAID:Hid (TreesSaid l s.lc s.lf s.ln):=trees_said (unhide HSH) (unhide HPAR) (unhide HR) (by have h:=hL.out;rw[e]at h;exact h.congr fbadK_all rfl rfl rfl);have l0:=hw.c0;have l1:=hw.c1;have l2:=hw.c2;have r0:=hx.res 0 (by omega);have r1:=hx.res 1 (by omega);have r2:=hx.res 2 (by omega);have z0:=hx.frozen 0;have z1:=hx.frozen 1;have z2:=hx.frozen 2;have BB:Hid (∀ v0 v1 v2,Below w.heap.size w (((wr.setCell ⟨w.heap.size+1,0,none⟩ v0).setCell ⟨w.heap.size+1,1,none⟩ v1).setCell ⟨w.heap.size+1,2,none⟩ v2)):=fun v0 v1 v2=>box2_set3 hx v0 v1 v2;clear hw hx hL;go_wp2_with fail
   refine bodyPost_ret (v:=.agg #[.int .i64 s.lc,.int .i64 s.lf,.int .i64 s.ln]) (by simp[results,Tryz.results51,go_sem,r0,r1,r2]) rfl ⟨s.lc,s.lf,s.ln,rfl,unhide SAID,BB.out _ _ _⟩
theorem refs_total {l:List FnD}(hl:tFns l<=1048576)(f p:Nat):(nd (fnD l f).nodes p).refs.length<=1048576:=by
 by_cases hf:f<l.length
 ·by_cases hp:p<(fnD l f).nodes.length
  ·have h1:=sumTo_succ tFn l f FnD.z hf;have h2:=sumTo_le tFn l (f+1);have h1:sumTo tFn l (f+1)=sumTo tFn l f+tFn (fnD l f):=h1;have h3:=sumTo_succ tNode (fnD l f).nodes p NodeD.z hp;have h3:sumTo tNode (fnD l f).nodes (p+1)=sumTo tNode (fnD l f).nodes p+tNode (nd (fnD l f).nodes p):=h3;have h4:=sumTo_le tNode (fnD l f).nodes (p+1);unfold tFns at hl;unfold tFn tNodes at h1;unfold tNode at h3;unfold tFn tNodes at h2 hl;unfold tNode at h4
   first | omega | (unfold tNode at h1 h2 hl;omega)
  ·rw[nd_out (by omega)];exact Nat.zero_le _
 ·have e:fnD l f=FnD.z:=by unfold fnD;rw[List.getElem?_eq_none (by omega)];rfl
  rw[e,nd_out (Nat.zero_le _)];exact Nat.zero_le _
structure Passed (l:List FnD)(k:Nat):Prop where
 size:1<=k->¬sizeBad l
 heads:2<=k->HeadsOk l
 shape:3<=k->NoBad l (shapeBad l)
 parent:4<=k->NoBad l (parentBad l)
 trees:5<=k->NoBad l (deepBad l)/\NoBad l (refsBad l)/\NoBad l (breakBad l)/\NoBad l (fnBad l)
 made:6<=k->∀ g,1<=g->g<l.length->madeUpto l l.length g=true
theorem Passed.begin (l:List FnD):Passed l 0:=⟨by omega,by omega,by omega,by omega,by omega,by omega⟩
theorem Passed.f13 {l:List FnD}{k:Nat}(h:Passed l k)(hk:3<=k):Fault13 l 0 0 0:=.inr (.inr (.inr ⟨h.size (by omega),h.heads (by omega),rfl,rfl,rfl,h.shape hk⟩))
theorem Passed.shaped {l:List FnD}{k:Nat}(h:Passed l k)(hk:3<=k):Shaped l:=⟨h.size (by omega),h.heads (by omega),h.shape hk⟩
theorem Passed.f45 {l:List FnD}{k:Nat}(h:Passed l k)(hk:5<=k):Fault45 l 0 0 0:=.inr (.inr ⟨h.parent (by omega),(h.trees hk).1,rfl,rfl,rfl⟩)
theorem Passed.all {l:List FnD}{k:Nat}(h:Passed l k)(hk:6<=k):UnitFault l 0 0 0:=
 .inr (.inr ⟨h.f13 (by omega),h.f45 (by omega),.inr (.inr (.inr (.inr ⟨(h.trees (by omega)).2.1,(h.trees (by omega)).2.2.1,(h.trees (by omega)).2.2.2,rfl,rfl,rfl,h.made hk⟩)))⟩)
def ChkPost (l:List FnD)(k:Nat)(w:World)(e:Ending)(w':World):Prop:=
 ∃ x f n:Int,e=.returned (.agg #[.int .i64 x,.int .i64 f,.int .i64 n])/\((x≠0/\UnitFault l x f n)\/(x=0/\Passed l (k+1)))/\Below w.heap.size w w'
theorem chk0 (a:Option Addr)(l:List FnD)(c:Nat)(S:Nat->Prop)(w:World)(hs:FnsAt w S a l)(hB:∀ b,S b->b<w.heap.size)(hl:tFns l<=1048576):Calls Tryz.prog 47 #[.agg #[.slice a l.length c]] w (ChkPost l 0 w):=by
 refine(checkSize_any a l c S w hs hB hl).mono ?_;rintro e w' ⟨x,rfl,h,hb⟩;refine⟨x,0,0,rfl,?_,hb⟩;rcases h with⟨h,rfl⟩ | ⟨h,rfl⟩
 ·exact .inl ⟨by decide,.inl ⟨.inl ⟨h,rfl,rfl,rfl⟩,by decide⟩⟩
 ·exact .inr ⟨rfl,⟨fun _=>h,by omega,by omega,by omega,by omega,by omega⟩⟩
theorem chk1 (a:Option Addr)(l:List FnD)(c:Nat)(S:Nat->Prop)(w:World)(hs:FnsAt w S a l)(hB:∀ b,S b->b<w.heap.size)(hl:tFns l<=1048576)(hP:Passed l 1):Calls Tryz.prog 48 #[.agg #[.slice a l.length c]] w (ChkPost l 1 w):=by
 refine(checkHeads_any a l c S w hs hB hl).mono ?_;rintro e w' ⟨x,f,rfl,h,hb⟩;refine⟨x,f,0,rfl,?_,hb⟩;rcases h with⟨rfl,h⟩ | ⟨rfl,rfl,h⟩
 ·exact .inl ⟨by decide,.inl ⟨.inr (.inl ⟨hP.size (by omega),rfl,rfl,h⟩),by decide⟩⟩
 ·exact .inr ⟨rfl,⟨fun _=>hP.size (by omega),fun _=>h,by omega,by omega,by omega,by omega⟩⟩
theorem chk2 (a:Option Addr)(l:List FnD)(c:Nat)(S:Nat->Prop)(w:World)(hs:FnsAt w S a l)(hB:∀ b,S b->b<w.heap.size)(hl:tFns l<=1048576)(hG:GTab w)(hP:Passed l 2):Calls Tryz.prog 49 #[.agg #[.slice a l.length c]] w (ChkPost l 2 w):=by
 have hbad:∀ f p,(!nodeFits (fnD l f).nodes p)=shapeBad l f p:=fun f p=>by
  unfold shapeBad;rw[shape_eq _ _ (by have:=refs_total hl f p;omega)]
 refine(checkNodes_any a l c S w hG hs hB hl).mono ?_;rintro e w' ⟨x,f,n,rfl,h,hb⟩;refine⟨x,f,n,rfl,?_,hb⟩;simp only[hbad]at h;rcases h with⟨rfl,F,P,h1,h2,h3⟩ | ⟨rfl,rfl,rfl,h⟩
 ·exact .inl ⟨by decide,.inl ⟨.inr (.inr (.inl ⟨hP.size (by omega),hP.heads (by omega),rfl,F,P,h1,h2,h3⟩)),by decide⟩⟩
 ·exact .inr ⟨rfl,⟨fun _=>hP.size (by omega),fun _=>hP.heads (by omega),fun _=>h,by omega,by omega,by omega⟩⟩
theorem chk3 (a:Option Addr)(l:List FnD)(c:Nat)(S:Nat->Prop)(w:World)(hs:FnsAt w S a l)(hB:∀ b,S b->b<w.heap.size)(hP:Passed l 3):Calls Tryz.prog 50 #[.agg #[.slice a l.length c]] w (ChkPost l 3 w):=by
 refine(checkParents_any a l c S w hs hB (hP.shaped (by omega))).mono ?_;rintro e w' ⟨x,f,n,rfl,h,hb⟩;refine⟨x,f,n,rfl,?_,hb⟩;rcases h with⟨rfl,h⟩ | ⟨rfl,rfl,rfl,h⟩
 ·exact .inl ⟨by decide,.inr (.inl ⟨hP.f13 (by omega),.inl ⟨rfl,h⟩,by decide⟩)⟩
 ·exact .inr ⟨rfl,⟨fun _=>hP.size (by omega),fun _=>hP.heads (by omega),fun _=>hP.shape (by omega),fun _=>h,by omega,by omega⟩⟩
theorem chk4 (a:Option Addr)(l:List FnD)(c:Nat)(S:Nat->Prop)(w:World)(hs:FnsAt w S a l)(hB:∀ b,S b->b<w.heap.size)(hl:tFns l<=1048576)(hP:Passed l 4):Calls Tryz.prog 51 #[.agg #[.slice a l.length c]] w (ChkPost l 4 w):=by
 refine(checkTrees_any a l c S w hs hB (hP.shaped (by omega)) (hP.parent (by omega)) (refs_total hl)).mono ?_;rintro e w' ⟨x,f,n,rfl,h,hb⟩;refine⟨x,f,n,rfl,?_,hb⟩;have f45:NoBad l (deepBad l)->Fault45 l 0 0 0:=fun h=>.inr (.inr ⟨hP.parent (by omega),h,rfl,rfl,rfl⟩);rcases h with⟨rfl,rfl,rfl,h⟩ | ⟨rfl,h⟩ | ⟨rfl,h5,h⟩ | ⟨rfl,h5,h6,h⟩ | ⟨rfl,h5,h6,h7,h⟩
 ·exact .inr ⟨rfl,⟨fun _=>hP.size (by omega),fun _=>hP.heads (by omega),fun _=>hP.shape (by omega),fun _=>hP.parent (by omega),fun _=>h,by omega⟩⟩
 ·exact .inl ⟨by decide,.inr (.inl ⟨hP.f13 (by omega),.inr (.inl ⟨hP.parent (by omega),rfl,h⟩),by decide⟩)⟩
 ·exact .inl ⟨by decide,.inr (.inr ⟨hP.f13 (by omega),f45 h5,.inl ⟨rfl,h⟩⟩)⟩
 ·exact .inl ⟨by decide,.inr (.inr ⟨hP.f13 (by omega),f45 h5,.inr (.inl ⟨h6,rfl,h⟩)⟩)⟩
 ·exact .inl ⟨by decide,.inr (.inr ⟨hP.f13 (by omega),f45 h5,.inr (.inr (.inl ⟨h6,h7,rfl,h⟩))⟩)⟩
theorem chk5 (a:Option Addr)(l:List FnD)(c:Nat)(S:Nat->Prop)(w:World)(hs:FnsAt w S a l)(hB:∀ b,S b->b<w.heap.size)(hP:Passed l 5):Calls Tryz.prog 52 #[.agg #[.slice a l.length c]] w (ChkPost l 5 w):=by
 have hsh:=hP.shaped (by omega);have hone:∀ f p,f<l.length->p<(fnD l f).nodes.length->(nd (fnD l f).nodes p).kind=36->0<(nd (fnD l f).nodes p).refs.length:=fun f p h1 h2 h3=>by
  have:=hsh.ref1 h1 h2 (.inr (.inr h3));omega
 refine(checkMade_any a l c S w hs hB hsh.fns.1 (by have:=hsh.fns.2;omega) hone).mono ?_;rintro e w' ⟨x,f,n,rfl,h,hb⟩;refine⟨x,f,n,rfl,?_,hb⟩;have ht:=hP.trees (by omega);rcases h with⟨rfl,rfl,h⟩ | ⟨rfl,rfl,rfl,h⟩
 ·exact .inl ⟨by decide,.inr (.inr ⟨hP.f13 (by omega),hP.f45 (by omega),.inr (.inr (.inr (.inl ⟨ht.2.1,ht.2.2.1,ht.2.2.2,rfl,rfl,h⟩)))⟩)⟩
 ·exact .inr ⟨rfl,⟨fun _=>hP.size (by omega),fun _=>hP.heads (by omega),fun _=>hP.shape (by omega),fun _=>hP.parent (by omega),fun _=>ht,fun _=>h⟩⟩
def chkV:Nat->Value
 | 0=>.func (.func 47) #[] #[]
 | 1=>.func (.func 48) #[] #[]
 | 2=>.func (.func 49) #[] #[]
 | 3=>.func (.func 50) #[] #[]
 | 4=>.func (.func 51) #[] #[]
 | _=>.func (.func 52) #[] #[]
theorem checkUnit_any:ImplSaid GTab:=by
 intro a l c S w hG hs hB hl;have X0:Hid (Box2 w a l.length c (box2 w a l.length c)):=Box2.start w a l.length c;have BS:Hid (∀ W,Below w.heap.size w W->∀ b,S b->b<W.heap.size):=fun W hW b h=>Nat.lt_of_lt_of_le (hB b h) hW.size;have CH0:Hid (∀ W,Below w.heap.size w W->Calls Tryz.prog 47 #[.agg #[.slice a l.length c]] W (ChkPost l 0 W)):=fun W hW=>chk0 a l c S W (hs.keep hW hB) (unhide BS W hW) hl;have CH1:Hid (∀ W,Below w.heap.size w W->Passed l 1->Calls Tryz.prog 48 #[.agg #[.slice a l.length c]] W (ChkPost l 1 W)):=fun W hW hP=>chk1 a l c S W (hs.keep hW hB) (unhide BS W hW) hl hP;have CH2:Hid (∀ W,Below w.heap.size w W->Passed l 2->Calls Tryz.prog 49 #[.agg #[.slice a l.length c]] W (ChkPost l 2 W)):=fun W hW hP=>chk2 a l c S W (hs.keep hW hB) (unhide BS W hW) hl (hG.keep hW hG.pos) hP;have CH3:Hid (∀ W,Below w.heap.size w W->Passed l 3->Calls Tryz.prog 50 #[.agg #[.slice a l.length c]] W (ChkPost l 3 W)):=fun W hW hP=>chk3 a l c S W (hs.keep hW hB) (unhide BS W hW) hP;have CH4:Hid (∀ W,Below w.heap.size w W->Passed l 4->Calls Tryz.prog 51 #[.agg #[.slice a l.length c]] W (ChkPost l 4 W)):=fun W hW hP=>chk4 a l c S W (hs.keep hW hB) (unhide BS W hW) hl hP;have CH5:Hid (∀ W,Below w.heap.size w W->Passed l 5->Calls Tryz.prog 52 #[.agg #[.slice a l.length c]] W (ChkPost l 5 W)):=fun W hW hP=>chk5 a l c S W (hs.keep hW hB) (unhide BS W hW) hP;have R0:Hid (((box2 w a l.length c).alloc (.cells #[.func (.func 47) #[] #[],.func (.func 48) #[] #[],.func (.func 49) #[] #[],.func (.func 50) #[] #[],.func (.func 51) #[] #[],.func (.func 52) #[] #[]] 40)).rowIs (w.heap.size+2) 40 6 chkV):=by
  have h:=World.rowIs_alloc (box2 w a l.length c) #[.func (.func 47) #[] #[],.func (.func 48) #[] #[],.func (.func 49) #[] #[],.func (.func 50) #[] #[],.func (.func 51) #[] #[],.func (.func 52) #[] #[]] 40 chkV (fun i hi=>by
   match i,hi with
   | 0,_=>rfl | 1,_=>rfl | 2,_=>rfl | 3,_=>rfl | 4,_=>rfl | 5,_=>rfl | n+6,h=>exact absurd h (by simp))
  rw[box2_size]at h;exact h
 clear hs hB hG hl BS;go_enter Tryz.func27,Tryz.ntmps27;go_wp2_with fail
 go_loopg [10] 6 (fun g i wr=>∃(k:Nat),k+g=6/\i=.int .i64 k/\Box2 w a l.length c wr/\wr.rowIs (w.heap.size+2) 40 6 chkV/\Hid (Passed l k))
 case atStart=>exact⟨0,by omega,rfl,(unhide X0).alloc _,unhide R0,Passed.begin l⟩
 case round=>
  clear X0 R0;obtain⟨k,hk,rfl,hx,hR,hP⟩:=hrel;have u0:=hx.unit;have hsz:=hx.size;have hrl:=hR.lt;by_cases hlt:k<6
  ·have hcase:k=0\/k=1\/k=2\/k=3\/k=4\/k=5:=by omega
   rcases hcase with rfl | rfl | rfl | rfl | rfl | rfl
   ·have ck:wr.cell? ⟨w.heap.size+2,0,none⟩=some (.func (.func 47) #[] #[]):=hR.cell (i:=0) (by omega);have CC:=hide (unhide CH0 wr hx.old);have HR:=hide hR;have HX:=hide hx;clear hR hx CH0 CH1 CH2 CH3 CH4 CH5;go_wp2_with fail
    refine(unhide CC).mono ?_;rintro e w2 ⟨x,f,n,rfl,hc,hb2⟩;have hx2:=(unhide HX).below' hb2;have HR2:Hid (w2.rowIs (w.heap.size+2) 40 6 chkV):=(unhide HR).of_block (hb2.block _ (unhide HR).lt);by_cases h0:x=0
    ·have HP:Hid (Passed l 1):=by
      rcases hc with hc | hc
      ·exact absurd h0 hc.1
      ·exact hc.2
     have HX2:=hide hx2;subst h0;clear hc hx2 hb2 HX HR CC;go_wp2_with fail
     go_roundg (6-1)
     case measure=>omega
     case rel=>exact⟨1,by omega,by go_num,(unhide HX2).alloc _,(unhide HR2).alloc _,HP⟩
    ·have HU:Hid (UnitFault l x f n):=by
      rcases hc with hc | hc
      ·exact hc.2
      ·exact absurd hc.1 h0
     have h0':(x != 0)=true:=by simpa using h0
     have hx3:=hx2.alloc (.cells #[.int .i64 x,.int .i64 f,.int .i64 n] 39);have r0:=hx3.res 0 (by omega);have r1:=hx3.res 1 (by omega);have r2:=hx3.res 2 (by omega);have z0:=hx3.frozen 0;have z1:=hx3.frozen 1;have z2:=hx3.frozen 2;have hs2:=hx2.size;have hw1:w.heap.size+1<w2.heap.size:=by omega
     have hw2:w.heap.size+1<w2.heap.size+1:=by omega
     have BB:Hid (∀ v0 v1 v2,Below w.heap.size w ((((w2.alloc (.cells #[.int .i64 x,.int .i64 f,.int .i64 n] 39)).setCell ⟨w.heap.size+1,0,none⟩ v0).setCell ⟨w.heap.size+1,1,none⟩ v1).setCell ⟨w.heap.size+1,2,none⟩ v2)):=fun v0 v1 v2=>box2_set3 hx3 v0 v1 v2;have BB2:Hid (∀ o v0 v1 v2,Below w.heap.size w ((((w2.setCell ⟨w.heap.size+1,0,none⟩ v0).setCell ⟨w.heap.size+1,1,none⟩ v1).setCell ⟨w.heap.size+1,2,none⟩ v2).alloc o)):=fun o v0 v1 v2=>(box2_set3 hx2 v0 v1 v2).alloc (by simp;omega) o;have s0:=hx2.res 0 (by omega);have s1:=hx2.res 1 (by omega);have s2:=hx2.res 2 (by omega);have y0:=hx2.frozen 0;have y1:=hx2.frozen 1;have y2:=hx2.frozen 2;clear hc hx3 hx2 hb2 HX HR CC h0 HR2;go_wp2_with fail
     refine bodyPost_ret (v:=.agg #[.int .i64 x,.int .i64 f,.int .i64 n]) (by simp[results,Tryz.results27,go_sem,s0,s1,s2,hw1]) rfl ⟨x,f,n,rfl,HU.out,?_⟩
     first | exact BB.out _ _ _ | exact BB2.out _ _ _ _
   ·have ck:wr.cell? ⟨w.heap.size+2,1,none⟩=some (.func (.func 48) #[] #[]):=hR.cell (i:=1) (by omega);have CC:=hide (unhide CH1 wr hx.old hP.out);have HR:=hide hR;have HX:=hide hx;clear hR hx CH0 CH1 CH2 CH3 CH4 CH5;go_wp2_with fail
    refine(unhide CC).mono ?_;rintro e w2 ⟨x,f,n,rfl,hc,hb2⟩;have hx2:=(unhide HX).below' hb2;have HR2:Hid (w2.rowIs (w.heap.size+2) 40 6 chkV):=(unhide HR).of_block (hb2.block _ (unhide HR).lt);by_cases h0:x=0
    ·have HP:Hid (Passed l 2):=by
      rcases hc with hc | hc
      ·exact absurd h0 hc.1
      ·exact hc.2
     have HX2:=hide hx2;subst h0;clear hc hx2 hb2 HX HR CC;go_wp2_with fail
     go_roundg (6-2)
     case measure=>omega
     case rel=>exact⟨2,by omega,by go_num,(unhide HX2).alloc _,(unhide HR2).alloc _,HP⟩
    ·have HU:Hid (UnitFault l x f n):=by
      rcases hc with hc | hc
      ·exact hc.2
      ·exact absurd hc.1 h0
     have h0':(x != 0)=true:=by simpa using h0
     have hx3:=hx2.alloc (.cells #[.int .i64 x,.int .i64 f,.int .i64 n] 39);have r0:=hx3.res 0 (by omega);have r1:=hx3.res 1 (by omega);have r2:=hx3.res 2 (by omega);have z0:=hx3.frozen 0;have z1:=hx3.frozen 1;have z2:=hx3.frozen 2;have hs2:=hx2.size;have hw1:w.heap.size+1<w2.heap.size:=by omega
     have hw2:w.heap.size+1<w2.heap.size+1:=by omega
     have BB:Hid (∀ v0 v1 v2,Below w.heap.size w ((((w2.alloc (.cells #[.int .i64 x,.int .i64 f,.int .i64 n] 39)).setCell ⟨w.heap.size+1,0,none⟩ v0).setCell ⟨w.heap.size+1,1,none⟩ v1).setCell ⟨w.heap.size+1,2,none⟩ v2)):=fun v0 v1 v2=>box2_set3 hx3 v0 v1 v2;have BB2:Hid (∀ o v0 v1 v2,Below w.heap.size w ((((w2.setCell ⟨w.heap.size+1,0,none⟩ v0).setCell ⟨w.heap.size+1,1,none⟩ v1).setCell ⟨w.heap.size+1,2,none⟩ v2).alloc o)):=fun o v0 v1 v2=>(box2_set3 hx2 v0 v1 v2).alloc (by simp;omega) o;have s0:=hx2.res 0 (by omega);have s1:=hx2.res 1 (by omega);have s2:=hx2.res 2 (by omega);have y0:=hx2.frozen 0;have y1:=hx2.frozen 1;have y2:=hx2.frozen 2;clear hc hx3 hx2 hb2 HX HR CC h0 HR2;go_wp2_with fail
     refine bodyPost_ret (v:=.agg #[.int .i64 x,.int .i64 f,.int .i64 n]) (by simp[results,Tryz.results27,go_sem,s0,s1,s2,hw1]) rfl ⟨x,f,n,rfl,HU.out,?_⟩
     first | exact BB.out _ _ _ | exact BB2.out _ _ _ _
   ·have ck:wr.cell? ⟨w.heap.size+2,2,none⟩=some (.func (.func 49) #[] #[]):=hR.cell (i:=2) (by omega);have CC:=hide (unhide CH2 wr hx.old hP.out);have HR:=hide hR;have HX:=hide hx;clear hR hx CH0 CH1 CH2 CH3 CH4 CH5;go_wp2_with fail
    refine(unhide CC).mono ?_;rintro e w2 ⟨x,f,n,rfl,hc,hb2⟩;have hx2:=(unhide HX).below' hb2;have HR2:Hid (w2.rowIs (w.heap.size+2) 40 6 chkV):=(unhide HR).of_block (hb2.block _ (unhide HR).lt);by_cases h0:x=0
    ·have HP:Hid (Passed l 3):=by
      rcases hc with hc | hc
      ·exact absurd h0 hc.1
      ·exact hc.2
     have HX2:=hide hx2;subst h0;clear hc hx2 hb2 HX HR CC;go_wp2_with fail
     go_roundg (6-3)
     case measure=>omega
     case rel=>exact⟨3,by omega,by go_num,(unhide HX2).alloc _,(unhide HR2).alloc _,HP⟩
    ·have HU:Hid (UnitFault l x f n):=by
      rcases hc with hc | hc
      ·exact hc.2
      ·exact absurd hc.1 h0
     have h0':(x != 0)=true:=by simpa using h0
     have hx3:=hx2.alloc (.cells #[.int .i64 x,.int .i64 f,.int .i64 n] 39);have r0:=hx3.res 0 (by omega);have r1:=hx3.res 1 (by omega);have r2:=hx3.res 2 (by omega);have z0:=hx3.frozen 0;have z1:=hx3.frozen 1;have z2:=hx3.frozen 2;have hs2:=hx2.size;have hw1:w.heap.size+1<w2.heap.size:=by omega
     have hw2:w.heap.size+1<w2.heap.size+1:=by omega
     have BB:Hid (∀ v0 v1 v2,Below w.heap.size w ((((w2.alloc (.cells #[.int .i64 x,.int .i64 f,.int .i64 n] 39)).setCell ⟨w.heap.size+1,0,none⟩ v0).setCell ⟨w.heap.size+1,1,none⟩ v1).setCell ⟨w.heap.size+1,2,none⟩ v2)):=fun v0 v1 v2=>box2_set3 hx3 v0 v1 v2;have BB2:Hid (∀ o v0 v1 v2,Below w.heap.size w ((((w2.setCell ⟨w.heap.size+1,0,none⟩ v0).setCell ⟨w.heap.size+1,1,none⟩ v1).setCell ⟨w.heap.size+1,2,none⟩ v2).alloc o)):=fun o v0 v1 v2=>(box2_set3 hx2 v0 v1 v2).alloc (by simp;omega) o;have s0:=hx2.res 0 (by omega);have s1:=hx2.res 1 (by omega);have s2:=hx2.res 2 (by omega);have y0:=hx2.frozen 0;have y1:=hx2.frozen 1;have y2:=hx2.frozen 2;clear hc hx3 hx2 hb2 HX HR CC h0 HR2;go_wp2_with fail
     refine bodyPost_ret (v:=.agg #[.int .i64 x,.int .i64 f,.int .i64 n]) (by simp[results,Tryz.results27,go_sem,s0,s1,s2,hw1]) rfl ⟨x,f,n,rfl,HU.out,?_⟩
     first | exact BB.out _ _ _ | exact BB2.out _ _ _ _
   ·have ck:wr.cell? ⟨w.heap.size+2,3,none⟩=some (.func (.func 50) #[] #[]):=hR.cell (i:=3) (by omega);have CC:=hide (unhide CH3 wr hx.old hP.out);have HR:=hide hR;have HX:=hide hx;clear hR hx CH0 CH1 CH2 CH3 CH4 CH5;go_wp2_with fail
    refine(unhide CC).mono ?_;rintro e w2 ⟨x,f,n,rfl,hc,hb2⟩;have hx2:=(unhide HX).below' hb2;have HR2:Hid (w2.rowIs (w.heap.size+2) 40 6 chkV):=(unhide HR).of_block (hb2.block _ (unhide HR).lt);by_cases h0:x=0
    ·have HP:Hid (Passed l 4):=by
      rcases hc with hc | hc
      ·exact absurd h0 hc.1
      ·exact hc.2
     have HX2:=hide hx2;subst h0;clear hc hx2 hb2 HX HR CC;go_wp2_with fail
     go_roundg (6-4)
     case measure=>omega
     case rel=>exact⟨4,by omega,by go_num,(unhide HX2).alloc _,(unhide HR2).alloc _,HP⟩
    ·have HU:Hid (UnitFault l x f n):=by
      rcases hc with hc | hc
      ·exact hc.2
      ·exact absurd hc.1 h0
     have h0':(x != 0)=true:=by simpa using h0
     have hx3:=hx2.alloc (.cells #[.int .i64 x,.int .i64 f,.int .i64 n] 39);have r0:=hx3.res 0 (by omega);have r1:=hx3.res 1 (by omega);have r2:=hx3.res 2 (by omega);have z0:=hx3.frozen 0;have z1:=hx3.frozen 1;have z2:=hx3.frozen 2;have hs2:=hx2.size;have hw1:w.heap.size+1<w2.heap.size:=by omega
     have hw2:w.heap.size+1<w2.heap.size+1:=by omega
     have BB:Hid (∀ v0 v1 v2,Below w.heap.size w ((((w2.alloc (.cells #[.int .i64 x,.int .i64 f,.int .i64 n] 39)).setCell ⟨w.heap.size+1,0,none⟩ v0).setCell ⟨w.heap.size+1,1,none⟩ v1).setCell ⟨w.heap.size+1,2,none⟩ v2)):=fun v0 v1 v2=>box2_set3 hx3 v0 v1 v2;have BB2:Hid (∀ o v0 v1 v2,Below w.heap.size w ((((w2.setCell ⟨w.heap.size+1,0,none⟩ v0).setCell ⟨w.heap.size+1,1,none⟩ v1).setCell ⟨w.heap.size+1,2,none⟩ v2).alloc o)):=fun o v0 v1 v2=>(box2_set3 hx2 v0 v1 v2).alloc (by simp;omega) o;have s0:=hx2.res 0 (by omega);have s1:=hx2.res 1 (by omega);have s2:=hx2.res 2 (by omega);have y0:=hx2.frozen 0;have y1:=hx2.frozen 1;have y2:=hx2.frozen 2;clear hc hx3 hx2 hb2 HX HR CC h0 HR2;go_wp2_with fail
     refine bodyPost_ret (v:=.agg #[.int .i64 x,.int .i64 f,.int .i64 n]) (by simp[results,Tryz.results27,go_sem,s0,s1,s2,hw1]) rfl ⟨x,f,n,rfl,HU.out,?_⟩
     first | exact BB.out _ _ _ | exact BB2.out _ _ _ _
   ·have ck:wr.cell? ⟨w.heap.size+2,4,none⟩=some (.func (.func 51) #[] #[]):=hR.cell (i:=4) (by omega);have CC:=hide (unhide CH4 wr hx.old hP.out);have HR:=hide hR;have HX:=hide hx;clear hR hx CH0 CH1 CH2 CH3 CH4 CH5;go_wp2_with fail
    refine(unhide CC).mono ?_;rintro e w2 ⟨x,f,n,rfl,hc,hb2⟩;have hx2:=(unhide HX).below' hb2;have HR2:Hid (w2.rowIs (w.heap.size+2) 40 6 chkV):=(unhide HR).of_block (hb2.block _ (unhide HR).lt);by_cases h0:x=0
    ·have HP:Hid (Passed l 5):=by
      rcases hc with hc | hc
      ·exact absurd h0 hc.1
      ·exact hc.2
     have HX2:=hide hx2;subst h0;clear hc hx2 hb2 HX HR CC;go_wp2_with fail
     go_roundg (6-5)
     case measure=>omega
     case rel=>exact⟨5,by omega,by go_num,(unhide HX2).alloc _,(unhide HR2).alloc _,HP⟩
    ·have HU:Hid (UnitFault l x f n):=by
      rcases hc with hc | hc
      ·exact hc.2
      ·exact absurd hc.1 h0
     have h0':(x != 0)=true:=by simpa using h0
     have hx3:=hx2.alloc (.cells #[.int .i64 x,.int .i64 f,.int .i64 n] 39);have r0:=hx3.res 0 (by omega);have r1:=hx3.res 1 (by omega);have r2:=hx3.res 2 (by omega);have z0:=hx3.frozen 0;have z1:=hx3.frozen 1;have z2:=hx3.frozen 2;have hs2:=hx2.size;have hw1:w.heap.size+1<w2.heap.size:=by omega
     have hw2:w.heap.size+1<w2.heap.size+1:=by omega
     have BB:Hid (∀ v0 v1 v2,Below w.heap.size w ((((w2.alloc (.cells #[.int .i64 x,.int .i64 f,.int .i64 n] 39)).setCell ⟨w.heap.size+1,0,none⟩ v0).setCell ⟨w.heap.size+1,1,none⟩ v1).setCell ⟨w.heap.size+1,2,none⟩ v2)):=fun v0 v1 v2=>box2_set3 hx3 v0 v1 v2;have BB2:Hid (∀ o v0 v1 v2,Below w.heap.size w ((((w2.setCell ⟨w.heap.size+1,0,none⟩ v0).setCell ⟨w.heap.size+1,1,none⟩ v1).setCell ⟨w.heap.size+1,2,none⟩ v2).alloc o)):=fun o v0 v1 v2=>(box2_set3 hx2 v0 v1 v2).alloc (by simp;omega) o;have s0:=hx2.res 0 (by omega);have s1:=hx2.res 1 (by omega);have s2:=hx2.res 2 (by omega);have y0:=hx2.frozen 0;have y1:=hx2.frozen 1;have y2:=hx2.frozen 2;clear hc hx3 hx2 hb2 HX HR CC h0 HR2;go_wp2_with fail
     refine bodyPost_ret (v:=.agg #[.int .i64 x,.int .i64 f,.int .i64 n]) (by simp[results,Tryz.results27,go_sem,s0,s1,s2,hw1]) rfl ⟨x,f,n,rfl,HU.out,?_⟩
     first | exact BB.out _ _ _ | exact BB2.out _ _ _ _
   ·have ck:wr.cell? ⟨w.heap.size+2,5,none⟩=some (.func (.func 52) #[] #[]):=hR.cell (i:=5) (by omega);have CC:=hide (unhide CH5 wr hx.old hP.out);have HR:=hide hR;have HX:=hide hx;clear hR hx CH0 CH1 CH2 CH3 CH4 CH5;go_wp2_with fail
    refine(unhide CC).mono ?_;rintro e w2 ⟨x,f,n,rfl,hc,hb2⟩;have hx2:=(unhide HX).below' hb2;have HR2:Hid (w2.rowIs (w.heap.size+2) 40 6 chkV):=(unhide HR).of_block (hb2.block _ (unhide HR).lt);by_cases h0:x=0
    ·have HP:Hid (Passed l 6):=by
      rcases hc with hc | hc
      ·exact absurd h0 hc.1
      ·exact hc.2
     have HX2:=hide hx2;subst h0;clear hc hx2 hb2 HX HR CC;go_wp2_with fail
     go_roundg (6-6)
     case measure=>omega
     case rel=>exact⟨6,by omega,by go_num,(unhide HX2).alloc _,(unhide HR2).alloc _,HP⟩
    ·have HU:Hid (UnitFault l x f n):=by
      rcases hc with hc | hc
      ·exact hc.2
      ·exact absurd hc.1 h0
     have h0':(x != 0)=true:=by simpa using h0
     have hx3:=hx2.alloc (.cells #[.int .i64 x,.int .i64 f,.int .i64 n] 39);have r0:=hx3.res 0 (by omega);have r1:=hx3.res 1 (by omega);have r2:=hx3.res 2 (by omega);have z0:=hx3.frozen 0;have z1:=hx3.frozen 1;have z2:=hx3.frozen 2;have hs2:=hx2.size;have hw1:w.heap.size+1<w2.heap.size:=by omega
     have hw2:w.heap.size+1<w2.heap.size+1:=by omega
     have BB:Hid (∀ v0 v1 v2,Below w.heap.size w ((((w2.alloc (.cells #[.int .i64 x,.int .i64 f,.int .i64 n] 39)).setCell ⟨w.heap.size+1,0,none⟩ v0).setCell ⟨w.heap.size+1,1,none⟩ v1).setCell ⟨w.heap.size+1,2,none⟩ v2)):=fun v0 v1 v2=>box2_set3 hx3 v0 v1 v2;have BB2:Hid (∀ o v0 v1 v2,Below w.heap.size w ((((w2.setCell ⟨w.heap.size+1,0,none⟩ v0).setCell ⟨w.heap.size+1,1,none⟩ v1).setCell ⟨w.heap.size+1,2,none⟩ v2).alloc o)):=fun o v0 v1 v2=>(box2_set3 hx2 v0 v1 v2).alloc (by simp;omega) o;have s0:=hx2.res 0 (by omega);have s1:=hx2.res 1 (by omega);have s2:=hx2.res 2 (by omega);have y0:=hx2.frozen 0;have y1:=hx2.frozen 1;have y2:=hx2.frozen 2;clear hc hx3 hx2 hb2 HX HR CC h0 HR2;go_wp2_with fail
     refine bodyPost_ret (v:=.agg #[.int .i64 x,.int .i64 f,.int .i64 n]) (by simp[results,Tryz.results27,go_sem,s0,s1,s2,hw1]) rfl ⟨x,f,n,rfl,HU.out,?_⟩
     first | exact BB.out _ _ _ | exact BB2.out _ _ _ _
  ·obtain rfl:k=6:=by omega
   have HU:Hid (UnitFault l 0 0 0):=hP.out.all (by omega);have r0:=hx.res 0 (by omega);have r1:=hx.res 1 (by omega);have r2:=hx.res 2 (by omega);have z0:=hx.frozen 0;have z1:=hx.frozen 1;have z2:=hx.frozen 2;have BB:Hid (∀ v0 v1 v2,Below w.heap.size w (((wr.setCell ⟨w.heap.size+1,0,none⟩ v0).setCell ⟨w.heap.size+1,1,none⟩ v1).setCell ⟨w.heap.size+1,2,none⟩ v2)):=fun v0 v1 v2=>box2_set3 hx v0 v1 v2;clear hR hP;go_wp2_with fail
   refine bodyPost_ret (v:=.agg #[.int .i64 0,.int .i64 0,.int .i64 0]) (by simp[results,Tryz.results27,go_sem,r0,r1,r2]) rfl ⟨0,0,0,rfl,HU.out,BB.out _ _ _⟩
end Go.Proofs.YtofcbekoaghikaaGreatDoor
