import Derived.Test.YtofcbekoaghikaaGreatDoorPart13
set_option linter.unusedSimpArgs false
set_option linter.unusedVariables false
set_option maxHeartbeats 8000000
set_option maxRecDepth 100000
namespace Go.Proofs.YtofcbekoaghikaaGreatDoor
open Go.RowKit
attribute [local go_sem] run_store_float
theorem info_bool:(Tryz.prog.info? 4).map (fun i=>(i.zero,i.size,i.bytes))=some (some (.bool false),1,1):=by kernel_rfl
structure ThirdW (w:World)(a:Option Addr)(nl c:Nat)(x:FnD)(R:FnR)(bf bt bp bd bs:Nat)(seen:Nat->Bool)(wr:World):Prop where
 box:Box2 w a nl c wr
 fc:∀ j,j<7->wr.cell? ⟨bf,j,none⟩=some (fnCell x R j)
 tree:TreeIn x.nodes bp bd bt wr
 row:wr.rowIs bs 4 x.vars.length (fun j=>.bool (seen j))
 n0:w.heap.size+2<=bs
 n1:bf≠bs
 n2:bt≠bs
 n3:bp≠bs
 n4:bd≠bs
theorem Box2.but {w:World}{a:Option Addr}{n c:Nat}{wr w2:World}{bs:Nat}(h:Box2 w a n c wr)(hb:But bs wr.heap.size wr w2)(hbs:w.heap.size+2<=bs):Box2 w a n c w2:=
  ⟨{ os:=hb.os.trans h.below.os,tape:=hb.tape.trans h.below.tape,output:=hb.output.trans h.below.output,size:=Nat.le_trans h.below.size hb.size,block:=fun k hk=>(hb.block k (Nat.lt_of_lt_of_le hk h.size) (by omega)).trans (h.below.block k hk) }⟩
theorem ThirdW.next {w:World}{a:Option Addr}{nl c:Nat}{x:FnD}{R:FnR}{bf bt bp bd bs:Nat}{seen seen':Nat->Bool}{wr w2:World}(h:ThirdW w a nl c x R bf bt bp bd bs seen wr)
  (hb:But bs wr.heap.size wr w2)(hrow:w2.rowIs bs 4 x.vars.length (fun j=>.bool (seen' j))):ThirdW w a nl c x R bf bt bp bd bs seen' w2:=
 {box:=h.box.but hb h.n0
  fc:=fun j hj=>(hb.cell (World.block_lt_of_cell? _ _ (h.fc j hj)) h.n1 j).trans (h.fc j hj)
  tree:={ p:=h.tree.p.of_block (hb.block _ h.tree.p.lt h.n3),d:=h.tree.d.of_block (hb.block _ h.tree.d.lt h.n4),t0:=(hb.cell (World.block_lt_of_cell? _ _ h.tree.t0) h.n2 0).trans h.tree.t0,t1:=(hb.cell (World.block_lt_of_cell? _ _ h.tree.t1) h.n2 1).trans h.tree.t1 }
  row:=hrow,n0:=h.n0,n1:=h.n1,n2:=h.n2,n3:=h.n3,n4:=h.n4 }
structure FnTree (w:World)(a:Option Addr)(nl c:Nat)(x:FnD)(R:FnR)(bf bt bp bd:Nat)(wr:World):Prop where
 box:Box2 w a nl c wr
 fc:∀ j,j<7->wr.cell? ⟨bf,j,none⟩=some (fnCell x R j)
 tree:TreeIn x.nodes bp bd bt wr
theorem FnTree.below {w:World}{a:Option Addr}{nl c:Nat}{x:FnD}{R:FnR}{bf bt bp bd:Nat}{wr w2:World}(h:FnTree w a nl c x R bf bt bp bd wr)(hb:Below wr.heap.size wr w2):FnTree w a nl c x R bf bt bp bd w2:=
 {box:=h.box.below' hb,fc:=fun j hj=>(hb.cell (p:=⟨bf,j,none⟩) (World.block_lt_of_cell? _ _ (h.fc j hj))).trans (h.fc j hj),tree:=h.tree.below hb }
theorem FnTree.but {w:World}{a:Option Addr}{nl c:Nat}{x:FnD}{R:FnR}{bf bt bp bd bm:Nat}{wr w2:World}(h:FnTree w a nl c x R bf bt bp bd wr)(hb:But bm wr.heap.size wr w2)(n0:w.heap.size+2<=bm)(n1:bf≠bm)(n2:bt≠bm)(n3:bp≠bm)(n4:bd≠bm):FnTree w a nl c x R bf bt bp bd w2:=
 {box:=h.box.but hb n0,fc:=fun j hj=>(hb.cell (World.block_lt_of_cell? _ _ (h.fc j hj)) n1 j).trans (h.fc j hj),tree:={ p:=h.tree.p.of_block (hb.block _ h.tree.p.lt n3),d:=h.tree.d.of_block (hb.block _ h.tree.d.lt n4),t0:=(hb.cell (World.block_lt_of_cell? _ _ h.tree.t0) n2 0).trans h.tree.t0,t1:=(hb.cell (World.block_lt_of_cell? _ _ h.tree.t1) n2 1).trans h.tree.t1 } }
theorem l3inloop_from {x:FnD}{a4 a5 a6:Option Addr}{c4 c5 c6:Nat}{bp:Nat}{dv:Option Addr}{p:Nat}{S:Nat->Prop}(w W:World)
  (hs:NodesAt w S a6 x.nodes)(hB:∀ b,S b->b<w.heap.size)(hW:Below w.heap.size w W)(hrp:W.rowIs bp 3 x.nodes.length (fun j=>.int .i64 (sPar x.nodes j)))(hk:∀ p,p<x.nodes.length->kidsIn x.nodes p=true)(hl:x.nodes.length<=3000)(hp:p<x.nodes.length) :
  Calls Tryz.prog 42 #[.agg #[.string x.name,.int .i64 x.line,.int .i64 x.params,.bool x.rest,.slice a4 x.vars.length c4,.slice a5 x.ups.length c5,.slice a6 x.nodes.length c6],.agg #[.slice (some ⟨bp,0,none⟩) x.nodes.length x.nodes.length,.slice dv x.nodes.length x.nodes.length],.int .i64 p] W fun e w'=>
   e=.returned (.bool (sInloop x.nodes p))/\Below W.heap.size W w':=
 l3inloop_any x.name x.line x.params x.rest x.vars.length x.ups.length a4 a5 a6 c4 c5 c6 x.nodes bp dv p S W (hs.keep hW hB) (fun b h=>Nat.lt_of_lt_of_le (hB b h) hW.size) hrp hk hl hp
theorem l3ups_from {a:Option Addr}{l:List FnD}{c f g p:Nat}{bp:Nat}{dv:Option Addr}{S:Nat->Prop}(w W:World)(hs:FnsAt w S a l)(hB:∀ b,S b->b<w.heap.size)(hW:Below w.heap.size w W)(hf:f<l.length)(hg:g<l.length)
  (hrp:W.rowIs bp 3 (fnD l f).nodes.length (fun j=>.int .i64 (sPar (fnD l f).nodes j)))(hk:∀ p,p<(fnD l f).nodes.length->kidsIn (fnD l f).nodes p=true)(hl:(fnD l f).nodes.length<=3000)(hp:p<(fnD l f).nodes.length) :
  Calls Tryz.prog 43 #[.agg #[.slice a l.length c],.int .i64 f,.agg #[.slice (some ⟨bp,0,none⟩) (fnD l f).nodes.length (fnD l f).nodes.length,.slice dv (fnD l f).nodes.length (fnD l f).nodes.length],.int .i64 p,.int .i64 g] W fun e w'=>
   e=.returned (.bool (sUps (fnD l f) p (fnD l g).ups))/\Below W.heap.size W w':=
 l3ups_any a l c f g p bp dv S W (hs.keep hW hB) (fun b h=>Nat.lt_of_lt_of_le (hB b h) hW.size) hf hg hrp hk hl hp
theorem fnTree_mk {w:World}{b off nl c:Nat}{x:FnD}{R:FnR}{bp bd:Nat}{wo w1:World}(hx:Box2 w (some ⟨b,off,none⟩) nl c wo)
  (hb1:Below (wo.alloc (.cells #[.string x.name,.int .i64 x.line,.int .i64 x.params,.bool x.rest,.slice R.va x.vars.length R.vc,.slice R.ua x.ups.length R.uc,.slice R.na x.nodes.length R.nc] 54)).heap.size (wo.alloc (.cells #[.string x.name,.int .i64 x.line,.int .i64 x.params,.bool x.rest,.slice R.va x.vars.length R.vc,.slice R.ua x.ups.length R.uc,.slice R.na x.nodes.length R.nc] 54)) w1)
  (hrp:w1.rowIs bp 3 x.nodes.length (fun j=>.int .i64 (sPar x.nodes j)))(hrd:w1.rowIs bd 3 x.nodes.length (fun j=>.int .i64 (sDep x.nodes j))) :
  FnTree w (some ⟨b,off,none⟩) nl c x R wo.heap.size w1.heap.size bp bd (w1.alloc (.cells #[.slice (some ⟨bp,0,none⟩) x.nodes.length x.nodes.length,.slice (some ⟨bd,0,none⟩) x.nodes.length x.nodes.length] 79)):=by
 have hsz:wo.heap.size+1<=w1.heap.size:=by have:=hb1.size;simpa using this
 refine { box:=((hx.alloc _).below' hb1).alloc _,fc:=?qfc,tree:=TreeIn.boxed hrp hrd };intro j hj;have h1:=hb1.cell (p:=⟨wo.heap.size,j,none⟩) (by simp);have h2:(w1.alloc (.cells #[.slice (some ⟨bp,0,none⟩) x.nodes.length x.nodes.length,.slice (some ⟨bd,0,none⟩) x.nodes.length x.nodes.length] 79)).cell? ⟨wo.heap.size,j,none⟩=w1.cell? ⟨wo.heap.size,j,none⟩:=
  Below.cell (B:=w1.heap.size) ((Below.refl _ _).alloc (Nat.le_refl _) _) (p:=⟨wo.heap.size,j,none⟩) (by show wo.heap.size<w1.heap.size;omega)
 rw[h2,h1];have hj7:j=0\/j=1\/j=2\/j=3\/j=4\/j=5\/j=6:=by omega
 rcases hj7 with rfl | rfl | rfl | rfl | rfl | rfl | rfl<;>simp[go_sem,fnCell,sel7]
theorem l3third_any (a:Option Addr)(l:List FnD)(c:Nat)(S:Nat->Prop)(w:World)(hs:FnsAt w S a l)(hB:∀ b,S b->b<w.heap.size)(hsh:Shaped l) :
  Calls Tryz.prog 24 #[.agg #[.slice a l.length c]] w fun e w'=>∃ x f n,e=.returned (.agg #[.int .i64 x,.int .i64 f,.int .i64 n])/\Fault69 l x f n/\Below w.heap.size w w':=by
 have hn:=hs.1;have hl3:=hsh.fns.2;have HSH:=hide hsh;have HS:=hide hs;have HB:=hide hB;clear hsh hs hB;have X0:Hid (Box2 w a l.length c (box2 w a l.length c)):=Box2.start w a l.length c;go_enter Tryz.func24,Tryz.ntmps24;go_wp2_with fail
 go_loopg [24] l.length (fun g i wr=>∃(k:Nat),k+g=l.length/\i=.int .i64 k/\Box2 w a l.length c wr/\Hid (∀ f' p',f'<k->p'<(fnD l f').nodes.length->refsBad l f' p'=false))
 case atStart=>exact⟨0,by omega,rfl,X0.out,fun f' p' h=>absurd h (Nat.not_lt_zero _)⟩
 case round=>
  obtain⟨f,hk,rfl,hx,hpar⟩:=hrel;obtain⟨wo,rfl⟩:∃ wo,wo=wr:=⟨wr,rfl⟩;have u0:=hx.unit;by_cases hlt:f<l.length
  ·obtain⟨b,off,rfl,hb,hcc⟩:=(unhide HS).2 (by omega);have N0:FnCells w S b (off+f * 7) (fnD l f):=hcc f hlt;clear hcc;obtain⟨va,vc,hv0,hvI⟩:=N0.vars;obtain⟨ua,uc,hu0,huI⟩:=N0.ups;obtain⟨na,nc,hno0,hnI⟩:=N0.nodes;have hbs:b<w.heap.size:=unhide HB b hb;have old:∀ o v,w.cell? ⟨b,o,none⟩=some v->wo.cell? ⟨b,o,none⟩=some v:=fun o v h=>(hx.old.cell (p:=⟨b,o,none⟩) hbs).trans h;have d0:=old _ _ N0.name;have d1:=old _ _ N0.line;have d2:=old _ _ N0.params;have d3:=old _ _ N0.rest;have d4:=old _ _ hv0;have d5:=old _ _ hu0;have d6:=old _ _ hno0;have hlenb:=(unhide HSH).len hlt;have hpos:=(unhide HSH).pos hlt;obtain⟨hv200,hu200,hp0,hpv⟩:=(unhide HSH).head hlt;have HKI:Hid (∀ p,p<(fnD l f).nodes.length->kidsIn (fnD l f).nodes p=true):=(unhide HSH).kids hlt;have HR1:Hid (∀ p,p<(fnD l f).nodes.length->(nd (fnD l f).nodes p).kind=26\/(nd (fnD l f).nodes p).kind=27\/(nd (fnD l f).nodes p).kind=36->(nd (fnD l f).nodes p).refs.length=1):=fun p hp=>(unhide HSH).ref1 hlt hp;have NN:Hid (NodesAt w S na (fnD l f).nodes):=hnI;have HRB:Hid (∀ p,refsBad l f p=!sRefs l.length (fnD l f) p (seenAt (fnD l f) p)):=fun p=>rfl;clear hnI hvI huI N0 hv0 hu0 hno0 old;generalize hxx:fnD l f=x at *;have HXX:=hide hxx;clear hxx;have hmk:=run_make_row' (P:=Tryz.prog) 26 4 (.bool false) 1 Tryz.underlying26 info_bool rfl .i64 .i64 x.vars.length (by omega) (by omega);obtain⟨P,hP⟩:=Int.eq_ofNat_of_zero_le hp0;go_wp2_with fail
   refine(l3grow_from w _ (unhide NN) (unhide HB) hpos hlenb (unhide HKI) (hx.alloc _).old).mono ?_;rintro e w1 ⟨bp,bd,rfl,hrp,hrd,hq1,hq2,hb1⟩;have hx1:=(hx.alloc _).below' hb1;have TT:=TreeIn.boxed hrp hrd;have hq3:wo.heap.size+1<=w1.heap.size:=by have:=hb1.size;simpa using this
   have hq1':wo.heap.size+1<=bp:=by simpa using hq1
   have hq2':wo.heap.size+1<=bd:=by simpa using hq2
   have hwo:=hx.size;have hbp:=hrp.lt;have hbd:=hrd.lt;have T0:Hid (ThirdW w (some ⟨b,off,none⟩) l.length c x ⟨va,vc,ua,uc,na,nc⟩ wo.heap.size w1.heap.size bp bd (w1.heap.size+1) (fun _=>false) ((w1.alloc (.cells #[.slice (some ⟨bp,0,none⟩) x.nodes.length x.nodes.length,.slice (some ⟨bd,0,none⟩) x.nodes.length x.nodes.length] 79)).alloc (.cells (madeCells #[.bool false] x.vars.length) 4))):=
    by
     refine { box:=(hx1.alloc _).alloc _,fc:=?qfc,tree:=TT.below ((Below.refl _ _).alloc (Nat.le_refl _) _),row:=rowIs_made' (by simp) (fun _ _=>rfl),n0:=by omega,n1:=by omega,n2:=by omega,n3:=by omega,n4:=by omega };intro j hj;have h1:=hb1.cell (p:=⟨wo.heap.size,j,none⟩) (by simp);have h2:((w1.alloc (.cells #[.slice (some ⟨bp,0,none⟩) x.nodes.length x.nodes.length,.slice (some ⟨bd,0,none⟩) x.nodes.length x.nodes.length] 79)).alloc (.cells (madeCells #[.bool false] x.vars.length) 4)).cell? ⟨wo.heap.size,j,none⟩=w1.cell? ⟨wo.heap.size,j,none⟩:=
      Below.cell (B:=w1.heap.size) (((Below.refl _ _).alloc (Nat.le_refl _) _).alloc (by simp) _) (p:=⟨wo.heap.size,j,none⟩) (by show wo.heap.size<w1.heap.size;omega)
     rw[h2,h1];have hj7:j=0\/j=1\/j=2\/j=3\/j=4\/j=5\/j=6:=by omega
     rcases hj7 with rfl | rfl | rfl | rfl | rfl | rfl | rfl<;>simp[go_sem,fnCell,sel7,hP]
   clear hq1 hq2 TT hb1 hrp hrd hx1 d0 d1 d2 d3 d4 d5 d6 u0;have f4:w1.cell? ⟨wo.heap.size,4,none⟩=some (.slice va x.vars.length vc):=by
    have h:=(unhide T0).fc 4 (by omega);rw[Below.cell (B:=w1.heap.size) (((Below.refl _ _).alloc (Nat.le_refl _) _).alloc (by simp) _) (p:=⟨wo.heap.size,4,none⟩) (by show wo.heap.size<w1.heap.size;omega)]at h;exact h
   have y1:wo.heap.size<w1.heap.size:=by omega
   have y2:wo.heap.size<w1.heap.size+1:=by omega
   have HP:=hide hP;clear hP;go_wp2_with fail
   clear hmk f4;go_loopg [7] P (fun g i wr=>∃(k:Nat),k+g=P/\i=.int .i64 k/\ThirdW w (some ⟨b,off,none⟩) l.length c x ⟨va,vc,ua,uc,na,nc⟩ wo.heap.size w1.heap.size bp bd (w1.heap.size+1) (fun v=>decide (v<k)) wr)
   case atStart=>exact⟨0,by omega,rfl,(unhide T0).next (But.refl _ _ _) ((unhide T0).row.congr fun j hj=>by simp)⟩
   case round=>
    clear T0;obtain⟨k,hkP,rfl,T⟩:=hrel;have f2:wr.cell? ⟨wo.heap.size,2,none⟩=some (.int .i64 P):=by have:=T.fc 2 (by omega);rw[show fnCell x ⟨va,vc,ua,uc,na,nc⟩ 2=.int .i64 x.params from rfl,unhide HP]at this;exact this
    by_cases hkl:k<P
    ·have hkv:k<x.vars.length:=by have:=unhide HP;omega
     have sc:=T.row.cell hkv;have sf:=T.row.frozen k;go_wp2_with fail
     go_roundg (P-(k+1))
     case measure=>omega
     case rel=>
      refine⟨k+1,by omega,by go_num,T.next ((But.refl _ _ _).set k _) ((T.row.set k _).congr fun j hj=>?_)⟩;by_cases e:j=k
      ·subst e;simp
      ·have h2:(j<k+1)=(j<k):=by apply propext;omega
       simp[e,h2]
    ·have T1:ThirdW w (some ⟨b,off,none⟩) l.length c x ⟨va,vc,ua,uc,na,nc⟩ wo.heap.size w1.heap.size bp bd (w1.heap.size+1) (seenAt x 0) wr:=T.next (But.refl _ _ _) (T.row.congr fun j hj=>by
      have h2:decide (j<k)=decide ((j:Int)<x.params):=by have:=unhide HP;congr 1;apply propext;omega
      rw[h2];rfl)
     have f6:wr.cell? ⟨wo.heap.size,6,none⟩=some (.slice na x.nodes.length nc):=T.fc 6 (by omega);have HT1:=hide T1;go_wp2_with fail
     clear T T1 f2 f6 hkl hkP;go_loopg [48] x.nodes.length (fun g i wr=>∃(p:Nat),p+g=x.nodes.length/\i=.int .i64 p/\ThirdW w (some ⟨b,off,none⟩) l.length c x ⟨va,vc,ua,uc,na,nc⟩ wo.heap.size w1.heap.size bp bd (w1.heap.size+1) (seenAt x p) wr/\Hid (∀ p',p'<p->refsBad l f p'=false))
     case atStart=>exact⟨0,by omega,rfl,unhide HT1,fun p' h=>absurd h (Nat.not_lt_zero _)⟩
     case round=>
      clear HT1;obtain⟨p,hpg,rfl,T,hok⟩:=hrel;have hx:=T.box;have u0:=hx.unit;have f0:wr.cell? ⟨wo.heap.size,0,none⟩=some (.string x.name):=T.fc 0 (by omega);have f1:wr.cell? ⟨wo.heap.size,1,none⟩=some (.int .i64 x.line):=T.fc 1 (by omega);have f2:wr.cell? ⟨wo.heap.size,2,none⟩=some (.int .i64 x.params):=T.fc 2 (by omega);have f3:wr.cell? ⟨wo.heap.size,3,none⟩=some (.bool x.rest):=T.fc 3 (by omega);have f4:wr.cell? ⟨wo.heap.size,4,none⟩=some (.slice va x.vars.length vc):=T.fc 4 (by omega);have f5:wr.cell? ⟨wo.heap.size,5,none⟩=some (.slice ua x.ups.length uc):=T.fc 5 (by omega);have f6:wr.cell? ⟨wo.heap.size,6,none⟩=some (.slice na x.nodes.length nc):=T.fc 6 (by omega);have t0:=T.tree.t0;have t1:=T.tree.t1;by_cases hpl:p<x.nodes.length
      ·have HC:=hide (l3refs_any (some ⟨b,off,none⟩) l.length c x va ua na vc uc nc bp (w1.heap.size+1) (some ⟨bd,0,none⟩) (seenAt x p) p S wr (by omega) (by omega) (by omega) ((unhide NN).keep hx.old (unhide HB)) (fun b h=>Nat.lt_of_lt_of_le (unhide HB b h) hx.old.size) (fun b h=>by have:=unhide HB b h;omega) hpl (unhide HR1 p hpl) T.row T.tree.p (unhide HKI) hlenb);have HRp:=hide (unhide HRB p);have HSA:Hid (seenAt x (p+1)=sSeen x p (seenAt x p)):=rfl;generalize sRefs l.length x p (seenAt x p)=rr at *;generalize sSeen x p (seenAt x p)=ss at *;go_wp2_with fail
       refine(unhide HC).mono ?_;rintro e w3 ⟨rfl,hbut,hrow3⟩;have hx3:=hx.but hbut T.n0;cases rr
       ·go_wp2_with fail
        refine(l3fault_any _ _ _ _).mono ?_;rintro e w2 ⟨rfl,hb2⟩;have hx2:=hx3.below' hb2;have r0:=hx2.res 0 (by omega);have r1:=hx2.res 1 (by omega);have r2:=hx2.res 2 (by omega);have z0:=hx2.frozen 0;have z1:=hx2.frozen 1;have z2:=hx2.frozen 2;have BB:Hid (∀ v0 v1 v2,Below w.heap.size w (((w2.setCell ⟨w.heap.size+1,0,none⟩ v0).setCell ⟨w.heap.size+1,1,none⟩ v1).setCell ⟨w.heap.size+1,2,none⟩ v2)):=fun v0 v1 v2=>((hx2.old.setCell (Nat.le_succ _) _).setCell (Nat.le_succ _) _).setCell (Nat.le_succ _) _;go_wp2_with fail
        refine bodyPost_ret (v:=.agg #[.int .i64 6,.int .i64 f,.int .i64 p]) (by simp[results,Tryz.results24,go_sem,r0,r1,r2]) rfl ⟨6,f,p,rfl,?_,BB.out _ _ _⟩;refine .inl ⟨rfl,f,p,rfl,rfl,hlt,by rw[unhide HXX];exact hpl,by rw[unhide HRp];rfl,fun f' p' h1 h2 h3=>?_⟩;rcases h3 with h3 | ⟨rfl,h3⟩
        ·exact hpar.out f' p' h3 h2
        ·exact hok.out p' h3
       ·have T3:=T.next hbut (hrow3 rfl);go_wp2_with fail
        go_roundg (x.nodes.length-(p+1))
        case measure=>omega
        case rel=>
         refine⟨p+1,by omega,by go_num,by rw[unhide HSA];exact T3,fun j h=>?_⟩;by_cases e:j=p
         ·subst e;rw[unhide HRp];rfl
         ·exact hok.out j (by omega)
      ·go_wp2_with fail
       go_roundg (l.length-(f+1))
       case measure=>omega
       case rel=>
        refine⟨f+1,by omega,by go_num,hx,fun f' p' h1 h2=>?_⟩;by_cases e:f'=f
        ·subst e;rw[unhide HXX]at h2;exact hok.out p' (by omega)
        ·exact hpar.out f' p' (by omega) h2
  ·have HF6:Hid (NoBad l (refsBad l)):=fun f' p' h1 h2=>hpar.out f' p' (by omega) h2;clear hpar;go_wp2_with fail
   go_loopg [66] l.length (fun g i wr=>∃(k:Nat),k+g=l.length/\i=.int .i64 k/\Box2 w a l.length c wr/\Hid (∀ f' p',f'<k->p'<(fnD l f').nodes.length->breakBad l f' p'=false))
   case atStart=>exact⟨0,by omega,rfl,hx,fun f' p' h=>absurd h (Nat.not_lt_zero _)⟩
   case round=>
    clear hx u0 hlt hk;obtain⟨f,hk,rfl,hx,hpar⟩:=hrel;obtain⟨wo,rfl⟩:∃ wo,wo=wr:=⟨wr,rfl⟩;have u0:=hx.unit;by_cases hlt:f<l.length
    ·skip
     obtain⟨b,off,rfl,hb,hcc⟩:=(unhide HS).2 (by omega);have N0:FnCells w S b (off+f * 7) (fnD l f):=hcc f hlt;clear hcc;obtain⟨va,vc,hv0,hvI⟩:=N0.vars;obtain⟨ua,uc,hu0,huI⟩:=N0.ups;obtain⟨na,nc,hno0,hnI⟩:=N0.nodes;have hbs:b<w.heap.size:=unhide HB b hb;have old:∀ o v,w.cell? ⟨b,o,none⟩=some v->wo.cell? ⟨b,o,none⟩=some v:=fun o v h=>(hx.old.cell (p:=⟨b,o,none⟩) hbs).trans h;have d0:=old _ _ N0.name;have d1:=old _ _ N0.line;have d2:=old _ _ N0.params;have d3:=old _ _ N0.rest;have d4:=old _ _ hv0;have d5:=old _ _ hu0;have d6:=old _ _ hno0;have hlenb:=(unhide HSH).len hlt;have hpos:=(unhide HSH).pos hlt;have HKI:Hid (∀ p,p<(fnD l f).nodes.length->kidsIn (fnD l f).nodes p=true):=(unhide HSH).kids hlt;have NN:Hid (NodesAt w S na (fnD l f).nodes):=hnI;have HRB:Hid (∀ p,breakBad l f p=(((nd (fnD l f).nodes p).kind==9||(nd (fnD l f).nodes p).kind==10) && !sInloop (fnD l f).nodes p)):=fun p=>rfl;clear hnI hvI huI N0 hv0 hu0 hno0 old;generalize hxx:fnD l f=x at *;have HXX:=hide hxx;clear hxx;go_wp2_with fail
     refine(l3grow_from w _ (unhide NN) (unhide HB) hpos hlenb (unhide HKI) (hx.alloc _).old).mono ?_;rintro e w1 ⟨bp,bd,rfl,hrp,hrd,hq1,hq2,hb1⟩;have T0:=hide (fnTree_mk (R:=⟨va,vc,ua,uc,na,nc⟩) hx hb1 hrp hrd);have hq3:wo.heap.size+1<=w1.heap.size:=by have:=hb1.size;simpa using this
     have y1:wo.heap.size<w1.heap.size:=by omega
     have f6:w1.cell? ⟨wo.heap.size,6,none⟩=some (.slice na x.nodes.length nc):=by
      rw[hb1.cell (p:=⟨wo.heap.size,6,none⟩) (by simp)];simp[go_sem]
     clear hq1 hq2 hb1 hrp hrd d0 d1 d2 d3 d4 d5 d6 u0;go_wp2_with fail
     clear f6;go_loopg [77] x.nodes.length (fun g i wr=>∃(p:Nat),p+g=x.nodes.length/\i=.int .i64 p/\FnTree w (some ⟨b,off,none⟩) l.length c x ⟨va,vc,ua,uc,na,nc⟩ wo.heap.size w1.heap.size bp bd wr/\Hid (∀ p',p'<p->breakBad l f p'=false))
     case atStart=>exact⟨0,by omega,rfl,unhide T0,fun p' h=>absurd h (Nat.not_lt_zero _)⟩
     case round=>
      clear T0 hx;obtain⟨p,hpg,rfl,T,hok⟩:=hrel;have hx:=T.box;have f0:wr.cell? ⟨wo.heap.size,0,none⟩=some (.string x.name):=T.fc 0 (by omega);have f1:wr.cell? ⟨wo.heap.size,1,none⟩=some (.int .i64 x.line):=T.fc 1 (by omega);have f2:wr.cell? ⟨wo.heap.size,2,none⟩=some (.int .i64 x.params):=T.fc 2 (by omega);have f3:wr.cell? ⟨wo.heap.size,3,none⟩=some (.bool x.rest):=T.fc 3 (by omega);have f4:wr.cell? ⟨wo.heap.size,4,none⟩=some (.slice va x.vars.length vc):=T.fc 4 (by omega);have f5:wr.cell? ⟨wo.heap.size,5,none⟩=some (.slice ua x.ups.length uc):=T.fc 5 (by omega);have f6:wr.cell? ⟨wo.heap.size,6,none⟩=some (.slice na x.nodes.length nc):=T.fc 6 (by omega);have t0:=T.tree.t0;have t1:=T.tree.t1;by_cases hpl:p<x.nodes.length
      ·have HC:=hide (l3inloop_from (a4:=va) (a5:=ua) (c4:=vc) (c5:=uc) (c6:=nc) (dv:=some ⟨bd,0,none⟩) w wr (unhide NN) (unhide HB) hx.old T.tree.p (unhide HKI) hlenb hpl);have HRp:=hide (unhide HRB p);obtain⟨b2,off2,rfl,hb2,hc2⟩:=((unhide NN).keep hx.old (unhide HB)).2 (by omega);have kc:wr.cell? ⟨b2,off2+p * 8,none⟩=some (.int .i64 (nd x.nodes p).kind):=(hc2 p hpl).kind;clear hc2;generalize (nd x.nodes p).kind=kd at *;generalize sInloop x.nodes p=il at *;by_cases hkd:kd=9\/kd=10
       ·have HK9:Hid (breakBad l f p=!il):=by show _=_;rw[unhide HRp];rcases hkd with rfl | rfl<;>rfl
        cases il
        ·rcases hkd with rfl | rfl
         all_goals
          go_wp2_with fail
          refine(unhide HC).mono ?_;rintro e w3 ⟨rfl,hb3⟩;have hx3:=hx.below' hb3;go_wp2_with fail
          refine(l3fault_any _ _ _ _).mono ?_;rintro e w2 ⟨rfl,hb2⟩;have hx2:=hx3.below' hb2;have r0:=hx2.res 0 (by omega);have r1:=hx2.res 1 (by omega);have r2:=hx2.res 2 (by omega);have z0:=hx2.frozen 0;have z1:=hx2.frozen 1;have z2:=hx2.frozen 2;have BB:Hid (∀ v0 v1 v2,Below w.heap.size w (((w2.setCell ⟨w.heap.size+1,0,none⟩ v0).setCell ⟨w.heap.size+1,1,none⟩ v1).setCell ⟨w.heap.size+1,2,none⟩ v2)):=fun v0 v1 v2=>((hx2.old.setCell (Nat.le_succ _) _).setCell (Nat.le_succ _) _).setCell (Nat.le_succ _) _;go_wp2_with fail
          refine bodyPost_ret (v:=.agg #[.int .i64 7,.int .i64 f,.int .i64 p]) (by simp[results,Tryz.results24,go_sem,r0,r1,r2]) rfl ⟨7,f,p,rfl,?_,BB.out _ _ _⟩;refine .inr (.inl ⟨unhide HF6,rfl,f,p,rfl,rfl,hlt,by rw[unhide HXX];exact hpl,unhide HK9,fun f' p' h1 h2 h3=>?_⟩);rcases h3 with h3 | ⟨rfl,h3⟩
          ·exact hpar.out f' p' h3 h2
          ·exact hok.out p' h3
        ·rcases hkd with rfl | rfl
         all_goals
          go_wp2_with fail
          refine(unhide HC).mono ?_;rintro e w3 ⟨rfl,hb3⟩;have T3:=T.below hb3;go_wp2_with fail
          go_roundg (x.nodes.length-(p+1))
          case measure=>omega
          case rel=>
           refine⟨p+1,by omega,by go_num,T3,fun j h=>?_⟩;by_cases e:j=p
           ·subst e;exact unhide HK9
           ·exact hok.out j (by omega)
       ·have k1:(kd==9)=false:=beq_eq_false_iff_ne.2 (fun h=>hkd (.inl h));have k2:(kd==10)=false:=beq_eq_false_iff_ne.2 (fun h=>hkd (.inr h));have HK9:Hid (breakBad l f p=false):=by show _=_;rw[unhide HRp,k1,k2];rfl
        clear hkd;go_wp2_with fail
        go_roundg (x.nodes.length-(p+1))
        case measure=>omega
        case rel=>
         refine⟨p+1,by omega,by go_num,T,fun j h=>?_⟩;by_cases e:j=p
         ·subst e;exact unhide HK9
         ·exact hok.out j (by omega)
      ·go_wp2_with fail
       go_roundg (l.length-(f+1))
       case measure=>omega
       case rel=>
        refine⟨f+1,by omega,by go_num,hx,fun f' p' h1 h2=>?_⟩;by_cases e:f'=f
        ·subst e;rw[unhide HXX]at h2;exact hok.out p' (by omega)
        ·exact hpar.out f' p' (by omega) h2
    ·have HF7:Hid (NoBad l (breakBad l)):=fun f' p' h1 h2=>hpar.out f' p' (by omega) h2;clear hpar;have hmk:=run_make_row' (P:=Tryz.prog) 26 4 (.bool false) 1 Tryz.underlying26 info_bool rfl .i64 .i64 l.length (by omega) hn;have hbm:=hx.size;have u0':∀ o,(wo.alloc o).cell? ⟨w.heap.size,0,none⟩=some (.slice a l.length c):=fun o=>(hx.alloc o).unit;go_wp2_with fail
     clear hmk u0';go_loopg [111] l.length (fun g i wr=>∃(k:Nat),k+g=l.length/\i=.int .i64 k/\Box2 w a l.length c wr/\wr.rowIs wo.heap.size 4 l.length (fun j=>.bool (madeUpto l k j))/\Hid (∀ f' p',f'<k->p'<(fnD l f').nodes.length->fnBad l f' p'=false))
     case atStart=>exact⟨0,by omega,rfl,hx.alloc _,(World.rowIs_made _ _ _ _).congr (fun _ _=>rfl),fun f' p' h=>absurd h (Nat.not_lt_zero _)⟩
     case round=>
      clear hx u0 hlt hk;generalize wo.heap.size=bm at *;obtain⟨f,hk,rfl,hx,hmade,hpar⟩:=hrel;obtain⟨wp,rfl⟩:∃ wp,wp=wr:=⟨wr,rfl⟩;have u0:=hx.unit;by_cases hlt:f<l.length
      ·skip
       obtain⟨b,off,ea,hb,hcc⟩:=(unhide HS).2 (by omega);have N0:FnCells w S b (off+f * 7) (fnD l f):=hcc f hlt;clear hcc;obtain⟨va,vc,hv0,hvI⟩:=N0.vars;obtain⟨ua,uc,hu0,huI⟩:=N0.ups;obtain⟨na,nc,hno0,hnI⟩:=N0.nodes;have hbs:b<w.heap.size:=unhide HB b hb;have old:∀ o v,w.cell? ⟨b,o,none⟩=some v->wp.cell? ⟨b,o,none⟩=some v:=fun o v h=>(hx.old.cell (p:=⟨b,o,none⟩) hbs).trans h;have d0:=old _ _ N0.name;have d1:=old _ _ N0.line;have d2:=old _ _ N0.params;have d3:=old _ _ N0.rest;have d4:=old _ _ hv0;have d5:=old _ _ hu0;have d6:=old _ _ hno0;have hlenb:=(unhide HSH).len hlt;have hpos:=(unhide HSH).pos hlt;have HKI:Hid (∀ p,p<(fnD l f).nodes.length->kidsIn (fnD l f).nodes p=true):=(unhide HSH).kids hlt;have NN:Hid (NodesAt w S na (fnD l f).nodes):=hnI;have HRB:Hid (∀ p,fnBad l f p=(((nd (fnD l f).nodes p).kind==37 && !(fnD l f).rest)||((nd (fnD l f).nodes p).kind==36&&(decide (ref0 (nd (fnD l f).nodes p)<=f)||madeAt l f p (ref0 (nd (fnD l f).nodes p)).toNat || !sUps (fnD l f) p (fnD l (ref0 (nd (fnD l f).nodes p)).toNat).ups)))):=fun p=>rfl;have HR1:Hid (∀ p,p<(fnD l f).nodes.length->(nd (fnD l f).nodes p).kind=36->(nd (fnD l f).nodes p).refs.length=1):=fun p hp h=>(unhide HSH).ref1 hlt hp (.inr (.inr h));have HG0:Hid (∀ p,p<(fnD l f).nodes.length->(nd (fnD l f).nodes p).kind=36->0<=ref0 (nd (fnD l f).nodes p)/\ref0 (nd (fnD l f).nodes p)<l.length):=fun p hp h=>by
        have h1:=unhide HF6 f p hlt hp;unfold refsBad at h1;have h2:sRefs l.length (fnD l f) p (seenAt (fnD l f) p)=true:=by simpa using h1
        unfold sRefs at h2;rw[if_neg (by omega),if_pos h]at h2;simpa using h2
       have HUPS:Hid (∀(W:World) (bp:Nat) (dv:Option Addr) (g p:Nat),Below w.heap.size w W->g<l.length->p<(fnD l f).nodes.length->W.rowIs bp 3 (fnD l f).nodes.length (fun j=>.int .i64 (sPar (fnD l f).nodes j)) ->
         Calls Tryz.prog 43 #[.agg #[.slice (some ⟨b,off,none⟩) l.length c],.int .i64 f,.agg #[.slice (some ⟨bp,0,none⟩) (fnD l f).nodes.length (fnD l f).nodes.length,.slice dv (fnD l f).nodes.length (fnD l f).nodes.length],.int .i64 p,.int .i64 g] W fun e w'=>
          e=.returned (.bool (sUps (fnD l f) p (fnD l g).ups))/\Below W.heap.size W w'):=fun W bp dv g p hW hg hp hrp=>by
        have:=unhide HS;rw[ea]at this;exact l3ups_from w W this (unhide HB) hW hlt hg hrp (unhide HKI) hlenb hp
       have HMA:Hid (∀ p,madeAt l f (p+1)=if(nd (fnD l f).nodes p).kind=36 then(fun g=>madeAt l f p g||decide (ref0 (nd (fnD l f).nodes p)=(g:Int)))else madeAt l f p):=fun p=>rfl;have HM0:Hid (madeAt l f 0=madeUpto l f/\madeAt l f (fnD l f).nodes.length=madeUpto l (f+1)):=⟨rfl,rfl⟩;clear hnI hvI huI N0 hv0 hu0 hno0 old;generalize hxx:fnD l f=x at *;have HXX:=hide hxx;clear hxx;subst ea;have hbml:=hmade.lt;go_wp2_with fail
       refine(l3grow_from w _ (unhide NN) (unhide HB) hpos hlenb (unhide HKI) (hx.alloc _).old).mono ?_;rintro e w1 ⟨bp,bd,rfl,hrp,hrd,hq1,hq2,hb1⟩;have hq1':wp.heap.size+1<=bp:=by simpa using hq1
       have hq2':wp.heap.size+1<=bd:=by simpa using hq2
       have T0:=hide (fnTree_mk (R:=⟨va,vc,ua,uc,na,nc⟩) hx hb1 hrp hrd);have hq3:wp.heap.size+1<=w1.heap.size:=by have:=hb1.size;simpa using this
       have M0:Hid ((w1.alloc (.cells #[.slice (some ⟨bp,0,none⟩) x.nodes.length x.nodes.length,.slice (some ⟨bd,0,none⟩) x.nodes.length x.nodes.length] 79)).rowIs bm 4 l.length (fun j=>.bool (madeAt l f 0 j))):=by
        rw[(unhide HM0).1];exact World.rowIs.alloc ((hmade.alloc _).of_block (hb1.block bm (by simp;omega))) _
       have y1:wp.heap.size<w1.heap.size:=by omega
       have e1:wp.heap.size≠bm:=by omega
       have e2:w1.heap.size≠bm:=by omega
       have e3:bp≠bm:=by omega
       have e4:bd≠bm:=by omega
       have NE:=hide (And.intro e1 (And.intro e2 (And.intro e3 e4)));have f6:w1.cell? ⟨wp.heap.size,6,none⟩=some (.slice na x.nodes.length nc):=by
        rw[hb1.cell (p:=⟨wp.heap.size,6,none⟩) (by simp)];simp[go_sem]
       clear hq1 hq2 hb1 hrp hrd d0 d1 d2 d3 d4 d5 d6 u0 e1 e2 e3 e4 hmade;go_wp2_with fail
       clear f6;go_loopg [122] x.nodes.length (fun g i wr=>∃(p:Nat),p+g=x.nodes.length/\i=.int .i64 p/\FnTree w (some ⟨b,off,none⟩) l.length c x ⟨va,vc,ua,uc,na,nc⟩ wp.heap.size w1.heap.size bp bd wr/\wr.rowIs bm 4 l.length (fun j=>.bool (madeAt l f p j))/\Hid (∀ p',p'<p->fnBad l f p'=false))
       case atStart=>exact⟨0,by omega,rfl,unhide T0,unhide M0,fun p' h=>absurd h (Nat.not_lt_zero _)⟩
       case round=>
        clear T0 M0 hx;obtain⟨p,hpg,rfl,T,M,hok⟩:=hrel;have hx:=T.box;have u0:=hx.unit;have f3:wr.cell? ⟨wp.heap.size,3,none⟩=some (.bool x.rest):=T.fc 3 (by omega);have f6:wr.cell? ⟨wp.heap.size,6,none⟩=some (.slice na x.nodes.length nc):=T.fc 6 (by omega);have t0:=T.tree.t0;have t1:=T.tree.t1;by_cases hpl:p<x.nodes.length
        ·have HRp:=hide (unhide HRB p);have HMp:=hide (unhide HMA p);obtain⟨b2,off2,rfl,hb2,hc2⟩:=((unhide NN).keep hx.old (unhide HB)).2 (by omega);have Np:NodeCells wr S b2 (off2+p * 8) (nd x.nodes p):=hc2 p hpl;have kc:=Np.kind;obtain⟨ra,rc,hr,hrI⟩:=Np.refs;have HRI:=hide hrI;have HG:=hide (unhide HG0 p hpl);have HR:=hide (unhide HR1 p hpl);clear hc2 Np hrI;by_cases k36:(nd x.nodes p).kind=36
         ·obtain⟨b3,off3,rfl,hb3,hc3⟩:=(unhide HRI).2 (by have:=unhide HR k36;omega);have rcell:wr.cell? ⟨b3,off3,none⟩=some (.int .i64 (ref0 (nd x.nodes p))):=by have:=hc3 0 (by have:=unhide HR k36;omega);rw[Nat.add_zero]at this;exact this
          rw[unhide HR k36]at hr;obtain⟨g0,g1⟩:=unhide HG k36;obtain⟨g,hg⟩:=Int.eq_ofNat_of_zero_le g0;have HK8:Hid (fnBad l f p=(decide ((g:Int)<=f)||madeAt l f p g || !sUps x p (fnD l g).ups)):=by show _=_;rw[unhide HRp,k36,hg,Int.toNat_natCast];rfl
          have HMN:Hid (madeAt l f (p+1)=fun q=>madeAt l f p q||decide ((g:Int)=(q:Int))):=by show _=_;rw[unhide HMp,if_pos k36,hg]
          rw[k36]at kc;rw[hg]at rcell g1;have hgl:g<l.length:=by omega
          have HC:=hide (unhide HUPS wr bp (some ⟨bd,0,none⟩) g p hx.old hgl hpl T.tree.p);have mc:=M.cell hgl;have mf:=M.frozen g;clear hc3 g0 hg k36 HRp HMp HG HR HRI;generalize hmg:madeAt l f p g=mg at *;have HMG:=hide hmg;clear hmg;generalize sUps x p (fnD l g).ups=su at *;by_cases q1:(g:Int)<=f
          ·have s1:decide ((g:Int)<=f)=true:=decide_eq_true q1;have s1':decide (g<=f)=true:=decide_eq_true (by omega);have HK9:Hid (fnBad l f p=true):=by show _=_;rw[unhide HK8,s1];rfl
           go_wp2_with fail
           refine(l3fault_any _ _ _ _).mono ?_;rintro e w2 ⟨rfl,hb2⟩;have hx2:=hx.below' hb2;have r0:=hx2.res 0 (by omega);have r1:=hx2.res 1 (by omega);have r2:=hx2.res 2 (by omega);have z0:=hx2.frozen 0;have z1:=hx2.frozen 1;have z2:=hx2.frozen 2;have BB:Hid (∀ v0 v1 v2,Below w.heap.size w (((w2.setCell ⟨w.heap.size+1,0,none⟩ v0).setCell ⟨w.heap.size+1,1,none⟩ v1).setCell ⟨w.heap.size+1,2,none⟩ v2)):=fun v0 v1 v2=>((hx2.old.setCell (Nat.le_succ _) _).setCell (Nat.le_succ _) _).setCell (Nat.le_succ _) _;go_wp2_with fail
           refine bodyPost_ret (v:=.agg #[.int .i64 8,.int .i64 f,.int .i64 p]) (by simp[results,Tryz.results24,go_sem,r0,r1,r2]) rfl ⟨8,f,p,rfl,?_,BB.out _ _ _⟩;refine .inr (.inr (.inl ⟨unhide HF6,unhide HF7,rfl,f,p,rfl,rfl,hlt,by rw[unhide HXX];exact hpl,unhide HK9,fun f' p' h1 h2 h3=>?_⟩));rcases h3 with h3 | ⟨rfl,h3⟩
           ·exact hpar.out f' p' h3 h2
           ·exact hok.out p' h3
          ·have s1:decide ((g:Int)<=f)=false:=decide_eq_false q1;have s1':decide (g<=f)=false:=decide_eq_false (by omega);cases mg
           ·cases su
            ·have HK9:Hid (fnBad l f p=true):=by show _=_;rw[unhide HK8];simp
             go_wp2_with fail
             refine(unhide HC).mono ?_;rintro e w3 ⟨rfl,hb3'⟩;have hx3:=hx.below' hb3';go_wp2_with fail
             refine(l3fault_any _ _ _ _).mono ?_;rintro e w2 ⟨rfl,hb2⟩;have hx2:=hx3.below' hb2;have r0:=hx2.res 0 (by omega);have r1:=hx2.res 1 (by omega);have r2:=hx2.res 2 (by omega);have z0:=hx2.frozen 0;have z1:=hx2.frozen 1;have z2:=hx2.frozen 2;have BB:Hid (∀ v0 v1 v2,Below w.heap.size w (((w2.setCell ⟨w.heap.size+1,0,none⟩ v0).setCell ⟨w.heap.size+1,1,none⟩ v1).setCell ⟨w.heap.size+1,2,none⟩ v2)):=fun v0 v1 v2=>((hx2.old.setCell (Nat.le_succ _) _).setCell (Nat.le_succ _) _).setCell (Nat.le_succ _) _;go_wp2_with fail
             refine bodyPost_ret (v:=.agg #[.int .i64 8,.int .i64 f,.int .i64 p]) (by simp[results,Tryz.results24,go_sem,r0,r1,r2]) rfl ⟨8,f,p,rfl,?_,BB.out _ _ _⟩;refine .inr (.inr (.inl ⟨unhide HF6,unhide HF7,rfl,f,p,rfl,rfl,hlt,by rw[unhide HXX];exact hpl,unhide HK9,fun f' p' h1 h2 h3=>?_⟩));rcases h3 with h3 | ⟨rfl,h3⟩
             ·exact hpar.out f' p' h3 h2
             ·exact hok.out p' h3
            ·have HK9:Hid (fnBad l f p=false):=by show _=_;rw[unhide HK8,s1];rfl
             go_wp2_with fail
             refine(unhide HC).mono ?_;rintro e w3 ⟨rfl,hb3'⟩;have T3:=T.below hb3';have M3:=M.of_block (hb3'.block bm M.lt);have mc3:=M3.cell hgl;have mf3:=M3.frozen g;go_wp2_with fail
             obtain⟨e1,e2,e3,e4⟩:=unhide NE;go_roundg (x.nodes.length-(p+1))
             case measure=>omega
             case rel=>
              refine⟨p+1,by omega,by go_num,T3.but ((But.refl _ _ _).set g _) hbm e1 e2 e3 e4,(M3.set g _).congr fun j hj=>by
              rw[unhide HMN];by_cases e:j=g
              ·subst e;simp
              ·have h2:¬((g:Int)=j):=by omega
               simp[e,h2],fun j h=>?_⟩
              by_cases e:j=p
              ·subst e;exact unhide HK9
              ·exact hok.out j (by omega)
           ·have HK9:Hid (fnBad l f p=true):=by show _=_;rw[unhide HK8];simp
            go_wp2_with fail
            refine(l3fault_any _ _ _ _).mono ?_;rintro e w2 ⟨rfl,hb2⟩;have hx2:=hx.below' hb2;have r0:=hx2.res 0 (by omega);have r1:=hx2.res 1 (by omega);have r2:=hx2.res 2 (by omega);have z0:=hx2.frozen 0;have z1:=hx2.frozen 1;have z2:=hx2.frozen 2;have BB:Hid (∀ v0 v1 v2,Below w.heap.size w (((w2.setCell ⟨w.heap.size+1,0,none⟩ v0).setCell ⟨w.heap.size+1,1,none⟩ v1).setCell ⟨w.heap.size+1,2,none⟩ v2)):=fun v0 v1 v2=>((hx2.old.setCell (Nat.le_succ _) _).setCell (Nat.le_succ _) _).setCell (Nat.le_succ _) _;go_wp2_with fail
            refine bodyPost_ret (v:=.agg #[.int .i64 8,.int .i64 f,.int .i64 p]) (by simp[results,Tryz.results24,go_sem,r0,r1,r2]) rfl ⟨8,f,p,rfl,?_,BB.out _ _ _⟩;refine .inr (.inr (.inl ⟨unhide HF6,unhide HF7,rfl,f,p,rfl,rfl,hlt,by rw[unhide HXX];exact hpl,unhide HK9,fun f' p' h1 h2 h3=>?_⟩));rcases h3 with h3 | ⟨rfl,h3⟩
            ·exact hpar.out f' p' h3 h2
            ·exact hok.out p' h3
         ·have kn36:((nd x.nodes p).kind==36)=false:=beq_eq_false_iff_ne.2 k36;have kn36':((nd x.nodes p).kind != 36)=true:=by simpa using k36
          have HMN:Hid (madeAt l f (p+1)=madeAt l f p):=by show _=_;rw[unhide HMp,if_neg k36]
          have HK8:Hid (fnBad l f p=((nd x.nodes p).kind==37 && !x.rest)):=by show _=_;rw[unhide HRp,kn36];simp
          clear HRp HMp HG HR HRI hr;generalize (nd x.nodes p).kind=kd at *;by_cases k37:kd=37
          ·subst k37;rcases(Bool.eq_false_or_eq_true x.rest).symm with hrest | hrest
           ·have HK9:Hid (fnBad l f p=true):=by show _=_;rw[unhide HK8,hrest];rfl
            rw[hrest]at f3;clear hrest;go_wp2_with fail
            refine(l3fault_any _ _ _ _).mono ?_;rintro e w2 ⟨rfl,hb2⟩;have hx2:=hx.below' hb2;have r0:=hx2.res 0 (by omega);have r1:=hx2.res 1 (by omega);have r2:=hx2.res 2 (by omega);have z0:=hx2.frozen 0;have z1:=hx2.frozen 1;have z2:=hx2.frozen 2;have BB:Hid (∀ v0 v1 v2,Below w.heap.size w (((w2.setCell ⟨w.heap.size+1,0,none⟩ v0).setCell ⟨w.heap.size+1,1,none⟩ v1).setCell ⟨w.heap.size+1,2,none⟩ v2)):=fun v0 v1 v2=>((hx2.old.setCell (Nat.le_succ _) _).setCell (Nat.le_succ _) _).setCell (Nat.le_succ _) _;go_wp2_with fail
            refine bodyPost_ret (v:=.agg #[.int .i64 8,.int .i64 f,.int .i64 p]) (by simp[results,Tryz.results24,go_sem,r0,r1,r2]) rfl ⟨8,f,p,rfl,?_,BB.out _ _ _⟩;refine .inr (.inr (.inl ⟨unhide HF6,unhide HF7,rfl,f,p,rfl,rfl,hlt,by rw[unhide HXX];exact hpl,unhide HK9,fun f' p' h1 h2 h3=>?_⟩));rcases h3 with h3 | ⟨rfl,h3⟩
            ·exact hpar.out f' p' h3 h2
            ·exact hok.out p' h3
           ·have HK9:Hid (fnBad l f p=false):=by show _=_;rw[unhide HK8,hrest];rfl
            rw[hrest]at f3;clear hrest;go_wp2_with fail
            go_roundg (x.nodes.length-(p+1))
            case measure=>omega
            case rel=>
             refine⟨p+1,by omega,by go_num,T,by rw[unhide HMN];exact M,fun j h=>?_⟩;by_cases e:j=p
             ·subst e;exact unhide HK9
             ·exact hok.out j (by omega)
          ·have kn37:(kd==37)=false:=beq_eq_false_iff_ne.2 k37;have HK9:Hid (fnBad l f p=false):=by show _=_;rw[unhide HK8,kn37];rfl
           clear k37 k36;go_wp2_with fail
           go_roundg (x.nodes.length-(p+1))
           case measure=>omega
           case rel=>
            refine⟨p+1,by omega,by go_num,T,by rw[unhide HMN];exact M,fun j h=>?_⟩;by_cases e:j=p
            ·subst e;exact unhide HK9
            ·exact hok.out j (by omega)
        ·go_wp2_with fail
         go_roundg (l.length-(f+1))
         case measure=>omega
         case rel=>
          have hpe:p=x.nodes.length:=by omega
          refine⟨f+1,by omega,by go_num,hx,by rw[<-(unhide HM0).2,<-hpe];exact M,fun f' p' h1 h2=>?_⟩;by_cases e:f'=f
          ·subst e;rw[unhide HXX]at h2;exact hok.out p' (by omega)
          ·exact hpar.out f' p' (by omega) h2
      ·have HF8:Hid (NoBad l (fnBad l)):=fun f' p' h1 h2=>hpar.out f' p' (by omega) h2;have hfl:f=l.length:=by omega
       subst hfl;clear hpar hk;go_wp2_with fail
       clear hlt;go_loopg [20] l.length (fun g i wr=>∃(k:Nat),1<=k/\k+g=l.length+1/\i=.int .i64 k/\Box2 w a l.length c wr/\wr.rowIs bm 4 l.length (fun j=>.bool (madeUpto l l.length j))/\Hid (∀ q,1<=q->q<k->madeUpto l l.length q=true))
       case atStart=>exact⟨1,by omega,by omega,rfl,hx,hmade,fun q h1 h2=>by omega⟩
       case round=>
        clear hx u0 hmade;obtain⟨k,hk1,hkg,rfl,hx,M,hok⟩:=hrel;have u0:=hx.unit;by_cases hkl:k<l.length
        ·have mc:=M.cell hkl;cases hmk:madeUpto l l.length k
         ·rw[hmk]at mc;have HK:=hide hmk;clear hmk;go_wp2_with fail
          refine(l3fault_any _ _ _ _).mono ?_;rintro e w2 ⟨rfl,hb2⟩;have hx2:=hx.below' hb2;have r0:=hx2.res 0 (by omega);have r1:=hx2.res 1 (by omega);have r2:=hx2.res 2 (by omega);have z0:=hx2.frozen 0;have z1:=hx2.frozen 1;have z2:=hx2.frozen 2;have BB:Hid (∀ v0 v1 v2,Below w.heap.size w (((w2.setCell ⟨w.heap.size+1,0,none⟩ v0).setCell ⟨w.heap.size+1,1,none⟩ v1).setCell ⟨w.heap.size+1,2,none⟩ v2)):=fun v0 v1 v2=>((hx2.old.setCell (Nat.le_succ _) _).setCell (Nat.le_succ _) _).setCell (Nat.le_succ _) _;go_wp2_with fail
          refine bodyPost_ret (v:=.agg #[.int .i64 9,.int .i64 k,.int .i64 0]) (by simp[results,Tryz.results24,go_sem,r0,r1,r2]) rfl ⟨9,k,0,rfl,?_,BB.out _ _ _⟩;exact .inr (.inr (.inr (.inl ⟨unhide HF6,unhide HF7,unhide HF8,rfl,rfl,k,rfl,hk1,hkl,unhide HK,hok.out⟩)))
         ·rw[hmk]at mc;have HK:=hide hmk;clear hmk;go_wp2_with fail
          go_roundg (l.length-k)
          case measure=>omega
          case rel=>
           refine⟨k+1,by omega,by omega,by go_num,hx,M,fun q h1 h2=>?_⟩;by_cases e:q=k
           ·subst e;exact unhide HK
           ·exact hok.out q h1 (by omega)
        ·have HALL:Hid (∀ g,1<=g->g<l.length->madeUpto l l.length g=true):=fun g h1 h2=>hok.out g h1 (by omega);have r0:=hx.res 0 (by omega);have r1:=hx.res 1 (by omega);have r2:=hx.res 2 (by omega);have z0:=hx.frozen 0;have z1:=hx.frozen 1;have z2:=hx.frozen 2;have BB:Hid (∀ v0 v1 v2,Below w.heap.size w (((wr.setCell ⟨w.heap.size+1,0,none⟩ v0).setCell ⟨w.heap.size+1,1,none⟩ v1).setCell ⟨w.heap.size+1,2,none⟩ v2)):=fun v0 v1 v2=>((hx.old.setCell (Nat.le_succ _) _).setCell (Nat.le_succ _) _).setCell (Nat.le_succ _) _;go_wp2_with fail
         refine bodyPost_ret (v:=.agg #[.int .i64 0,.int .i64 0,.int .i64 0]) (by simp[results,Tryz.results24,go_sem,r0,r1,r2]) rfl ⟨0,0,0,rfl,?_,BB.out _ _ _⟩;exact .inr (.inr (.inr (.inr ⟨unhide HF6,unhide HF7,unhide HF8,rfl,rfl,rfl,unhide HALL⟩)))
def UnitFault (l:List FnD)(c f n:Int):Prop:=
 (Fault13 l c f n/\c≠0)\/(Fault13 l 0 0 0/\Fault45 l c f n/\c≠0)\/(Fault13 l 0 0 0/\Fault45 l 0 0 0/\Fault69 l c f n)
theorem First.unique {l:List FnD}{bad:Nat->Nat->Bool}{f p f' p':Nat}(h:First l bad f p)(h':First l bad f' p'):f=f'/\p=p':=by
 obtain⟨h1,h2,h3,h4⟩:=h;obtain⟨g1,g2,g3,g4⟩:=h';by_cases e1:f<f'\/f=f'/\p<p'
 ·have:=g4 f p h1 h2 e1;rw[h3]at this;cases this
 by_cases e2:f'<f\/f'=f/\p'<p
 ·have:=h4 f' p' g1 g2 e2;rw[g3]at this;cases this
 omega
theorem First.not {l:List FnD}{bad:Nat->Nat->Bool}{f p:Nat}(h:First l bad f p)(hn:NoBad l bad):False:=by
 have:=hn f p h.1 h.2.1;rw[h.2.2.1]at this;cases this
theorem fault13_shaped {l:List FnD}{f n:Int}(h:Fault13 l 0 f n):Shaped l/\f=0/\n=0:=by
 rcases h with⟨_,h,_⟩ | ⟨_,h,_⟩ | ⟨_,_,h,_⟩ | ⟨h1,h2,_,h3,h4,h5⟩
 ·cases h
 ·cases h
 ·cases h
 ·exact⟨⟨h1,h2,h5⟩,h3,h4⟩
theorem fault45_zero {l:List FnD}{f n:Int}(h:Fault45 l 0 f n):NoBad l (parentBad l)/\NoBad l (deepBad l)/\f=0/\n=0:=by
 rcases h with⟨h,_⟩ | ⟨_,h,_⟩ | ⟨h1,h2,_,h3,h4⟩
 ·cases h
 ·cases h
 ·exact⟨h1,h2,h3,h4⟩
theorem fault13_unique {l:List FnD}{c f n c' f' n':Int}(h:Fault13 l c f n)(h':Fault13 l c' f' n'):c=c'/\f=f'/\n=n':=by
 rcases h with⟨a1,rfl,rfl,rfl⟩ | ⟨a1,rfl,rfl,F,rfl,a2,a3,a4⟩ | ⟨a1,a2,rfl,F,P,rfl,rfl,a3⟩ | ⟨a1,a2,rfl,rfl,rfl,a3⟩<;>
 rcases h' with⟨b1,rfl,rfl,rfl⟩ | ⟨b1,rfl,rfl,F',rfl,b2,b3,b4⟩ | ⟨b1,b2,rfl,F',P',rfl,rfl,b3⟩ | ⟨b1,b2,rfl,rfl,rfl,b3⟩
 ·exact⟨rfl,rfl,rfl⟩
 ·exact absurd a1 b1
 ·exact absurd a1 b1
 ·exact absurd a1 b1
 ·exact absurd b1 a1
 ·by_cases e1:F<F'
  ·have:=b4 F e1;rw[a3]at this;cases this
  by_cases e2:F'<F
  ·have:=a4 F' e2;rw[b3]at this;cases this
  have:F=F':=by omega
  subst this;exact⟨rfl,rfl,rfl⟩
 ·have:=b2 F a2;rw[a3]at this;cases this
 ·have:=b2 F a2;rw[a3]at this;cases this
 ·exact absurd b1 a1
 ·have:=a2 F' b2;rw[b3]at this;cases this
 ·obtain⟨rfl,rfl⟩:=a3.unique b3;exact⟨rfl,rfl,rfl⟩
 ·exact(a3.not b3).elim
 ·exact absurd b1 a1
 ·have:=a2 F' b2;rw[b3]at this;cases this
 ·exact(b3.not a3).elim
 ·exact⟨rfl,rfl,rfl⟩
theorem fault45_unique {l:List FnD}{c f n c' f' n':Int}(h:Fault45 l c f n)(h':Fault45 l c' f' n'):c=c'/\f=f'/\n=n':=by
 rcases h with⟨rfl,F,P,rfl,rfl,a3⟩ | ⟨a1,rfl,F,P,rfl,rfl,a3⟩ | ⟨a1,a2,rfl,rfl,rfl⟩<;>
 rcases h' with⟨rfl,F',P',rfl,rfl,b3⟩ | ⟨b1,rfl,F',P',rfl,rfl,b3⟩ | ⟨b1,b2,rfl,rfl,rfl⟩
 ·obtain⟨rfl,rfl⟩:=a3.unique b3;exact⟨rfl,rfl,rfl⟩
 ·exact(a3.not b1).elim
 ·exact(a3.not b1).elim
 ·exact(b3.not a1).elim
 ·obtain⟨rfl,rfl⟩:=a3.unique b3;exact⟨rfl,rfl,rfl⟩
 ·exact(a3.not b2).elim
 ·exact(b3.not a1).elim
 ·exact(b3.not a2).elim
 ·exact⟨rfl,rfl,rfl⟩
theorem fault69_unique {l:List FnD}{c f n c' f' n':Int}(h:Fault69 l c f n)(h':Fault69 l c' f' n'):c=c'/\f=f'/\n=n':=by
 rcases h with⟨rfl,F,P,rfl,rfl,a3⟩ | ⟨a6,rfl,F,P,rfl,rfl,a3⟩ | ⟨a6,a7,rfl,F,P,rfl,rfl,a3⟩ | ⟨a6,a7,a8,rfl,rfl,F,rfl,a1,a2,a3,a4⟩ | ⟨a6,a7,a8,rfl,rfl,rfl,a9⟩<;>
 rcases h' with⟨rfl,F',P',rfl,rfl,b3⟩ | ⟨b6,rfl,F',P',rfl,rfl,b3⟩ | ⟨b6,b7,rfl,F',P',rfl,rfl,b3⟩ | ⟨b6,b7,b8,rfl,rfl,F',rfl,b1,b2,b3,b4⟩ | ⟨b6,b7,b8,rfl,rfl,rfl,b9⟩
 ·obtain⟨rfl,rfl⟩:=a3.unique b3;exact⟨rfl,rfl,rfl⟩
 ·exact(a3.not b6).elim
 ·exact(a3.not b6).elim
 ·exact(a3.not b6).elim
 ·exact(a3.not b6).elim
 ·exact(b3.not a6).elim
 ·obtain⟨rfl,rfl⟩:=a3.unique b3;exact⟨rfl,rfl,rfl⟩
 ·exact(a3.not b7).elim
 ·exact(a3.not b7).elim
 ·exact(a3.not b7).elim
 ·exact(b3.not a6).elim
 ·exact(b3.not a7).elim
 ·obtain⟨rfl,rfl⟩:=a3.unique b3;exact⟨rfl,rfl,rfl⟩
 ·exact(a3.not b8).elim
 ·exact(a3.not b8).elim
 ·exact(b3.not a6).elim
 ·exact(b3.not a7).elim
 ·exact(b3.not a8).elim
 ·by_cases e1:F<F'
  ·have:=b4 F a1 e1;rw[a3]at this;cases this
  by_cases e2:F'<F
  ·have:=a4 F' b1 e2;rw[b3]at this;cases this
  have:F=F':=by omega
  subst this;exact⟨rfl,rfl,rfl⟩
 ·have:=b9 F a1 a2;rw[a3]at this;cases this
 ·exact(b3.not a6).elim
 ·exact(b3.not a7).elim
 ·exact(b3.not a8).elim
 ·have:=a9 F' b1 b2;rw[b3]at this;cases this
 ·exact⟨rfl,rfl,rfl⟩
theorem unitFault_unique {l:List FnD}{c f n c' f' n':Int}(h:UnitFault l c f n)(h':UnitFault l c' f' n'):c=c'/\f=f'/\n=n':=by
 rcases h with⟨a1,a2⟩ | ⟨a1,a2,a3⟩ | ⟨a1,a2,a3⟩<;>rcases h' with⟨b1,b2⟩ | ⟨b1,b2,b3⟩ | ⟨b1,b2,b3⟩
 ·exact fault13_unique a1 b1
 ·exact absurd (fault13_unique a1 b1).1 a2
 ·exact absurd (fault13_unique a1 b1).1 a2
 ·exact absurd (fault13_unique b1 a1).1 b2
 ·exact fault45_unique a2 b2
 ·exact absurd (fault45_unique a2 b2).1 a3
 ·exact absurd (fault13_unique b1 a1).1 b2
 ·exact absurd (fault45_unique b2 a2).1 b3
 ·exact fault69_unique a3 b3
theorem spec_CheckUnit_any (a:Option Addr)(l:List FnD)(c:Nat)(S:Nat->Prop)(w:World)(hs:FnsAt w S a l)(hB:∀ b,S b->b<w.heap.size)(hl:tFns l<=1048576) :
  Calls Tryz.prog 14 #[.agg #[.slice a l.length c]] w fun e w'=>∃ x f n,e=.returned (.agg #[.int .i64 x,.int .i64 f,.int .i64 n])/\UnitFault l x f n/\Below w.heap.size w w':=by
 have X0:Hid (Box2 w a l.length c (box2 w a l.length c)):=Box2.start w a l.length c;have FN:Hid (∀ W:World,Below w.heap.size w W->FnsAt W S a l/\∀ b,S b->b<W.heap.size):=fun W hW=>⟨hs.keep hW hB,fun b h=>Nat.lt_of_lt_of_le (hB b h) hW.size⟩;clear hs hB;go_enter Tryz.func14,Tryz.ntmps14;go_wp2_with fail
 refine(l3first_any a l c S _ (unhide FN _ (unhide X0).old).1 (unhide FN _ (unhide X0).old).2 hl).mono ?_;rintro e w1 ⟨x,f,n,rfl,hF1,hb1⟩;have hx1:=(unhide X0).below' hb1;have u1:=hx1.unit;have hz1:=hx1.size;have y0:w.heap.size<w1.heap.size:=by omega
 have y1:w.heap.size+1<w1.heap.size:=by omega
 have p0:=hx1.res 0 (by omega);have p1:=hx1.res 1 (by omega);have p2:=hx1.res 2 (by omega);have q0:=hx1.frozen 0;have q1:=hx1.frozen 1;have q2:=hx1.frozen 2;clear X0 hb1;have HF1:=hide hF1;clear hF1;have BB:∀ W:World,Box2 w a l.length c W->∀ v0 v1 v2,Below w.heap.size w (((W.setCell ⟨w.heap.size+1,0,none⟩ v0).setCell ⟨w.heap.size+1,1,none⟩ v1).setCell ⟨w.heap.size+1,2,none⟩ v2):=fun W hW v0 v1 v2=>((hW.old.setCell (Nat.le_succ _) _).setCell (Nat.le_succ _) _).setCell (Nat.le_succ _) _;have HBB:=hide BB;clear BB;by_cases h0:x=0
 ·subst h0;obtain⟨hsh,rfl,rfl⟩:=fault13_shaped (unhide HF1);have HSH:=hide hsh;clear hsh;go_wp2_with fail
  refine(l3second_any a l c S _ (unhide FN _ (hx1.alloc _).old).1 (unhide FN _ (hx1.alloc _).old).2 (unhide HSH)).mono ?_;rintro e w2 ⟨x,f,n,rfl,hF2,hb2⟩;have hx2:=(hx1.alloc _).below' hb2;have u2:=hx2.unit;have hz2:=hx2.size;have y2:w.heap.size<w2.heap.size:=by omega
  have y3:w.heap.size+1<w2.heap.size:=by omega
  have p3:=hx2.res 0 (by omega);have p4:=hx2.res 1 (by omega);have p5:=hx2.res 2 (by omega);have q3:=hx2.frozen 0;have q4:=hx2.frozen 1;have q5:=hx2.frozen 2;have HF2:=hide hF2;clear hF2 hb2 p0 p1 p2 q0 q1 q2;by_cases h0:x=0
  ·subst h0;obtain⟨_,_,rfl,rfl⟩:=fault45_zero (unhide HF2);go_wp2_with fail
   refine(l3third_any a l c S _ (unhide FN _ (hx2.alloc _).old).1 (unhide FN _ (hx2.alloc _).old).2 (unhide HSH)).mono ?_;rintro e w3 ⟨x,f,n,rfl,hF3,hb3⟩;have hx3:=(hx2.alloc _).below' hb3;have HF3:=hide hF3;have p6:=hx3.res 0 (by omega);have p7:=hx3.res 1 (by omega);have p8:=hx3.res 2 (by omega);have q6:=hx3.frozen 0;have q7:=hx3.frozen 1;have q8:=hx3.frozen 2;clear hF3 hb3 p3 p4 p5 q3 q4 q5;go_wp2_with fail
   exact bodyPost_ret (v:=.agg #[.int .i64 x,.int .i64 f,.int .i64 n]) (by simp[results,Tryz.results14,go_sem,p6,p7,p8]) rfl ⟨x,f,n,rfl,.inr (.inr ⟨unhide HF1,unhide HF2,unhide HF3⟩),unhide HBB _ hx3 _ _ _⟩
  ·have h0':(x != 0)=true:=by simpa using h0
   have H0:=hide h0;clear h0;go_wp2_with fail
   exact bodyPost_ret (v:=.agg #[.int .i64 x,.int .i64 f,.int .i64 n]) (by simp[results,Tryz.results14,go_sem,p3,p4,p5,y3]) rfl ⟨x,f,n,rfl,.inr (.inl ⟨unhide HF1,unhide HF2,unhide H0⟩),(unhide HBB _ hx2 _ _ _).alloc (by simp;omega) _⟩
 ·have h0':(x != 0)=true:=by simpa using h0
  have H0:=hide h0;clear h0;go_wp2_with fail
  exact bodyPost_ret (v:=.agg #[.int .i64 x,.int .i64 f,.int .i64 n]) (by simp[results,Tryz.results14,go_sem,p0,p1,p2,y1]) rfl ⟨x,f,n,rfl,.inl ⟨unhide HF1,unhide H0⟩,(unhide HBB _ hx1 _ _ _).alloc (by simp;omega) _⟩
end Go.Proofs.YtofcbekoaghikaaGreatDoor
