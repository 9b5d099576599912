import Derived.Test.YtofcbekoaghikaaGreatDoorPart17
import Derived.RegionTactic
import Derived.ChangeAlike
import Derived.BigRegion
set_option linter.unusedSimpArgs false
set_option linter.unusedVariables false
set_option maxHeartbeats 8000000
set_option maxRecDepth 100000
namespace Go.Proofs.YtofcbekoaghikaaGreatDoor
open Go.RowKit
def vs0 (C:VC):VS:=⟨fun v=>if(v:Int)<C.x.params then 1 else 0,0,0,0,0,0⟩
def NewVis (l:List FnD)(f:Nat)(M:Int->Option Value)(w:World)(e:Ending)(w':World):Prop:=
 ∃ C:VC,e=.returned (.pointer (some ⟨C.vb,0,none⟩))/\C.l=l/\C.f=f/\C.M=M/\w.heap.size<=C.vb/\w.heap.size<=C.sb/\Vis C (vs0 C) w'/\Below w.heap.size w w'
def nvCell (a:Option Addr)(nl c f bm sb:Nat)(x:FnD)(R:FnR)(steps:Value):Nat->Value
 | 0=>.slice a nl c
 | 1=>.int .i64 f
 | 2=>.string x.name
 | 3=>.int .i64 x.line
 | 4=>.int .i64 x.params
 | 5=>.bool x.rest
 | 6=>.slice R.va x.vars.length R.vc
 | 7=>.slice R.ua x.ups.length R.uc
 | 8=>.slice R.na x.nodes.length R.nc
 | 9=>steps
 | 10=>.map (some bm)
 | 11=>.slice (some ⟨sb,0,none⟩) x.vars.length x.vars.length
 | _=>.int .i64 0
structure NvW (w:World)(a:Option Addr)(nl c f bm:Nat)(x:FnD)(R:FnR)(sc:Nat->Int)(wr:World):Prop where
 old:Below w.heap.size w wr
 v:wr.rowIs (w.heap.size+1+1+1) 115 17 (nvCell a nl c f bm (w.heap.size+1+1) x R (.map none))
 sc:wr.rowIs (w.heap.size+1+1) 3 x.vars.length (fun j=>.int .i64 (sc j))
 pr:wr.cell? ⟨w.heap.size+1,2,none⟩=some (.int .i64 x.params)
 size:wr.heap.size=w.heap.size+1+1+1+1
theorem NvW.begin (w:World)(a:Option Addr)(nl c f bm:Nat)(x:FnD)(R:FnR):NvW w a nl c f bm x R (fun _=>0)
  (((((w.alloc (.cells #[.slice a nl c] 30)).alloc (.cells #[.string x.name,.int .i64 x.line,.int .i64 x.params,.bool x.rest,.slice R.va x.vars.length R.vc,.slice R.ua x.ups.length R.uc,.slice R.na x.nodes.length R.nc] 54)).drew).alloc (.cells (madeCells #[.int .i64 0] x.vars.length) 3)).alloc
   (.cells #[.slice a nl c,.int .i64 f,.string x.name,.int .i64 x.line,.int .i64 x.params,.bool x.rest,.slice R.va x.vars.length R.vc,.slice R.ua x.ups.length R.uc,.slice R.na x.nodes.length R.nc,.map none,.map (some bm),.slice (some ⟨w.heap.size+1+1,0,none⟩) x.vars.length x.vars.length,.int .i64 0,.int .i64 0,.int .i64 0,.int .i64 0,.int .i64 0] 115)) where
 old:=(((((Below.refl _ _).alloc (Nat.le_refl _) _).alloc (by simp) _).drew).alloc (by simp;omega) _).alloc (by simp;omega) _
 v:=⟨_,blk3 w _ _ _ _,rfl,fun i hi=>by
  match i,hi with
  | 0,_=>rfl | 1,_=>rfl | 2,_=>rfl | 3,_=>rfl | 4,_=>rfl | 5,_=>rfl | 6,_=>rfl | 7,_=>rfl | 8,_=>rfl | 9,_=>rfl | 10,_=>rfl | 11,_=>rfl | 12,_=>rfl | 13,_=>rfl | 14,_=>rfl | 15,_=>rfl | 16,_=>rfl | n+17,h=>exact absurd h (by omega)⟩
 sc:=⟨_,blk2 w _ _ _ _,size_madeCells _ _,fun i hi=>by simp[madeCells,hi,Nat.mod_one]⟩
 pr:=by
  have h:=blk1 w (.cells #[.slice a nl c] 30) (.cells #[.string x.name,.int .i64 x.line,.int .i64 x.params,.bool x.rest,.slice R.va x.vars.length R.vc,.slice R.ua x.ups.length R.uc,.slice R.na x.nodes.length R.nc] 54) (.cells (madeCells #[.int .i64 0] x.vars.length) 3)
   (.cells #[.slice a nl c,.int .i64 f,.string x.name,.int .i64 x.line,.int .i64 x.params,.bool x.rest,.slice R.va x.vars.length R.vc,.slice R.ua x.ups.length R.uc,.slice R.na x.nodes.length R.nc,.map none,.map (some bm),.slice (some ⟨w.heap.size+1+1,0,none⟩) x.vars.length x.vars.length,.int .i64 0,.int .i64 0,.int .i64 0,.int .i64 0,.int .i64 0] 115)
  have h2:∀ W:World,W.heap[w.heap.size+1]? = some (.cells #[.string x.name,.int .i64 x.line,.int .i64 x.params,.bool x.rest,.slice R.va x.vars.length R.vc,.slice R.ua x.ups.length R.uc,.slice R.na x.nodes.length R.nc] 54)->W.cell? ⟨w.heap.size+1,2,none⟩=some (.int .i64 x.params):=fun W hW=>by
   unfold World.cell?;simp[hW]
  exact h2 _ h
 size:=by simp
theorem NvW.set {w:World}{a:Option Addr}{nl c f bm:Nat}{x:FnD}{R:FnR}{sc sc':Nat->Int}{wr:World}(h:NvW w a nl c f bm x R sc wr)(j:Nat)(y:Int)(hs:∀ i,i<x.vars.length->sc' i=if i=j then y else sc i) :
  NvW w a nl c f bm x R sc' (wr.setCell ⟨w.heap.size+1+1,j,none⟩ (.int .i64 y)) where
 old:=h.old.setCell (show w.heap.size<=w.heap.size+1+1 by omega) _
 v:=h.v.setOther (show w.heap.size+1+1+1≠w.heap.size+1+1 by omega) _
 sc:=(h.sc.set j _).congr fun i hi=>by
  rw[hs i hi];split<;>rfl
 pr:=by
  have:=Below.heap_setCell wr ⟨w.heap.size+1+1,j,none⟩ (.int .i64 y) (w.heap.size+1) (by simp);exact(World.cell?_of_block (a:=⟨w.heap.size+1,2,none⟩) this).trans h.pr
 size:=by simpa using h.size
theorem run_makeSteps (w:World):(Instr.makeMap 113 none).run Tryz.prog w=.ok (.map (some w.heap.size)) (w.alloc (.map #[] 0)):=by
 simp[Instr.makeMap,Result.andThen]
theorem newVisitor_any (a:Option Addr)(l:List FnD)(c f bm:Nat)(M:Int->Option Value)(S:Nat->Prop)(w:World)(hs:FnsAt w S a l)(hB:∀ b,S b->b<w.heap.size)(hf:f<l.length)(hM:MapI w bm M)
  (hnv:(fnD l f).vars.length<=200)(hp0:0<=(fnD l f).params)(hp1:(fnD l f).params<=(fnD l f).vars.length) :
  Calls Tryz.prog 71 #[.agg #[.slice a l.length c],.int .i64 f,.map (some bm)] w (NewVis l f M w):=by
 have hn:=hs.1;have HS:=hide hs;have HB:=hide hB;have HM:=hide hM;obtain⟨b,off,rfl,hb,hcc⟩:=hs.2 (by omega);have N:FnCells w S b (off+f * 7) (fnD l f):=hcc f hf;obtain⟨va,vc,hv,hvI⟩:=N.vars;obtain⟨ua,uc,hu,huI⟩:=N.ups;obtain⟨na,nc,hno,hnI⟩:=N.nodes;have c0:=N.name;have c1:=N.line;have c2:=N.params;have c3:=N.rest;have hbl:=hB b hb;have HVI:=hide hvI;have HUI:=hide huI;have HNI:=hide hnI;clear N hcc hs hM hB hvI huI hnI;obtain⟨x,hxe⟩:∃ x,x=fnD l f:=⟨_,rfl⟩;have HXE:=hide hxe;rw[<-hxe]at hnv hp0 hp1 hv hu hno c0 c1 c2 c3 HVI HUI HNI;clear hxe;obtain⟨np,hnp⟩:=Int.eq_ofNat_of_zero_le hp0;have HNP:=hide hnp;have hnpv:np<=x.vars.length:=by omega
 have W0:=hide (NvW.begin w (some ⟨b,off,none⟩) l.length c f bm x ⟨va,vc,ua,uc,na,nc⟩);clear hp0 hp1 hnp;obtain⟨nm,ln,pr,rs,vars,ups,ns⟩:=x;simp only at *;have hmk:=run_make_row' (P:=Tryz.prog) 56 3 (.int .i64 0) 8 Tryz.underlying56 info_int rfl .i64 .i64 vars.length (by omega) (by omega);go_enter Tryz.func71,Tryz.ntmps71
 go_upto_region 2 with fail
 go_cut [8] (fun s wc=>s=.pointer (some ⟨w.heap.size+1+1+1,0,none⟩)/\NvW w (some ⟨b,off,none⟩) l.length c f bm ⟨nm,ln,pr,rs,vars,ups,ns⟩ ⟨va,vc,ua,uc,na,nc⟩ (fun _=>0) wc)
 case first=>
  go_region
  all_goals (go_wp2_with fail)
  all_goals go_meet
  all_goals
   case rel=>exact⟨rfl,unhide W0⟩
 case rest=>
  obtain⟨rfl,hW0⟩:=hcut;clear hmk hv hu hno c0 c1 c2 c3 W0;have hpr:wc.cell? ⟨w.heap.size+1,2,none⟩=some (.int .i64 np):=by
   have:=hW0.pr;rw[HNP.out]at this;exact this
  have HW0:=hide hW0;clear hW0;go_wp2_with fail
  clear hpr;go_loopg [27] np (fun g i wr=>∃(k:Nat),k+g=np/\i=.int .i64 k/\NvW w (some ⟨b,off,none⟩) l.length c f bm ⟨nm,ln,pr,rs,vars,ups,ns⟩ ⟨va,vc,ua,uc,na,nc⟩ (fun j=>if j<k then 1 else 0) wr)
  case atStart=>exact⟨0,by omega,rfl,by simpa using unhide HW0⟩
  case round=>
   clear HW0;obtain⟨k,hk,rfl,hW⟩:=hrel;by_cases hlt:k<np
   ·have c11:wr.cell? ⟨w.heap.size+1+1+1,11,none⟩=some (.slice (some ⟨w.heap.size+1+1,0,none⟩) vars.length vars.length):=hW.v.cell (i:=11) (by omega);have ck:=hW.sc.cell (i:=k) (show k<vars.length by omega);have zk:=hW.sc.frozen k;have HW:=hide hW;clear hW;go_wp2_with fail
    go_roundg (np-(k+1))
    case measure=>omega
    case rel=>
     refine⟨k+1,by omega,by go_num,(unhide HW).set k 1 fun i _=>?_⟩;by_cases e:i=k
     ·subst e;simp
     ·rw[if_neg e];by_cases e2:i<k
      ·rw[if_pos e2,if_pos (by omega)]
      ·rw[if_neg e2,if_neg (by omega)]
   ·obtain rfl:k=np:=by omega
    have hmm:=run_makeSteps;have hsz:=hW.size;have M0:MapI (wr.alloc (.map #[] 0)) wr.heap.size (fun _=>none):=MapI.made wr;obtain⟨x1,e1,M1,g1⟩:=MapI.put (P:=Tryz.prog) M0 Tryz.underlying113 Tryz.underlying3 1 (.func (.func 88) #[.pointer (some ⟨w.heap.size+1+1+1,0,none⟩)] #[]) (by simp);obtain⟨x2,e2,M2,g2⟩:=MapI.put (P:=Tryz.prog) M1 Tryz.underlying113 Tryz.underlying3 2 (.func (.func 89) #[.pointer (some ⟨w.heap.size+1+1+1,0,none⟩)] #[]) (by simp);obtain⟨x3,e3,M3,g3⟩:=MapI.put (P:=Tryz.prog) M2 Tryz.underlying113 Tryz.underlying3 6 (.func (.func 90) #[.pointer (some ⟨w.heap.size+1+1+1,0,none⟩)] #[]) (by simp);obtain⟨x4,e4,M4,g4⟩:=MapI.put (P:=Tryz.prog) M3 Tryz.underlying113 Tryz.underlying3 7 (.func (.func 90) #[.pointer (some ⟨w.heap.size+1+1+1,0,none⟩)] #[]) (by simp);obtain⟨x5,e5,M5,g5⟩:=MapI.put (P:=Tryz.prog) M4 Tryz.underlying113 Tryz.underlying3 8 (.func (.func 90) #[.pointer (some ⟨w.heap.size+1+1+1,0,none⟩)] #[]) (by simp);obtain⟨x6,e6,M6,g6⟩:=MapI.put (P:=Tryz.prog) M5 Tryz.underlying113 Tryz.underlying3 12 (.func (.func 91) #[.pointer (some ⟨w.heap.size+1+1+1,0,none⟩)] #[]) (by simp);obtain⟨x7,e7,M7,g7⟩:=MapI.put (P:=Tryz.prog) M6 Tryz.underlying113 Tryz.underlying3 9 (.func (.func 92) #[.pointer (some ⟨w.heap.size+1+1+1,0,none⟩)] #[]) (by simp);obtain⟨x8,e8,M8,g8⟩:=MapI.put (P:=Tryz.prog) M7 Tryz.underlying113 Tryz.underlying3 10 (.func (.func 92) #[.pointer (some ⟨w.heap.size+1+1+1,0,none⟩)] #[]) (by simp);obtain⟨x9,e9,M9,g9⟩:=MapI.put (P:=Tryz.prog) M8 Tryz.underlying113 Tryz.underlying3 26 (.func (.func 93) #[.pointer (some ⟨w.heap.size+1+1+1,0,none⟩)] #[]) (by simp);obtain⟨x10,e10,M10,g10⟩:=MapI.put (P:=Tryz.prog) M9 Tryz.underlying113 Tryz.underlying3 27 (.func (.func 94) #[.pointer (some ⟨w.heap.size+1+1+1,0,none⟩)] #[]) (by simp);obtain⟨x11,e11,M11,g11⟩:=MapI.put (P:=Tryz.prog) M10 Tryz.underlying113 Tryz.underlying3 36 (.func (.func 95) #[.pointer (some ⟨w.heap.size+1+1+1,0,none⟩)] #[]) (by simp);obtain⟨x12,e12,M12,g12⟩:=MapI.put (P:=Tryz.prog) M11 Tryz.underlying113 Tryz.underlying3 37 (.func (.func 96) #[.pointer (some ⟨w.heap.size+1+1+1,0,none⟩)] #[]) (by simp);have HM12:Hid (MapI x12 wr.heap.size (stepOf (w.heap.size+1+1+1))):=M12.congr (fun j=>by
     unfold stepOf;by_cases h37:j=37
     ·subst h37;simp
     by_cases h36:j=36
     ·subst h36;simp
     by_cases h27:j=27
     ·subst h27;simp
     by_cases h26:j=26
     ·subst h26;simp
     by_cases h10:j=10
     ·subst h10;simp
     by_cases h9:j=9
     ·subst h9;simp
     by_cases h12:j=12
     ·subst h12;simp
     by_cases h8:j=8
     ·subst h8;simp
     by_cases h7:j=7
     ·subst h7;simp
     by_cases h6:j=6
     ·subst h6;simp
     by_cases h2:j=2
     ·subst h2;simp
     by_cases h1:j=1
     ·subst h1;simp
     simp[h37,h36,h27,h26,h10,h9,h12,h8,h7,h6,h2,h1])
    have GW:Hid (Below wr.heap.size wr x12):=by
     have h0:Below wr.heap.size wr (wr.alloc (.map #[] 0)):=(Below.refl _ _).alloc (Nat.le_refl _) _;have h1:=h0.grown g1 (h0.size) (fun j hj=>by cases hj;exact Nat.le_refl _);have h2:=h1.grown g2 (h1.size) (fun j hj=>by cases hj;exact Nat.le_refl _);have h3:=h2.grown g3 (h2.size) (fun j hj=>by cases hj;exact Nat.le_refl _);have h4:=h3.grown g4 (h3.size) (fun j hj=>by cases hj;exact Nat.le_refl _);have h5:=h4.grown g5 (h4.size) (fun j hj=>by cases hj;exact Nat.le_refl _);have h6:=h5.grown g6 (h5.size) (fun j hj=>by cases hj;exact Nat.le_refl _);have h7:=h6.grown g7 (h6.size) (fun j hj=>by cases hj;exact Nat.le_refl _);have h8:=h7.grown g8 (h7.size) (fun j hj=>by cases hj;exact Nat.le_refl _);have h9:=h8.grown g9 (h8.size) (fun j hj=>by cases hj;exact Nat.le_refl _);have h10:=h9.grown g10 (h9.size) (fun j hj=>by cases hj;exact Nat.le_refl _);have h11:=h10.grown g11 (h10.size) (fun j hj=>by cases hj;exact Nat.le_refl _);have h12:=h11.grown g12 (h11.size) (fun j hj=>by cases hj;exact Nat.le_refl _);exact h12
    have v9:x12.cell? ⟨w.heap.size+1+1+1,9,none⟩=some (.map none):=((unhide GW).cell (p:=⟨w.heap.size+1+1+1,9,none⟩) (show w.heap.size+1+1+1<wr.heap.size by omega)).trans (hW.v.cell (i:=9) (by omega));have z9:x12.frozen? ⟨w.heap.size+1+1+1,9,none⟩=false:=((unhide GW).frozen (p:=⟨w.heap.size+1+1+1,9,none⟩) (show w.heap.size+1+1+1<wr.heap.size by omega)).trans (hW.v.frozen 9);have FIN:Hid (NewVis l f M w (.returned (.pointer (some ⟨w.heap.size+1+1+1,0,none⟩))) (x12.setCell ⟨w.heap.size+1+1+1,9,none⟩ (.map (some wr.heap.size)))):=by
     have hG:=unhide GW;have hold:Below w.heap.size w x12:=hW.old.trans (hG.mono hW.old.size);have hold2:Below w.heap.size w (x12.setCell ⟨w.heap.size+1+1+1,9,none⟩ (.map (some wr.heap.size))):=hold.setCell (show w.heap.size<=w.heap.size+1+1+1 by omega) _;have hx0:(⟨nm,ln,pr,rs,vars,ups,ns⟩:FnD)=fnD l f:=HXE.out;refine⟨⟨w.heap.size+1+1+1,w.heap.size+1+1,wr.heap.size,bm,some ⟨b,off,none⟩,c,l,f,⟨va,vc,ua,uc,na,nc⟩,S,M⟩,rfl,rfl,rfl,rfl,by simp only;omega,by simp only;omega,?_,hold2⟩;have hrow:x12.rowIs (w.heap.size+1+1+1) 115 17 (nvCell (some ⟨b,off,none⟩) l.length c f bm (w.heap.size+1+1) ⟨nm,ln,pr,rs,vars,ups,ns⟩ ⟨va,vc,ua,uc,na,nc⟩ (.map none)):=hW.v.of_block (hG.block _ hW.v.lt);have hsc:x12.rowIs (w.heap.size+1+1) 3 vars.length (fun j=>.int .i64 (if j<k then 1 else 0)):=hW.sc.of_block (hG.block _ hW.sc.lt);have hpk:pr=k:=HNP.out;have hvI:=unhide HVI;have huI:=unhide HUI;have hnI:=unhide HNI;have hB:=unhide HB;refine { v:=?_,sc:=?_,k:=(unhide HM12).block (Below.heap_setCell _ ⟨w.heap.size+1+1+1,9,none⟩ _ _ (by simp only;omega)),m:=(unhide HM).keep hold2 (unhide HM).lt,u:=(unhide HS).keep hold2 hB,vars:=?_,ups:=?_,nodes:=?_,sS:=fun b hs=>⟨Nat.lt_of_lt_of_le (hB b hs) hold2.size,fun t=>by have:=hB b hs;rcases t with t | t<;>simp only at t<;>omega⟩,n1:=by simp only;omega,n2:=fun t=>by rcases t with t | t<;>simp only at t<;>omega,n3:=fun t=>by have:=(unhide HM).lt;rcases t with t | t<;>simp only at t<;>omega,hf:=hf,nv:=?_ }
     ·refine(hrow.set 9 _).congr fun i hi=>?_;unfold visCell VC.x;simp only;rw[<-hx0]
      match i,hi with
      | 0,_=>rfl | 1,_=>rfl | 2,_=>rfl | 3,_=>rfl | 4,_=>rfl | 5,_=>rfl | 6,_=>rfl | 7,_=>rfl | 8,_=>rfl | 9,_=>rfl | 10,_=>rfl | 11,_=>rfl | 12,_=>rfl | 13,_=>rfl | 14,_=>rfl | 15,_=>rfl | 16,_=>rfl | n+17,h=>exact absurd h (by omega)
     ·have hr:=(hsc.setOther (a:=⟨w.heap.size+1+1+1,9,none⟩) (show w.heap.size+1+1≠w.heap.size+1+1+1 by omega) (.map (some wr.heap.size)));unfold vs0 VC.x;simp only;rw[<-hx0];refine hr.congr fun i hi=>?_;simp only;rw[hpk]
      congr 1
      by_cases e:i<k
      ·rw[if_pos e,if_pos (by omega)]
      ·rw[if_neg e,if_neg (by omega)]
     ·show StrsAt _ S va (fnD l f).vars;rw[<-hx0];exact hvI.keep hold2 hB
     ·show UpsAt _ S ua (fnD l f).ups;rw[<-hx0];exact huI.keep hold2 hB
     ·show NodesAt _ S na (fnD l f).nodes;rw[<-hx0];exact hnI.keep hold2 hB
     ·show(fnD l f).vars.length<=200;rw[<-hx0];exact hnv
    clear hW hsz M0 M1 g1 M2 g2 M3 g3 M4 g4 M5 g5 M6 g6 M7 g7 M8 g8 M9 g9 M10 g10 M11 g11 M12 g12;go_wp2_with fail
    go_ret;exact unhide FIN
end Go.Proofs.YtofcbekoaghikaaGreatDoor
