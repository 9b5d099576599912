import Derived.Test.YtomcjennjcpdnaaGreatDoorPart51
import Derived.Test.YtomcjennjcpdnaaGreatDoorPart44
set_option linter.unusedSimpArgs false
set_option linter.unusedVariables false
namespace Go.Proofs.YtomcjennjcpdnaaGreatDoor
set_option maxRecDepth 100000
set_option maxHeartbeats 64000000
open Go.RowKit
def L8Post (nv:Nat)(h:Nat->Int)(w:World)(e:Ending)(w':World):Prop:=
 ∃ cb hb,e=.returned (.pointer (some ⟨cb,0,none⟩))/\w'.cell? ⟨cb,13,none⟩=some (.slice (some ⟨hb,0,none⟩) nv nv)/\w.heap.size<=hb/\w'.rowIs hb 3 nv (fun j=>.int .i64 (h j))/\Below w.heap.size w w'
theorem l8fn_any (a:Option Addr)(l:List FnD)(c f:Nat)(S:Nat->Prop)(w:World)(hs:FnsAt w S a l)(hB:∀ b,S b->b<w.heap.size)(hf:f<l.length)(hR:Ready l f)(hK:PlOk l f) :
  Calls Tryz.prog 15 #[.agg #[.slice a l.length c],.int .i64 (f:Int)] w (L8Post (fnD l f).vars.length (homesF l f) w):=by
 obtain⟨b,off,rfl,hb,hcc⟩:=hs.2 (by omega);have NF:FnCells w S b (off+f * 7) (fnD l f):=hcc f hf;have hbs:b<w.heap.size:=hB b hb;have c0:=NF.name;have c1:=NF.line;have c2:=NF.params;have c3:=NF.rest;obtain⟨a4,k4,c4,I4⟩:=NF.vars;obtain⟨a5,k5,c5,I5⟩:=NF.ups;obtain⟨a6,k6,c6,I6⟩:=NF.nodes;obtain⟨P,hP⟩:=Int.eq_ofNat_of_zero_le hK.par.1;rw[hP]at c2;obtain⟨nv,hnv⟩:∃ nv,(fnD l f).vars.length=nv:=⟨_,rfl⟩;obtain⟨nu,hnu⟩:∃ nu,(fnD l f).ups.length=nu:=⟨_,rfl⟩;obtain⟨nn,hnn⟩:∃ nn,(fnD l f).nodes.length=nn+1:=⟨(fnD l f).nodes.length-1,by have:=hK.rf.tree.pos;omega⟩;rw[hnv]at c4 ⊢;rw[hnu]at c5;rw[hnn]at c6;have hll:=hs.1;have hfI:(f:Int)<l.length:=by omega
 have hv200:nv<=200:=by have:=hK.vars;omega
 have hu200:nu<=200:=by have:=hK.ups;omega
 have hPn:P<=nv:=by have:=hK.par.2;omega
 have CAP:Hid (∀ V:World,Below w.heap.size w V->Calls Tryz.prog 25 #[.agg #[.slice (some ⟨b,off,none⟩) l.length c],.int .i64 (f:Int)] V fun e w'=>∃ b,e=.returned (.slice (some ⟨b,0,none⟩) nv nv)/\w'.rowIs b 4 nv (fun j=>.bool (captured l f j))/\V.heap.size<=b/\Below V.heap.size V w'):=fun V hV=>by
  have q:=l8captured_any (some ⟨b,off,none⟩) l c f S V (hs.keep hV hB) (fun b h=>Nat.lt_of_lt_of_le (hB b h) hV.size) hf hR.len hR.vars hR.nodes hR.ups hR.ok;rw[hnv]at q;exact q
 have HS:=hide hs;have HB:=hide hB;have HK:=hide hK;have HP:=hide hP;have HNV:=hide hnv;have HNU:=hide hnu;have HNN:=hide hnn;have HI4:=hide I4;have HI5:=hide I5;have hmk:=run_make_row' (P:=Tryz.prog) 26 3 (.int .i64 0) 8 Tryz.underlying26 info_int rfl .i64 .i64 nv (by omega) (by omega);obtain⟨W,hW⟩:∃ W:World,W=(w.alloc (.cells #[.slice (some ⟨b,off,none⟩) l.length c] 30)).alloc (.cells #[.string (fnD l f).name,.int .i64 (fnD l f).line,.int .i64 (P:Int),.bool (fnD l f).rest,.slice a4 nv k4,.slice a5 nu k5,.slice a6 (nn+1) k6] 59):=⟨_,rfl⟩;have BW:Hid (Below w.heap.size w W):=by show Below _ _ _;rw[hW];exact((Below.refl _ _).alloc (Nat.le_refl _) _).alloc (by simp) _
 have hWs:W.heap.size=w.heap.size+1+1:=by rw[hW];simp
 have u0:W.cell? ⟨w.heap.size,0,none⟩=some (.slice (some ⟨b,off,none⟩) l.length c):=by rw[hW];simp[go_sem]
 have FB:Hid (W.cell? ⟨w.heap.size+1,0,none⟩=some (.string (fnD l f).name)/\W.cell? ⟨w.heap.size+1,1,none⟩=some (.int .i64 (fnD l f).line)/\W.cell? ⟨w.heap.size+1,2,none⟩=some (.int .i64 (P:Int))/\W.cell? ⟨w.heap.size+1,3,none⟩=some (.bool (fnD l f).rest)/\W.cell? ⟨w.heap.size+1,4,none⟩=some (.slice a4 nv k4)/\W.cell? ⟨w.heap.size+1,5,none⟩=some (.slice a5 nu k5)/\W.cell? ⟨w.heap.size+1,6,none⟩=some (.slice a6 (nn+1) k6)):=by
  show _/\_;rw[hW];simp[go_sem]
 have HW:=hide hW;clear hs hB hK hR hP hnv hnu hnn I4 I5 I6 NF hcc hW;go_enter Tryz.func15,Tryz.ntmps15
 go_upto_region 2 with fail
 rw[<-HW.out];clear c0 c1 c2 c3 c4 c5 c6;have f4:=FB.out.2.2.2.2.1;have P1:Hid (∀ V:World,Below W.heap.size W V->Calls Tryz.prog 25 #[.agg #[.slice (some ⟨b,off,none⟩) l.length c],.int .i64 (f:Int)] V fun e w'=>∃ b,e=.returned (.slice (some ⟨b,0,none⟩) nv nv)/\w'.rowIs b 4 nv (fun j=>.bool (captured l f j))/\V.heap.size<=b/\Below V.heap.size V w'/\Below W.heap.size W w'):=fun V hV=>by
  refine(CAP.out V (BW.out.trans (hV.mono BW.out.size))).mono ?_;rintro e w' ⟨b,rfl,h1,h2,h3⟩;exact⟨b,rfl,h1,h2,h3,hV.trans (h3.mono hV.size)⟩
 have CL:Hid (∀ V:World,Below W.heap.size W V->V.cell? ⟨w.heap.size,0,none⟩=some (.slice (some ⟨b,off,none⟩) l.length c)/\V.cell? ⟨w.heap.size+1,4,none⟩=some (.slice a4 nv k4)/\w.heap.size<V.heap.size/\w.heap.size<V.heap.size+1/\w.heap.size<V.heap.size+1+1/\w.heap.size<V.heap.size+1+1+1/\w.heap.size+1<V.heap.size/\w.heap.size+1<V.heap.size+1/\w.heap.size+1<V.heap.size+1+1/\w.heap.size+1<V.heap.size+1+1+1):=fun V hV=>by
  have hz:=hV.size;exact
  ⟨(hV.cell (p:=⟨w.heap.size,0,none⟩) (by show w.heap.size<W.heap.size;omega)).trans u0,(hV.cell (p:=⟨w.heap.size+1,4,none⟩) (by show w.heap.size+1<W.heap.size;omega)).trans f4,by omega,by omega,by omega,by omega,by omega,by omega,by omega,by omega⟩
 obtain⟨hW0,hW1,hW2,hW3,hW4,hW5,hW6,hW7⟩:w.heap.size<W.heap.size/\w.heap.size<W.heap.size+1/\w.heap.size<W.heap.size+1+1/\w.heap.size<W.heap.size+1+1+1/\w.heap.size+1<W.heap.size/\w.heap.size+1<W.heap.size+1/\w.heap.size+1<W.heap.size+1+1/\w.heap.size+1<W.heap.size+1+1+1:=by omega
 clear hll hfI hbs
 go_cut [6]from 15 to 38 (fun s wc=>∃ cb bb hb fb tb,s=.pointer (some ⟨cb,0,none⟩)/\L8W W (some ⟨b,off,none⟩) l.length c f nv (captured l f) cb bb hb fb tb wc)
 case first=>
  go_region_held3 (fun w'=>w'.cell? ⟨w.heap.size,0,none⟩=some (.slice (some ⟨b,off,none⟩) l.length c)/\w'.cell? ⟨w.heap.size+1,4,none⟩=some (.slice a4 nv k4)) (simp[go_sem, *])
   (first
    | (go_at_call 25;refine(unhide P1 _ ?_).mono ?_;(repeat (first | exact Below.refl _ _ | refine Below.drew ?_ | refine Below.alloc ?_ (by simp<;>first | omega | (intro hzz;omega)) _));rintro e w2 ⟨b2,rfl,hr2,hg2,hb2,hb3⟩;obtain⟨v0,v4,vs0,vs1,vs2,vs3,vs4,vs5,vs6,vs7⟩:=CL.out w2 hb3))
  all_goals (go_wp2_with fail)
  all_goals go_meet
  all_goals
   case rel=>
    clear v0 v4 vs0 vs1 vs2 vs3 vs4 vs5 vs6 vs7 hmk hW0 hW1 hW2 hW3 hW4 hW5 hW6 hW7
    first
     | (refine leaf1 (W:=W) hr2 hg2 hb2 hb3 ?_ ?_ ?_ ?_ ?_ ?_<;>first | omega | (intro hzz;omega))
     | (refine leaf2 (W:=W) hr2 hg2 hb2 hb3 ?_ ?_ ?_ ?_ ?_ ?_<;>first | omega | (intro hzz;omega))
     | (refine leaf3 (W:=W) hr2 hg2 hb2 hb3 ?_ ?_ ?_ ?_ ?_ ?_<;>first | omega | (intro hzz;omega))
     | (refine leaf0 (W:=W) hr2 hg2 hb2 hb3 ?_ ?_ ?_ ?_ ?_ ?_<;>first | omega | (intro hzz;omega))
 case rest=>
  obtain⟨cb,bb,hq,fb,tb,rfl,L⟩:=hcut;obtain⟨f0,f1,f2,f3,_,f5,f6⟩:=FB.out;have R0:=L.row;have hcbl:=R0.lt;have e2:=R0.cell (i:=2) (by omega);have e3:=R0.cell (i:=3) (by omega);have e4:=R0.cell (i:=4) (by omega);have e5:=R0.cell (i:=5) (by omega);have e6:=R0.cell (i:=6) (by omega);have e7:=R0.cell (i:=7) (by omega);have e8:=R0.cell (i:=8) (by omega);have e9:=R0.cell (i:=9) (by omega);have e10:=R0.cell (i:=10) (by omega);have z:=R0.frozen;simp[l8F]at e2 e3 e4 e5 e6 e7 e8 e9 e10;have g0:=(L.old.cell (p:=⟨w.heap.size+1,0,none⟩) hW4).trans f0;have g1:=(L.old.cell (p:=⟨w.heap.size+1,1,none⟩) hW4).trans f1;have g2:=(L.old.cell (p:=⟨w.heap.size+1,2,none⟩) hW4).trans f2;have g3:=(L.old.cell (p:=⟨w.heap.size+1,3,none⟩) hW4).trans f3;have R3:=proto_row (fnD l f).name (fnD l f).line (P:Int) (fnD l f).rest R0;have F3:=Fr.sets (O:=fun b=>b=cb) (w:=wc) (w':=wc) Fr.refl rfl (fnD l f).name (fnD l f).line (P:Int) (fnD l f).rest;obtain⟨W3,hW3⟩:∃ z,z=(((((((((wc.setCell ⟨cb,2,none⟩ (.string (fnD l f).name)).setCell ⟨cb,3,none⟩ (.int .i64 (fnD l f).line)).setCell ⟨cb,4,none⟩ (.int .i64 (P:Int))).setCell ⟨cb,5,none⟩ (.bool (fnD l f).rest)).setCell ⟨cb,6,none⟩ (.int .i64 0)).setCell ⟨cb,7,none⟩ (.slice none 0 0)).setCell ⟨cb,8,none⟩ (.slice none 0 0)).setCell ⟨cb,9,none⟩ (.slice none 0 0)).setCell ⟨cb,10,none⟩ (.slice none 0 0)):=⟨_,rfl⟩;rw[<-hW3]at R3 F3;have HW3:=hide hW3;have HL:=hide L;have HR3:=hide R3;have HF3:=hide F3;clear L R0 hmk CAP P1 CL hW3 R3 F3
  go_upto_region 4 with fail
  rw[<-HW3.out];clear e2 e3 e4 e5 e6 e7 e8 e9 e10 z g0 g1 g2 g3 f0 f1 f2 f3 f4 f5 f6 u0 hW0 hW1 hW2 hW3 hW5 hW6 hW7;obtain⟨fc,hfc⟩:∃ fc,fc=l8F (some ⟨b,off,none⟩) l.length c f nv bb hq fb tb (fnD l f).name (fnD l f).line (P:Int) (fnD l f).rest:=⟨_,rfl⟩;have OLD:Hid (∀(wr:World) (O':Nat->Prop),Fr (fun b=>b=cb) O' W3 wr->Below W.heap.size W wr):=fun wr O' fr=>by
   have h1:=HF3.out.trans fr;exact HL.out.old.trans (h1.below (fun b e=>by have:=HL.out.ge.1;have e':b=cb:=e;omega) HL.out.old.size)
  have FNB:Hid (∀(wr:World),Below W.heap.size W wr->wr.cell? ⟨w.heap.size+1,0,none⟩=some (.string (fnD l f).name)/\wr.cell? ⟨w.heap.size+1,1,none⟩=some (.int .i64 (fnD l f).line)/\wr.cell? ⟨w.heap.size+1,2,none⟩=some (.int .i64 (P:Int))/\wr.cell? ⟨w.heap.size+1,3,none⟩=some (.bool (fnD l f).rest)/\wr.cell? ⟨w.heap.size+1,4,none⟩=some (.slice a4 nv k4)/\wr.cell? ⟨w.heap.size+1,5,none⟩=some (.slice a5 nu k5)/\wr.cell? ⟨w.heap.size+1,6,none⟩=some (.slice a6 (nn+1) k6)):=fun wr ob=>by
   have q:=fun o=>ob.cell (p:=⟨w.heap.size+1,o,none⟩) hW4;exact⟨(q 0).trans FB.out.1,(q 1).trans FB.out.2.1,(q 2).trans FB.out.2.2.1,(q 3).trans FB.out.2.2.2.1,(q 4).trans FB.out.2.2.2.2.1,(q 5).trans FB.out.2.2.2.2.2.1,(q 6).trans FB.out.2.2.2.2.2.2⟩
  have hcb3:cb<W3.heap.size:=HR3.out.lt;have A0:Hid (BxA cb 7 fc 69 2 W3.heap.size W3 (.slice none 0 0) 0 W3):=⟨HR3.out.congr fun j hj=>by rw[hfc];rcases lt17 hj with rfl | rfl | rfl | rfl | rfl | rfl | rfl | rfl | rfl | rfl | rfl | rfl | rfl | rfl | rfl | rfl | rfl<;>rfl,⟨fun _=>.bool false,.nil⟩,⟨rfl,rfl,rfl,Nat.le_refl _,fun _ _ _=>rfl,fun b e=>.inl (e.elim id (fun e=>by cases e))⟩,hcb3⟩;obtain⟨i0,hi,hz0,hz1,hz2⟩:=info_of info_up;obtain⟨g0,g1,g2,g3,g4,g5,g6⟩:=FNB.out W3 (OLD.out W3 _ A0.out.fr);go_wp2_with fail
  clear g0 g1 g2 g3 g4 g5 g6;go_loopw [54] (fun q wr=>∃(k:Nat) (uv:Value),k<=nu/\q=.int .i64 k/\BxA cb 7 fc 69 2 W3.heap.size W3 uv k wr) (fun q _=>nu-(intOf q).toNat)
  case atStart=>exact⟨0,_,Nat.zero_le _,rfl,A0.out⟩
  case round=>
   obtain⟨k,uv,hk,rfl,A⟩:=hrel;clear A0;by_cases hlt:k<nu
   ·have hlt':k<(fnD l f).ups.length:=by rw[HNU.out];exact hlt
    obtain⟨b5,o5,rfl,hS5,hc5⟩:=HI5.out.2 (by omega);obtain⟨uc0,uc1⟩:=hc5 k hlt';have hb5:b5<w.heap.size:=HB.out b5 hS5;have tr:∀ o,wr.cell? ⟨b5,o,none⟩=w.cell? ⟨b5,o,none⟩:=fun o=>((OLD.out wr _ A.fr).cell (p:=⟨b5,o,none⟩) (by show b5<W.heap.size;omega)).trans (BW.out.cell (p:=⟨b5,o,none⟩) hb5);rw[<-tr]at uc0 uc1;generalize ((fnD l f).ups[k]?.getD (false,0)).1=x at uc0;generalize ((fnD l f).ups[k]?.getD (false,0)).2=y at uc1;have hb5r:b5<wr.heap.size:=World.block_lt_of_cell? _ _ uc0;have e7:=A.box.cell (i:=7) (by omega);rw[if_pos rfl]at e7;have hcbr:=A.box.lt;have hcb1:cb<wr.heap.size+1:=by omega
    have hcb2:cb<wr.heap.size+2:=by omega
    have hsr:=A.fr.size;obtain⟨W4,hW4'⟩:∃ W4:World,W4=((wr.alloc (.cells #[.bool x,.int .i64 y] 69)).alloc (.cells #[.bool x,.int .i64 y] 69)).drew:=⟨_,rfl⟩;have A1:Hid (BxA cb 7 fc 69 2 W3.heap.size W3 uv k W4):=by show BxA _ _ _ _ _ _ _ _ _ _;rw[hW4'];exact A.below (((Below.refl _ _).alloc (Nat.le_refl _) _).alloc (by simp) _).drew
    have HN:Hid (∀ j u,([.bool x,.int .i64 y]:List Value)[j]? = some u->W4.cell? ((⟨wr.heap.size+1,0,none⟩:Addr).add j)=some u):=by
     show ∀ j u,_;rw[hW4'];intro j u hj;rcases j with _ | _ | _<;>simp at hj<;>subst hj<;>simp[Addr.add,go_sem]
    have hSz:Hid (W4.heap.size=wr.heap.size+2):=by show _=_;rw[hW4'];simp
    have HW4':=hide hW4';have hkk:k<=200:=by omega
    obtain⟨gf,hown⟩:=A1.out.own;have OWN:=hide hown.owns;have NX:Hid (∀ w3,W4.grownBy w3 uv.ownBlock->w3.cell? ⟨cb,7,none⟩=some uv/\w3.frozen? ⟨cb,7,none⟩=false/\cb<w3.heap.size):=fun w3 hg=>A1.out.cells (by omega) hg;clear A hown hW4' hc5 tr hlt';go_wp2_with fail
    go_region_law ((rw[<-HW4'.out];refine step_append_lies _ (by rfl) (.tmp 63) (.tmp 65) 43 (by rfl) W3.heap.size 69 i0 (.agg #[.bool false,.int .i64 0]) 2 16 Tryz.underlying43 hi hz0 hz1 hz2 rfl (by decide) uv k _ rfl OWN.out ⟨wr.heap.size+1,0,none⟩ 1 1 [.bool x,.int .i64 y] rfl rfl HN.out (by intro u hu;simp at hu;rcases hu with rfl | rfl<;>rfl) (by decide) (by unfold maxLen;omega) (by omega) (by rw[hSz.out];omega) (wr.heap.size+2) hSz.out ?_;intro g3 cap3 w3 hown3 hgrow3 hat3 hlt3;obtain⟨n1,n2,n3⟩:=NX.out _ hgrow3))
    all_goals
     have R:=hide (A1.out.grow (f':=fun j=>if j<k * 2 then gf j else if j=k * 2 then .bool x else .int .i64 y) hgrow3 (hat3.elim .inl fun e=>.inr (by rw[hSz.out,e];exact Nat.le_refl _)) (OwnF.push rfl hown3 (fun i hi=>by simp[hi]) (fun i hi=>by rcases i with _ | _ | i<;>simp<;>omega)));clear n1 n2 n3 hown3 hgrow3 hat3;go_wp2_with fail
     go_roundw
     case rel=>exact⟨k+1,_,hlt,by go_num,R.out⟩
     case measure=>simp[intOf];omega
   ·obtain rfl:k=nu:=by omega
    clear hk hlt i0 hi hz0 hz1 hz2;have OB:=OLD.out wr _ A.fr;have CCs:∃ F:CF,F.cb=cb/\F.hb=hq/\F.nv=nv/\F.w0=W/\F.a=some ⟨b,off,none⟩/\F.nl=l.length/\F.fn=f/\F.D 10=.slice none 0 0/\CC F (CX0 F.cb F.hb F.fb F.tb) wr:=by
     obtain⟨old,box,bx,hm,fr,tt,⟨g1,g2,g3,g4,g5⟩,n1,n2,n3⟩:=HL.out;have R0:=HL.out.row;have rh:=row_made hm;have rf:=row_made fr;have rt:=row_made tt;have ne1:hq≠cb:=row_ne rh R0 (by decide);have ne2:fb≠cb:=row_ne rf R0 (by decide);have ne3:tb≠cb:=row_ne rt R0 (by decide);have ne4:bb≠cb:=row_ne bx R0 (by decide);have hs3:=HF3.out.size;have tr:∀ x,x<wc.heap.size->x≠cb->wr.heap[x]? = wc.heap[x]?:=fun x hx hne=>(A.fr.block x (by omega) hne).trans (HF3.out.block x hx hne);have l1:=rh.lt;have l2:=rf.lt;have l3:=rt.lt;have l4:=bx.lt;refine⟨{ w0:=W,B1:=W3.heap.size,cb:=cb,bb:=bb,hb:=hq,fb:=fb,tb:=tb,nv:=nv,a:=some ⟨b,off,none⟩,nl:=l.length,c:=c,fn:=f,D:=fun j=>if j=7 then uv else fc j,bx:=captured l f },rfl,rfl,rfl,rfl,rfl,rfl,rfl,by rw[hfc];rfl,?_⟩;refine cc_start OB ⟨⟨g1,hcb3⟩,⟨g2,Nat.lt_of_lt_of_le l4 hs3⟩,⟨g3,Nat.lt_of_lt_of_le l1 hs3⟩,⟨g4,Nat.lt_of_lt_of_le l2 hs3⟩,⟨g5,Nat.lt_of_lt_of_le l3 hs3⟩,n1,n2,n3⟩ A.fr.size (A.box.congr fun j hj=>?_) (bx.of_block (tr _ l4 ne4)) (rh.of_block (tr _ l1 ne1)) (rf.of_block (tr _ l2 ne2)) (rt.of_block (tr _ l3 ne3));rw[hfc];rcases lt17 hj with rfl | rfl | rfl | rfl | rfl | rfl | rfl | rfl | rfl | rfl | rfl | rfl | rfl | rfl | rfl | rfl | rfl<;>rfl
    clear A OB OLD HL HF3 HR3 HW3 hfc hcb3;obtain⟨F,rfl,rfl,rfl,rfl,ea,enl,efn,eD,C0⟩:=CCs;have HD:=hide eD;clear eD;have U:UOk F l f S:=⟨by rw[ea];exact HS.out.keep BW.out HB.out,enl,efn,hf,fun b h=>Nat.lt_of_lt_of_le (HB.out b h) BW.out.size⟩;have SH:=HK.out.sh;rw[HNV.out]at SH;have RF:∀ p,p<(fnD l f).nodes.length->(nd (fnD l f).nodes p).kind<20->refsOk F (nd (fnD l f).nodes p).refs:=fun p hp hk j hj=>by
     have:=HK.out.rf.refs p hp hk j hj;rw[HNV.out]at this;exact this
    have BLK:Hid (BlkOk F (fnD l f).nodes nn):=(stm_blk U SH RF nn (by rw[HNN.out];omega)).2 (by have:=HK.out.root;rw[HNN.out,Nat.add_sub_cancel]at this;exact this);have HU:=hide U;clear U SH RF;have c13:=C0.c13;have HC0:=hide C0;clear C0;go_wp2_with fail
    clear c13;go_loopw [76] (fun q wr=>∃(j:Nat) (X:CX),j<=F.nv/\q=.int .i64 j/\CC F X wr/\X.home=(fun i=>if i<j then -1 else 0)/\X.top=0/\X.ms=[]/\X.n=0/\X.nk=0) (fun q _=>F.nv-(intOf q).toNat)
    case atStart=>exact⟨0,_,Nat.zero_le _,rfl,HC0.out,by funext i;simp[CX0],rfl,rfl,rfl,rfl⟩
    case round=>
     obtain⟨j,X1,hj,rfl,C,hh,ht,hms,hn,hnk⟩:=hrel;clear HC0;by_cases hlt2:j<F.nv
     ·have c13:=C.c13;have r1:=C.hm.cell hlt2;have z1:=C.hm.frozen j;have R1:=hide (And.intro C hh);clear C hh;go_wp2_with fail
      go_roundw
      case rel=>
       refine⟨j+1,_,hlt2,by go_num,(R1.out.1.home j (-1)).1,?_,ht,hms,hn,hnk⟩
       funext i
       show updF X1.home j (-1) i=_;rw[R1.out.2];unfold updF;by_cases e:i=j
       ·subst e;simp
       ·have:(i<j+1)=(i<j):=by apply propext;omega
        simp[e,this]
      case measure=>simp[intOf];omega
     ·obtain⟨g0,g1,g2,g3,g4,g5,g6⟩:=FNB.out wr C.old;have c11:=C.c11;have z11:=C.fz 11;rw[ht]at c11;have hjn:Hid (j=F.nv):=by show j=F.nv;omega
      have HC:=hide (And.intro C hh);have hfb:w.heap.size+1≠F.cb:=by have:=C.ok.cb.1;omega
      clear C hh;have HOM:Hid (homesF l f=hF (fnD l f).nodes nn (firstF (fnD l f)) (homes0 (P:Int))):=by show _=_;unfold homesF;rw[HNN.out,Nat.add_sub_cancel,HP.out]
      have HFT:=hide HK.out.first
      go_upto_if 92 with fail
      go_cut [6] (fun s wc=>s=.pointer (some ⟨F.cb,0,none⟩)/\∃ X2:CX,CC F X2 wc/\X2.top=firstF (fnD l f)/\X2.home=(fun _=>-1)/\X2.ms=[]/\X2.n=0/\X2.nk=0)
      case first=>
       have QF:Hid (∀ t:Int,t=firstF (fnD l f)->∀ wT,CC F { X1 with top:=t } wT->∃ X2:CX,CC F X2 wT/\X2.top=firstF (fnD l f)/\X2.home=(fun _=>-1)/\X2.ms=[]/\X2.n=0/\X2.nk=0):=fun t et wT CT=>⟨_,CT.hcongr (h':=fun _=>-1) (fun v hv=>by show X1.home v=-1;rw[HC.out.2];simp[hjn.out,hv]),et,rfl,hms,hn,hnk⟩;cases hrst:(fnD l f).rest
       ·rw[hrst]at g3;go_wp2_with fail
        go_meet
        case rel=>exact⟨rfl,QF.out (P:Int) (by unfold firstF;rw[HP.out,hrst];simp) _ (HC.out.1.top (P:Int))⟩
       ·rw[hrst]at g3;go_wp2_with fail
        go_meet
        case rel=>exact⟨rfl,QF.out ((P:Int)+1) (by unfold firstF;rw[HP.out,hrst];simp) _ (by exact(HC.out.1.top (P:Int)).top ((P:Int)+1))⟩
      case rest=>
       obtain⟨rfl,X2,C2,t2,h2,m2,n2,k2⟩:=hcut;clear g0 g1 g2 g3 g4 g5 g6 c11 z11 HC hjn ht hms hn hnk hj hlt2;have hT0:=HFT.out;obtain⟨T0,hT⟩:∃ T0,firstF (fnD l f)=T0:=⟨_,rfl⟩;rw[hT]at hT0 t2 HOM;clear hT HFT;have c11:=C2.c11;rw[t2]at c11;have HC2:=hide (And.intro C2 h2);have hcl:=C2.cbl;clear C2 h2;go_wp2_with fail
       refine(use_any F X2 _ _ HC2.out.1).mono ?_;rintro e w5 ⟨rg,rfl,C5,_⟩;have QX:∃ X5:CX,CC F X5 w5/\X5.top=T0/\X5.home=(fun _=>-1)/\X5.ms=[]/\X5.n=0/\X5.nk=0:=⟨_,C5,t2,HC2.out.2,m2,n2,k2⟩;clear C5 t2 m2 n2 k2 HC2 c11 hcl;obtain⟨X5,C5,t5,h5,m5,n5,k5'⟩:=QX;have HC5:=hide (And.intro C5 h5);clear C5 h5;go_wp2_with fail
       go_loopw [10] (fun q wr=>∃(i:Nat) (X:CX),i<=P/\q=.int .i64 i/\CC F X wr/\X.home=(fun v=>if v<i then(v:Int)else -1)/\X.top=T0/\X.ms=[]/\X.n<=i/\X.nk<=X.n) (fun q _=>P-(intOf q).toNat)
       case atStart=>exact⟨0,X5,Nat.zero_le _,rfl,HC5.out.1,by rw[HC5.out.2];funext v;simp,t5,m5,by omega,by omega⟩
       case round=>
        obtain⟨i,X3,hiP,rfl,C3,h3,t3,m3,n3,k3⟩:=hrel;clear HC5 t5 m5 n5 k5';obtain⟨g0,g1,g2,g3,g4,g5,g6⟩:=FNB.out wr C3.old;by_cases hlt3:i<P
        ·have HC3:=hide (And.intro C3 h3);have hinv:i<F.nv:=by omega
         clear C3 h3;go_wp2_with fail
         refine(declare_any F X3 i _ _ HC3.out.1 hinv (by omega) (by omega) (by omega) k3).mono ?_;rintro e w6 ⟨X6,rfl,C6,_,s6⟩;have HC6:=hide (And.intro C6 s6);clear C6 s6 g0 g1 g2 g3 g4 g5 g6;go_wp2_with fail
         go_roundw
         case rel=>
          obtain⟨C6,s6⟩:=HC6.out;refine⟨i+1,X6,hlt3,by go_num,C6,?_,s6.top.trans t3,s6.ms.trans m3,by have:=s6.n2;omega,s6.nk⟩;rw[s6.home,HC3.out.2]
          funext v
          unfold updF;by_cases e:v=i
          ·subst e;simp
          ·have:(v<i+1)=(v<i):=by apply propext;omega
           simp[e,this]
         case measure=>simp[intOf];omega
        ·obtain rfl:i=P:=by omega
         have h3':X3.home=homes0 (i:Int):=by rw[h3];funext v;unfold homes0;simp
         have JB:=hide (BLK.out X3 wr C3 ⟨by omega,by have:=HK.out.wt;rw[HNN.out,Nat.add_sub_cancel]at this;omega,by rw[m3];have:=HK.out.wt;rw[HNN.out,Nat.add_sub_cancel]at this;simp;omega,by have:=HK.out.wt;rw[HNN.out,Nat.add_sub_cancel]at this;omega,k3⟩ (fun hb=>by have:=HK.out.brk;rw[HNN.out,Nat.add_sub_cancel,hb]at this;cases this) (by rw[m3];exact MOrd.nil));rw[t3,h3',<-HOM.out]at JB;have hwn:IntKind.i64.wrap (nn:Int)=nn:=by have:=HK.out.sh.tree.len;rw[HNN.out]at this;rw[IntKind.wrap_i64];omega
         have hnn2:nn<=3000:=by have:=HK.out.sh.tree.len;rw[HNN.out]at this;omega
         have HWt:Hid (Wt (fnD l f).nodes nn<=1060576):=by have:=HK.out.wt;rw[HNN.out,Nat.add_sub_cancel]at this;exact this
         have HC3:=hide C3;clear C3 h3 h3' hlt3 HOM;go_wp2_with fail
         refine JB.out.mono ?_;rintro e w6 ⟨X6,rfl,C6,_,s6⟩;have t6:=s6.top;have n6:X6.n<=2200000000000:=by have:=s6.n2;have:=HWt.out;omega
         have k6':=s6.nk;have HC6:=hide (And.intro C6 s6.home);clear C6 s6 JB g0 g1 g2 g3 g4 g5 g6;go_wp2_with fail
         refine(push_c F X6 _ HC6.out.1 (by omega) (by omega) k6').mono ?_;rintro e w7 ⟨X7,rfl,C7,_,s7⟩;have n7:=s7.n2;have k7:=s7.nk;have HC7:=hide (And.intro C7 (s7.home.trans HC6.out.2));clear C7 s7;go_wp2_with fail
         refine(put_c F X7 _ _ _ _ _ _ HC7.out.1 (by omega) k7).mono ?_;rintro e w8 ⟨X8,rfl,C8,_,s8,_⟩;have n8:=s8.n2;have k8:=s8.nk;have HC8:=hide (And.intro C8 (s8.home.trans HC7.out.2));clear C8 s8;go_wp2_with fail
         refine(take_any _ _ (by omega) (by omega)).mono ?_;rintro e w' ⟨rfl,rfl⟩;go_wp2_with fail
         refine(put_c F X8 _ _ _ _ _ _ HC8.out.1 (by omega) k8).mono ?_;rintro e w9 ⟨X9,rfl,C9,_,s9,_⟩;have HC9:=hide (And.intro C9 (s9.home.trans HC8.out.2));clear C9 s9 HC6 HC7 HC8 HC3;go_wp2_with fail
         go_loopw [12] (fun q wr=>∃(v:Nat) (X:CX),v<=i/\q=.int .i64 v/\CC F X wr/\X.home=homesF l f) (fun q _=>i-(intOf q).toNat)
         case atStart=>exact⟨0,X9,Nat.zero_le _,rfl,HC9.out.1,HC9.out.2⟩
         case round=>
          obtain⟨v,Xa,hv,rfl,Ca,ha⟩:=hrel;clear HC9;obtain⟨g0,g1,g2,g3,g4,g5,g6⟩:=FNB.out wr Ca.old;by_cases hlt4:v<i
          ·have hv2:v<F.nv:=by omega
           have c15:=Ca.c15;have hmq:=Ca.tt.cell hv2;have hzq:=Ca.tt.frozen v;have R:=hide (And.intro Ca ha);clear Ca ha;go_wp2_with fail
           clear g0 g1 g2 g3 g4 g5 g6
           go_region_with (first | (go_at_call 32;refine(at_any F Xa _ R.out.1.drew).mono ?_;rintro e w' ⟨rfl,rfl⟩))
           all_goals
            go_wp2_with fail
            go_roundw
            case rel=>exact⟨v+1,_,hlt4,by go_num,(R.out.1.drew.till v _).1,R.out.2⟩
            case measure=>simp[intOf];omega
          ·have HH:=hide (And.intro Ca ha);have c13:=Ca.c13;obtain⟨W5,hW5⟩:∃ z,z=wr:=⟨_,rfl⟩;have A0:Hid (BxA F.cb 10 (ccV F Xa) 76 4 W5.heap.size W5 (.slice none 0 0) 0 wr):=by
            rw[hW5];exact⟨Ca.box.congr fun j hj=>by
             by_cases e:j=10
             ·subst e;rw[if_pos rfl];exact HD.out
             ·rw[if_neg e],⟨fun _=>.bool false,.nil⟩,⟨rfl,rfl,rfl,Nat.le_refl _,fun _ _ _=>rfl,fun b e=>.inl (e.elim id (fun e=>by cases e))⟩,Ca.cbl⟩
           have C5:Hid (CC F Xa W5/\Xa.home=homesF l f):=by rw[hW5];exact⟨Ca,ha⟩
           have FN5:=FNB.out wr Ca.old;have FN5:Hid (W5.cell? ⟨w.heap.size+1,4,none⟩=some (.slice a4 F.nv k4)):=by show _=_;rw[hW5];exact FN5.2.2.2.2.1
           clear Ca ha HH;obtain⟨i0,hi,hz0,hz1,hz2⟩:=info_of info_named;go_wp2_with fail
           clear g0 g1 g2 g3 g4 g5 g6 c13;go_loopw [150] (fun q wr=>∃(x m:Nat) (nmv:Value),x<=F.nv/\m<=x/\q=.int .i64 x/\BxA F.cb 10 (ccV F Xa) 76 4 W5.heap.size W5 nmv m wr) (fun q _=>F.nv-(intOf q).toNat)
           case atStart=>exact⟨0,0,_,Nat.zero_le _,Nat.le_refl _,rfl,A0.out⟩
           case round=>
            obtain⟨x,m,nmv,hx,hmx,rfl,A⟩:=hrel;clear A0 hW5;have kb:=C5.out.1.ok;have cd:=C5.out.1.dis;have hmr:=C5.out.1.hm.of_block (A.fr.block F.hb C5.out.1.hm.lt (fun e=>cd.c1.2.1 e));by_cases hlt5:x<F.nv
            ·have hh:=hmr.cell hlt5;have frr:=C5.out.1.fr.of_block (A.fr.block F.fb C5.out.1.fr.lt (fun e=>cd.c1.2.2.1 e));have ttr:=C5.out.1.tt.of_block (A.fr.block F.tb C5.out.1.tt.lt (fun e=>cd.c1.2.2.2 e));have hf5:=frr.cell hlt5;have ht5:=ttr.cell hlt5;by_cases hge:0<=Xa.home x
             ·have hlt':x<(fnD l f).vars.length:=by rw[HNV.out];exact hlt5
              obtain⟨b4,o4,rfl,hS4,hc4⟩:=HI4.out.2 (by omega);have us:=(hc4 x hlt').2;have hb4:b4<w.heap.size:=HB.out b4 hS4;have sz5:F.w0.heap.size<=W5.heap.size:=C5.out.1.old.size;have szr:=A.fr.size;have hb4n:b4≠F.cb:=by have:=kb.cb.1;omega
              have tr:wr.cell? ⟨b4,o4+x,none⟩=w.cell? ⟨b4,o4+x,none⟩:=((World.cell?_of_block (a:=⟨b4,o4+x,none⟩) (A.fr.block b4 (by omega) hb4n)).trans (C5.out.1.old.cell (p:=⟨b4,o4+x,none⟩) (by show b4<F.w0.heap.size;omega))).trans (BW.out.cell (p:=⟨b4,o4+x,none⟩) hb4);rw[<-tr]at us;have u4:=(World.cell?_of_block (a:=⟨w.heap.size+1,4,none⟩) (A.fr.block (w.heap.size+1) (by omega) (by have:=kb.cb.1;omega))).trans FN5.out;generalize (fnD l f).vars[x]?.getD ByteArray.empty=sv at us;have e10:=A.box.cell (i:=10) (by omega);rw[if_pos rfl]at e10;have e14:wr.cell? ⟨F.cb,14,none⟩=some (.slice (some ⟨F.fb,0,none⟩) F.nv F.nv):=by have q:=A.box.cell (i:=14) (by omega);rw[if_neg (by omega)]at q;exact q
              have e15:wr.cell? ⟨F.cb,15,none⟩=some (.slice (some ⟨F.tb,0,none⟩) F.nv F.nv):=by have q:=A.box.cell (i:=15) (by omega);rw[if_neg (by omega)]at q;exact q
              generalize Xa.home x=hv at hh hge;generalize Xa.fr x=fv at hf5;generalize Xa.tt x=tv at ht5;have hcbr:=A.box.lt;have hbr4:b4<wr.heap.size:=World.block_lt_of_cell? _ _ us;have hbr1:w.heap.size+1<wr.heap.size:=World.block_lt_of_cell? _ _ u4;have hbrf:F.fb<wr.heap.size:=frr.lt;have hbrt:F.tb<wr.heap.size:=ttr.lt;obtain⟨W6,hW6⟩:∃ W6:World,W6=(wr.alloc (.cells #[.string sv,.int .i64 hv,.int .i64 fv,.int .i64 tv] 76)).drew:=⟨_,rfl⟩;have bel:Below wr.heap.size wr W6:=by rw[hW6];exact((Below.refl _ _).alloc (Nat.le_refl _) _).drew
              have A1:Hid (BxA F.cb 10 (ccV F Xa) 76 4 W5.heap.size W5 nmv m W6):=A.below bel;have HN:Hid (∀ j u,([.string sv,.int .i64 hv,.int .i64 fv,.int .i64 tv]:List Value)[j]? = some u->W6.cell? ((⟨wr.heap.size,0,none⟩:Addr).add j)=some u):=by
               show ∀ j u,_;rw[hW6];intro j u hj;rcases j with _ | _ | _ | _ | _<;>simp at hj<;>subst hj<;>simp[Addr.add,go_sem]
              have hSz:Hid (W6.heap.size=wr.heap.size+1):=by show _=_;rw[hW6];simp
              obtain⟨gf,hown⟩:=A1.out.own;have OWN:=hide hown.owns;have NX:Hid (∀ w3,W6.grownBy w3 nmv.ownBlock->(w3.cell? ⟨F.cb,10,none⟩=some nmv/\w3.frozen? ⟨F.cb,10,none⟩=false/\F.cb<w3.heap.size)/\w3.cell? ⟨w.heap.size+1,4,none⟩=some (.slice (some ⟨b4,o4,none⟩) F.nv k4)/\w3.cell? ⟨b4,o4+x,none⟩=some (.string sv)/\w3.cell? ⟨F.cb,14,none⟩=some (.slice (some ⟨F.fb,0,none⟩) F.nv F.nv)/\w3.cell? ⟨F.fb,x,none⟩=some (.int .i64 fv)/\w3.cell? ⟨F.cb,15,none⟩=some (.slice (some ⟨F.tb,0,none⟩) F.nv F.nv)/\w3.cell? ⟨F.tb,x,none⟩=some (.int .i64 tv)):=fun w3 hg=>by
               have lw:∀ y,y<W5.heap.size->nmv.ownBlock≠some y:=fun y hy e=>by have:=(hown.lt y e).1;omega
               have mv:∀ y o (val:Value),y<W5.heap.size->wr.cell? ⟨y,o,none⟩=some val->w3.cell? ⟨y,o,none⟩=some val:=fun y o val hy hc=>
                (World.cell?_of_block (a:=⟨y,o,none⟩) (hg.block y (by have:=bel.size;omega) (fun e=>lw y hy e.symm))).trans ((bel.cell (p:=⟨y,o,none⟩) (by show y<wr.heap.size;omega)).trans hc)
               have l1:=C5.out.1.cbl;have l2:=C5.out.1.fr.lt;have l3:=C5.out.1.tt.lt;exact⟨A1.out.cells (by omega) hg,mv _ _ _ (by omega) u4,mv _ _ _ (by omega) us,mv _ _ _ l1 e14,mv _ _ _ l2 hf5,mv _ _ _ l1 e15,mv _ _ _ l3 ht5⟩
              have HW6:=hide hW6;have hm200:m<=200:=by omega
              have hsz6:Hid (W5.heap.size<=W6.heap.size):=by show _<=_;have:=bel.size;omega
              have nfb:F.fb≠F.cb:=cd.c1.2.2.1;have ntb:F.tb≠F.cb:=cd.c1.2.2.2;have RST:=hide (And.intro hmr A.fr);clear A hown hW6 hc4 tr hlt' bel hmr frr ttr kb cd
              go_upto_region 34 with fail
              refine wp_region_K (fun W=>W.cell? ⟨F.cb,10,none⟩=some nmv/\W.cell? ⟨w.heap.size+1,4,none⟩=some (.slice (some ⟨b4,o4,none⟩) F.nv k4)/\W.cell? ⟨b4,o4+x,none⟩=some (.string sv)/\W.cell? ⟨F.cb,14,none⟩=some (.slice (some ⟨F.fb,0,none⟩) F.nv F.nv)/\W.cell? ⟨F.fb,x,none⟩=some (.int .i64 fv)/\W.cell? ⟨F.cb,15,none⟩=some (.slice (some ⟨F.tb,0,none⟩) F.nv F.nv)/\W.cell? ⟨F.tb,x,none⟩=some (.int .i64 tv)) 32 (by kernel_rfl) (fun W0 hW0=>?_);have hS0:W0.cell? ⟨F.cb,10,none⟩=some nmv/\W0.cell? ⟨w.heap.size+1,4,none⟩=some (.slice (some ⟨b4,o4,none⟩) F.nv k4)/\W0.cell? ⟨b4,o4+x,none⟩=some (.string sv)/\W0.cell? ⟨F.cb,14,none⟩=some (.slice (some ⟨F.fb,0,none⟩) F.nv F.nv)/\W0.cell? ⟨F.fb,x,none⟩=some (.int .i64 fv)/\W0.cell? ⟨F.cb,15,none⟩=some (.slice (some ⟨F.tb,0,none⟩) F.nv F.nv)/\W0.cell? ⟨F.tb,x,none⟩=some (.int .i64 tv):=by rw[hW0];exact⟨e10,u4,us,e14,hf5,e15,ht5⟩
              have hWW:W6=W0.alloc (.cells #[.string sv,.int .i64 hv,.int .i64 fv,.int .i64 tv] 76):=by rw[HW6.out,hW0];rfl
              have hz00:W0.heap.size=wr.heap.size:=by rw[hW0];rfl
              clear e10 u4 us e14 hf5 e15 ht5 hh hW0;refine K_go (i:=0) (some 157) (.pointer (some ⟨F.cb,0,none⟩)) rfl rfl (by kernel_rfl) (by kernel_rfl) (fun _ _ _ h=>h) hS0 (fun W hW=>by simp[go_sem,Act.put]) ?_;refine K_go (i:=1) (some 158) (.pointer (some ⟨F.cb,0,none⟩)) rfl rfl (by kernel_rfl) (by kernel_rfl) (fun _ _ _ h=>h) hS0 (fun W hW=>by simp[go_sem,Act.put]) ?_;refine K_go (i:=2) (some 159) (.pointer (some ⟨F.cb,0,none⟩)) rfl rfl (by kernel_rfl) (by kernel_rfl) (fun _ _ _ h=>h) hS0 (fun W hW=>by simp[go_sem,Act.put]) ?_;refine K_go (i:=3) (some 160) (.pointer (some ⟨F.cb,2,none⟩)) rfl rfl (by kernel_rfl) (by kernel_rfl) (fun _ _ _ h=>h) hS0 (fun W hW=>by simp[go_sem,Act.put]) ?_;refine K_go (i:=4) (some 161) (.pointer (some ⟨F.cb,10,none⟩)) rfl rfl (by kernel_rfl) (by kernel_rfl) (fun _ _ _ h=>h) hS0 (fun W hW=>by simp[go_sem,Act.put]) ?_;refine K_go (i:=5) (some 162) (nmv) rfl rfl (by kernel_rfl) (by kernel_rfl) (fun _ _ _ h=>h) hS0 (fun W hW=>by simp[go_sem,Act.put,hW.1]) ?_;simp only[Act.put,List.setIfInBounds_toArray,List.set_cons_zero,List.set_cons_succ];refine K_go (i:=6) (some 163) (.pointer (some ⟨w.heap.size+1,4,none⟩)) rfl rfl (by kernel_rfl) (by kernel_rfl) (fun _ _ _ h=>h) hS0 (fun W hW=>by simp[go_sem,Act.put]) ?_;refine K_go (i:=7) (some 164) (.slice (some ⟨b4,o4,none⟩) F.nv k4) rfl rfl (by kernel_rfl) (by kernel_rfl) (fun _ _ _ h=>h) hS0 (fun W hW=>by simp[go_sem,Act.put,hW.2.1]) ?_;refine K_go (i:=8) (some 165) (.int .i64 (x:Int)) rfl rfl (by kernel_rfl) (by kernel_rfl) (fun _ _ _ h=>h) hS0 (fun W hW=>by simp[go_sem,Act.put]) ?_;refine K_go (i:=9) (some 166) (.pointer (some ⟨b4,o4+x,none⟩)) rfl rfl (by kernel_rfl) (by kernel_rfl) (fun _ _ _ h=>h) hS0 (fun W hW=>by simp[go_sem,Act.put,hlt5]) ?_;refine K_go (i:=10) (some 167) (.string sv) rfl rfl (by kernel_rfl) (by kernel_rfl) (fun _ _ _ h=>h) hS0 (fun W hW=>by simp[go_sem,Act.put,hW.2.2.1]) ?_;refine K_go (i:=11) (some 168) (.int .i64 hv) rfl rfl (by kernel_rfl) (by kernel_rfl) (fun _ _ _ h=>h) hS0 (fun W hW=>by simp[go_sem,Act.put]) ?_;simp only[Act.put,List.setIfInBounds_toArray,List.set_cons_zero,List.set_cons_succ];refine K_go (i:=12) (some 169) (.pointer (some ⟨F.cb,0,none⟩)) rfl rfl (by kernel_rfl) (by kernel_rfl) (fun _ _ _ h=>h) hS0 (fun W hW=>by simp[go_sem,Act.put]) ?_;refine K_go (i:=13) (some 170) (.pointer (some ⟨F.cb,0,none⟩)) rfl rfl (by kernel_rfl) (by kernel_rfl) (fun _ _ _ h=>h) hS0 (fun W hW=>by simp[go_sem,Act.put]) ?_;refine K_go (i:=14) (some 171) (.pointer (some ⟨F.cb,14,none⟩)) rfl rfl (by kernel_rfl) (by kernel_rfl) (fun _ _ _ h=>h) hS0 (fun W hW=>by simp[go_sem,Act.put]) ?_;refine K_go (i:=15) (some 172) (.slice (some ⟨F.fb,0,none⟩) F.nv F.nv) rfl rfl (by kernel_rfl) (by kernel_rfl) (fun _ _ _ h=>h) hS0 (fun W hW=>by simp[go_sem,Act.put,hW.2.2.2.1]) ?_;refine K_go (i:=16) (some 173) (.int .i64 (x:Int)) rfl rfl (by kernel_rfl) (by kernel_rfl) (fun _ _ _ h=>h) hS0 (fun W hW=>by simp[go_sem,Act.put]) ?_;refine K_go (i:=17) (some 174) (.pointer (some ⟨F.fb,x,none⟩)) rfl rfl (by kernel_rfl) (by kernel_rfl) (fun _ _ _ h=>h) hS0 (fun W hW=>by simp[go_sem,Act.put,hlt5]) ?_;refine K_go (i:=18) (some 175) (.int .i64 fv) rfl rfl (by kernel_rfl) (by kernel_rfl) (fun _ _ _ h=>h) hS0 (fun W hW=>by simp[go_sem,Act.put,hW.2.2.2.2.1]) ?_;simp only[Act.put,List.setIfInBounds_toArray,List.set_cons_zero,List.set_cons_succ];refine K_go (i:=19) (some 176) (.pointer (some ⟨F.cb,0,none⟩)) rfl rfl (by kernel_rfl) (by kernel_rfl) (fun _ _ _ h=>h) hS0 (fun W hW=>by simp[go_sem,Act.put]) ?_;refine K_go (i:=20) (some 177) (.pointer (some ⟨F.cb,0,none⟩)) rfl rfl (by kernel_rfl) (by kernel_rfl) (fun _ _ _ h=>h) hS0 (fun W hW=>by simp[go_sem,Act.put]) ?_;refine K_go (i:=21) (some 178) (.pointer (some ⟨F.cb,15,none⟩)) rfl rfl (by kernel_rfl) (by kernel_rfl) (fun _ _ _ h=>h) hS0 (fun W hW=>by simp[go_sem,Act.put]) ?_;refine K_go (i:=22) (some 179) (.slice (some ⟨F.tb,0,none⟩) F.nv F.nv) rfl rfl (by kernel_rfl) (by kernel_rfl) (fun _ _ _ h=>h) hS0 (fun W hW=>by simp[go_sem,Act.put,hW.2.2.2.2.2.1]) ?_;refine K_go (i:=23) (some 180) (.int .i64 (x:Int)) rfl rfl (by kernel_rfl) (by kernel_rfl) (fun _ _ _ h=>h) hS0 (fun W hW=>by simp[go_sem,Act.put]) ?_;refine K_go (i:=24) (some 181) (.pointer (some ⟨F.tb,x,none⟩)) rfl rfl (by kernel_rfl) (by kernel_rfl) (fun _ _ _ h=>h) hS0 (fun W hW=>by simp[go_sem,Act.put,hlt5]) ?_;simp only[Act.put,List.setIfInBounds_toArray,List.set_cons_zero,List.set_cons_succ];refine K_go (i:=25) (some 182) (.int .i64 tv) rfl rfl (by kernel_rfl) (by kernel_rfl) (fun _ _ _ h=>h) hS0 (fun W hW=>by simp[go_sem,Act.put,hW.2.2.2.2.2.2]) ?_;refine K_go (i:=26) (some 183) (.agg #[.string sv,.int .i64 hv,.int .i64 fv,.int .i64 tv]) rfl rfl (by kernel_rfl) (by kernel_rfl) (fun _ _ _ h=>h) hS0 (fun W hW=>by simp[go_sem,Act.put]) ?_;simp only[Act.put,List.setIfInBounds_toArray,List.set_cons_zero,List.set_cons_succ];have hS6:W6.cell? ⟨F.cb,10,none⟩=some nmv/\W6.cell? ⟨w.heap.size+1,4,none⟩=some (.slice (some ⟨b4,o4,none⟩) F.nv k4)/\W6.cell? ⟨b4,o4+x,none⟩=some (.string sv)/\W6.cell? ⟨F.cb,14,none⟩=some (.slice (some ⟨F.fb,0,none⟩) F.nv F.nv)/\W6.cell? ⟨F.fb,x,none⟩=some (.int .i64 fv)/\W6.cell? ⟨F.cb,15,none⟩=some (.slice (some ⟨F.tb,0,none⟩) F.nv F.nv)/\W6.cell? ⟨F.tb,x,none⟩=some (.int .i64 tv):=by
               rw[hWW];have q:=fun(y o:Nat) (val:Value) (hc:W0.cell? ⟨y,o,none⟩=some val)=>(World.cell?_of_block (a:=⟨y,o,none⟩) (Below.heap_alloc W0 (.cells #[.string sv,.int .i64 hv,.int .i64 fv,.int .i64 tv] 76) y (World.block_lt_of_cell? _ _ hc))).trans hc;exact⟨q _ _ _ hS0.1,q _ _ _ hS0.2.1,q _ _ _ hS0.2.2.1,q _ _ _ hS0.2.2.2.1,q _ _ _ hS0.2.2.2.2.1,q _ _ _ hS0.2.2.2.2.2.1,q _ _ _ hS0.2.2.2.2.2.2⟩
              refine K_op (i:=27) (n:=.value (.slice (some ⟨wr.heap.size,0,none⟩) 1 1)) (w':=W6) (v:=.slice (some ⟨wr.heap.size,0,none⟩) 1 1) (some 184) rfl rfl (by kernel_rfl) (by kernel_rfl) (by rw[hWW,<-hz00];simp[go_sem,Act.put]) (.inr rfl) hS6 ?_;simp only[Act.put,List.setIfInBounds_toArray,List.set_cons_zero,List.set_cons_succ];refine K_step (i:=28) rfl (by kernel_rfl) (by kernel_rfl) ?_;refine step_append_lies _ (by rfl) (.tmp 162) (.tmp 184) 46 (by rfl) W5.heap.size 76 i0 (.agg #[.string ByteArray.empty,.int .i64 0,.int .i64 0,.int .i64 0]) 4 40 Tryz.underlying46 hi hz0 hz1 hz2 rfl (by decide) nmv m _ rfl OWN.out ⟨wr.heap.size,0,none⟩ 1 1 [.string sv,.int .i64 hv,.int .i64 fv,.int .i64 tv] rfl rfl HN.out (by intro u hu;simp at hu;rcases hu with rfl | rfl | rfl | rfl<;>rfl) (by decide) (by unfold maxLen;omega) (by omega) hsz6.out (wr.heap.size+1) hSz.out ?_;intro g3 cap3 w3 hown3 hgrow3 hat3 hlt3;obtain⟨⟨n1,n2,n3⟩,n4,n5,n6',n7',n8',n9⟩:=NX.out _ hgrow3;refine⟨⟨n1,n4,n5,n6',n7',n8',n9⟩,?_⟩;simp only[Act.put,List.setIfInBounds_toArray,List.set_cons_zero,List.set_cons_succ];refine K_op (i:=29) (n:=.value (.pointer (some ⟨F.cb,0,none⟩))) (w':=w3) (v:=.pointer (some ⟨F.cb,0,none⟩)) (some 186) rfl rfl (by kernel_rfl) (by kernel_rfl) (by simp[go_sem,Act.put]) (.inr rfl) ⟨n1,n4,n5,n6',n7',n8',n9⟩ ?_;refine K_op (i:=30) (n:=.value (.pointer (some ⟨F.cb,2,none⟩))) (w':=w3) (v:=.pointer (some ⟨F.cb,2,none⟩)) (some 187) rfl rfl (by kernel_rfl) (by kernel_rfl) (by simp[go_sem,Act.put]) (.inr rfl) ⟨n1,n4,n5,n6',n7',n8',n9⟩ ?_;refine K_op (i:=31) (n:=.value (.pointer (some ⟨F.cb,10,none⟩))) (w':=w3) (v:=.pointer (some ⟨F.cb,10,none⟩)) (some 188) rfl rfl (by kernel_rfl) (by kernel_rfl) (by simp[go_sem,Act.put]) (.inr rfl) ⟨n1,n4,n5,n6',n7',n8',n9⟩ ?_;refine K_last (beq_iff_eq.1 (by kernel_rfl)) ?_;refine A_op (i:=32) (n:=.skip) (w':=w3.setCell ⟨F.cb,10,none⟩ (.slice (some ⟨g3,0,none⟩) (m+1) cap3)) (v:=undef) none rfl rfl (by kernel_rfl) (by kernel_rfl) (by simp[go_sem,Act.put,n1,n2]) (.inl ⟨rfl,rfl⟩) ?_;refine wpAny_done (beq_iff_eq.1 (by kernel_rfl)) ?_ _;simp only[Act.put,List.setIfInBounds_toArray,List.set_cons_zero,List.set_cons_succ]
              all_goals
               have R:=hide (A1.out.grow (f':=fun j=>if j<m * 4 then gf j else if j=m * 4 then .string sv else if j=m * 4+1 then .int .i64 hv else if j=m * 4+2 then .int .i64 fv else .int .i64 tv) hgrow3 (hat3.elim .inl fun e=>.inr (by rw[hSz.out,e];exact Nat.le_refl _)) (OwnF.push rfl hown3 (fun i hi=>by simp[hi]) (fun i hi=>by rcases i with _ | _ | _ | _ | i<;>simp<;>omega)));clear n1 n2 n3 n4 n5 n6' n7' n8' n9 hown3 hgrow3 hat3 hS6 hS0 hWW;go_wp2_with fail
               go_roundw
               case rel=>exact⟨x+1,m+1,_,hlt5,by omega,by go_num,R.out⟩
               case measure=>simp[intOf];omega
             ·have HA:=hide A;clear A hf5 ht5 frr ttr hmr kb cd;go_wp2_with fail
              go_roundw
              case rel=>exact⟨x+1,m,nmv,hlt5,by omega,by go_num,HA.out⟩
              case measure=>simp[intOf];omega
            ·have e13:wr.cell? ⟨F.cb,13,none⟩=some (.slice (some ⟨F.hb,0,none⟩) F.nv F.nv):=by have q:=A.box.cell (i:=13) (by omega);rw[if_neg (by omega)]at q;exact q
             have RST:=hide (And.intro e13 (And.intro hmr A.fr));clear A hmr e13 kb cd;go_wp2_with fail
             go_ret;obtain⟨e13,hmr,fr⟩:=RST.out;have ok:=C5.out.1.ok;have o1:=C5.out.1.old;refine⟨F.cb,F.hb,rfl,e13,by have:=ok.hb.1;have:=BW.out.size;omega,by rw[C5.out.2]at hmr;exact hmr,?_⟩;exact BW.out.trans ((o1.trans (fr.below (fun b e=>by have e':b=F.cb:=e;have:=ok.cb.1;omega) o1.size)).mono BW.out.size)
end Go.Proofs.YtomcjennjcpdnaaGreatDoor
namespace Go.Proofs.YtomcjennjcpdnaaGreatDoor
set_option maxRecDepth 100000
set_option maxHeartbeats 4000000
open Go.RowKit
theorem spec_Homes_any (a:Option Addr)(l:List FnD)(c:Nat)(f:Int)(S:Nat->Prop)(w:World)(hs:FnsAt w S a l)(hB:∀ b,S b->b<w.heap.size)(hl:tFns l<=1048576) :
  Calls Tryz.prog 5 #[.agg #[.slice a l.length c],.int .i64 f] w (HomesPost l f w):=by
 have hbA:Below w.heap.size w (w.alloc (.cells #[.slice a l.length c] 30)):=(Below.refl _ _).alloc (Nat.le_refl _) _;have hlen:=tFns_len l;have FN:Hid (∀ W:World,Below w.heap.size w W->FnsAt W S a l/\∀ b,S b->b<W.heap.size):=fun W hW=>⟨hs.keep hW hB,fun b h=>Nat.lt_of_lt_of_le (hB b h) hW.size⟩;have HBA:=hide hbA;clear hbA hs hB;go_enter Tryz.func5,Tryz.ntmps5;go_wp2_with fail
 refine(spec_CheckUnit_any a l c S _ (unhide FN _ (unhide HBA)).1 (unhide FN _ (unhide HBA)).2 hl).mono ?_;rintro e w1 ⟨x,y,n,rfl,hU,hb1⟩;have HU:=hide hU;have HB1:=hide ((unhide HBA).trans (hb1.mono (unhide HBA).size));have v1:w1.cell? ⟨w.heap.size,0,none⟩=some (.slice a l.length c):=by rw[hb1.cell (p:=⟨w.heap.size,0,none⟩) (by simp)];simp[go_sem]
 have s1:w.heap.size+1<=w1.heap.size:=by have:=hb1.size;simpa using this
 have s1':w.heap.size<w1.heap.size:=by omega
 clear hb1;have HA2:Hid (∀ o,Below w.heap.size w (w1.alloc o)):=fun o=>(unhide HB1).alloc (unhide HB1).size _;by_cases x0:x=0
 ·subst x0;obtain⟨rfl,rfl⟩:=unitFault_00 hU;clear hU;by_cases q1:f<0
  ·have HP:Hid (¬Plans l f):=fun h=>by have:=h.1;omega
   go_wp2_with fail
   go_ret;exact⟨none,0,0,rfl,.inr ⟨unhide HP,rfl,rfl⟩,unhide HA2 _⟩
  by_cases q2:(l.length:Int)<=f
  ·have HP:Hid (¬Plans l f):=fun h=>by have:=h.2.1;omega
   go_wp2_with fail
   go_ret;exact⟨none,0,0,rfl,.inr ⟨unhide HP,rfl,rfl⟩,unhide HA2 _⟩
  obtain⟨fn,rfl⟩:∃ fn:Nat,f=fn:=⟨f.toNat,by omega⟩;have hfn:fn<l.length:=by omega
  have HP:Hid (Plans l fn):=⟨by omega,by omega,unhide HU⟩;have R:=hide (ready_of (unhide HU) hfn);have K:=hide (plOk_of (unhide HU) hfn hl);have HPl:Hid (HomesPost l fn w=fun e w'=>∃ a n c,e=.returned (.slice a n c)/\((Plans l fn/\n=(fnD l fn).vars.length/\∃ b,a=some ⟨b,0,none⟩/\w.heap.size<=b/\w'.rowIs b 3 n (fun j=>.int .i64 (homesF l fn j)))\/(¬Plans l fn/\a=none/\n=0))/\Below w.heap.size w w'):=rfl;go_wp2_with fail
  refine(l8fn_any a l c fn S _ (unhide FN _ (unhide HA2 _)).1 (unhide FN _ (unhide HA2 _)).2 hfn (unhide R) (unhide K)).mono ?_;rintro e w2 ⟨cb,hb,rfl,c13,hz,hr2,hw2⟩;have H2:=hide (And.intro hz (And.intro hr2 hw2));clear hz hr2 hw2;go_wp2_with fail
  go_ret;obtain⟨hz,hr2,hw2⟩:=unhide H2;have z:=(unhide HA2 (.cells #[.int .i64 0,.int .i64 0,.int .i64 0] 39)).size;rw[HPl.out];exact⟨_,_,_,rfl,.inl ⟨unhide HP,rfl,hb,rfl,Nat.le_trans z hz,hr2⟩,(unhide HA2 _).trans (hw2.mono z)⟩
 ·have hx0:(x != 0)=true:=by simpa using x0
  have HP:Hid (¬Plans l f):=fun h=>x0 (unitFault_unique hU h.2.2).1;clear hU x0;go_wp2_with fail
  go_ret;exact⟨none,0,0,rfl,.inr ⟨unhide HP,rfl,rfl⟩,unhide HA2 _⟩
end Go.Proofs.YtomcjennjcpdnaaGreatDoor
