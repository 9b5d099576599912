import Derived.Test.YtofcbekoaghikaaGreatDoorPart25
set_option linter.unusedSimpArgs false
set_option linter.unusedVariables false
set_option maxHeartbeats 16000000
set_option maxRecDepth 100000
namespace Go.Proofs.YtofcbekoaghikaaGreatDoor
open Go.RowKit
attribute [local go_sem] run_store_float
def mkAtV (l:List FnD)(f p:Nat)(j:Int):Option Value:=(mkAt l f p j).map fun s=>siteV s.1 s.2
def mkUptoV (l:List FnD)(f:Nat)(j:Int):Option Value:=(mkUpto l f j).map fun s=>siteV s.1 s.2
theorem mkAtV_next (l:List FnD)(f p:Nat)(j:Int)(hk:(nd (fnD l f).nodes p).kind≠36):mkAtV l f (p+1) j=mkAtV l f p j:=by
 have e:mkAt l f (p+1)=mkAt l f p:=by
  show(if _ then _ else _:Int->Option (Nat×Nat))=_;rw[if_neg (fun q=>hk q.1)];rfl
 unfold mkAtV;rw[e]
theorem mkAtV_had (l:List FnD)(f p:Nat)(j:Int)(hh:mkAtV l f p (ref0 (nd (fnD l f).nodes p))≠none):mkAtV l f (p+1) j=mkAtV l f p j:=by
 have e:mkAt l f (p+1)=mkAt l f p:=by
  show(if _ then _ else _:Int->Option (Nat×Nat))=_;rw[if_neg (fun q=>hh (by
   have q2:mkAt l f p (ref0 (nd (fnD l f).nodes p))=none:=q.2;unfold mkAtV;rw[q2];rfl))];rfl
 unfold mkAtV;rw[e]
theorem mkAtV_new (l:List FnD)(f p:Nat)(j:Int)(hk:(nd (fnD l f).nodes p).kind=36)(hh:mkAtV l f p (ref0 (nd (fnD l f).nodes p))=none) :
  mkAtV l f (p+1) j=if j=ref0 (nd (fnD l f).nodes p)then some (siteV f p)else mkAtV l f p j:=by
 have hh:mkAt l f p (ref0 (nd (fnD l f).nodes p))=none:=by unfold mkAtV at hh;simpa using hh
 have e:mkAt l f (p+1)=fun k=>if k=ref0 (nd (fnD l f).nodes p)then some (f,p)else mkAt l f p k:=by
  show(if _ then _ else _:Int->Option (Nat×Nat))=_;rw[if_pos ⟨hk,hh⟩];rfl
 unfold mkAtV;rw[e];show Option.map _ (if j=ref0 (nd (fnD l f).nodes p)then some (f,p)else mkAt l f p j)=_;split<;>rfl
theorem mkAtV_site (l:List FnD)(f p:Nat)(j:Int){v:Value}(h:mkAtV l f p j=some v):∃ f' n':Nat,v=.agg #[.int .i64 f',.int .i64 n']:=by
 unfold mkAtV at h;cases e:mkAt l f p j with
 | none=>rw[e]at h;cases h
 | some s=>rw[e]at h;cases h;exact⟨s.1,s.2,rfl⟩
theorem run_makeSites (w:World):(Instr.makeMap 109 none).run Tryz.prog w=.ok (.map (some w.heap.size)) (w.alloc (.map #[] 0)):=by
 simp[Instr.makeMap,Result.andThen]
theorem makers_any (a:Option Addr)(l:List FnD)(c:Nat)(S:Nat->Prop)(w:World)(hs:FnsAt w S a l)(hB:∀ b,S b->b<w.heap.size)
  (hone:∀ f p,f<l.length->p<(fnD l f).nodes.length->(nd (fnD l f).nodes p).kind=36->0<(nd (fnD l f).nodes p).refs.length) :
  Calls Tryz.prog 70 #[.agg #[.slice a l.length c]] w fun e w'=>∃ b,e=.returned (.map (some b))/\MapI w' b (mkV l)/\w.heap.size<=b/\Below w.heap.size w w':=by
 have hn:=hs.1;have HS:=hide hs;have HB:=hide hB;have HONE:=hide hone;have hmm:=run_makeSites;have B0:Hid (∀ o o',Below w.heap.size w ((w.alloc o).alloc o')):=box_pair w;have M0:Hid (∀ o,MapI ((w.alloc o).alloc (.map #[] 0)) (w.heap.size+1) (fun _=>none)):=fun o=>by
  have:=MapI.made (w.alloc o);simpa using this
 clear hs hB hone;go_enter Tryz.func70,Tryz.ntmps70;go_wp2_with fail
 clear hmm;go_loopg [14] l.length (fun g i wr=>∃(k:Nat),k+g=l.length/\i=.int .i64 k/\Below w.heap.size w wr/\w.heap.size+2<=wr.heap.size/\MapI wr (w.heap.size+1) (mkUptoV l k))
 case atStart=>exact⟨0,by omega,rfl,unhide B0 _ _,by simp,unhide M0 _⟩
 case round=>
  obtain⟨f,hk,rfl,hbw,hsz,hM⟩:=hrel;by_cases hlt:f<l.length
  ·obtain⟨b,off,rfl,hb,hcc⟩:=((unhide HS).keep hbw (unhide HB)).2 (by omega);have N:FnCells wr S b (off+f * 7) (fnD l f):=hcc f hlt;have E1:Hid (∀ p,(nd (fnD l f).nodes p).kind≠36->∀ j,mkAtV l f (p+1) j=mkAtV l f p j):=fun p h j=>mkAtV_next l f p j h;have E2:Hid (∀ p,mkAtV l f p (ref0 (nd (fnD l f).nodes p))≠none->∀ j,mkAtV l f (p+1) j=mkAtV l f p j):=fun p h j=>mkAtV_had l f p j h;have E3:Hid (∀ p,(nd (fnD l f).nodes p).kind=36->mkAtV l f p (ref0 (nd (fnD l f).nodes p))=none->∀ j,mkAtV l f (p+1) j=if j=ref0 (nd (fnD l f).nodes p)then some (.agg #[.int .i64 f,.int .i64 p])else mkAtV l f p j):=fun p h h2 j=>mkAtV_new l f p j h h2;have E4:Hid (∀ j,mkUptoV l (f+1) j=mkAtV l f (fnD l f).nodes.length j):=fun _=>rfl;have E5:Hid (∀ p j v,mkAtV l f p j=some v->∃ f' n':Nat,v=.agg #[.int .i64 f',.int .i64 n']):=fun p j v h=>mkAtV_site l f p j h;have MS:MapI wr (w.heap.size+1) (mkAtV l f 0):=hM;have ONE:Hid (∀ p,p<(fnD l f).nodes.length->(nd (fnD l f).nodes p).kind=36->0<(nd (fnD l f).nodes p).refs.length):=fun p h1 h2=>unhide HONE f p hlt h1 h2;clear hcc hM;generalize mkAtV l f=MV at *;generalize fnD l f=x at *;obtain⟨va,vc,hv,hvI⟩:=N.vars;obtain⟨ua,uc,hu,huI⟩:=N.ups;obtain⟨na,nc,hno,hnI⟩:=N.nodes;have c0:=N.name;have c1:=N.line;have c2:=N.params;have c3:=N.rest;have NN:=hide hnI;have hnl:=hnI.1;have HBr:Hid (∀ b,S b->b<wr.heap.size):=fun b h=>Nat.lt_of_lt_of_le (unhide HB b h) hbw.size;obtain⟨nm,ln,pr,rs,vars,ups,ns⟩:=x;simp only at *;clear N hvI huI hnI;obtain⟨wo,rfl⟩:∃ wo,wo=wr:=⟨wr,rfl⟩;have P0:Hid (∀ o,Below w.heap.size w (wo.alloc o)/\w.heap.size+2<=(wo.alloc o).heap.size/\MapI (wo.alloc o) (w.heap.size+1) (MV 0)/\Same S wo (wo.alloc o)):=fun o=>
    ⟨hbw.alloc (by omega) o,by simp;omega,MS.block (Below.heap_alloc wo o _ MS.lt),(Same.refl).alloc (unhide HBr) o⟩
   clear hbw hsz MS;go_wp2_with fail
   clear hv hu hno c0 c1 c2 c3;go_loopg [22] ns.length (fun g i wr=>∃(k:Nat),k+g=ns.length/\i=.int .i64 k/\Below w.heap.size w wr/\w.heap.size+2<=wr.heap.size/\MapI wr (w.heap.size+1) (MV k)/\Same S wo wr)
   case atStart=>
    obtain⟨q1,q2,q3,q4⟩:=unhide P0 (.cells #[.string nm,.int .i64 ln,.int .i64 pr,.bool rs,.slice va vars.length vc,.slice ua ups.length uc,.slice na ns.length nc] 54);exact⟨0,by omega,rfl,q1,q2,q3,q4⟩
   case round=>
    obtain⟨p,hp,rfl,hbw,hsz,hM,hsame⟩:=hrel;by_cases hpl:p<ns.length
    ·obtain⟨bn,offn,rfl,hbn,hcn⟩:=((unhide NN).same hsame).2 (by omega);have M:NodeCells wr S bn (offn+p * 8) (nd ns p):=hcn p hpl;have HSr:Hid (∀ b,S b->b<wr.heap.size):=fun b h=>Nat.lt_of_lt_of_le (unhide HB b h) hbw.size;clear hcn;obtain⟨ra,rc,hr,hrI⟩:=M.refs;obtain⟨ka,kc,hkk,hkI⟩:=M.kids;have c0:=M.kind;have c1:=M.line;have c2:=M.op;have c3:=M.num;have c4:=M.flt;have c5:=M.str;have hsl:=M.strs;have hrl:=hrI.1;have hkl:=hkI.1;have HRI:=hide hrI;have F1:=hide (unhide E1 p);have F2:=hide (unhide E2 p);have F3:=hide (unhide E3 p);have ON:=hide (unhide ONE p hpl);have R0:Hid (ref0 (nd ns p)=(nd ns p).refs[0]?.getD 0):=rfl;generalize hr0:ref0 (nd ns p)=r at *;clear hr0 M hrI hkI;generalize nd ns p=y at *;obtain⟨kind,line,op,num,flt,str,refs,kids⟩:=y;simp only at *;have KEEP:Hid (Below w.heap.size w (wr.alloc (.cells #[.int .i64 kind,.int .i64 line,.int .i64 op,.int .i64 num,.float .f64 flt,.string str,.slice ra refs.length rc,.slice ka kids.length kc] 58))/\MapI (wr.alloc (.cells #[.int .i64 kind,.int .i64 line,.int .i64 op,.int .i64 num,.float .f64 flt,.string str,.slice ra refs.length rc,.slice ka kids.length kc] 58)) (w.heap.size+1) (MV p)/\Same S wo (wr.alloc (.cells #[.int .i64 kind,.int .i64 line,.int .i64 op,.int .i64 num,.float .f64 flt,.string str,.slice ra refs.length rc,.slice ka kids.length kc] 58))):=
      ⟨hbw.alloc (by omega) _,hM.block (Below.heap_alloc wr _ _ hM.lt),hsame.alloc (unhide HSr) _⟩
     by_cases h36:kind=36
     ·subst h36;have hrp:0<refs.length:=unhide ON rfl;obtain⟨rb,ro,rfl,hrb,hrc⟩:=(unhide HRI).2 hrp;have cr:=hrc 0 hrp;rw[<-R0.out]at cr;have cr:wr.cell? ⟨rb,ro+0,none⟩=some (.int .i64 r):=cr;rw[Nat.add_zero]at cr;have hrbl:rb<wr.heap.size:=unhide HSr rb hrb;clear hrc HRI ON R0;have LK:=hide ((unhide KEEP).2.1.look (P:=Tryz.prog) Tryz.underlying109 Tryz.underlying3 (zero_site _) r true);cases hq:MV p r with
      | some v=>
       obtain⟨f',n',rfl⟩:=unhide E5 p r v hq;have FE:=hide (unhide F2 (by rw[hq];exact fun h=>by cases h));rw[hq]at LK;have lk:(Instr.lookup 109 (.map (some (w.heap.size+1))) (.int .i64 r) true).run Tryz.prog (wr.alloc (.cells #[.int .i64 36,.int .i64 line,.int .i64 op,.int .i64 num,.float .f64 flt,.string str,.slice (some ⟨rb,ro,none⟩) refs.length rc,.slice ka kids.length kc] 58))=.ok (.tuple #[.agg #[.int .i64 f',.int .i64 n'],.bool true]) (wr.alloc (.cells #[.int .i64 36,.int .i64 line,.int .i64 op,.int .i64 num,.float .f64 flt,.string str,.slice (some ⟨rb,ro,none⟩) refs.length rc,.slice ka kids.length kc] 58)):=unhide LK;clear LK F1 F2 F3 hq hM hbw hsame;go_wp2_with fail
       go_roundg (ns.length-(p+1))
       case measure=>omega
       case rel=>
        obtain⟨k1,k2,k3⟩:=unhide KEEP;refine⟨p+1,by omega,by go_num,k1.alloc (by simp;omega) _,by simp;omega,?_,k3.alloc (fun b h=>by have:=unhide HSr b h;simp;omega) _⟩;exact(k2.block (Below.heap_alloc _ _ _ k2.lt)).congr (unhide FE)
      | none=>
       have FE:=hide (unhide F3 rfl hq);have HQ:=hide hq;rw[hq]at LK;have lk:(Instr.lookup 109 (.map (some (w.heap.size+1))) (.int .i64 r) true).run Tryz.prog (wr.alloc (.cells #[.int .i64 36,.int .i64 line,.int .i64 op,.int .i64 num,.float .f64 flt,.string str,.slice (some ⟨rb,ro,none⟩) refs.length rc,.slice ka kids.length kc] 58))=.ok (.tuple #[.agg #[.int .i64 0,.int .i64 0],.bool false]) (wr.alloc (.cells #[.int .i64 36,.int .i64 line,.int .i64 op,.int .i64 num,.float .f64 flt,.string str,.slice (some ⟨rb,ro,none⟩) refs.length rc,.slice ka kids.length kc] 58)):=unhide LK;obtain⟨w1,hrun,hM1,hg1⟩:=MapI.put (P:=Tryz.prog) ((unhide KEEP).2.1.block (Below.heap_alloc (wr.alloc (.cells #[.int .i64 36,.int .i64 line,.int .i64 op,.int .i64 num,.float .f64 flt,.string str,.slice (some ⟨rb,ro,none⟩) refs.length rc,.slice ka kids.length kc] 58)) (.cells #[.int .i64 0,.int .i64 0] 118) _ (unhide KEEP).2.1.lt)) Tryz.underlying109 Tryz.underlying3 r (.agg #[.int .i64 f,.int .i64 p]) hq;have HM1:=hide hM1;have HG1:=hide hg1;clear LK F1 F2 F3 hq hM hbw hsame hM1 hg1;go_wp2_with fail
       go_roundg (ns.length-(p+1))
       case measure=>omega
       case rel=>
        obtain⟨k1,k2,k3⟩:=unhide KEEP;have g:=unhide HG1;have gs:=g.size;refine⟨p+1,by omega,by go_num,(k1.alloc (by simp;omega) _).grown g (by simp;omega) (fun j hj=>by cases hj;omega),by simp at gs;omega,(unhide HM1).congr (unhide FE),?_⟩;refine(k3.alloc (fun b h=>by have:=unhide HSr b h;simp;omega) (.cells #[.int .i64 0,.int .i64 0] 118)).trans (fun b h=>?_);refine g.block b (by have:=unhide HSr b h;simp;omega) (fun e=>?_);cases e;have:=unhide HB _ h;omega
     ·have F:=hide (unhide F1 h36);clear F1 F2 F3 ON R0 HRI hM hbw hsame;have h36':(kind != 36)=true:=by simpa using h36
      go_wp2_with fail
      go_roundg (ns.length-(p+1))
      case measure=>omega
      case rel=>
       obtain⟨k1,k2,k3⟩:=unhide KEEP;exact⟨p+1,by omega,by go_num,k1,by simp;omega,k2.congr (unhide F),k3⟩
    ·obtain rfl:p=ns.length:=by omega
     go_wp2_with fail
     go_roundg (l.length-(f+1))
     case measure=>omega
     case rel=>exact⟨f+1,by omega,by go_num,hbw,hsz,hM.congr (unhide E4)⟩
  ·obtain rfl:f=l.length:=by omega
   go_wp2_with fail
   go_ret;exact⟨_,rfl,hM,by omega,hbw⟩
theorem checkMade_any (a:Option Addr)(l:List FnD)(c:Nat)(S:Nat->Prop)(w:World)(hs:FnsAt w S a l)(hB:∀ b,S b->b<w.heap.size)(hl1:1<=l.length)(hl2:l.length<=1048576)
  (hone:∀ f p,f<l.length->p<(fnD l f).nodes.length->(nd (fnD l f).nodes p).kind=36->0<(nd (fnD l f).nodes p).refs.length) :
  Calls Tryz.prog 52 #[.agg #[.slice a l.length c]] w fun e w'=>∃ x f n:Int,e=.returned (.agg #[.int .i64 x,.int .i64 f,.int .i64 n]) /\
   ((x=9/\n=0/\∃ F:Nat,f=F/\1<=F/\F<l.length/\madeUpto l l.length F=false/\∀ g,1<=g->g<F->madeUpto l l.length g=true)\/(x=0/\f=0/\n=0/\∀ g,1<=g->g<l.length->madeUpto l l.length g=true))/\Below w.heap.size w w':=by
 have X0:Hid (Box2 w a l.length c (box2 w a l.length c)):=Box2.start w a l.length c;have MK:Hid (Calls Tryz.prog 70 #[.agg #[.slice a l.length c]] (box2 w a l.length c) fun e w'=>∃ b,e=.returned (.map (some b))/\MapI w' b (mkV l)/\(box2 w a l.length c).heap.size<=b/\Below (box2 w a l.length c).heap.size (box2 w a l.length c) w'):=
  makers_any a l c S _ (hs.keep (box2_below w a l.length c) hB) (fun b h=>Nat.lt_of_lt_of_le (hB b h) (box2_below w a l.length c).size) hone
 have MS:Hid (∀ k:Nat,(mkV l k).isSome=madeUpto l l.length k):=fun k=>by
  rw[<-mkUpto_made];unfold mkV mkAll;cases mkUpto l l.length k<;>rfl
 have MV:Hid (∀(k:Int) v,mkV l k=some v->∃ f' n':Nat,v=.agg #[.int .i64 f',.int .i64 n']):=fun k v h=>by
  unfold mkV at h;cases e:mkAll l k with
  | none=>rw[e]at h;cases h
  | some s=>rw[e]at h;cases h;exact⟨s.1,s.2,rfl⟩
 clear hs hB hone;go_enter Tryz.func52,Tryz.ntmps52;go_wp2_with fail
 refine(unhide MK).mono ?_;rintro e w1 ⟨bm,rfl,hM1,hbm,hb1⟩;have W0:Hid (Box2 w a l.length c w1):=(unhide X0).below' hb1;have HM1:=hide hM1;clear hM1 hbm hb1 MK X0;go_wp2_with fail
 go_loopg [4] l.length (fun g i wr=>∃(k:Nat),1<=k/\k+g=l.length+1/\i=.int .i64 k/\Box2 w a l.length c wr/\MapI wr bm (mkV l)/\Hid (∀ q,1<=q->q<k->madeUpto l l.length q=true))
 case atStart=>exact⟨1,by omega,by omega,rfl,unhide W0,unhide HM1,fun q h1 h2=>by omega⟩
 case round=>
  clear W0 HM1;obtain⟨k,hk1,hkg,rfl,hx,hM,hok⟩:=hrel;have u0:=hx.unit;by_cases hkl:k<l.length
  ·have LK:=hide (hM.look (P:=Tryz.prog) Tryz.underlying109 Tryz.underlying3 (zero_site _) (k:Int) true);have HM:=hide hM;clear hM;cases hq:mkV l (k:Int)with
   | none=>
    have HK:Hid (madeUpto l l.length k=false):=by show _=_;rw[<-unhide MS k,hq];rfl
    rw[hq]at LK;have lk:(Instr.lookup 109 (.map (some bm)) (.int .i64 k) true).run Tryz.prog wr=.ok (.tuple #[.agg #[.int .i64 0,.int .i64 0],.bool false]) wr:=unhide LK;have r0:=hx.res 0 (by omega);have r1:=hx.res 1 (by omega);have r2:=hx.res 2 (by omega);have z0:=hx.frozen 0;have z1:=hx.frozen 1;have z2:=hx.frozen 2;have hsz:=hx.size;have hw1:w.heap.size+1<wr.heap.size:=by omega
    have hw2:w.heap.size+1<wr.heap.size+1:=by omega
    have BB:Hid (∀ o v0 v1 v2,Below w.heap.size w ((((wr.alloc o).setCell ⟨w.heap.size+1,0,none⟩ v0).setCell ⟨w.heap.size+1,1,none⟩ v1).setCell ⟨w.heap.size+1,2,none⟩ v2)):=fun o v0 v1 v2=>box2_set3 (hx.alloc o) v0 v1 v2;have BB2:Hid (∀ o v0 v1 v2,Below w.heap.size w ((((wr.setCell ⟨w.heap.size+1,0,none⟩ v0).setCell ⟨w.heap.size+1,1,none⟩ v1).setCell ⟨w.heap.size+1,2,none⟩ v2).alloc o)):=fun o v0 v1 v2=>(box2_set3 hx v0 v1 v2).alloc (by simp;omega) o;clear LK hq;go_wp2_with fail
    refine bodyPost_ret (v:=.agg #[.int .i64 9,.int .i64 k,.int .i64 0]) (by simp[results,Tryz.results52,go_sem,r0,r1,r2,hw1]) rfl ⟨9,k,0,rfl,.inl ⟨rfl,rfl,k,rfl,hk1,hkl,unhide HK,hok.out⟩,?_⟩
    first | exact BB.out _ _ _ _ | exact BB2.out _ _ _ _
   | some v=>
    have HK:Hid (madeUpto l l.length k=true):=by show _=_;rw[<-unhide MS k,hq];rfl
    obtain⟨f',n',rfl⟩:=unhide MV k v hq;rw[hq]at LK;have lk:(Instr.lookup 109 (.map (some bm)) (.int .i64 k) true).run Tryz.prog wr=.ok (.tuple #[.agg #[.int .i64 f',.int .i64 n'],.bool true]) wr:=unhide LK;clear LK hq;go_wp2_with fail
    go_roundg (l.length-k)
    case measure=>omega
    case rel=>
     refine⟨k+1,by omega,by omega,by go_num,hx.alloc _,(unhide HM).block (Below.heap_alloc wr _ _ (unhide HM).lt),fun q h1 h2=>?_⟩;by_cases e:q=k
     ·subst e;exact unhide HK
     ·exact hok.out q h1 (by omega)
  ·have HALL:Hid (∀ g,1<=g->g<l.length->madeUpto l l.length g=true):=fun g h1 h2=>hok.out g h1 (by omega);have r0:=hx.res 0 (by omega);have r1:=hx.res 1 (by omega);have r2:=hx.res 2 (by omega);have z0:=hx.frozen 0;have z1:=hx.frozen 1;have z2:=hx.frozen 2;have BB:Hid (∀ v0 v1 v2,Below w.heap.size w (((wr.setCell ⟨w.heap.size+1,0,none⟩ v0).setCell ⟨w.heap.size+1,1,none⟩ v1).setCell ⟨w.heap.size+1,2,none⟩ v2)):=fun v0 v1 v2=>box2_set3 hx v0 v1 v2;clear hM;go_wp2_with fail
   refine bodyPost_ret (v:=.agg #[.int .i64 0,.int .i64 0,.int .i64 0]) (by simp[results,Tryz.results52,go_sem,r0,r1,r2]) rfl ⟨0,0,0,rfl,.inr ⟨rfl,rfl,rfl,unhide HALL⟩,BB.out _ _ _⟩
attribute [local go_sem] run_store_float
structure Away (C:VC)(D:Nat):Prop where
 v:D≠C.vb
 s:D≠C.sb
 k:D≠C.kb
 m:D≠C.mb
 S:¬C.S D
section
variable {C:VC} {s s':VS} {w wr:World} {D:Nat}
theorem Vis.away (h:Vis C s w):Away C w.heap.size where
 v:=by have:=h.v.lt;omega
 s:=by have:=h.sc.lt;omega
 k:=by have:=h.k.lt;omega
 m:=by have:=h.m.lt;omega
 S:=fun q=>by have:=(h.sS _ q).1;omega
theorem Vis.other (h:Vis C s w)(hD:Away C D)(j:Nat)(x:Value):Vis C s (w.setCell ⟨D,j,none⟩ x) where
 v:=h.v.setOther hD.v.symm _
 sc:=h.sc.setOther hD.s.symm _
 k:=h.k.block (Below.heap_setCell w ⟨D,j,none⟩ x _ (fun e=>hD.k e.symm))
 m:=h.m.block (Below.heap_setCell w ⟨D,j,none⟩ x _ (fun e=>hD.m e.symm))
 u:=h.u.same ((Same.refl).setCell hD.S x)
 vars:=h.vars.same ((Same.refl).setCell hD.S x)
 ups:=h.ups.same ((Same.refl).setCell hD.S x)
 nodes:=h.nodes.same ((Same.refl).setCell hD.S x)
 sS:=fun b hs=>⟨by simpa using(h.sS b hs).1,(h.sS b hs).2⟩
 n1:=h.n1
 n2:=h.n2
 n3:=h.n3
 hf:=h.hf
 nv:=h.nv
theorem Vis.c4 (h:Vis C s w):w.cell? ⟨C.vb,4,none⟩=some (.int .i64 C.x.params):=h.v.cell (i:=4) (by omega)
structure DeW (C:VC)(s:VS)(w:World)(dec:Nat->Int)(s':VS)(wr:World):Prop where
 vis:Vis C s' wr
 row:wr.rowIs w.heap.size 3 C.x.vars.length (fun j=>.int .i64 (dec j))
 away:Away C w.heap.size
 but:ButS C.T w.heap.size w wr
 keep:s'.sc=s.sc/\s'.lo=s.lo/\s'.dp=s.dp
variable {dec dec':Nat->Int}
theorem DeW.alloc (h:DeW C s w dec s' wr)(o:Obj):DeW C s w dec s' (wr.alloc o):=
 {h with vis:=h.vis.alloc o,row:=h.row.alloc _,but:=h.but.alloc h.but.size o }
theorem DeW.set (h:DeW C s w dec s' wr)(j:Nat)(x:Int)(hd:∀ i,i<C.x.vars.length->dec' i=if i=j then x else dec i):DeW C s w dec' s' (wr.setCell ⟨w.heap.size,j,none⟩ (.int .i64 x)) where
 vis:=h.vis.other h.away j _
 row:=(h.row.set j _).congr fun i hi=>by
  rw[hd i hi];split<;>rfl
 away:=h.away
 but:=⟨h.but.os,h.but.tape,h.but.output,by simpa using h.but.size,fun k hk hn=>(Below.heap_setCell wr ⟨w.heap.size,j,none⟩ _ k (fun e=>by have:k=w.heap.size:=e;omega)).trans (h.but.block k hk hn)⟩
 keep:=h.keep
theorem DeW.tell (h:DeW C s w dec s' wr){w2:World}(c n:Int)(hV:Vis C (tellS C s' c n) w2)(hb:ButS C.T wr.heap.size wr w2):DeW C s w dec (tellS C s' c n) w2 where
 vis:=hV
 row:=h.row.of_block (hb.block _ h.row.lt (fun t=>t.elim h.away.v h.away.s))
 away:=h.away
 but:=h.but.next hb
 keep:=by
  obtain⟨a,b,c⟩:=tellS_keep C s' c n;exact⟨a.trans h.keep.1,b.trans h.keep.2.1,c.trans h.keep.2.2⟩
theorem DeW.sSet (h:DeW C s w dec s' wr){wo:World}(hs:Same C.S wo wr)(j:Nat)(x:Value):Same C.S wo (wr.setCell ⟨w.heap.size,j,none⟩ x):=hs.setCell h.away.S x
theorem DeW.begin (h:Vis C s w):DeW C s w (fun j=>if j<0 then 1 else 0) s (w.alloc (.cells (madeCells #[.int .i64 0] C.x.vars.length) 3)) where
 vis:=h.alloc _
 row:=rowIs_made' rfl fun i _=>by simp
 away:=h.away
 but:=(ButS.refl _ _ _).alloc (Nat.le_refl _) _
 keep:=⟨rfl,rfl,rfl⟩
end
theorem declarations_any (C:VC)(s:VS)(w:World)(F:Int->Int->Int->Prop)(hV:Vis C s w)(hF:FnOk C)(hL:Least F s)(hp0:0<=C.x.params)(hp1:C.x.params<=C.x.vars.length) :
  Calls Tryz.prog 72 #[.pointer (some ⟨C.vb,0,none⟩)] w fun e w'=>e=.returned (.tuple #[])/\∃ s',Vis C s' w'/\(s'.sc=s.sc/\s'.lo=s.lo/\s'.dp=s.dp) /\
   Least (fun c f n=>F c f n\/(c=6/\f=C.f/\∃ p:Nat,n=p/\DeclFirst C.x p)) s'/\ButS C.T w.heap.size w w':=by
 have c6:=hV.c6;have c4:=hV.c4;have hnv:=hV.nv;have W0:=hide (DeW.begin hV);have HF:=hide hF;have HL:=hide hL;obtain⟨np,hnp⟩:=Int.eq_ofNat_of_zero_le hp0;have HNP:=hide hnp;rw[hnp]at c4;have hnpv:np<=C.x.vars.length:=by omega
 obtain⟨nv,hnve⟩:∃ nv,nv=C.x.vars.length:=⟨_,rfl⟩;have HNV:=hide hnve;rw[<-hnve]at c6 hnv hnpv W0;have c4a:(w.alloc (.cells (madeCells #[.int .i64 0] nv) 3)).cell? ⟨C.vb,4,none⟩=some (.int .i64 np):=by
  have:=(hV.alloc (.cells (madeCells #[.int .i64 0] nv) 3)).c4;rw[hnp]at this;exact this
 have hmk:=run_make_row' (P:=Tryz.prog) 56 3 (.int .i64 0) 8 Tryz.underlying56 info_int rfl .i64 .i64 nv (by omega) (by omega);clear hV hF hL hp0 hp1 hnp hnve;go_enter Tryz.func72,Tryz.ntmps72;go_wp2_with fail
 clear c6 c4 c4a hmk;go_loopg [20] np (fun g i wr=>∃(k:Nat),k+g=np/\i=.int .i64 k/\DeW C s w (fun j=>if j<k then 1 else 0) s wr)
 case atStart=>exact⟨0,by omega,rfl,unhide W0⟩
 case round=>
  obtain⟨k,hk,rfl,hW⟩:=hrel;by_cases hlt:k<np
  ·have ck:=hW.row.cell (i:=k) (by rw[<-HNV.out];omega);have zk:=hW.row.frozen k;have HW:=hide hW;clear hW;go_wp2_with fail
   go_roundg (np-(k+1))
   case measure=>omega
   case rel=>
    refine⟨k+1,by omega,by go_num,(unhide HW).set k 1 fun i _=>?_⟩;by_cases e:i=k
    ·subst e;simp
    ·rw[if_neg e];by_cases e2:i<k
     ·rw[if_pos e2,if_pos (by omega)]
     ·rw[if_neg e2,if_neg (by omega)]
  ·obtain rfl:k=np:=by omega
   have c8:=hW.vis.c8;have S0:Hid (St2 C F 0 (fun j=>if j<k then 1 else 0) s):=St2.begin (unhide HL) fun j _=>by
    rw[HNP.out];by_cases e:j<k
    ·rw[if_pos e,if_pos (by omega)]
    ·rw[if_neg e,if_neg (by omega)]
   have hnl:=hW.vis.nodes.1;obtain⟨na,hna⟩:∃ na,na=C.R.na:=⟨_,rfl⟩;have HNA:=hide hna;obtain⟨N,hN⟩:∃ N,N=C.x.nodes.length:=⟨_,rfl⟩;have HN:=hide hN;rw[<-hna,<-hN]at c8;rw[<-hN]at hnl;have HW:=hide hW;clear hW hna hN W0 hlt hk;go_wp2_with fail
   clear c8;go_loopg [33] N (fun g i wr=>∃(k:Nat),k+g=N/\i=.int .i64 k/\∃ dec s',DeW C s w dec s' wr/\Hid (St2 C F k dec s'))
   case atStart=>exact⟨0,by omega,rfl,_,_,unhide HW,S0⟩
   case round=>
    clear HW S0;obtain⟨p,hp,rfl,dec,s',hW,hS⟩:=hrel;by_cases hpl:p<N
    ·have hpn:Hid (p<C.x.nodes.length):=by show _<_;rw[<-HN.out];exact hpl
     have hno:NodesAt wr C.S na C.x.nodes:=by rw[HNA.out];exact hW.vis.nodes
     obtain⟨bn,offn,rfl,hbn,hcn⟩:=hno.2 (by have:=hpn.out;omega);have M:NodeCells wr C.S bn (offn+p * 8) (nd C.x.nodes p):=hcn p hpn.out;clear hcn hno;obtain⟨ra,rc,hr,hrI⟩:=M.refs;obtain⟨ka,kc,hkk,hkI⟩:=M.kids;have c0:=M.kind;have c1:=M.line;have c2:=M.op;have c3:=M.num;have c4:=M.flt;have c5:=M.str;have hsl:=M.strs;have hrl:=hrI.1;have hkl:=hkI.1;have HRI:=hide hrI;obtain⟨y,hy⟩:∃ y,y=nd C.x.nodes p:=⟨_,rfl⟩;have HKD:Hid (kindN C p=y.kind):=by show _=_;rw[hy];rfl
     have HRD:Hid (refsN C p=y.refs):=by show _=_;rw[hy];rfl
     rw[<-hy]at hr hkk c0 c1 c2 c3 c4 c5 hsl hrl hkl HRI;clear hy M hrI hkI;obtain⟨kind,line,op,num,flt,str,refs,kids⟩:=y;simp only at *;obtain⟨wo,rfl⟩:∃ wo,wo=wr:=⟨wr,rfl⟩;have HW1:=hide (hW.alloc (.cells #[.int .i64 kind,.int .i64 line,.int .i64 op,.int .i64 num,.float .f64 flt,.string str,.slice ra refs.length rc,.slice ka kids.length kc] 58));have HSM:Hid (Same C.S wo (wo.alloc (.cells #[.int .i64 kind,.int .i64 line,.int .i64 op,.int .i64 num,.float .f64 flt,.string str,.slice ra refs.length rc,.slice ka kids.length kc] 58))):=(Same.refl).alloc (fun b h=>(hW.vis.sS b h).1) _;clear hW;cases hd:declKind kind
     ·have n1:(kind != 2)=true:=by simp[declKind]at hd;simp;omega
      have n2:(kind != 7)=true:=by simp[declKind]at hd;simp;omega
      have n3:(kind != 8)=true:=by simp[declKind]at hd;simp;omega
      have n4:(kind != 12)=true:=by simp[declKind]at hd;simp;omega
      have HD:=hide hd;clear hd HRI;go_wp2_with fail
      go_roundg (N-(p+1))
      case measure=>omega
      case rel=>exact⟨p+1,by omega,by go_num,dec,s',unhide HW1,St2.skip (unhide HF) hpn.out (by rw[HKD.out];exact HD.out) hS.out⟩
     ·have HD:Hid (declKind (kindN C p)=true):=by show _=_;rw[HKD.out];exact hd
      have S3:Hid (St3 C F p 0 dec s'):=hS.out.into;have hk:=declKind_cases hd;clear hd hS;rcases hk with rfl | rfl | rfl | rfl
      all_goals (
       go_wp2_with fail
       clear c0 c1 c2 c3 c4 c5 hr hkk;go_loopg [59] refs.length (fun g i wr=>∃(q:Nat),q+g=refs.length/\i=.int .i64 q/\∃ dec s',DeW C s w dec s' wr/\Same C.S wo wr/\Hid (St3 C F p q dec s'))
       case atStart=>exact⟨0,by omega,rfl,dec,s',unhide HW1,unhide HSM,S3⟩
       case round=>
        clear S3 HW1 HSM;obtain⟨q,hq,rfl,dec,s',hW,hsm,hS⟩:=hrel;by_cases hql:q<refs.length
        ·obtain⟨rb,ro,rfl,hrb,hrc⟩:=((unhide HRI).same hsm).2 (by omega);have cr:=hrc q hql;have HRQ:Hid ((refsN C p)[q]?.getD 0=refs[q]?.getD 0):=by show _=_;rw[HRD.out]
         have HQL:Hid (q<(refsN C p).length):=by show _<_;rw[HRD.out];exact hql
         have hVr:=hide hW.vis;clear hrc;generalize refs[q]?.getD 0=r at *;cases hv:isVar C r
         ·have S2:Hid (St2 C F (p+1) dec (tellS C s' 6 p)):=hS.out.bad hpn.out HD.out HQL.out (.inl (by rw[HRQ.out];exact hv)) dec;have HVV:=hide hv;have HW:=hide hW;clear hv hW hS;go_wp2_with fail
          refine(isVariable_any C s' r _ (unhide hVr)).mono ?_;rintro e w' ⟨rfl,rfl⟩;rw[unhide HVV];go_wp2_with fail
          refine(tell_any C s' 6 p _ (unhide hVr)).mono ?_;rintro e w2 ⟨rfl,hV2,hB2⟩;have HW2:=hide ((unhide HW).tell 6 p hV2 hB2);clear hV2 hB2;go_wp2_with fail
          go_roundg (N-(p+1))
          case measure=>omega
          case rel=>exact⟨p+1,by omega,by go_num,_,_,unhide HW2,S2⟩
         ·have hr2:0<=r/\r<=(C.x.vars.length:Int)-1:=by
           unfold isVar inR at hv;rw[Bool.and_eq_true]at hv;exact⟨of_decide_eq_true hv.1,of_decide_eq_true hv.2⟩
          rw[<-HNV.out]at hr2;obtain⟨v,rfl⟩:=Int.eq_ofNat_of_zero_le hr2.1;have hvn:v<nv:=by omega
          have hvC:Hid (v<C.x.vars.length):=by show _<_;rw[<-HNV.out];exact hvn
          have ck:=hW.row.cell (i:=v) hvC.out;have zk:=hW.row.frozen v;have HVV:=hide hv;have HW:=hide hW;have ST:=hide hS.out;clear hv hW hS hr2;by_cases h0:0<dec v
          ·have S2:Hid (St2 C F (p+1) dec (tellS C s' 6 p)):=(unhide ST).bad hpn.out HD.out HQL.out (.inr (by rw[HRQ.out];exact⟨unhide HVV,h0⟩)) dec;have h0':decide (0<dec v)=true:=decide_eq_true h0;clear h0;generalize dec v=dv at *;go_wp2_with fail
           refine(isVariable_any C s' (v:Int) _ (unhide hVr)).mono ?_;rintro e w' ⟨rfl,rfl⟩;rw[unhide HVV];go_wp2_with fail
           refine(tell_any C s' 6 p _ (unhide hVr)).mono ?_;rintro e w2 ⟨rfl,hV2,hB2⟩;have HW2:=hide ((unhide HW).tell 6 p hV2 hB2);clear hV2 hB2;go_wp2_with fail
           go_roundg (N-(p+1))
           case measure=>omega
           case rel=>exact⟨p+1,by omega,by go_num,_,_,unhide HW2,S2⟩
          ·have S4:Hid (St3 C F p (q+1) (fun i=>if i=v then 1 else dec i) s'):=(unhide ST).good HRQ.out hvC.out h0 (fun _ _=>rfl);have h0':decide (0<dec v)=false:=decide_eq_false h0;have HW2:=hide ((unhide HW).set (dec':=fun i=>if i=v then 1 else dec i) v 1 (fun _ _=>rfl));have HSM2:=hide ((unhide HW).sSet hsm v (.int .i64 1));clear h0;generalize dec v=dv at ck h0';go_wp2_with fail
           refine(isVariable_any C s' (v:Int) _ (unhide hVr)).mono ?_;rintro e w' ⟨rfl,rfl⟩;rw[unhide HVV];go_wp2_with fail
           go_roundg (refs.length-(q+1))
           case measure=>omega
           case rel=>exact⟨q+1,by omega,by go_num,_,_,unhide HW2,unhide HSM2,S4⟩
        ·have S2:Hid (St2 C F (p+1) dec s'):=by
          have e:q=(refsN C p).length:=by rw[HRD.out];omega
          have h:=hS.out;rw[e]at h;exact h.out HD.out
         have HW:=hide hW;clear hW hS;go_wp2_with fail
         go_roundg (N-(p+1))
         case measure=>omega
         case rel=>exact⟨p+1,by omega,by go_num,dec,s',unhide HW,S2⟩)
    ·have FIN:Hid (Least (fun c f n=>F c f n\/(c=6/\f=C.f/\∃ p:Nat,n=p/\DeclFirst C.x p)) s'):=by
      have e:p=C.x.nodes.length:=by rw[<-HN.out];omega
      have h:=hS.out;rw[e]at h;exact h.finish
     have HW:=hide hW;clear hW hS;go_wp2_with fail
     go_end0
     exact⟨rfl,s',(unhide HW).vis,(unhide HW).keep,unhide FIN,(unhide HW).but⟩
end Go.Proofs.YtofcbekoaghikaaGreatDoor
