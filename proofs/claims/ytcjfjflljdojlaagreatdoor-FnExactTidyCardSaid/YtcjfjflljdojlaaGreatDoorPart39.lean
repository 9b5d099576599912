import Derived.Test.YtcjfjflljdojlaaGreatDoorPart38
import Derived.Test.YtcjfjflljdojlaaGreatDoorPart17
import Derived.BigRegion
set_option linter.unusedSimpArgs false
set_option linter.unusedVariables false
set_option maxHeartbeats 8000000
set_option maxRecDepth 100000
namespace Go.Proofs.YtcjfjflljdojlaaGreatDoor
open Go.RowKit
theorem Gw (x k:Int)(t:TD):(gL x k t).types.length=t.types.length/\(gL x k t).seen.length<=t.seen.length+3/\(gL x k t).taken.length<=t.taken.length+1/\(gL x k t).puts.length<=t.puts.length+1:=by
 unfold gL;split
 ·exact⟨rfl,by simp,by simp,by simp⟩
 ·exact⟨by simp,by simp,by simp,by simp⟩
theorem CZ {r:Nat}(hr:r<=23)(x:Int)(t:TD):(du r x t).types.length=t.types.length/\(du r x t).seen.length<=t.seen.length+3/\(du r x t).taken.length<=t.taken.length+1/\(du r x t).puts.length<=t.puts.length+1:=by
 have hc:r=0\/r=1\/r=2\/r=3\/r=4\/r=5\/r=6\/r=7\/r=8\/r=9\/r=10\/r=11\/r=12\/r=13\/r=14\/r=15\/r=16\/r=17\/r=18\/r=19\/r=20\/r=21\/r=22\/r=23:=by omega
 rcases hc with rfl | rfl | rfl | rfl | rfl | rfl | rfl | rfl | rfl | rfl | rfl | rfl | rfl | rfl | rfl | rfl | rfl | rfl | rfl | rfl | rfl | rfl | rfl | rfl
 all_goals first | exact Gw _ _ _ | (simp[du,dL,pU,pP])
theorem nw {n:aA}{op:Nat}(ho:n.op=(op:Int))(mj:op<43)(ty:List Int):∀ k,k<=4->(dg n (start ty) k).types.length=ty.length/\(dg n (start ty) k).seen.length<=3 * k/\(dg n (start ty) k).taken.length<=k/\(dg n (start ty) k).puts.length<=k
 | 0,_=>⟨rfl,by simp[dg,start],by simp[dg,start],by simp[dg,start]⟩
 | k+1,hk=>by
  obtain⟨h1,h2,h3,h4⟩:=nw ho mj ty k (by omega);have e:n.op.toNat=op:=by rw[ho];rfl
  obtain⟨g1,g2,g3,g4⟩:=CZ (r:=aC n.op.toNat k) (by rw[e];exact fE op mj k (by omega)) (dm n k) (dg n (start ty) k);show(du _ _ _).types.length=_/\(du _ _ _).seen.length<=_/\(du _ _ _).taken.length<=_/\(du _ _ _).puts.length<=_;refine⟨g1.trans h1,?_,?_,?_⟩<;>omega
theorem At (us:List (Bool×Int))(t:TD):∀ k,(jr us t k).seen.length<=t.seen.length+k
 | 0=>n_
 | k+1=>by
  have:=At us t k;show(if _ then _ else _:TD).seen.length<=_;split
  ·simp[dL];omega
  ·omega
theorem kS (ps:List (Nat×Int))(ty:List Int):∀ k,(fV ps ty k).length=ty.length
 | 0=>rfl
 | k+1=>by rw[fV,List.length_set,kS ps ty k]
theorem J2 {w1:World}{B:Nat}{va:o_}{n vc:Nat}{ty:List Int}(ho:ar w1 B (.slice va n vc) ty)(hB:B<=w1.heap.size) :
  iy w1.heap.size B (start ty) (.slice va n vc) (.slice none 0 0) (.slice none 0 0) (.slice none 0 0) (w1.alloc (.cells #[.slice va n vc,.slice none 0 0,.slice none 0 0,.slice none 0 0,.bool false] 174)) where
 ge:=hB
 row:=World.rowIs_alloc w1 #[.slice va n vc,.slice none 0 0,.slice none 0 0,.slice none 0 0,.bool false] 174 _ (fun i hi=>by
  match i,hi with
  | 0,_=>rfl
  | 1,_=>rfl
  | 2,_=>rfl
  | 3,_=>rfl
  | 4,_=>rfl)
 ty:=ho.alloc _
 se:=World.ownsRow_nil _ _ _ _
 ta:=World.ownsRow_nil _ _ _ _
 pu:=World.ownsRow_nil _ _ _ _
 bt0:=fun e=>by have:=(ho.lt' _ e).2;omega
 bs:=fun e=>by cases e
 bk:=fun e=>by cases e
 bp:=fun e=>by cases e
 dts:=fun k _ h=>by cases h
 dtk:=fun k _ h=>by cases h
 dtp:=fun k _ h=>by cases h
 dsk:=fun k h _=>by cases h
 dsp:=fun k h _=>by cases h
 dkp:=fun k h _=>by cases h
def EY (l:List ak)(n:aA)(ty:List Int)(w:World)(e:Ending)(w':World):Prop:=∃ bt tv sv kv pv,e=.returned (.pointer (some (a_ bt 0)))/\iy bt (w.heap.size+1) (fP l n ty) tv sv kv pv w'/\b_ w w'
theorem zE (l:List ak)(op:Nat)(fa fb fc fd:Int)(ty:List Int)(a ca:o_)(c cc bv:Nat)(S:Nat->Prop)(w:World)(hG:gh w)(h1:1<=op)(mj:op<43)(hv:w.cell? (a_ bv 0)=some (.slice ca l.length cc))(hs:ao w S ca l)(hB:∀ b,S b->b<w.heap.size)(eA:aR w S a ty)(aP:ty.length<=250)
  (jh:∀ k,k<4->gI (aC op k) (dm ⟨op,fa,fb,fc,fd⟩ k) ty.length)(hu:un l ⟨op,fa,fb,fc,fd⟩ ty.length)(sT:∀ x,x∈l->x.ups.length<=250)(py:l.length<=1000000)(hput:∀ q,q∈(eL l ⟨op,fa,fb,fc,fd⟩ ty).puts->q.1<ty.length) :
  c_ 121 #[.pointer (some (a_ bv 0)),.agg #[i_ (op:Int),i_ fa,i_ fb,i_ fc,i_ fd],.slice a ty.length c] w (EY l ⟨op,fa,fb,fc,fd⟩ ty w):=by
 have hA:b_ w (w.alloc (.cells #[i_ (op:Int),i_ fa,i_ fb,i_ fc,i_ fd] 51)):=r_.alloc n_ _;have Hn:bv<w.heap.size:=World.block_lt_of_cell? _ _ hv;have qH:=af hs;have gW:=af hB;have HV:=af hv;have mH:=af jh;have Pw:=af hu;have Li:=af sT;have Of:=af hput;have CLN:Hid (c_ 144 #[.slice a ty.length c] (w.alloc (.cells #[i_ (op:Int),i_ fa,i_ fb,i_ fc,i_ fd] 51)) (kf ty (w.alloc (.cells #[i_ (op:Int),i_ fa,i_ fb,i_ fc,i_ fd] 51)))):=
  G1 a ty c S _ (eA.keep hA hB) (fun b h=>l_ (hB b h) hA.size) (by omega)
 have HGW:=af hG;have hz:(w.alloc (.cells #[i_ (op:Int),i_ fa,i_ fb,i_ fc,i_ fd] 51)).heap.size=w.heap.size+1:=by simp
 have HZ:=af hz;have HA:=af hA;have I0:Hid (aL (w.alloc (.cells #[i_ (op:Int),i_ fa,i_ fb,i_ fc,i_ fd] 51)) w.heap.size 0 ⟨op,fa,fb,fc,fd⟩):=⟨by simp[go_sem],by simp[go_sem],by simp[go_sem],by simp[go_sem],by simp[go_sem]⟩;clear hs hB jh hu sT hput hG hA hz hv eA;go_enter Tryz.func121,Tryz.ntmps121;go_wp2_with fail
 refine(aa CLN).mono ?_;rintro e w1 ⟨v0,rfl,hO,au⟩;obtain⟨va,vc,rfl⟩:=hO.lenV;rw[HZ.out]at hO au;have yU:b_ w w1:=HA.out.trans (au.mono (by omega));have jf:w.heap.size+1<=w1.heap.size:=by have:=au.size;rw[HZ.out]at this;exact this
 have T0:=af (J2 hO jf);have jN:Below (w.heap.size+1) (w.alloc (.cells #[i_ (op:Int),i_ fa,i_ fb,i_ fc,i_ fd] 51)) (w1.alloc (.cells #[.slice va ty.length vc,.slice none 0 0,.slice none 0 0,.slice none 0 0,.bool false] 174)):=au.alloc jf _;have fN:Hid (b_ w (w1.alloc (.cells #[.slice va ty.length vc,.slice none 0 0,.slice none 0 0,.slice none 0 0,.bool false] 174))):=HA.out.trans (jN.mono (by omega));have I2:Hid (aL (w1.alloc (.cells #[.slice va ty.length vc,.slice none 0 0,.slice none 0 0,.slice none 0 0,.bool false] 174)) w.heap.size 0 ⟨op,fa,fb,fc,fd⟩):=by
  have e:∀ o,(w1.alloc (.cells #[.slice va ty.length vc,.slice none 0 0,.slice none 0 0,.slice none 0 0,.bool false] 174)).cell? (a_ w.heap.size o)=(w.alloc (.cells #[i_ (op:Int),i_ fa,i_ fb,i_ fc,i_ fd] 51)).cell? (a_ w.heap.size o):=fun o=>jN.cell (p:=(a_ w.heap.size o)) (by show w.heap.size<w.heap.size+1;omega);have h:=aa I0;exact⟨(e _).trans h.op,(e _).trans h.fa,(e _).trans h.fb,(e _).trans h.fc,(e _).trans h.fd⟩
 obtain⟨j0,j1,j2,j3,j4⟩:=aa I0;rw[Nat.zero_add]at j1 j2 j3 j4;have jj0:=(au.cell (p:=(a_ w.heap.size 0)) (by show w.heap.size<w.heap.size+1;omega)).trans j0;have jj1:=(au.cell (p:=(a_ w.heap.size 1)) (by show w.heap.size<w.heap.size+1;omega)).trans j1;have jj2:=(au.cell (p:=(a_ w.heap.size 2)) (by show w.heap.size<w.heap.size+1;omega)).trans j2;have jj3:=(au.cell (p:=(a_ w.heap.size 3)) (by show w.heap.size<w.heap.size+1;omega)).trans j3;have jj4:=(au.cell (p:=(a_ w.heap.size 4)) (by show w.heap.size<w.heap.size+1;omega)).trans j4;have XM:w.heap.size<w1.heap.size:=by omega
 have FO:Hid (c_ 128 #[.agg #[i_ (op:Int),i_ fa,i_ fb,i_ fc,i_ fd]] (w1.alloc (.cells #[.slice va ty.length vc,.slice none 0 0,.slice none 0 0,.slice none 0 0,.bool false] 174)) fun e w'=>e=.returned (.agg #[i_ (aC op 0:Nat),i_ fa,i_ (aC op 1:Nat),i_ fb,i_ (aC op 2:Nat),i_ fc,i_ (aC op 3:Nat),i_ fd])/\Below (w1.alloc (.cells #[.slice va ty.length vc,.slice none 0 0,.slice none 0 0,.slice none 0 0,.bool false] 174)).heap.size (w1.alloc (.cells #[.slice va ty.length vc,.slice none 0 0,.slice none 0 0,.slice none 0 0,.bool false] 174)) w'):=
  lE op fa fb fc fd _ (HGW.out.keep fN.out HGW.out.pos) mj
 clear hO au yU jN j0 j1 j2 j3 j4 CLN;go_wp2_with fail
 refine(aa FO).mono ?_;rintro e w3 ⟨rfl,bY⟩;have T3:=af ((aa T0).below bY);have jg:Hid (b_ w w3):=fN.out.trans (bY.mono fN.out.size);have Wy:=(aa T0).row.lt;have I3:Hid (aL w3 w.heap.size 0 ⟨op,fa,fb,fc,fd⟩):=by
  have e:∀ o,w3.cell? (a_ w.heap.size o)=_:=fun o=>bY.cell (p:=(a_ w.heap.size o)) (by show w.heap.size<_;omega);have h:=aa I2;exact⟨(e _).trans h.op,(e _).trans h.fa,(e _).trans h.fb,(e _).trans h.fc,(e _).trans h.fd⟩
 obtain⟨bt,yM⟩:∃ bt,w1.heap.size=bt:=⟨_,rfl⟩;rw[yM]at T3;rw[yM];clear bY T0 fN I2 jj0 jj1 jj2 jj3 jj4 XM FO Wy jf yM;have FX:Hid (∀ k:Nat,k<4->(∀ W,(Instr.index 185 (.agg #[i_ (aC op 0:Nat),i_ fa,i_ (aC op 1:Nat),i_ fb,i_ (aC op 2:Nat),i_ fc,i_ (aC op 3:Nat),i_ fd]) (i_ (k:Int))).run Tryz.prog W=.ok (.agg #[i_ (aC op k:Nat),i_ (dm ⟨op,fa,fb,fc,fd⟩ k)]) W)):=fun k hk=>by
  have hc:k=0\/k=1\/k=2\/k=3:=by omega
  rcases hc with rfl | rfl | rfl | rfl
  ·exact fun W=>cK 0 hk rfl W
  ·exact fun W=>cK 1 hk rfl W
  ·exact fun W=>cK 2 hk rfl W
  ·exact fun W=>cK 3 hk rfl W
 go_wp2_with fail
 go_loopg [20] 4 (fun gg i wr=>∃(k:Nat) (sv kv pv:Value),k+gg=4/\i=i_ k/\iy bt (w.heap.size+1) (dg ⟨op,fa,fb,fc,fd⟩ (start ty) k) (.slice va ty.length vc) sv kv pv wr/\Hid (b_ w wr)/\Hid (aL wr w.heap.size 0 ⟨op,fa,fb,fc,fd⟩))
 case atStart=>exact⟨0,_,_,_,by omega,rfl,aa T3,jg,I3⟩
 case round=>
  clear T3 jg I3;obtain⟨k,sv,kv,pv,hk,rfl,hT,mn,hI⟩:=hrel;by_cases gz:k<4
  ·have hx:=aa FX k gz;have hl:=nw (n:=⟨op,fa,fb,fc,fd⟩) (op:=op) rfl mj ty k (by omega);have hA:b_ wr (wr.alloc (.cells #[i_ (aC op k:Nat),i_ (dm ⟨op,fa,fb,fc,fd⟩ k)] 184)):=r_.alloc n_ _;have FA:Hid (c_ 145 #[.pointer (some (a_ bt 0)),.agg #[i_ (aC op k:Nat),i_ (dm ⟨op,fa,fb,fc,fd⟩ k)]] (wr.alloc (.cells #[i_ (aC op k:Nat),i_ (dm ⟨op,fa,fb,fc,fd⟩ k)] 184)) (ji bt (w.heap.size+1) (du (aC op k) (dm ⟨op,fa,fb,fc,fd⟩ k) (dg ⟨op,fa,fb,fc,fd⟩ (start ty) k)) (.slice va ty.length vc) sv kv pv (wr.alloc (.cells #[i_ (aC op k:Nat),i_ (dm ⟨op,fa,fb,fc,fd⟩ k)] 184)))):=
    Gl (aC op k) (fE op mj k gz) bt (w.heap.size+1) _ _ _ _ _ _ _ (hT.below hA) ⟨by rw[hl.1];exact aP,by omega,by omega,by omega⟩ (by rw[hl.1];exact aa mH k gz)
   have HAA:=af hA;have yM:=hT.row.lt;have If:=hT.ge;clear hl hA hT;have HSX:Hid (w.heap.size<wr.heap.size):=World.block_lt_of_cell? _ _ hI.out.op;have HN:Hid (∀ t',t'=du (aC op k) (dm ⟨op,fa,fb,fc,fd⟩ k) (dg ⟨op,fa,fb,fc,fd⟩ (start ty) k)->dg ⟨op,fa,fb,fc,fd⟩ (start ty) (k+1)=t'):=fun t' h=>by rw[h];rfl
   generalize dm ⟨op,fa,fb,fc,fd⟩ k=x at *;generalize aC op k=ro at *;go_wp2_with fail
   refine(aa FA).mono ?_;rintro e w5 ⟨rfl,Og,Q7,iP,hT5,px,_⟩;have T5:=af hT5;have yY:Below (w.heap.size+1) wr w5:=(HAA.out.mono (by have:=HSX.out;omega)).trans px;have B5:Hid (b_ w w5):=mn.out.trans (yY.mono (by omega));have I5:Hid (aL w5 w.heap.size 0 ⟨op,fa,fb,fc,fd⟩):=by
    have e:∀ o,w5.cell? (a_ w.heap.size o)=wr.cell? (a_ w.heap.size o):=fun o=>yY.cell (p:=(a_ w.heap.size o)) (by show w.heap.size<w.heap.size+1;omega);have h:=aa hI;exact⟨(e _).trans h.op,(e _).trans h.fa,(e _).trans h.fb,(e _).trans h.fc,(e _).trans h.fd⟩
   clear hT5 px yY FA hx HAA;go_wp2_with fail
   go_roundg (4-(k+1))
   case measure=>omega
   case rel=>exact⟨k+1,Og,Q7,iP,by omega,by go_num,by rw[aa HN _ rfl];exact aa T5,B5,I5⟩
  ·have Si:k=4:=by omega
   aj Si
   have hl:=nw (n:=⟨op,fa,fb,fc,fd⟩) (op:=op) rfl mj ty 4 (by omega);obtain⟨j0,j1,j2,j3,j4⟩:=aa hI;rw[Nat.zero_add]at j1 j2 j3 j4;have XM:w.heap.size<wr.heap.size:=World.block_lt_of_cell? _ _ j0;have Pc:=af hT;have yM:=hT.row.lt;clear hT FX;by_cases fo:op=11
   ·have Xs:((op:Int)==11)=true:=by rw[fo];rfl
    obtain⟨f0,f1,qw⟩:=Pw.out (show(op:Int)=11 by omega);change 0<=fb at f0;change fb<l.length at f1;have Ho:fb.toNat<l.length:=by omega
    obtain⟨pb,po,rfl,PQ,vf⟩:=(aa qH).2 (by omega);obtain⟨ua,uc,Bg,PW⟩:=(vf fb.toNat Ho).ups;have Vn:=(mn.out.cell (p:=(a_ pb (po+fb.toNat * 9+5))) (aa gW pb PQ)).trans Bg;have TW:=(mn.out.cell (p:=(a_ bv 0)) Hn).trans (aa HV);have e9:(l[fb.toNat]?.getD ak.z)∈l:=by rw[g_ Ho];exact List.getElem_mem Ho
    have hul2:=aa Li _ e9;change ∀ u,u∈(l[fb.toNat]?.getD ak.z).ups->u.1=true->0<=u.2/\u.2<ty.length at qw;have Oo:Hid (eL l ⟨op,fa,fb,fc,fd⟩ ty=jr (l[fb.toNat]?.getD ak.z).ups (dg ⟨op,fa,fb,fc,fd⟩ (start ty) 4) (l[fb.toNat]?.getD ak.z).ups.length):=by
     show _=_;unfold eL;rw[if_pos (show(op:Int)=11 by omega)];rfl
    have Ko:pb<wr.heap.size:=l_ (aa gW pb PQ) mn.out.size;have abN:bv<wr.heap.size:=l_ Hn mn.out.size;have VL:=af PW;have Ba:=af qw;obtain⟨t1,ht1⟩:∃ t1,t1=dg ⟨op,fa,fb,fc,fd⟩ (start ty) 4:=⟨_,rfl⟩;rw[<-ht1]at Pc hl Oo;have Yq:=af hl;have Wd:=af ((aa Pc).below (w2:=wr.drew) (r_.drew));have HBD:Hid (b_ w wr.drew):=mn.out.drew;clear vf Bg PW e9 qw ht1 hl fo Pw;generalize (l[fb.toNat]?.getD ak.z).ups=us at *;go_wp2_with fail
    go_region
    all_goals (go_wp2_with fail)
    go_loopg [41] us.length (fun gg i wr=>∃(q:Nat) (Og:Value),q+gg=us.length/\i=i_ q/\iy bt (w.heap.size+1) (jr us t1 q) (.slice va ty.length vc) Og kv pv wr/\Hid (b_ w wr))
    case atStart=>exact⟨0,sv,by omega,rfl,aa Wd,HBD⟩
    case round=>
     clear Wd HBD Pc Vn TW Ko abN mn hI j0 j1 j2 j3 j4 XM yM;obtain⟨q,Is,hq,rfl,hT,mn⟩:=hrel;by_cases fw:q<us.length
     ·obtain⟨ub,uo,rfl,Xm,PO⟩:=((aa VL).keep mn.out (aa gW)).2 (by omega);obtain⟨e0,e1⟩:=PO q fw;have e9:us[q]?.getD (false,0)∈us:=by rw[g_ fw];exact List.getElem_mem fw
      have Vr:=af (aa Ba _ e9);have V8:ub<wr.heap.size:=l_ (aa gW ub Xm) mn.out.size;have qv:Hid (jr us t1 (q+1)=if(us[q]?.getD (false,0)).1 then dL (us[q]?.getD (false,0)).2.toNat 2 (jr us t1 q)else jr us t1 q):=rfl;have ax:(jr us t1 q).types.length=ty.length:=by rw[(iQ us t1 q).2.1];exact Yq.out.1
      have wn:(jr us t1 q).seen.length<=1000:=by have:=At us t1 q;have:=Yq.out.2.1;omega
      clear PO e9;generalize us[q]?.getD (false,0)=u at *;obtain⟨BN,ix⟩:=u;dsimp only at *;have hA:b_ wr (wr.alloc (.cells #[.bool BN,i_ ix] 46)):=r_.alloc n_ _;have Ud:=af (hT.below hA);have dR:Hid (b_ w (wr.alloc (.cells #[.bool BN,i_ ix] 46))):=mn.out.trans (hA.mono mn.out.size);have Sv:=hT.ge;have wi:=hT.row.lt;clear hT hA;cases BN
      ·have HE:Hid (jr us t1 (q+1)=jr us t1 q):=qv.out;clear qv ax wn;go_wp2_with fail
       go_roundg (us.length-(q+1))
       case measure=>omega
       case rel=>exact⟨q+1,Is,by omega,by go_num,by rw[HE.out];exact aa Ud,dR⟩
      ·obtain⟨i0,i1⟩:=aa Vr rfl;have HE:Hid (jr us t1 (q+1)=dL ix.toNat 2 (jr us t1 q)):=qv.out;have SE:Hid (c_ 146 #[.pointer (some (a_ bt 0)),i_ ix,i_ 2] (wr.alloc (.cells #[.bool true,i_ ix] 46)) (yo bt (w.heap.size+1) (dL ix.toNat 2 (jr us t1 q)) (.slice va ty.length vc) Is kv pv (wr.alloc (.cells #[.bool true,i_ ix] 46)))):=
        lI bt (w.heap.size+1) (jr us t1 q) _ _ _ _ ix ix.toNat 2 _ (by omega) (aa Ud) (by omega) (by omega) wn
       clear qv ax wn;go_wp2_with fail
       refine(aa SE).mono ?_;rintro e w6 ⟨rfl,sv6,hT6,tl,_⟩;have UM:=af hT6;have V6:Hid (b_ w w6):=dR.out.trans (tl.mono (by omega));clear hT6 tl SE;go_wp2_with fail
       go_roundg (us.length-(q+1))
       case measure=>omega
       case rel=>exact⟨q+1,sv6,by omega,by go_num,by rw[HE.out];exact aa UM,V6⟩
     ·have mz:us.length=q:=by omega
      obtain⟨t2,Oy⟩:∃ t2,t2=jr us t1 us.length:=⟨_,rfl⟩;have Fn:Hid (iy bt (w.heap.size+1) t2 (.slice va ty.length vc) Is kv pv wr):=by
       show iy _ _ _ _ _ _ _ _;rw[Oy,mz];exact hT
      have fN:=mn;obtain⟨g1,g2,g3⟩:=iQ us t1 us.length;rw[<-Oy]at g1 g2 g3;have OV:Hid (t2.puts.length<=1000):=by show _<=_;rw[g1];have:=Yq.out.2.2.2;omega
      have tp:Hid (t2.types.length=ty.length):=by show _=_;rw[g2];exact Yq.out.1
      have qB:Hid (t2=eL l ⟨op,fa,fb,fc,fd⟩ ty):=by show _=_;rw[Oo.out];exact Oy
      have KH:Hid (∀ q,q∈t2.puts->q.1<ty.length):=fun q hq=>aa Of q (by rw[<-qB.out];exact hq);obtain⟨Ft,rfl⟩:∃ x,x=Is:=⟨_,rfl⟩;obtain⟨Vp,rfl⟩:∃ x,x=kv:=⟨_,rfl⟩;have hge2:¬((q:Int)<(us.length:Int)):=by omega
      clear g1 g2 g3 Oy mz hT mn Of Oo;obtain⟨pa,pc,Ro⟩:=(aa Fn).pu.lenV
      aj Ro
      obtain⟨d0,d1,d2,d3,d4⟩:=(aa Fn).cells;have wg:=(aa Fn).row.lt;have rE:t2.puts.length<=1000:=OV.out;clear d0 d1 d2 d4;go_wp2_with fail
      go_loopg [57] t2.puts.length (fun gg i wr=>∃ q:Nat,q+gg=t2.puts.length/\i=i_ q/\iy bt (w.heap.size+1) ⟨fV t2.puts t2.types q,t2.seen,t2.taken,t2.puts,t2.wrong⟩ (.slice va ty.length vc) Ft Vp (.slice pa t2.puts.length pc) wr/\Hid (b_ w wr))
      case atStart=>exact⟨0,by omega,rfl,aa Fn,fN⟩
      case round=>
       clear d3 wg fN Fn;obtain⟨q,hq,rfl,hT,mn⟩:=hrel;by_cases fw:q<t2.puts.length
       ·obtain⟨pg,Y4,Ro,_,hpg,vf⟩:=hT.pu.at (by show 0<t2.puts.length;omega);injection Ro with e1 e2 e3
        aj e1
        obtain⟨p0,p1⟩:=vf q fw;change wr.cell? (a_ pg (q * 2))=some (i_ ((t2.puts[q]?.getD (0,0)).1:Int))at p0;change wr.cell? (a_ pg (q * 2+1))=some (i_ (t2.puts[q]?.getD (0,0)).2)at p1;have e9:t2.puts[q]?.getD (0,0)∈t2.puts:=by rw[g_ fw];exact List.getElem_mem fw
        have pn:=aa KH _ e9;have KG:Hid (fV t2.puts t2.types (q+1)=(fV t2.puts t2.types q).set (t2.puts[q]?.getD (0,0)).1 (t2.puts[q]?.getD (0,0)).2):=rfl;obtain⟨tg,Ld,Ok,abS,sV,Lf⟩:=hT.ty.at (by show 0<(fV t2.puts t2.types q).length;rw[kS,tp.out];omega);have Lz:(fV t2.puts t2.types q).length=ty.length:=by rw[kS,tp.out]
        change Value.slice va ty.length vc=Value.slice (some (a_ tg 0)) (fV t2.puts t2.types q).length Ld at Ok;injection Ok with e4 e5 e6
        aj e4
        have ct:=Lf (t2.puts[q]?.getD (0,0)).1 (by show _<(fV t2.puts t2.types q).length;omega);have zt:=hT.ty.frozen (by show ty.length=(fV t2.puts t2.types q).length;omega) (t2.puts[q]?.getD (0,0)).1;obtain⟨d0,d1,d2,d3,d4⟩:=hT.cells;have hlb:=hT.row.lt;generalize t2.puts[q]?.getD (0,0)=u at *;obtain⟨ur,uk⟩:=u;dsimp only at *;have hS:Below (wr.setCell (a_ tg ur) (i_ uk)).heap.size (wr.setCell (a_ tg ur) (i_ uk)) ((wr.setCell (a_ tg ur) (i_ uk)).alloc (.cells #[i_ (ur:Int),i_ uk] 205)).drew:=(r_.alloc n_ _).drew;have Ud:=af ((hT.setType Lz.symm ur uk).below hS);have dR:Hid (b_ w ((wr.setCell (a_ tg ur) (i_ uk)).alloc (.cells #[i_ (ur:Int),i_ uk] 205)).drew):=(mn.out.setCell (by show w.heap.size<=tg;omega) _).trans (hS.mono (by have:=mn.out.size;simp;omega));have ZQ:(ur:Int)<ty.length:=by omega
        have ei:¬(wr.heap.size=tg):=by omega
        clear vf e9 Lf hS hT d1 d2 d3 d4 Lz e2 e3 e5 e6;generalize (fV t2.puts t2.types q)[ur]?.getD 0=ov at *;go_wp2_with fail
        go_region
        all_goals (go_wp2_with fail)
        go_roundg (t2.puts.length-(q+1))
        case measure=>omega
        case rel=>exact⟨q+1,by omega,by go_num,by rw[KG.out];exact aa Ud,dR⟩
       ·have mz:t2.puts.length=q:=by omega
        have nJ:Hid (iy bt (w.heap.size+1) (fP l ⟨op,fa,fb,fc,fd⟩ ty) (.slice va ty.length vc) Ft Vp (.slice pa t2.puts.length pc) wr):=by
         show iy _ _ _ _ _ _ _ _;have h:=hT;rw[<-mz,qB.out]at h;rw[<-qB.out]at h;rw[qB.out];unfold fP;simp only;rw[<-qB.out];exact h
        have Sv:¬((q:Int)<(t2.puts.length:Int)):=by omega
        clear mz hT;go_wp2_with fail
        go_ret;exact⟨bt,_,_,_,_,rfl,nJ.out,mn.out⟩
   ·have Xs:((op:Int)==11)=false:=beq_eq_false_iff_ne.2 (by omega);obtain⟨t2,Oy⟩:∃ t2,t2=eL l ⟨op,fa,fb,fc,fd⟩ ty:=⟨_,rfl⟩;have e2:eL l ⟨op,fa,fb,fc,fd⟩ ty=dg ⟨op,fa,fb,fc,fd⟩ (start ty) 4:=by unfold eL;rw[if_neg (fun h:(op:Int)=11=>fo (by omega))]
    rw[e2]at Oy;rw[<-Oy]at Pc hl;have Fn:=Pc;have fN:=mn;have OV:Hid (t2.puts.length<=1000):=by show _<=_;omega
    have tp:Hid (t2.types.length=ty.length):=hl.1;have qB:Hid (t2=eL l ⟨op,fa,fb,fc,fd⟩ ty):=by show _=_;rw[e2];exact Oy
    have KH:Hid (∀ q,q∈t2.puts->q.1<ty.length):=fun q hq=>aa Of q (by rw[<-qB.out];exact hq);obtain⟨Ft,rfl⟩:∃ x,x=sv:=⟨_,rfl⟩;obtain⟨Vp,rfl⟩:∃ x,x=kv:=⟨_,rfl⟩;clear Pc mn hl e2 Oy fo Of;obtain⟨pa,pc,Ro⟩:=(aa Fn).pu.lenV
    aj Ro
    obtain⟨d0,d1,d2,d3,d4⟩:=(aa Fn).cells;have wg:=(aa Fn).row.lt;have rE:t2.puts.length<=1000:=OV.out;clear d0 d1 d2 d4;go_wp2_with fail
    go_loopg [57] t2.puts.length (fun gg i wr=>∃ q:Nat,q+gg=t2.puts.length/\i=i_ q/\iy bt (w.heap.size+1) ⟨fV t2.puts t2.types q,t2.seen,t2.taken,t2.puts,t2.wrong⟩ (.slice va ty.length vc) Ft Vp (.slice pa t2.puts.length pc) wr/\Hid (b_ w wr))
    case atStart=>exact⟨0,by omega,rfl,aa Fn,fN⟩
    case round=>
     clear d3 wg fN Fn;obtain⟨q,hq,rfl,hT,mn⟩:=hrel;by_cases fw:q<t2.puts.length
     ·obtain⟨pg,Y4,Ro,_,hpg,vf⟩:=hT.pu.at (by show 0<t2.puts.length;omega);injection Ro with e1 e2 e3
      aj e1
      obtain⟨p0,p1⟩:=vf q fw;change wr.cell? (a_ pg (q * 2))=some (i_ ((t2.puts[q]?.getD (0,0)).1:Int))at p0;change wr.cell? (a_ pg (q * 2+1))=some (i_ (t2.puts[q]?.getD (0,0)).2)at p1;have e9:t2.puts[q]?.getD (0,0)∈t2.puts:=by rw[g_ fw];exact List.getElem_mem fw
      have pn:=aa KH _ e9;have KG:Hid (fV t2.puts t2.types (q+1)=(fV t2.puts t2.types q).set (t2.puts[q]?.getD (0,0)).1 (t2.puts[q]?.getD (0,0)).2):=rfl;obtain⟨tg,Ld,Ok,abS,sV,Lf⟩:=hT.ty.at (by show 0<(fV t2.puts t2.types q).length;rw[kS,tp.out];omega);have Lz:(fV t2.puts t2.types q).length=ty.length:=by rw[kS,tp.out]
      change Value.slice va ty.length vc=Value.slice (some (a_ tg 0)) (fV t2.puts t2.types q).length Ld at Ok;injection Ok with e4 e5 e6
      aj e4
      have ct:=Lf (t2.puts[q]?.getD (0,0)).1 (by show _<(fV t2.puts t2.types q).length;omega);have zt:=hT.ty.frozen (by show ty.length=(fV t2.puts t2.types q).length;omega) (t2.puts[q]?.getD (0,0)).1;obtain⟨d0,d1,d2,d3,d4⟩:=hT.cells;have hlb:=hT.row.lt;generalize t2.puts[q]?.getD (0,0)=u at *;obtain⟨ur,uk⟩:=u;dsimp only at *;have hS:Below (wr.setCell (a_ tg ur) (i_ uk)).heap.size (wr.setCell (a_ tg ur) (i_ uk)) ((wr.setCell (a_ tg ur) (i_ uk)).alloc (.cells #[i_ (ur:Int),i_ uk] 205)).drew:=(r_.alloc n_ _).drew;have Ud:=af ((hT.setType Lz.symm ur uk).below hS);have dR:Hid (b_ w ((wr.setCell (a_ tg ur) (i_ uk)).alloc (.cells #[i_ (ur:Int),i_ uk] 205)).drew):=(mn.out.setCell (by show w.heap.size<=tg;omega) _).trans (hS.mono (by have:=mn.out.size;simp;omega));have ZQ:(ur:Int)<ty.length:=by omega
      have ei:¬(wr.heap.size=tg):=by omega
      clear vf e9 Lf hS hT d1 d2 d3 d4 Lz e2 e3 e5 e6;generalize (fV t2.puts t2.types q)[ur]?.getD 0=ov at *;go_wp2_with fail
      go_region
      all_goals (go_wp2_with fail)
      go_roundg (t2.puts.length-(q+1))
      case measure=>omega
      case rel=>exact⟨q+1,by omega,by go_num,by rw[KG.out];exact aa Ud,dR⟩
     ·have mz:t2.puts.length=q:=by omega
      have nJ:Hid (iy bt (w.heap.size+1) (fP l ⟨op,fa,fb,fc,fd⟩ ty) (.slice va ty.length vc) Ft Vp (.slice pa t2.puts.length pc) wr):=by
       show iy _ _ _ _ _ _ _ _;have h:=hT;rw[<-mz,qB.out]at h;rw[<-qB.out]at h;rw[qB.out];unfold fP;simp only;rw[<-qB.out];exact h
      have Sv:¬((q:Int)<(t2.puts.length:Int)):=by omega
      clear mz hT;go_wp2_with fail
      go_ret;exact⟨bt,_,_,_,_,rfl,nJ.out,mn.out⟩
end Go.Proofs.YtcjfjflljdojlaaGreatDoor
