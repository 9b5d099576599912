import Derived.Test.YtcjfjflljdojlaaGreatDoorPart40
import Derived.Lib.SliceRun
set_option linter.unusedSimpArgs false
set_option linter.unusedVariables false
set_option maxHeartbeats 4000000
set_option maxRecDepth 100000
namespace Go.Proofs.YtcjfjflljdojlaaGreatDoor
open Go.RowKit
def cE (n:aA):Option Int:=
 if n.op=19\/n.op=31 then some n.fa
 else if n.op=20\/n.op=21\/n.op=38\/n.op=39\/n.op=41 then some n.fb
 else none
theorem O7:∀ op,op<43->(aC op 0=6↔op=19\/op=31)/\(aC op 1=6↔op=20\/op=21\/op=38\/op=39\/op=41)/\aC op 2≠6/\aC op 3≠6:=by decide
def oO (n:aA)(w:World)(e:Ending)(w':World):Prop:=e=.returned (.tuple #[i_ ((cE n).getD 0),.bool (cE n).isSome])/\b_ w w'
theorem i9 (op:Nat)(fa fb fc fd:Int)(w:World)(hG:gh w)(fo:op<43) :
  c_ 83 #[.agg #[i_ op,i_ fa,i_ fb,i_ fc,i_ fd]] w (oO ⟨op,fa,fb,fc,fd⟩ w):=by
 have HA:Hid (b_ w (w.alloc (.cells #[i_ (op:Int),i_ fa,i_ fb,i_ fc,i_ fd] 51))):=r_.alloc n_ _;have FO:Hid (c_ 128 #[.agg #[i_ (op:Int),i_ fa,i_ fb,i_ fc,i_ fd]] (w.alloc (.cells #[i_ (op:Int),i_ fa,i_ fb,i_ fc,i_ fd] 51)) fun e w'=>e=.returned (.agg #[i_ (aC op 0:Nat),i_ fa,i_ (aC op 1:Nat),i_ fb,i_ (aC op 2:Nat),i_ fc,i_ (aC op 3:Nat),i_ fd])/\Below (w.alloc (.cells #[i_ (op:Int),i_ fa,i_ fb,i_ fc,i_ fd] 51)).heap.size (w.alloc (.cells #[i_ (op:Int),i_ fa,i_ fb,i_ fc,i_ fd] 51)) w'):=lE op fa fb fc fd _ (hG.keep HA.out hG.pos) fo;obtain⟨r0,r1,r2,r3⟩:=O7 op fo;have FF:Hid (∀ k:Nat,k<4->∃(r:Nat) (x:Int),r=aC op k/\x=dm ⟨op,fa,fb,fc,fd⟩ k/\(∀ W,(Instr.index 185 (.agg #[i_ (aC op 0:Nat),i_ fa,i_ (aC op 1:Nat),i_ fb,i_ (aC op 2:Nat),i_ fc,i_ (aC op 3:Nat),i_ fd]) (i_ (k:Int))).run Tryz.prog W=.ok (.agg #[i_ (r:Nat),i_ x]) W)):=fun k hk=>by
  have hc:k=0\/k=1\/k=2\/k=3:=by omega
  rcases hc with rfl | rfl | rfl | rfl
  ·exact⟨_,fa,rfl,rfl,fun W=>cK 0 hk rfl W⟩
  ·exact⟨_,fb,rfl,rfl,fun W=>cK 1 hk rfl W⟩
  ·exact⟨_,fc,rfl,rfl,fun W=>cK 2 hk rfl W⟩
  ·exact⟨_,fd,rfl,rfl,fun W=>cK 3 hk rfl W⟩
 have Bt:Hid (∀ k:Nat,k<4->(∀ j,j<k->aC op j≠6)->aC op k=6->cE ⟨op,fa,fb,fc,fd⟩=some (dm ⟨op,fa,fb,fc,fd⟩ k)):=fun k hk hn h=>by
  have hc:k=0\/k=1\/k=2\/k=3:=by omega
  unfold cE;dsimp only;rcases hc with rfl | rfl | rfl | rfl
  ·rw[if_pos (by have:=r0.1 h;omega)];rfl
  ·have h0:¬(op=19\/op=31):=fun e=>hn 0 (by omega) (r0.2 e);rw[if_neg (by omega),if_pos (by have:=r1.1 h;omega)];rfl
  ·exact absurd h r2
  ·exact absurd h r3
 have NO:Hid ((∀ j,j<4->aC op j≠6)->cE ⟨op,fa,fb,fc,fd⟩=none):=fun hn=>by
  have h0:¬(op=19\/op=31):=fun e=>hn 0 (by omega) (r0.2 e);have h1:¬(op=20\/op=21\/op=38\/op=39\/op=41):=fun e=>hn 1 (by omega) (r1.2 e);unfold cE;dsimp only;rw[if_neg (by omega),if_neg (by omega)]
 clear r0 r1 r2 r3 hG fo;unfold oO;generalize cE ⟨op,fa,fb,fc,fd⟩=res at *;obtain⟨F,hF⟩:∃ F:Nat->Int,F=dm ⟨op,fa,fb,fc,fd⟩:=⟨_,rfl⟩;rw[<-hF]at FF Bt;clear hF;go_enter Tryz.func83,Tryz.ntmps83;go_wp2_with fail
 refine(aa FO).mono ?_;rintro e w1 ⟨rfl,au⟩;have dM:Hid (b_ w w1):=HA.out.trans (au.mono (by simp));clear au FO;go_wp2_with fail
 go_loopg [8] 4 (fun g i wr=>∃(k:Nat),k+g=4/\i=i_ k/\b_ w wr/\Hid (∀ j,j<k->aC op j≠6))
 case atStart=>exact⟨0,by omega,rfl,dM.out,fun j h=>absurd h (Nat.not_lt_zero _)⟩
 case round=>
  clear dM;obtain⟨k,hk,rfl,hb,bN⟩:=hrel;by_cases ax:k<4
  ·obtain⟨r,x,hr,hx,hix⟩:=aa FF k ax;have dR:Hid (∀ o,b_ w (wr.alloc o)):=fun o=>hb.alloc hb.size o;have gW:Hid (∀ o v,b_ w ((wr.alloc o).setCell (a_ wr.heap.size 0) v)):=fun o v=>(hb.alloc hb.size o).setCell hb.size v;clear hb;by_cases h6:r=6
   ·have RR:Hid (res=some x):=by show _=_;rw[hx];exact aa Bt k ax bN.out (by rw[<-hr];exact h6)
    clear hr hx
    aj h6
    go_wp2_with fail
    refine bodyPost_ret (v:=.tuple #[i_ x,.bool true]) (by simp[results,Tryz.results83,go_sem]) rfl ?_;refine⟨by rw[RR.out];rfl,?_⟩
    first | exact aa dR _ | exact aa gW _ _
   ·have NX:Hid (∀ j,j<k+1->aC op j≠6):=fun j hj=>by
     by_cases e:j=k
     ·aj e;rw[<-hr];exact h6
     ·exact bN.out j (by omega)
    have h6':((r:Int)==6)=false:=by simp;omega
    clear hr hx;go_wp2_with fail
    go_roundg (4-(k+1))
    case measure=>omega
    case rel=>exact⟨k+1,by omega,by go_num,by first | exact aa dR _ | exact aa gW _ _,NX.out⟩
  ·have RN:Hid (res=none):=aa NO (fun j hj=>bN.out j (by omega));go_wp2_with fail
   refine bodyPost_ret (v:=.tuple #[i_ 0,.bool false]) (by simp[results,Tryz.results83,go_sem]) rfl ?_;exact⟨by rw[RN.out];rfl,hb⟩
theorem IV {l m:List Int}(hn:l.length=m.length)(h:∀ j,j<l.length->l[j]?.getD 0=m[j]?.getD 0):l=m:=by
 refine List.ext_getElem hn (fun j h1 h2=>?_);have:=h j h1
 rwa [g_ h1,g_ h2]at this
theorem oF (a a':o_)(l m:List Int)(c c':Nat)(S:Nat->Prop)(w:World)(hs:aR w S a l)(tj:aR w S a' m)(hB:∀ b,S b->b<w.heap.size) :
  c_ 118 #[.slice a l.length c,.slice a' m.length c'] w (dq (decide (l=m)) w):=by
 by_cases hn:l.length=m.length
 ·have EX:=af (IV hn);have HS:=af hs;have HS':=af tj;have oH:=af hB;have ZA:=hs.1;rw[<-hn];have HN:=af hn;clear hs tj hB hn;generalize hd:decide (l=m)=res;have HD:=af hd;clear hd;go_enter Tryz.func118,Tryz.ntmps118;go_wp2_with fail
  go_loopg [13] l.length (fun g i wr=>∃(k:Nat),k+g=l.length/\i=i_ k/\b_ w wr/\Hid (∀ j,j<k->l[j]?.getD 0=m[j]?.getD 0))
  case atStart=>exact⟨0,by omega,rfl,r_,fun j h=>absurd h (Nat.not_lt_zero _)⟩
  case round=>
   obtain⟨k,hk,rfl,hb,bN⟩:=hrel;by_cases ax:k<l.length
   ·obtain⟨b,off,rfl,jF,aE⟩:=((aa HS).same (.of_below hb (aa oH))).2 (by omega);have q1:=aE k ax;clear aE;obtain⟨b',jM,rfl,RM,aE⟩:=((aa HS').same (.of_below hb (aa oH))).2 (by rw[<-HN.out];omega);have q2:=aE k (by rw[<-HN.out];omega);clear aE;have NX:Hid (l[k]?.getD 0=m[k]?.getD 0->∀ j,j<k+1->l[j]?.getD 0=m[j]?.getD 0):=fun h j hj=>by
     by_cases e:j=k
     ·aj e;exact h
     ·exact bN.out j (by omega)
    have NF:Hid (l[k]?.getD 0≠m[k]?.getD 0->¬l=m):=fun h h'=>h (by rw[h']);have lq:=af hb;clear bN hb;generalize l[k]?.getD 0=y1 at *;generalize m[k]?.getD 0=y2 at *;by_cases hy:y1=y2
    ·have RR:=af (aa NX hy)
     aj hy
     clear NX NF;go_wp2_with fail
     go_quiet (fail)
     go_wp2_with fail
     go_roundg (l.length-(k+1))
     case measure=>omega
     case rel=>exact⟨k+1,by omega,by go_num,lq.out.trans (ay _ _ _),RR⟩
    ·have RR:Hid (res=false):=by show res=false;rw[<-HD.out];exact decide_eq_false (aa NF hy)
     have TX:(y1 != y2)=true:=by simpa using hy
     clear NX NF;go_wp2_with fail
     go_quiet (fail)
     go_wp2_with fail
     go_ret;exact⟨al RR.out.symm,lq.out.trans (ay _ _ _)⟩
   ·have RR:Hid (res=true):=by show res=true;rw[<-HD.out];exact decide_eq_true (EX.out (fun j hj=>bN.out j (by omega)))
    go_wp2_with fail
    go_ret;exact⟨al RR.out.symm,hb⟩
 ·have h1:=hs.1;have h2:=tj.1;have hd:((l.length:Int) != (m.length:Int))=true:=by simp;omega
  have RR:Hid (decide (l=m)=false):=decide_eq_false (fun e=>hn (by rw[e]));clear hs tj hB;go_enter Tryz.func118,Tryz.ntmps118;go_wp2_with fail
  go_ret;exact⟨al RR.out.symm,r_⟩
theorem xM (a a':o_)(l m:List bg)(c c':Nat)(S:Nat->Prop)(w:World)(hs:bx w S a l)(tj:bx w S a' m)(hB:∀ b,S b->b<w.heap.size)(res:Bool)(hr:res=true↔l=m) :
  c_ 119 #[.slice a l.length c,.slice a' m.length c'] w (dq res w):=by
 by_cases hn:l.length=m.length
 ·have EX:=af (lT bg.z hn);have HS:=af hs;have HS':=af tj;have oH:=af hB;have ZA:=hs.1;rw[<-hn];have HN:=af hn;clear hs tj hB hn;have HT:Hid (l=m->res=true):=hr.2;have HF:Hid (¬l=m->res=false):=fun h=>by
   cases e:res
   ·rfl
   ·exact absurd (hr.1 e) h
  clear hr;go_enter Tryz.func119,Tryz.ntmps119;go_wp2_with fail
  go_loopg [13] l.length (fun g i wr=>∃(k:Nat),k+g=l.length/\i=i_ k/\b_ w wr/\Hid (∀ j,j<k->l[j]?.getD bg.z=m[j]?.getD bg.z))
  case atStart=>exact⟨0,by omega,rfl,r_,fun j h=>absurd h (Nat.not_lt_zero _)⟩
  case round=>
   obtain⟨k,hk,rfl,hb,bN⟩:=hrel;by_cases ax:k<l.length
   ·obtain⟨b,off,rfl,jF,aE⟩:=((aa HS).same (.of_below hb (aa oH))).2 (by omega);have q1:=aE k ax;clear aE;obtain⟨b',jM,rfl,RM,aE⟩:=((aa HS').same (.of_below hb (aa oH))).2 (by rw[<-HN.out];omega);have q2:=aE k (by rw[<-HN.out];omega);clear aE;have NX:Hid (l[k]?.getD bg.z=m[k]?.getD bg.z->∀ j,j<k+1->l[j]?.getD bg.z=m[j]?.getD bg.z):=fun h j hj=>by
     by_cases e:j=k
     ·aj e;exact h
     ·exact bN.out j (by omega)
    have NF:Hid (l[k]?.getD bg.z≠m[k]?.getD bg.z->¬l=m):=fun h h'=>h (by rw[h']);have lq:=af hb;clear bN hb;generalize l[k]?.getD bg.z=y1 at *;generalize m[k]?.getD bg.z=y2 at *;have r0:=q1.tr;have r1:=q1.keep;have r2:=q1.hand;have s0:=q2.tr;have s1:=q2.keep;have s2:=q2.hand;clear q1 q2;obtain⟨QI,Ra,QD⟩:=y1;obtain⟨QZ,QW,Ss⟩:=y2;simp only at *;by_cases kN:Ra=QW
    case neg=>
     have RR:Hid (res=false):=HF.out (aa NF (fun h=>kN (by injection h)));have au:(Ra==QW)=false:=beq_eq_false_iff_ne.2 kN;have bo:(Ra != QW)=true:=by simpa using kN
     clear NX NF kN;go_wp2_with fail
     go_quiet (fail)
     go_wp2_with fail
     go_ret;exact⟨al RR.out.symm,lq.out.trans (ay _ _ _)⟩
    by_cases vm:QD=Ss
    case neg=>
     have RR:Hid (res=false):=HF.out (aa NF (fun h=>vm (by injection h)));have au:(QD==Ss)=false:=beq_eq_false_iff_ne.2 vm;have bo:(QD != Ss)=true:=by simpa using vm
     clear NX NF vm
     aj kN
     go_wp2_with fail
     go_quiet (fail)
     go_wp2_with fail
     go_ret;exact⟨al RR.out.symm,lq.out.trans (ay _ _ _)⟩
    by_cases hk3:QI=QZ
    case neg=>
     have RR:Hid (res=false):=HF.out (aa NF (fun h=>hk3 (by injection h)));have au:(QI==QZ)=false:=beq_eq_false_iff_ne.2 hk3;have bo:(QI != QZ)=true:=by simpa using hk3
     clear NX NF hk3
     aj kN vm
     go_wp2_with fail
     go_quiet (fail)
     go_wp2_with fail
     go_ret;exact⟨al RR.out.symm,lq.out.trans (ay _ _ _)⟩
    aj kN vm hk3
    have RR:=af (aa NX rfl);clear NX NF;go_wp2_with fail
    go_quiet (fail)
    go_wp2_with fail
    go_roundg (l.length-(k+1))
    case measure=>omega
    case rel=>exact⟨k+1,by omega,by go_num,lq.out.trans (ay _ _ _),RR⟩
   ·have RR:Hid (res=true):=HT.out (EX.out (fun j hj=>bN.out j (by omega)));go_wp2_with fail
    go_ret;exact⟨al RR.out.symm,hb⟩
 ·have h1:=hs.1;have h2:=tj.1;have hd:((l.length:Int) != (m.length:Int))=true:=by simp;omega
  have RR:Hid (res=false):=by
   show res=false;cases e:res
   ·rfl
   ·exact absurd (by rw[hr.1 e]) hn
  clear hs tj hB hr;go_enter Tryz.func119,Tryz.ntmps119;go_wp2_with fail
  go_ret;exact⟨al RR.out.symm,r_⟩
theorem Hb (p:Addr):p.add 0=p:=by
 cases p;simp[Addr.add]
theorem nO:Tryz.prog.elem 70=3:=by kernel_rfl
theorem nU (w:World)(a:o_)(n c k:Nat)(hk:k<=c):(Instr.slice 70 (.slice a n c) none (some (i_ (k:Int))) none).run Tryz.prog w=.ok (.slice a k c) w:=by
 obtain⟨i0,hi,dE,cT,dB⟩:=aN dT;have ht:Tryz.prog.underlying 70=some (.slice (Tryz.prog.elem 70)):=by rw[nO];exact Tryz.underlying70
 rw[run_slice_h w 70 a n c ht .i64 k (by omega) (by omega),nO];have e:a.map (fun x=>x.add 0)=a:=by cases a<;>simp[Hb]
 have e2:(sizeOf 3).run Tryz.prog w=.ok 1 w:=by simp[sizeOf,hi,cT];try rfl
 rw[e2];simp[Result.andThen,sliced,e]
theorem ar.cap {w:World}{base:Nat}{a:o_}{n c:Nat}{t:List Int}(h:ar w base (.slice a n c) t):t.length<=c:=by
 rcases h.2 with⟨e,h0⟩ | ⟨g,cap,gi,e,_,_,h2,_⟩
 ·rw[h0];exact Nat.zero_le _
 ·cases e;exact h2
theorem aR.take {w:World}{S:Nat->Prop}{a:o_}{l:List Int}(h:aR w S a l)(k:Nat):aR w S a (l.take k):=by
 refine⟨Nat.le_trans (by rw[List.length_take];omega) h.1,fun h0=>?_⟩;rw[List.length_take]at h0;obtain⟨b,off,e,hb,hc⟩:=h.2 (by omega);refine⟨b,off,e,hb,fun j hj=>?_⟩;rw[List.length_take]at hj;rw[hc j (by omega),List.getElem?_take_of_lt (by omega)]
theorem Ad {l m:List Int}(k:Nat)(hk:k<=l.length)(hn:l.length=m.length):l.take k=m.take k↔∀ r,r<k->bb l r=bb m r:=by
 constructor
 ·intro h r hr;have:(l.take k)[r]? = (m.take k)[r]?:=by rw[h]
  rw[List.getElem?_take_of_lt hr,List.getElem?_take_of_lt hr]at this;unfold bb;rw[this]
 ·intro h;refine lT 0 (by rw[List.length_take,List.length_take,hn]) (fun j hj=>?_);rw[List.length_take]at hj;rw[List.getElem?_take_of_lt (by omega),List.getElem?_take_of_lt (by omega)];exact h j (by omega)
theorem Ag (l:List Nat)(K:Int):(∀ r,r∈l->¬(r:Int)<K)↔∀ j,j<(aH l).length->¬(aH l)[j]?.getD 0<K:=by
 constructor
 ·intro h j hj;rw[ba]at hj;rw[gS,g_ hj];exact h _ (List.getElem_mem hj)
 ·intro h r hr;obtain⟨j,hj,rfl⟩:=List.getElem_of_mem hr;have:=h j (by rw[ba];exact hj)
  rwa [gS,g_ hj]at this
theorem Gr (bt B:Nat)(t:TD)(tv sv kv pv:Value)(rb:Bool)(ty:List Int)(g:List bg)(a ag:o_)(c cg:Nat)(S:Nat->Prop)(w:World)(h:iy bt B t tv sv kv pv w)(eA:aR w S a ty)(hg:bx w S ag g)(hB:∀ b,S b->b<w.heap.size)(hl:g.length<=50)(hc:ty.length<=c)(hk:eW g<=ty.length)(ax:t.types.length=ty.length)(aP:ty.length<=250)(KY:t.taken.length<=1000000)(res:Bool)(hr:res=true↔Ci g t.taken ty t.types) :
  c_ 123 #[.pointer (some (a_ bt 0)),.agg #[.bool rb,.slice a ty.length c,.slice ag g.length cg]] w (dq res w):=by
 have qF:=sb g g.length;obtain⟨K,hK⟩:∃ K:Nat,eW g=K:=⟨(eW g).toNat,by unfold eW at *;omega⟩;have hA:b_ w (w.alloc (.cells #[.bool rb,.slice a ty.length c,.slice ag g.length cg] 97)):=r_.alloc n_ _;have HA:=af hA;have CK:Hid (c_ 147 #[.slice ag g.length cg] (w.alloc (.cells #[.bool rb,.slice a ty.length c,.slice ag g.length cg] 97)) fun e w2=>e=.returned (i_ K)/\Below (w.alloc (.cells #[.bool rb,.slice a ty.length c,.slice ag g.length cg] 97)).heap.size (w.alloc (.cells #[.bool rb,.slice a ty.length c,.slice ag g.length cg] 97)) w2):=by
  show Calls _ _ _ _ _;rw[<-hK];exact mr ag g cg S _ (hg.same (.of_below hA hB)) (fun b h=>l_ (hB b h) hA.size) hl
 obtain⟨a1,c1,rfl,i1⟩:=h.ty.ints (by omega);have jP:t.types.length<=c1:=h.ty.cap;obtain⟨a2,c2,rfl,i2⟩:=h.ta.ints (by rw[ba];omega);have yM:=h.row.lt;obtain⟨x0,_,x2,_,_⟩:=h.cells;have EQ:Hid (∀ W,b_ w W->c_ 118 #[.slice a K c,.slice a1 K c1] W (dq (decide (ty.take K=t.types.take K)) W)):=fun W hW=>by
  have e1:(ty.take K).length=K:=by rw[List.length_take];omega
  have e2:(t.types.take K).length=K:=by rw[List.length_take];omega
  have:=oF a a1 (ty.take K) (t.types.take K) c c1 (fun b=>S b\/(B<=b/\b<w.heap.size)) W (((eA.take K).same (.of_below hW hB)).mono fun _=>.inl) (((i1.take K).same (.of_below hW (fun b h=>h.2))).mono fun _=>.inr) (fun b h=>by rcases h with h | h;exact l_ (hB b h) hW.size;exact l_ h.2 hW.size)
  rwa [e1,e2]at this
 have Ny:Hid ((∀ j,j<(aH t.taken).length->¬(aH t.taken)[j]?.getD 0<(K:Int))->res=decide (ty.take K=t.types.take K)):=fun hh=>by
  rw[Bool.eq_iff_iff,hr,decide_eq_true_iff,Ad K (by omega) ax.symm];unfold Ci;rw[hK,Ag];exact⟨fun h r hr=>h.2 r (by omega),fun h=>⟨hh,fun r hr=>h r (by omega)⟩⟩
 have SNO:Hid (∀ j,j<(aH t.taken).length->(aH t.taken)[j]?.getD 0<(K:Int)->res=false):=fun j hj hh=>by
  cases e:res
  ·rfl
  ·have:=(hr.1 e).1;rw[hK,Ag]at this;exact absurd hh (this j hj)
 have Zg:Hid (∀ W:World,(Instr.slice 70 (.slice a ty.length c) none (some (i_ (K:Int))) none).run Tryz.prog W=.ok (.slice a K c) W):=fun W=>nU W a _ c K (by omega);have ZR:Hid (∀ W:World,(Instr.slice 70 (.slice a1 t.types.length c1) none (some (i_ (K:Int))) none).run Tryz.prog W=.ok (.slice a1 K c1) W):=fun W=>nU W a1 _ c1 K (by omega);have ZU:=af i2;have CL:Hid (∀ W,Below (w.heap.size+1) (w.alloc (.cells #[.bool rb,.slice a ty.length c,.slice ag g.length cg] 97)) W->W.cell? (a_ w.heap.size 1)=some (.slice a ty.length c)/\W.cell? (a_ bt 0)=some (.slice a1 t.types.length c1)/\W.cell? (a_ bt 2)=some (.slice a2 (aH t.taken).length c2)/\b_ w W):=fun W hW=>by
  refine⟨(hW.cell (p:=(a_ w.heap.size 1)) (by simp)).trans (by simp[go_sem]),?_,?_,hA.trans (hW.mono (by omega))⟩
  ·exact(hW.cell (p:=(a_ bt 0)) (by show bt<_;omega)).trans ((hA.cell (p:=(a_ bt 0)) yM).trans x0)
  ·exact(hW.cell (p:=(a_ bt 2)) (by show bt<_;omega)).trans ((hA.cell (p:=(a_ bt 2)) yM).trans x2)
 have HBT:=af yM;have El:(aH t.taken).length<=1000000:=by rw[ba];exact KY
 clear h eA hg hB hl hk aP hr jP i1 i2 x0 x2 hA qF hK hc KY yM ax;generalize aH t.taken=tk at *;generalize t.types=tt at *;generalize decide (ty.take K=tt.take K)=dd at *;go_enter Tryz.func123,Tryz.ntmps123;go_wp2_with fail
 refine(aa CK).mono ?_;rintro e w1 ⟨rfl,au⟩;have zc:Below (w.heap.size+1) (w.alloc (.cells #[.bool rb,.slice a ty.length c,.slice ag g.length cg] 97)) w1:=au.mono (by simp);obtain⟨y1,y2,y3,y4⟩:=aa CL _ zc;have Xg:bt<w1.heap.size:=l_ HBT.out y4.size;have dM:=af zc;clear CK au y4 zc;go_wp2_with fail
 clear y1 y2 y3 Xg;go_loopg [16] tk.length (fun gg i wr=>∃(k:Nat),k+gg=tk.length/\i=i_ k/\Below (w.heap.size+1) (w.alloc (.cells #[.bool rb,.slice a ty.length c,.slice ag g.length cg] 97)) wr/\Hid (∀ j,j<k->¬tk[j]?.getD 0<(K:Int)))
 case atStart=>exact⟨0,by omega,rfl,dM.out,fun j h=>absurd h (Nat.not_lt_zero _)⟩
 case round=>
  clear dM;obtain⟨k,hk,rfl,hb,bN⟩:=hrel;obtain⟨y1,y2,y3,y4⟩:=aa CL _ hb;have Xg:bt<wr.heap.size:=l_ HBT.out y4.size;have HB:=af hb;have Ma:=af y4;by_cases ax:k<tk.length
  ·obtain⟨b,off,rfl,jF,aE⟩:=((aa ZU).same (.of_below y4 (fun b h=>h.2))).2 (by omega);have q1:=aE k ax;have cZ:b<wr.heap.size:=l_ jF.2 y4.size;clear aE y1 y2 y3 y4 hb jF;have NX:Hid (¬tk[k]?.getD 0<(K:Int)->∀ j,j<k+1->¬tk[j]?.getD 0<(K:Int)):=fun h j hj=>by
    by_cases e:j=k
    ·aj e;exact h
    ·exact bN.out j (by omega)
   have NF:Hid (tk[k]?.getD 0<(K:Int)->res=false):=aa SNO k ax;clear bN;generalize tk[k]?.getD 0=y at *;by_cases hy:y<(K:Int)
   ·have RR:=af (aa NF hy);have hyd:decide (y<(K:Int))=true:=decide_eq_true hy;clear NX NF;go_wp2_with fail
    go_ret;exact⟨al RR.out.symm,Ma.out⟩
   ·have RR:=af (aa NX hy);have hyd:decide (y<(K:Int))=false:=decide_eq_false hy;clear NX NF;go_wp2_with fail
    go_roundg (tk.length-(k+1))
    case measure=>omega
    case rel=>exact⟨k+1,by omega,by go_num,HB.out,RR⟩
  ·have RR:Hid (res=dd):=aa Ny (fun j hj=>by have:=bN.out j (by omega);omega);have QQ:Hid (c_ 118 #[.slice a K c,.slice a1 K c1] wr.drew (dq dd wr.drew)):=aa EQ _ y4.drew;have s1:=aa Zg;have s2:=aa ZR;have CR:Hid (∀ W,Below wr.heap.size wr.drew W->W.cell? (a_ w.heap.size 1)=some (.slice a ty.length c)/\W.cell? (a_ bt 0)=some (.slice a1 tt.length c1)):=fun W hW=>by
    have h2:=aa CL W (hb.drew.trans (hW.mono (by have:=hb.size;simp at this;omega)));exact⟨h2.1,h2.2.1⟩
   clear bN y4 hb y3
   go_upto_region 8 with fail
   go_region_held3 (fun W=>W.cell? (a_ w.heap.size 1)=some (.slice a ty.length c)/\W.cell? (a_ bt 0)=some (.slice a1 tt.length c1)) (simp[go_sem, *])
    (first | (go_at_call 118;refine(aa QQ).mono ?_;rintro e w3 ⟨rfl,bY⟩;obtain⟨q0,q1⟩:=aa CR _ bY))
   all_goals
    have jg:Hid (b_ w w3):=Ma.out.drew.trans (bY.mono (by have:=Ma.out.size;simp;omega));clear bY;go_wp2_with fail
    go_ret;exact⟨al RR.out.symm,jg.out⟩
theorem MF (w:World)(a:o_)(n c:Nat):(binOp .eql 95 (.slice a n c) (.slice none 0 0)).run Tryz.prog w=.ok (.bool a.isNone) w:=Go.Lib.run_eql_slice_nil w 95 154 a n c 0 0 Tryz.underlying95
theorem wT {w:World}{b off:Nat}:∀{l:List bg},(∀ j,j<l.length->n7 w b (off+j * 3) (l[j]?.getD bg.z))->∀(j:Nat) u,(l.flatMap qg)[j]? = some u->w.cell? (a_ b (off+j))=some u:=by
 intro l h j u hj;have ax:j<(l.flatMap qg).length:=(List.getElem?_eq_some_iff.1 hj).1;rw[qd]at ax;have e:j=j / 3 * 3+j % 3:=by omega
 have hm:j % 3<3:=Nat.mod_lt _ (by omega);have hq:j / 3<l.length:=by omega
 have key:=E0 l (j / 3) (j % 3) hq hm;rw[<-e]at key;rw[hj]at key;obtain⟨c0,c1,c2⟩:=h _ hq;generalize l[j / 3]?.getD bg.z=y at *;have hc:j % 3=0\/j % 3=1\/j % 3=2:=by omega
 rcases hc with hc | hc | hc<;>rw[hc]at key<;>cases key
 ·rw[show off+j=off+j / 3 * 3 by omega];exact c0
 ·rw[show off+j=off+j / 3 * 3+1 by omega];exact c1
 ·rw[show off+j=off+j / 3 * 3+2 by omega];exact c2
def jH (l:List bg)(w:World)(e:Ending)(w':World):Prop:=∃ v,e=.returned v/\cn w' w.heap.size v l/\b_ w w'
theorem jd (a:o_)(l:List bg)(c:Nat)(S:Nat->Prop)(w:World)(hs:bx w S a l)(hB:∀ b,S b->b<w.heap.size)(hl:l.length<=1048576) :
  c_ 148 #[.slice a l.length c] w (jH l w):=by
 obtain⟨i0,hi,dE,cT,dB⟩:=aN fA;have hq:=MF;cases a with
 | none=>
  have h0:l.length=0:=by
   by_cases h:0<l.length
   ·obtain⟨b,off,e,_⟩:=hs.2 h;cases e
   ·omega
  obtain rfl:l=[]:=List.eq_nil_of_length_eq_zero h0;clear hs hB hl h0;go_enter Tryz.func148,Tryz.ntmps148;go_wp2_with fail
  go_ret;exact⟨_,rfl,World.ownsRow_nil _ _ _ _,r_⟩
 | some ad=>
  by_cases h0:0<l.length
  ·obtain⟨b,off,e,hb,aE⟩:=hs.2 h0;cases e;have cZ:=hB b hb;have PB:=af (wT aE);clear aE hs;have PV:Hid ((w.alloc (.cells #[] 154)).ownsRow w.heap.size 154 3 (.slice (some (a_ w.heap.size 0)) 0 0) 0 []):=⟨rfl,.inr ⟨w.heap.size,0,#[],rfl,n_,Go.Deep.blk_alloc_new _ _,n_,by unfold maxLen;omega,rfl,rfl⟩⟩;have HN:Hid (∀ j u,(l.flatMap qg)[j]? = some u->(w.alloc (.cells #[] 154)).cell? (((a_ b off):Addr).add j)=some u):=fun j u hj=>by
    have e:((a_ b off):Addr).add j=(a_ b (off+j)):=by simp[Addr.add]
    rw[e,Below.cell (B:=w.heap.size) (r_.alloc n_ _) (p:=(a_ b (off+j))) cZ];exact aa PB j u hj
   go_enter Tryz.func148,Tryz.ntmps148;go_wp2_with (first
    | (at_builtin;refine wpList_append_lies _ rfl _ _ 95 rfl w.heap.size 154 i0 (.agg #[.bool false,i_ 0,i_ 0]) 3 24 Tryz.underlying95 hi dE cT dB rfl (by decide) (.slice (some (a_ w.heap.size 0)) 0 0) 0 [] rfl (aa PV) (a_ b off) l.length c (l.flatMap qg) rfl (qd l) (aa HN) ?c2 h0 ?c3 ?c4 ?c5 (w.heap.size+1) (by simp) ?_)
    | go_in)
   all_goals try (case c2=>intro u hu;rw[List.mem_flatMap]at hu;obtain⟨x,_,hx⟩:=hu;simp[qg]at hx;rcases hx with rfl | rfl | rfl<;>rfl)
   all_goals try (case c3=>unfold maxLen;omega)
   all_goals try (case c4=>omega)
   all_goals try (case c5=>simp)
   intro g3 cap3 w3 hown3 hgrow3 hat3 hlt3;have O3:Hid (cn w3 w.heap.size (.slice (some (a_ g3 0)) l.length cap3) l):=by
    show cn _ _ _ _;unfold cn
    first | exact hown3 | (rw[Nat.zero_add]at hown3;exact hown3)
   have B3:Hid (b_ w w3):=(r_.alloc n_ _).grown hgrow3 (by simp) (fun k hk=>by have:w.heap.size=k:=Option.some.inj hk;omega);clear hown3 hgrow3 hat3 PV HN;go_wp2_with fail
   go_ret;exact⟨_,rfl,O3.out,B3.out⟩
  ·obtain rfl:l=[]:=List.eq_nil_of_length_eq_zero (by omega);clear hs hB hl h0;go_enter Tryz.func148,Tryz.ntmps148;go_wp2_with fail
   go_ret;exact⟨_,rfl,⟨rfl,.inr ⟨w.heap.size,0,#[],rfl,n_,Go.Deep.blk_alloc_new _ _,n_,by unfold maxLen;omega,rfl,rfl⟩⟩,r_.alloc n_ _⟩
theorem Gd (fa fb fc fd:Int)(g:List bg)(a:o_)(c:Nat)(S:Nat->Prop)(w:World)(hs:bx w S a g)(hB:∀ b,S b->b<w.heap.size)(hl:g.length<=50) :
  c_ 124 #[.agg #[i_ 31,i_ fa,i_ fb,i_ fc,i_ fd],.slice a g.length c] w (jH (dn ⟨31,fa,fb,fc,fd⟩ g) w):=by
 obtain⟨i0,hi,dE,cT,dB⟩:=aN fA;have hA:b_ w (w.alloc (.cells #[i_ 31,i_ fa,i_ fb,i_ fc,i_ fd] 51)):=r_.alloc n_ _;have LG:=af (jd a g c S (w.alloc (.cells #[i_ 31,i_ fa,i_ fb,i_ fc,i_ fd] 51)) (hs.keep hA hB) (fun b h=>l_ (hB b h) hA.size) (by omega));have HA:=af hA;clear hs hB hA;go_enter Tryz.func124,Tryz.ntmps124;go_wp2_with fail
 refine(aa LG).mono ?_;rintro e w1 ⟨v1,rfl,gB,au⟩;obtain⟨cU,fJ⟩:=cz au;have jf:w.heap.size<w1.heap.size:=by have:=au.size;simp at this;omega
 have j0:w1.cell? (a_ w.heap.size 0)=some (i_ 31):=by rw[cU _ _ (by simp)];simp[go_sem]
 have j1:w1.cell? (a_ w.heap.size 1)=some (i_ fa):=by rw[cU _ _ (by simp)];simp[go_sem]
 have j2:w1.cell? (a_ w.heap.size 2)=some (i_ fb):=by rw[cU _ _ (by simp)];simp[go_sem]
 have dM:Hid (b_ w w1):=HA.out.trans (au.mono (by simp));have fR:Hid (cn w1 (w.heap.size+1) v1 g):=by have h:=gB;rw[show ∀ o,(w.alloc o).heap.size=w.heap.size+1 from fun _=>by simp]at h;exact h
 clear au cU fJ gB LG;obtain⟨av,cv,OG⟩:=(aa fR).lenV
 aj OG
 go_wp2_with (first
  | (at_builtin;refine wpList_append_own _ rfl _ _ 95 rfl (w.heap.size+1) 154 i0 (.agg #[.bool false,i_ 0,i_ 0]) 3 24 Tryz.underlying95 hi dE cT dB rfl (by decide) _ _ _ rfl ((aa fR).alloc _) (a_ w1.heap.size 0) 1 1 [.bool true,i_ fb,i_ fa] rfl rfl ?c1 ?c2 ?c3 ?c4 ?c5 ?_)
  | go_in)
 all_goals try (case c1=>intro j u hj;rcases j with _ | _ | _ | _<;>simp at hj<;>(aj hj;simp[Addr.add,go_sem]))
 case c2=>first | (intro u hu;simp at hu;rcases hu with rfl | rfl | rfl<;>rfl) | (simp;done) | rfl
 case c3=>unfold maxLen;omega
 case c4=>omega
 case c5=>simp;omega
 intro v2 w2 hown2 hgrow2 _;have vn:Hid (cn w2 w.heap.size v2 (g++[⟨true,fb,fa⟩])):=(cn.push hown2).base_le (by omega);have fN:Hid (b_ w w2):=((aa dM).alloc (by omega) _).grown hgrow2 (by simp;omega) (fun j hj=>by have:=((aa fR).lt j hj).1;omega);clear hown2 hgrow2;go_wp2_with fail
 go_ret;exact⟨_,rfl,vn.out,fN.out⟩
theorem Fy (fa fb fc fd:Int)(g:List bg)(a:o_)(c:Nat)(S:Nat->Prop)(w:World)(hs:bx w S a g)(hB:∀ b,S b->b<w.heap.size)(hl:g.length<=50) :
  c_ 124 #[.agg #[i_ 33,i_ fa,i_ fb,i_ fc,i_ fd],.slice a g.length c] w (jH (dn ⟨33,fa,fb,fc,fd⟩ g) w):=by
 obtain⟨i0,hi,dE,cT,dB⟩:=aN fA;have hA:b_ w (w.alloc (.cells #[i_ 33,i_ fa,i_ fb,i_ fc,i_ fd] 51)):=r_.alloc n_ _;have LG:=af (jd a g c S (w.alloc (.cells #[i_ 33,i_ fa,i_ fb,i_ fc,i_ fd] 51)) (hs.keep hA hB) (fun b h=>l_ (hB b h) hA.size) (by omega));have HA:=af hA;clear hs hB hA;go_enter Tryz.func124,Tryz.ntmps124;go_wp2_with fail
 refine(aa LG).mono ?_;rintro e w1 ⟨v1,rfl,gB,au⟩;obtain⟨cU,fJ⟩:=cz au;have jf:w.heap.size<w1.heap.size:=by have:=au.size;simp at this;omega
 have j0:w1.cell? (a_ w.heap.size 0)=some (i_ 33):=by rw[cU _ _ (by simp)];simp[go_sem]
 have j1:w1.cell? (a_ w.heap.size 1)=some (i_ fa):=by rw[cU _ _ (by simp)];simp[go_sem]
 have j2:w1.cell? (a_ w.heap.size 2)=some (i_ fb):=by rw[cU _ _ (by simp)];simp[go_sem]
 have dM:Hid (b_ w w1):=HA.out.trans (au.mono (by simp));have fR:Hid (cn w1 (w.heap.size+1) v1 g):=by have h:=gB;rw[show ∀ o,(w.alloc o).heap.size=w.heap.size+1 from fun _=>by simp]at h;exact h
 clear au cU fJ gB LG;obtain⟨av,cv,OG⟩:=(aa fR).lenV
 aj OG
 go_wp2_with (first
  | (at_builtin;refine wpList_append_own _ rfl _ _ 95 rfl (w.heap.size+1) 154 i0 (.agg #[.bool false,i_ 0,i_ 0]) 3 24 Tryz.underlying95 hi dE cT dB rfl (by decide) _ _ _ rfl ((aa fR).alloc _) (a_ w1.heap.size 0) 1 1 [.bool false,i_ fa,i_ 0] rfl rfl ?c1 ?c2 ?c3 ?c4 ?c5 ?_)
  | go_in)
 all_goals try (case c1=>intro j u hj;rcases j with _ | _ | _ | _<;>simp at hj<;>(aj hj;simp[Addr.add,go_sem]))
 case c2=>first | (intro u hu;simp at hu;rcases hu with rfl | rfl | rfl<;>rfl) | (simp;done) | rfl
 case c3=>unfold maxLen;omega
 case c4=>omega
 case c5=>simp;omega
 intro v2 w2 hown2 hgrow2 _;have vn:Hid (cn w2 w.heap.size v2 (g++[⟨false,fa,0⟩])):=(cn.push hown2).base_le (by omega);have fN:Hid (b_ w w2):=((aa dM).alloc (by omega) _).grown hgrow2 (by simp;omega) (fun j hj=>by have:=((aa fR).lt j hj).1;omega);clear hown2 hgrow2;go_wp2_with fail
 go_ret;exact⟨_,rfl,vn.out,fN.out⟩
theorem GS (fa fb fc fd:Int)(g:List bg)(a:o_)(c:Nat)(S:Nat->Prop)(w:World)(hs:bx w S a g)(hB:∀ b,S b->b<w.heap.size)(hl:g.length<=50)(h0:0<g.length) :
  c_ 124 #[.agg #[i_ 34,i_ fa,i_ fb,i_ fc,i_ fd],.slice a g.length c] w (jH (dn ⟨34,fa,fb,fc,fd⟩ g) w):=by
 obtain⟨i0,hi,dE,cT,dB⟩:=aN fA;have hA:b_ w (w.alloc (.cells #[i_ 34,i_ fa,i_ fb,i_ fc,i_ fd] 51)):=r_.alloc n_ _;have LG:=af (jd a g c S (w.alloc (.cells #[i_ 34,i_ fa,i_ fb,i_ fc,i_ fd] 51)) (hs.keep hA hB) (fun b h=>l_ (hB b h) hA.size) (by omega));have HA:=af hA;clear hs hB hA;go_enter Tryz.func124,Tryz.ntmps124;go_wp2_with fail
 refine(aa LG).mono ?_;rintro e w1 ⟨v1,rfl,gB,au⟩;obtain⟨cU,fJ⟩:=cz au;have jf:w.heap.size<w1.heap.size:=by have:=au.size;simp at this;omega
 have j0:w1.cell? (a_ w.heap.size 0)=some (i_ 34):=by rw[cU _ _ (by simp)];simp[go_sem]
 have j1:w1.cell? (a_ w.heap.size 1)=some (i_ fa):=by rw[cU _ _ (by simp)];simp[go_sem]
 have j2:w1.cell? (a_ w.heap.size 2)=some (i_ fb):=by rw[cU _ _ (by simp)];simp[go_sem]
 have dM:Hid (b_ w w1):=HA.out.trans (au.mono (by simp));have fR:Hid (cn w1 (w.heap.size+1) v1 g):=by have h:=gB;rw[show ∀ o,(w.alloc o).heap.size=w.heap.size+1 from fun _=>by simp]at h;exact h
 clear au cU fJ gB LG;obtain⟨m,hm⟩:∃ m,g.length=m+1:=⟨g.length-1,by omega⟩;obtain⟨G,cap,rfl,Ub,hG,pw,aE⟩:=(aa fR).at h0;have hk:=(aE m (by omega)).keep;have hfz:=(aa fR).frozen rfl (m * 3+1);have vn:Hid (cn (w1.setCell (a_ G (m * 3+1)) (i_ fa)) w.heap.size (.slice (some (a_ G 0)) g.length cap) (dn ⟨34,fa,fb,fc,fd⟩ g)):=by
  show cn _ _ _ _;have e:dn ⟨34,fa,fb,fc,fd⟩ g=g.set m { g[m]?.getD bg.z with keep:=fa }:=by
   show g.set (g.length-1) { iN g with keep:=fa }=_;unfold iN;rw[hm];rfl
  rw[e];exact((aa fR).setKeep rfl m fa (by omega)).base_le (by omega)
 have fN:Hid (b_ w (w1.setCell (a_ G (m * 3+1)) (i_ fa))):=(aa dM).setCell (p:=(a_ G (m * 3+1))) (by show _<=G;omega) _;clear aE pw;generalize g[m]?.getD bg.z=y at *;generalize dn ⟨34,fa,fb,fc,fd⟩ g=res at *;generalize g.length=n at *
 aj hm
 go_wp2_with fail
 go_ret;exact⟨_,rfl,vn.out,fN.out⟩
theorem Hd (fa fb fc fd:Int)(g:List bg)(a:o_)(c:Nat)(S:Nat->Prop)(w:World)(hs:bx w S a g)(hB:∀ b,S b->b<w.heap.size)(hl:g.length<=50)(h0:0<g.length) :
  c_ 124 #[.agg #[i_ 32,i_ fa,i_ fb,i_ fc,i_ fd],.slice a g.length c] w (jH (dn ⟨32,fa,fb,fc,fd⟩ g) w):=by
 obtain⟨i0,hi,dE,cT,dB⟩:=aN fA;have hA:b_ w (w.alloc (.cells #[i_ 32,i_ fa,i_ fb,i_ fc,i_ fd] 51)):=r_.alloc n_ _;have LG:=af (jd a g c S (w.alloc (.cells #[i_ 32,i_ fa,i_ fb,i_ fc,i_ fd] 51)) (hs.keep hA hB) (fun b h=>l_ (hB b h) hA.size) (by omega));have HA:=af hA;clear hs hB hA;go_enter Tryz.func124,Tryz.ntmps124;go_wp2_with fail
 refine(aa LG).mono ?_;rintro e w1 ⟨v1,rfl,gB,au⟩;obtain⟨cU,fJ⟩:=cz au;have jf:w.heap.size<w1.heap.size:=by have:=au.size;simp at this;omega
 have j0:w1.cell? (a_ w.heap.size 0)=some (i_ 32):=by rw[cU _ _ (by simp)];simp[go_sem]
 have j1:w1.cell? (a_ w.heap.size 1)=some (i_ fa):=by rw[cU _ _ (by simp)];simp[go_sem]
 have j2:w1.cell? (a_ w.heap.size 2)=some (i_ fb):=by rw[cU _ _ (by simp)];simp[go_sem]
 have dM:Hid (b_ w w1):=HA.out.trans (au.mono (by simp));have fR:Hid (cn w1 (w.heap.size+1) v1 g):=by have h:=gB;rw[show ∀ o,(w.alloc o).heap.size=w.heap.size+1 from fun _=>by simp]at h;exact h
 clear au cU fJ gB LG;obtain⟨m,hm⟩:∃ m,g.length=m+1:=⟨g.length-1,by omega⟩;obtain⟨G,cap,rfl,Ub,hG,pw,_⟩:=(aa fR).at h0;have vn:Hid (cn w1 w.heap.size (.slice (some (a_ G 0)) m cap) (dn ⟨32,fa,fb,fc,fd⟩ g)):=by
  show cn _ _ _ _;have e:dn ⟨32,fa,fb,fc,fd⟩ g=g.take m:=by
   show g.take (g.length-1)=_;rw[hm];rfl
  rw[e];exact((aa fR).take rfl m (by omega)).base_le (by omega)
 generalize dn ⟨32,fa,fb,fc,fd⟩ g=res at *;generalize g.length=n at *
 aj hm
 go_wp2_with fail
 go_ret;exact⟨_,rfl,vn.out,dM.out⟩
theorem Gm (fa fb fc fd:Int)(g:List bg)(a:o_)(c:Nat)(S:Nat->Prop)(w:World)(hs:bx w S a g)(hB:∀ b,S b->b<w.heap.size)(hl:g.length<=50)(h0:0<g.length) :
  c_ 124 #[.agg #[i_ 36,i_ fa,i_ fb,i_ fc,i_ fd],.slice a g.length c] w (jH (dn ⟨36,fa,fb,fc,fd⟩ g) w):=by
 obtain⟨i0,hi,dE,cT,dB⟩:=aN fA;have hA:b_ w (w.alloc (.cells #[i_ 36,i_ fa,i_ fb,i_ fc,i_ fd] 51)):=r_.alloc n_ _;have LG:=af (jd a g c S (w.alloc (.cells #[i_ 36,i_ fa,i_ fb,i_ fc,i_ fd] 51)) (hs.keep hA hB) (fun b h=>l_ (hB b h) hA.size) (by omega));have HA:=af hA;clear hs hB hA;go_enter Tryz.func124,Tryz.ntmps124;go_wp2_with fail
 refine(aa LG).mono ?_;rintro e w1 ⟨v1,rfl,gB,au⟩;obtain⟨cU,fJ⟩:=cz au;have jf:w.heap.size<w1.heap.size:=by have:=au.size;simp at this;omega
 have j0:w1.cell? (a_ w.heap.size 0)=some (i_ 36):=by rw[cU _ _ (by simp)];simp[go_sem]
 have j1:w1.cell? (a_ w.heap.size 1)=some (i_ fa):=by rw[cU _ _ (by simp)];simp[go_sem]
 have j2:w1.cell? (a_ w.heap.size 2)=some (i_ fb):=by rw[cU _ _ (by simp)];simp[go_sem]
 have dM:Hid (b_ w w1):=HA.out.trans (au.mono (by simp));have fR:Hid (cn w1 (w.heap.size+1) v1 g):=by have h:=gB;rw[show ∀ o,(w.alloc o).heap.size=w.heap.size+1 from fun _=>by simp]at h;exact h
 clear au cU fJ gB LG;obtain⟨m,hm⟩:∃ m,g.length=m+1:=⟨g.length-1,by omega⟩;obtain⟨G,cap,rfl,Ub,hG,pw,_⟩:=(aa fR).at h0;have vn:Hid (cn w1 w.heap.size (.slice (some (a_ G 0)) m cap) (dn ⟨36,fa,fb,fc,fd⟩ g)):=by
  show cn _ _ _ _;have e:dn ⟨36,fa,fb,fc,fd⟩ g=g.take m:=by
   show g.take (g.length-1)=_;rw[hm];rfl
  rw[e];exact((aa fR).take rfl m (by omega)).base_le (by omega)
 generalize dn ⟨36,fa,fb,fc,fd⟩ g=res at *;generalize g.length=n at *
 aj hm
 go_wp2_with fail
 go_ret;exact⟨_,rfl,vn.out,dM.out⟩
theorem Gu (op fa fb fc fd:Int)(g:List bg)(a:o_)(c:Nat)(S:Nat->Prop)(w:World)(hs:bx w S a g)(hB:∀ b,S b->b<w.heap.size)(hl:g.length<=50)(h1:op≠31)(h2:op≠33)(h3:op≠34)(h4:op≠32)(h5:op≠36) :
  c_ 124 #[.agg #[i_ op,i_ fa,i_ fb,i_ fc,i_ fd],.slice a g.length c] w (jH (dn ⟨op,fa,fb,fc,fd⟩ g) w):=by
 obtain⟨i0,hi,dE,cT,dB⟩:=aN fA;have hA:b_ w (w.alloc (.cells #[i_ op,i_ fa,i_ fb,i_ fc,i_ fd] 51)):=r_.alloc n_ _;have LG:=af (jd a g c S (w.alloc (.cells #[i_ op,i_ fa,i_ fb,i_ fc,i_ fd] 51)) (hs.keep hA hB) (fun b h=>l_ (hB b h) hA.size) (by omega));have HA:=af hA;clear hs hB hA;go_enter Tryz.func124,Tryz.ntmps124;go_wp2_with fail
 refine(aa LG).mono ?_;rintro e w1 ⟨v1,rfl,gB,au⟩;obtain⟨cU,fJ⟩:=cz au;have jf:w.heap.size<w1.heap.size:=by have:=au.size;simp at this;omega
 have j0:w1.cell? (a_ w.heap.size 0)=some (i_ op):=by rw[cU _ _ (by simp)];simp[go_sem]
 have j1:w1.cell? (a_ w.heap.size 1)=some (i_ fa):=by rw[cU _ _ (by simp)];simp[go_sem]
 have j2:w1.cell? (a_ w.heap.size 2)=some (i_ fb):=by rw[cU _ _ (by simp)];simp[go_sem]
 have dM:Hid (b_ w w1):=HA.out.trans (au.mono (by simp));have fR:Hid (cn w1 (w.heap.size+1) v1 g):=by have h:=gB;rw[show ∀ o,(w.alloc o).heap.size=w.heap.size+1 from fun _=>by simp]at h;exact h
 clear au cU fJ gB LG;obtain⟨av,cv,OG⟩:=(aa fR).lenV
 aj OG
 have vn:Hid (cn w1 w.heap.size (.slice av g.length cv) (dn ⟨op,fa,fb,fc,fd⟩ g)):=by
  show cn _ _ _ _;have e:dn ⟨op,fa,fb,fc,fd⟩ g=g:=by
   unfold dn;simp[h1,h2,h3,h4,h5]
  rw[e];exact(aa fR).base_le (by omega)
 generalize dn ⟨op,fa,fb,fc,fd⟩ g=res at *;go_wp2_with fail
 go_ret;exact⟨_,rfl,vn.out,dM.out⟩
theorem rq (op fa fb fc fd:Int)(g:List bg)(a:o_)(c:Nat)(S:Nat->Prop)(w:World)(hs:bx w S a g)(hB:∀ b,S b->b<w.heap.size)(hl:g.length<=50)(h:iz ⟨op,fa,fb,fc,fd⟩ g=true) :
  c_ 124 #[.agg #[i_ op,i_ fa,i_ fb,i_ fc,i_ fd],.slice a g.length c] w (jH (dn ⟨op,fa,fb,fc,fd⟩ g) w):=by
 by_cases h1:op=31
 ·aj h1;exact Gd fa fb fc fd g a c S w hs hB hl
 by_cases h2:op=33
 ·aj h2;exact Fy fa fb fc fd g a c S w hs hB hl
 by_cases h3:op=34
 ·aj h3
  refine GS fa fb fc fd g a c S w hs hB hl ?_;rw[pY]at h;simp only[Bool.and_eq_true,decide_eq_true_eq]at h;exact h.1.1
 by_cases h4:op=32
 ·aj h4
  refine Hd fa fb fc fd g a c S w hs hB hl ?_;rw[pO]at h;simp only[Bool.and_eq_true,decide_eq_true_eq]at h;exact h.1
 by_cases h5:op=36
 ·aj h5
  refine Gm fa fb fc fd g a c S w hs hB hl ?_;rw[qt]at h;simp only[Bool.and_eq_true,decide_eq_true_eq]at h;exact h.1
 exact Gu op fa fb fc fd g a c S w hs hB hl h1 h2 h3 h4 h5
end Go.Proofs.YtcjfjflljdojlaaGreatDoor
