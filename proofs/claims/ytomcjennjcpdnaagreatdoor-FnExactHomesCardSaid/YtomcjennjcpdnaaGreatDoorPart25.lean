import Derived.Test.YtomcjennjcpdnaaGreatDoorPart24
import Derived.Deep.RegionLaw
set_option linter.unusedSimpArgs false
set_option linter.unusedVariables false
set_option maxHeartbeats 4000000
namespace Go.Proofs.YtomcjennjcpdnaaGreatDoor
set_option maxRecDepth 100000
set_option maxHeartbeats 4000000
open Go.RowKit
attribute [local go_sem] run_store_float
structure UOk (F:CF)(l:List FnD)(f:Nat)(S:Nat->Prop):Prop where
 hs:FnsAt F.w0 S F.a l
 nl:F.nl=l.length
 fn:F.fn=f
 hf:f<l.length
 low:∀ b,S b->b<F.w0.heap.size
def nodeV (n:NodeD)(a1:Option Addr)(c1:Nat)(a2:Option Addr)(c2:Nat):Value:=.agg #[.int .i64 n.kind,.int .i64 n.line,.int .i64 n.op,.int .i64 n.num,.float .f64 n.flt,.string n.str,.slice a1 n.refs.length c1,.slice a2 n.kids.length c2]
def NodePost (F:CF)(S:Nat->Prop)(n:NodeD)(w:World)(e:Ending)(w':World):Prop:=
 ∃ a1 c1 a2 c2,e=.returned (nodeV n a1 c1 a2 c2)/\IntsAt w S a1 n.refs/\IntsAt w S a2 n.kids/\n.kids.length<=c2/\Below w.heap.size w w'
theorem node_any {F:CF}{l:List FnD}{f:Nat}{S:Nat->Prop}(U:UOk F l f S)(X:CX)(i:Nat)(w:World)(h:CC F X w)(hi:i<(fnD l f).nodes.length) :
  Calls Tryz.prog 53 #[.pointer (some ⟨F.cb,0,none⟩),.int .i64 i] w (NodePost F S (nd (fnD l f).nodes i) w):=by
 have hs:=U.hs.keep h.old U.low;obtain⟨b,off,ea,hb,hcc⟩:=hs.2 (by have:=U.hf;omega);have N:=hcc f U.hf;obtain⟨a6,c6,h6,H6⟩:=N.nodes;obtain⟨b6,o6,rfl,hb6,hn6⟩:=H6.2 (by unfold fnD at hi;omega);have M:=hn6 i hi;have hl6:=H6.1;have c0:=h.c0;have c1:=h.c1;rw[U.fn]at c1;rw[ea,U.nl]at c0;have hcl:=h.cbl;have hf:=U.hf;have hbl:b<w.heap.size:=Nat.lt_of_lt_of_le (U.low b hb) h.old.size;have hb6l:b6<w.heap.size:=Nat.lt_of_lt_of_le (U.low b6 hb6) h.old.size;have hll:=hs.1;have m0:=M.kind;have m1:=M.line;have m2:=M.op;have m3:=M.num;have m4:=M.flt;have m5:=M.str;obtain⟨a1,k1,m6,I6⟩:=M.refs;obtain⟨a2,k2,m7,I7⟩:=M.kids;have hcap:(nd (fnD l f).nodes i).kids.length<=k2:=by
  obtain⟨a2',k2',m7',I7'⟩:=M.kcap;rw[m7]at m7';cases m7';exact I7'
 have K:=hide (And.intro I6 (And.intro I7 hcap));clear I6 I7 hcap M hn6 H6 N hcc hs h U;unfold fnD at hi;unfold nd fnD;unfold nd fnD at K;generalize (l[f]?.getD FnD.z).nodes[i]?.getD NodeD.z=n at *;generalize hnn:(l[f]?.getD FnD.z).nodes.length=nn at *;clear hnn;go_enter Tryz.func53,Tryz.ntmps53;go_wp2_with fail
 go_region
 go_wp2_with fail
 refine bodyPost_ret (v:=nodeV n a1 k1 a2 k2) (by simp[results,Tryz.results53,go_sem,nodeV]) rfl ?_;exact⟨a1,k1,a2,k2,rfl,K.out.1,K.out.2.1,K.out.2.2,((Below.refl _ _).alloc (Nat.le_refl _) _).drew⟩
theorem IntsAt.fr {w w':World}{S O O':Nat->Prop}{a:Option Addr}{l:List Int}(h:IntsAt w S a l)(f:Fr O O' w w')(hS:∀ b,S b->b<w.heap.size/\¬O b):IntsAt w' S a l:=h.same fun b hb=>f.block b (hS b hb).1 (hS b hb).2
theorem UOk.far {F:CF}{l:List FnD}{f:Nat}{S:Nat->Prop}(U:UOk F l f S){X:CX}{w:World}(h:CC F X w):∀ b,S b->b<w.heap.size/\¬X.O b:=
 fun b hb=>⟨Nat.lt_of_lt_of_le (U.low b hb) h.old.size,fun ho=>by have:=(h.low b ho).1;have:=U.low b hb;omega⟩
theorem info_mk:(Tryz.prog.info? 103).map (fun i=>(i.zero,i.size,i.bytes))=some (some (.agg #[.int .i64 0,.bool false,.int .i64 0,.slice none 0 0,.slice none 0 0]),5,72):=by kernel_rfl
def MarkPost (F:CF)(X:CX)(m:MkD)(w:World)(e:Ending)(w':World):Prop:=∃ g cap,e=.returned (.tuple #[])/\CC F (pushX X m g cap) w'/\Fr X.O (pushX X m g cap).O w w'
def mkC (m:MkD):List Value:=[.int .i64 m.kind,.bool m.scope,.int .i64 m.base,.slice none 0 0,.slice none 0 0]
theorem mkF_push {ms:List MkD}{m:MkD}{J:Nat->Value}:(∀ i,i<ms.length * 5->mkF (ms++[m]) (fun i=>if i<2 * ms.length then J i else .slice none 0 0) i=mkF ms J i)/\∀ i,i<5->(mkC m)[i]? = some (mkF (ms++[m]) (fun i=>if i<2 * ms.length then J i else .slice none 0 0) (ms.length * 5+i)):=by
 refine⟨fun i hi=>?_,fun i hi=>?_⟩
 ·have h1:i / 5<ms.length:=by omega
  have h2:2 * (i / 5)<2 * ms.length:=by omega
  have h3:2 * (i / 5)+1<2 * ms.length:=by omega
  unfold mkF;simp only[List.getElem?_append_left h1,if_pos h2,if_pos h3]
 ·have h1:(ms.length * 5+i) / 5=ms.length:=by omega
  have h2:(ms.length * 5+i) % 5=i:=by omega
  unfold mkF;rw[h1,h2];simp only[List.getElem?_append_right (Nat.le_refl _),Nat.sub_self,List.getElem?_cons_zero,Option.getD_some];have:i=0\/i=1\/i=2\/i=3\/i=4:=by omega
  have n0:¬2 * ms.length<2 * ms.length:=by omega
  have n1:¬2 * ms.length+1<2 * ms.length:=by omega
  rcases this with rfl | rfl | rfl | rfl | rfl<;>simp only[mkC,if_neg n0,if_neg n1]<;>rfl
theorem mark_any (F:CF)(X:CX)(m:MkD)(w:World)(h:CC F X w)(hl:X.ms.length<=100000000) :
  Calls Tryz.prog 54 #[.pointer (some ⟨F.cb,0,none⟩),.agg #[.int .i64 m.kind,.bool m.scope,.int .i64 m.base,.slice none 0 0,.slice none 0 0]] w (MarkPost F X m w):=by
 obtain⟨i0,hi,hz0,hz1,hz2⟩:=info_of info_mk;have c16:=h.c16;have z16:=h.fz 16;have hcl:=h.cbl;have hcl1:F.cb<w.heap.size+1:=by omega
 have hcl2:F.cb<w.heap.size+2:=by omega
 have hb1:=h.b1;have H:=hide h;clear h;obtain⟨W,hW⟩:∃ W:World,W=((w.alloc (.cells #[.int .i64 m.kind,.bool m.scope,.int .i64 m.base,.slice none 0 0,.slice none 0 0] 103)).alloc (.cells #[.int .i64 m.kind,.bool m.scope,.int .i64 m.base,.slice none 0 0,.slice none 0 0] 103)).drew:=⟨_,rfl⟩;have H1:Hid (CC F X W):=by show CC F X W;rw[hW];exact((H.out.alloc _).alloc _).drew
 have HF:Hid (Fr X.O X.O w W):=by show Fr _ _ _ _;rw[hW];exact((Fr.refl.alloc _).alloc _).drew
 have HN:Hid (∀ j u,(mkC m)[j]? = some u->W.cell? ((⟨w.heap.size+1,0,none⟩:Addr).add j)=some u):=by
  show ∀ j u,_;rw[hW];intro j u hj;rcases j with _ | _ | _ | _ | _ | _<;>simp[mkC]at hj<;>subst hj<;>simp[Addr.add,go_sem]
 have hSz:Hid (W.heap.size=w.heap.size+2):=by show _=_;rw[hW];simp
 have NX:Hid (∀ w3,W.grownBy w3 X.mv.ownBlock->w3.cell? ⟨F.cb,16,none⟩=some X.mv/\w3.frozen? ⟨F.cb,16,none⟩=false/\F.cb<w3.heap.size):=fun w3 hg=>by
  have hb:w3.rowIs F.cb 52 17 (ccV F X):=H1.out.box.of_block (hg.block F.cb H1.out.cbl (fun e=>by have:=H1.out.dis.m1 _ e.symm;have:=H1.out.ok.cb.2;omega));exact⟨hb.cell (i:=16) (by omega),hb.frozen 16,hb.lt⟩
 have HW:=hide hW;clear hW;go_enter Tryz.func54,Tryz.ntmps54;go_wp2_with fail
 go_region_law ((rw[<-HW.out];refine step_append_lies _ (by rfl) (.tmp 8) (.tmp 10) 50 (by rfl) F.B1 103 i0 (.agg #[.int .i64 0,.bool false,.int .i64 0,.slice none 0 0,.slice none 0 0]) 5 72 Tryz.underlying50 hi hz0 hz1 hz2 rfl (by decide) X.mv X.ms.length _ rfl H1.out.mks.owns ⟨w.heap.size+1,0,none⟩ 1 1 (mkC m) rfl rfl HN.out (by intro u hu;simp[mkC]at hu;rcases hu with rfl | rfl | rfl | rfl | rfl<;>rfl) (by decide) (by unfold maxLen;omega) (by omega) (by rw[hSz.out];omega) (w.heap.size+2) hSz.out ?_;intro g3 cap3 w3 hown3 hgrow3 hat3 hlt3;obtain⟨n1,n2,n3⟩:=NX.out _ hgrow3))
 all_goals
  have R:=hide (CC.pushM H1.out hgrow3 (hat3.elim .inl fun e=>.inr (by rw[hSz.out,e];exact Nat.le_refl _)) (OwnF.push rfl hown3 (mkF_push (m:=m)).1 mkF_push.2));clear n1 n2 n3 hown3 hgrow3 hat3
  go_end0
  exact⟨g3,cap3,rfl,R.out.1,HF.out.trans R.out.2⟩
def UnPost (F:CF)(X:CX)(ms:List MkD)(m:MkD)(v3 v4:Value)(w:World)(e:Ending)(w':World):Prop:=
 ∃ a c,e=.returned (.agg #[.int .i64 m.kind,.bool m.scope,.int .i64 m.base,v3,v4])/\CC F (popX X ms a c) w'/\Fr X.O (popX X ms a c).O w w' /\
  ∀ i,i=2 * ms.length\/i=2 * ms.length+1->OwnF w' F.B1 3 1 (X.J i) (X.L i).length (fun j=>.int .i64 ((X.L i)[j]?.getD 0))/\∀ k,(X.J i).ownBlock=some k->¬(popX X ms a c).O k
theorem unmark_any (F:CF)(X:CX)(ms:List MkD)(m:MkD)(w:World)(h:CC F X w)(e:X.ms=ms++[m])(hl:ms.length<=100000000) :
  Calls Tryz.prog 56 #[.pointer (some ⟨F.cb,0,none⟩)] w (UnPost F X ms m (X.J (2 * ms.length)) (X.J (2 * ms.length+1)) w):=by
 have hlen:X.ms.length=ms.length+1:=by rw[e];simp
 have c16:=h.c16;have z16:=h.fz 16;have hcl:=h.cbl;have hcl1:F.cb<w.heap.size+1:=by omega
 have hcl2:F.cb<w.heap.size+2:=by omega
 obtain⟨g,cap,ev,_,hgl,hcap,hcc,_⟩:=h.mks.at (by omega);rw[hlen]at ev hcap;rw[ev]at c16;have hgl1:g<w.heap.size+1:=by omega
 have hgl2:g<w.heap.size+2:=by omega
 have hml:ms.length+1<=9223372036854775807:=by omega
 have hJ:∀ i,i<2 * X.ms.length->∃ a c,X.J i=.slice a (X.L i).length c:=fun i hi=>by obtain⟨a,c,e,_⟩:=(h.jls i hi).form;exact⟨a,c,e⟩
 obtain⟨a3,c3,e3⟩:=hJ (2 * ms.length) (by omega);obtain⟨a4,c4,e4⟩:=hJ (2 * ms.length+1) (by omega);have k0:=hcc (ms.length * 5) (by omega);have k1:=hcc (ms.length * 5+1) (by omega);have k2:=hcc (ms.length * 5+2) (by omega);have k3:=hcc (ms.length * 5+3) (by omega);have k4:=hcc (ms.length * 5+4) (by omega);have q:∀ i,i<5->(ms.length * 5+i) / 5=ms.length/\(ms.length * 5+i) % 5=i:=fun i hi=>by omega
 have q0:ms.length * 5 / 5=ms.length/\ms.length * 5 % 5=0:=by omega
 have em:X.ms[ms.length]?.getD ⟨0,false,0⟩=m:=by rw[e];simp
 unfold mkF at k0 k1 k2 k3 k4;rw[q0.1,q0.2,em]at k0;rw[(q 1 (by omega)).1,(q 1 (by omega)).2,em]at k1;rw[(q 2 (by omega)).1,(q 2 (by omega)).2,em]at k2;rw[(q 3 (by omega)).1,(q 3 (by omega)).2,e3]at k3;rw[(q 4 (by omega)).1,(q 4 (by omega)).2,e4]at k4;simp at k0 k1 k2 k3 k4;rw[e3,e4];have H:=hide h;have HE:=hide (And.intro e ev);clear h hcc q q0 em hJ e e3 e4 ev hlen;generalize (X.L (2 * ms.length)).length=n3 at *;generalize (X.L (2 * ms.length+1)).length=n4 at *;go_enter Tryz.func56,Tryz.ntmps56;go_wp2_with fail
 go_region
 go_wp2_with fail
 go_region
 obtain⟨R1,R2⟩:=H.out.popM HE.out.1 HE.out.2;have R1:=hide R1;have R2:=hide R2;go_wp2_with fail
 refine bodyPost_ret (v:=.agg #[.int .i64 m.kind,.bool m.scope,.int .i64 m.base,.slice a3 n3 c3,.slice a4 n4 c4]) (by simp[results,Tryz.results56,go_sem]) rfl ?_;refine⟨_,_,rfl,((R1.out.alloc _).alloc _).drew.drew,((R2.out.alloc _).alloc _).drew.drew,fun i hi=>?_⟩;have hil:i<2 * X.ms.length:=by have q:X.ms.length=ms.length+1:=(by rw[HE.out.1];simp);omega
 refine⟨(H.out.jls i hil).same fun k e=>?_,fun k e ho=>?_⟩
 ·have hkl:=((H.out.jls i hil).lt k e);have hne:k≠F.cb:=fun e2=>by have:=H.out.ok.cb.2;omega
  exact((Below.heap_alloc _ _ k (by simp;omega)).trans (Below.heap_alloc _ _ k (by simpa using hkl.2))).trans (Below.heap_setCell _ _ _ _ hne)
 ·rcases hi with rfl | rfl
  ·exact ho.2.1 e
  ·exact ho.2.2 e
end Go.Proofs.YtomcjennjcpdnaaGreatDoor
