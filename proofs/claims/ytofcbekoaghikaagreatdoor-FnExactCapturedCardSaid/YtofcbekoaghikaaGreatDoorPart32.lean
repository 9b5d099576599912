import Derived.Test.YtofcbekoaghikaaGreatDoorPart31
import Derived.Test.YtofcbekoaghikaaGreatDoorPart03
set_option linter.unusedSimpArgs false
set_option linter.unusedVariables false
set_option maxHeartbeats 4000000
set_option maxRecDepth 100000
namespace Go.Proofs.YtofcbekoaghikaaGreatDoor
open Go.RowKit
attribute [local go_sem] run_store_float
structure NodeM (w:World)(S:Nat->Prop)(b o:Nat)(n:NodeD):Prop where
 flat:∀ r,r<6->∃ v,w.cell? ⟨b,o+r,none⟩=some v/\Flat v
 refs:∃ a c,w.cell? ⟨b,o+6,none⟩=some (.slice a n.refs.length c)/\FlatRow w S a n.refs.length
 kids:∃ a c,w.cell? ⟨b,o+7,none⟩=some (.slice a n.kids.length c)/\FlatRow w S a n.kids.length
def NodesM (w:World)(S:Nat->Prop)(a:Option Addr)(l:List NodeD):Prop:=
 0<l.length->∃ b off,a=some ⟨b,off,none⟩/\S b/\∀ j,j<l.length->NodeM w S b (off+j * 8) (l[j]?.getD NodeD.z)
section
variable {S:Nat->Prop} {w w':World}
theorem NodeM.mk' {b o:Nat}{n:NodeD}(h:NodeM w S b o n)(k:Mk S w w'):NodeM w' S b o n where
 flat r hr:=by obtain⟨v,e,f⟩:=h.flat r hr;exact k.flat _ _ v e f
 refs:=by obtain⟨a,c,e,f⟩:=h.refs;exact⟨a,c,k.hdr _ _ _ _ _ e,f.mk k⟩
 kids:=by obtain⟨a,c,e,f⟩:=h.kids;exact⟨a,c,k.hdr _ _ _ _ _ e,f.mk k⟩
theorem NodesM.mk' {a:Option Addr}{l:List NodeD}(h:NodesM w S a l)(k:Mk S w w'):NodesM w' S a l:=fun hl=>by
 obtain⟨b,off,e,hs,hc⟩:=h hl;exact⟨b,off,e,hs,fun j hj=>(hc j hj).mk' k⟩
end
def mNode (n:NodeD):Nat:=6+n.refs.length+n.kids.length
theorem mk_set {S:Nat->Prop}{w w':World}{b o:Nat}(h:Mk S w w')(hs:S b)(h0:∃ v,w.cell? ⟨b,o,none⟩=some v/\Flat v)(v:Value)(fv:Flat v):Mk S w (w'.setCell ⟨b,o,none⟩ v):=by
 obtain⟨v0,e,f⟩:=h0;obtain⟨v1,e1,f1⟩:=h.flat _ _ v0 e f;exact h.trans (Mk.set hs e1 f1 v fv)
theorem markNodeS_any (a:Option Addr)(l:List NodeD)(c:Nat)(k:Int)(S:Nat->Prop)(w:World)(hs:NodesM w S a l)(hS:Soft w S)(h0:0<=k)(hk:k+sumAll mNode l<=1000000000000)(hn:l.length<=1000000000) :
  Calls Tryz.prog 33 #[.slice a l.length c,.int .i64 k] w fun e w'=>e=.returned (.int .i64 (k+sumAll mNode l))/\Mk S w w':=by
 have HSUM:Hid (∀ j,j<l.length->sumTo mNode l (j+1)=sumTo mNode l j+mNode (l[j]?.getD NodeD.z)/\sumTo mNode l (j+1)<=sumAll mNode l):=fun j hj=>⟨sumTo_succ mNode l j NodeD.z hj,sumTo_le _ _ _⟩;go_enter Tryz.func33,Tryz.ntmps33;go_wp2_with fail
 go_loopw [1,5] (fun q i wr=>∃(j:Nat),j<=l.length/\q=.int .i64 (k+sumTo mNode l j)/\i=.int .i64 j/\Mk S w wr) (fun _ i _=>l.length-(intOf i).toNat)
 case atStart=>exact⟨0,Nat.zero_le _,by simp[sumTo_zero],rfl,Mk.refl _ _⟩
 case round=>
  obtain⟨j,hj,rfl,rfl,hm⟩:=hrel;by_cases hlt:j<l.length
  ·obtain⟨hs1,hs2⟩:=unhide HSUM j hlt;obtain⟨b,off,rfl,hb,hcc⟩:=(hs.mk' hm) (by omega);have N:=hcc j hlt;clear hcc;generalize hx:l[j]?.getD NodeD.z=x at N hs1;clear hx;have he:mNode x=6+x.refs.length+x.kids.length:=rfl;obtain⟨kj,hkj⟩:∃ kj:Int,kj=k+sumTo mNode l j:=⟨_,rfl⟩;rw[<-hkj];have hkb:0<=kj/\kj+6+x.refs.length+x.kids.length<=1000000000000:=by omega
   have HE:Hid (kj+6+x.refs.length+x.kids.length=k+sumTo mNode l (j+1)):=by show _=_;omega
   obtain⟨hkb0,hkb1⟩:=hkb;clear he hs1 hs2 hkj hk;obtain⟨v0,hc0,f0⟩:=N.flat 0 (by omega);obtain⟨v1,hc1,f1⟩:=N.flat 1 (by omega);obtain⟨v2,hc2,f2⟩:=N.flat 2 (by omega);obtain⟨v3,hc3,f3⟩:=N.flat 3 (by omega);obtain⟨v4,hc4,f4⟩:=N.flat 4 (by omega);rw[Nat.add_zero]at hc0;have hf:=((hS.mk hm) b hb).2;have HN:=hide N;have HM:=hide hm;have HSo:=hide (hS.mk hm);clear N hm;have HB:Hid (kj+1+1+1+1+1<=1000000000000):=by show _<=_;omega
   go_wp2_with fail
   refine(markText_any _ _ HB.out).mono ?_;rintro e w1 ⟨s,rfl,hb1⟩;have m1:Mk S wr w1:=by
    refine Mk.trans ?_ (Mk.of_below hb1);refine mk_set ?_ hb ⟨v4,hc4,f4⟩ _ trivial;refine mk_set ?_ hb ⟨v3,hc3,f3⟩ _ trivial;refine mk_set ?_ hb ⟨v2,hc2,f2⟩ _ trivial;refine mk_set ?_ hb ⟨v1,hc1,f1⟩ _ trivial;refine mk_set ?_ hb ⟨v0,hc0,f0⟩ _ trivial;exact Mk.refl _ _
   obtain⟨v5,hc5,f5⟩:=(HN.out.mk' m1).flat 5 (by omega);have hf1:=((HSo.out.mk m1) b hb).2;obtain⟨ra,rc,hr,hrF⟩:=(HN.out.mk' m1).refs;have M1:=hide m1;clear hc0 hc1 hc2 hc3 hc4 f0 f1 f2 f3 f4 hf hb1 m1 v0 v1 v2 v3 v4;have HRF:=hide hrF;clear hrF;go_wp2_with fail
   have m2:Mk S wr (w1.setCell ⟨b,off+j * 8+5,none⟩ (.string s)):=M1.out.trans (Mk.set hb hc5 f5 _ trivial);refine(markIntS_any ra _ rc _ S _ (HRF.out.mk (Mk.set hb hc5 f5 (.string s) trivial)) (HSo.out.mk m2) (by omega) (by omega)).mono ?_;rintro e w2 ⟨rfl,m3⟩;have m4:=m2.trans m3;obtain⟨ka,kc,hr2,hkF⟩:=(HN.out.mk' m4).kids;clear hc5 f5 v5 hr m3 m2 M1 HRF hf1;have HKF:=hide hkF;have M4:=hide m4;clear hkF m4;go_wp2_with fail
   refine(markIntS_any ka _ kc _ S _ HKF.out (HSo.out.mk M4.out) (by omega) (by omega)).mono ?_;rintro e w3 ⟨rfl,m5⟩;have M5:=hide (HM.out.trans (M4.out.trans m5));clear m5 hr2;go_wp2_with fail
   go_roundw
   case rel=>exact⟨j+1,by omega,by rw[<-HE.out];go_num,by go_num,M5.out⟩
   case measure=>simp[intOf];omega
  ·have HK:Hid (j=l.length):=by show _=_;omega
   go_wp2_with fail
   go_ret;rw[HK.out,sumTo_len];exact⟨rfl,hm⟩
structure FnM (w:World)(S:Nat->Prop)(b o:Nat)(n:FnD):Prop where
 flat:∀ r,r<4->∃ v,w.cell? ⟨b,o+r,none⟩=some v/\Flat v
 vars:∃ a c,w.cell? ⟨b,o+4,none⟩=some (.slice a n.vars.length c)/\FlatRow w S a n.vars.length
 ups:∃ a c,w.cell? ⟨b,o+5,none⟩=some (.slice a n.ups.length c)/\FlatRow w S a (n.ups.length * 2)
 nodes:∃ a c,w.cell? ⟨b,o+6,none⟩=some (.slice a n.nodes.length c)/\NodesM w S a n.nodes
def FnsM (w:World)(S:Nat->Prop)(a:Option Addr)(l:List FnD):Prop:=
 0<l.length->∃ b off,a=some ⟨b,off,none⟩/\S b/\∀ j,j<l.length->FnM w S b (off+j * 7) (l[j]?.getD FnD.z)
section
variable {S:Nat->Prop} {w w':World}
theorem FnM.mk' {b o:Nat}{n:FnD}(h:FnM w S b o n)(k:Mk S w w'):FnM w' S b o n where
 flat r hr:=by obtain⟨v,e,f⟩:=h.flat r hr;exact k.flat _ _ v e f
 vars:=by obtain⟨a,c,e,f⟩:=h.vars;exact⟨a,c,k.hdr _ _ _ _ _ e,f.mk k⟩
 ups:=by obtain⟨a,c,e,f⟩:=h.ups;exact⟨a,c,k.hdr _ _ _ _ _ e,f.mk k⟩
 nodes:=by obtain⟨a,c,e,f⟩:=h.nodes;exact⟨a,c,k.hdr _ _ _ _ _ e,f.mk' k⟩
theorem FnsM.mk' {a:Option Addr}{l:List FnD}(h:FnsM w S a l)(k:Mk S w w'):FnsM w' S a l:=fun hl=>by
 obtain⟨b,off,e,hs,hc⟩:=h hl;exact⟨b,off,e,hs,fun j hj=>(hc j hj).mk' k⟩
theorem flat_ints {a:Option Addr}{l:List Int}(h:IntsAt w S a l):FlatRow w S a l.length:=fun hl=>by
 obtain⟨b,off,e,hs,hc⟩:=h.2 hl;exact⟨b,off,e,hs,fun j hj=>⟨_,hc j hj,trivial⟩⟩
theorem flat_strs {a:Option Addr}{l:List ByteArray}(h:StrsAt w S a l):FlatRow w S a l.length:=fun hl=>by
 obtain⟨b,off,e,hs,hc⟩:=h.2 hl;exact⟨b,off,e,hs,fun j hj=>⟨_,(hc j hj).2,trivial⟩⟩
theorem flat_ups {a:Option Addr}{l:List (Bool×Int)}(h:UpsAt w S a l):FlatRow w S a (l.length * 2):=fun hl=>by
 obtain⟨b,off,e,hs,hc⟩:=h.2 (by omega);refine⟨b,off,e,hs,fun j hj=>?_⟩;obtain⟨h1,h2⟩:=hc (j / 2) (by omega);rcases Nat.mod_two_eq_zero_or_one j with e | e
 ·rw[show off+j / 2 * 2=off+j by omega]at h1;exact⟨_,h1,trivial⟩
 ·rw[show off+j / 2 * 2+1=off+j by omega]at h2;exact⟨_,h2,trivial⟩
theorem nodesM_of {a:Option Addr}{l:List NodeD}(h:NodesAt w S a l):NodesM w S a l:=fun hl=>by
 obtain⟨b,off,e,hs,hc⟩:=h.2 hl;refine⟨b,off,e,hs,fun j hj=>?_⟩;have N:=hc j hj;obtain⟨a1,c1,e1,i1⟩:=N.refs;obtain⟨a2,c2,e2,i2⟩:=N.kids;refine⟨fun r hr=>?_,⟨a1,c1,e1,flat_ints i1⟩,⟨a2,c2,e2,flat_ints i2⟩⟩
 match r,hr with
 | 0,_=>exact⟨_,N.kind,trivial⟩
 | 1,_=>exact⟨_,N.line,trivial⟩
 | 2,_=>exact⟨_,N.op,trivial⟩
 | 3,_=>exact⟨_,N.num,trivial⟩
 | 4,_=>exact⟨_,N.flt,trivial⟩
 | 5,_=>exact⟨_,N.str,trivial⟩
theorem fnsM_of {a:Option Addr}{l:List FnD}(h:FnsAt w S a l):FnsM w S a l:=fun hl=>by
 obtain⟨b,off,e,hs,hc⟩:=h.2 hl;refine⟨b,off,e,hs,fun j hj=>?_⟩;have N:=hc j hj;obtain⟨a1,c1,e1,i1⟩:=N.vars;obtain⟨a2,c2,e2,i2⟩:=N.ups;obtain⟨a3,c3,e3,i3⟩:=N.nodes;refine⟨fun r hr=>?_,⟨a1,c1,e1,flat_strs i1⟩,⟨a2,c2,e2,flat_ups i2⟩,⟨a3,c3,e3,nodesM_of i3⟩⟩
 match r,hr with
 | 0,_=>exact⟨_,N.name,trivial⟩
 | 1,_=>exact⟨_,N.line,trivial⟩
 | 2,_=>exact⟨_,N.params,trivial⟩
 | 3,_=>exact⟨_,N.rest,trivial⟩
end
def mFn (n:FnD):Nat:=4+n.vars.length+2 * n.ups.length+sumAll mNode n.nodes
theorem len_le_sumAll {α:Type}{f:α->Nat}(h:∀ x,1<=f x):∀ l:List α,l.length<=sumAll f l
 | []=>Nat.zero_le _
 | x::l=>by have:=len_le_sumAll h l;have:=h x;simp[sumAll]at *;omega
theorem sumAll_six {α:Type}(f g:α->Nat)(h:∀ x,g x<=6+6 * f x):∀ l:List α,sumAll g l<=6 * (l.length+sumAll f l)
 | []=>by simp[sumAll]
 | x::l=>by have:=sumAll_six f g h l;have:=h x;simp[sumAll]at *;omega
theorem mNodes_le (l:List NodeD):sumAll mNode l<=6 * tNodes l:=sumAll_six tNode mNode (fun x=>by unfold mNode tNode;omega) l
theorem mFns_le (l:List FnD):sumAll mFn l<=6 * tFns l:=sumAll_six tFn mFn (fun x=>by
 have:=mNodes_le x.nodes;unfold mFn tFn tStrs;omega) l
theorem markFnS_any (a:Option Addr)(l:List FnD)(c:Nat)(k:Int)(S:Nat->Prop)(w:World)(hs:FnsM w S a l)(hS:Soft w S)(h0:0<=k)(hk:k+sumAll mFn l<=1000000000)(hn:l.length<=1000000000) :
  Calls Tryz.prog 20 #[.slice a l.length c,.int .i64 k] w fun e w'=>e=.returned (.int .i64 (k+sumAll mFn l))/\Mk S w w':=by
 have HSUM:Hid (∀ j,j<l.length->sumTo mFn l (j+1)=sumTo mFn l j+mFn (l[j]?.getD FnD.z)/\sumTo mFn l (j+1)<=sumAll mFn l):=fun j hj=>⟨sumTo_succ mFn l j FnD.z hj,sumTo_le _ _ _⟩;go_enter Tryz.func20,Tryz.ntmps20;go_wp2_with fail
 go_loopw [1,5] (fun q i wr=>∃(j:Nat),j<=l.length/\q=.int .i64 (k+sumTo mFn l j)/\i=.int .i64 j/\Mk S w wr) (fun _ i _=>l.length-(intOf i).toNat)
 case atStart=>exact⟨0,Nat.zero_le _,by simp[sumTo_zero],rfl,Mk.refl _ _⟩
 case round=>
  obtain⟨j,hj,rfl,rfl,hm⟩:=hrel;by_cases hlt:j<l.length
  ·obtain⟨hs1,hs2⟩:=unhide HSUM j hlt;obtain⟨b,off,rfl,hb,hcc⟩:=(hs.mk' hm) (by omega);have N:=hcc j hlt;clear hcc;generalize hx:l[j]?.getD FnD.z=x at N hs1;clear hx;have he:mFn x=4+x.vars.length+2 * x.ups.length+sumAll mNode x.nodes:=rfl;obtain⟨kj,hkj⟩:∃ kj:Int,kj=k+sumTo mFn l j:=⟨_,rfl⟩;rw[<-hkj];have hkb:0<=kj/\kj+4+x.vars.length+2 * x.ups.length+sumAll mNode x.nodes<=1000000000:=by omega
   have HE:Hid (kj+4+x.vars.length+2 * x.ups.length+sumAll mNode x.nodes=k+sumTo mFn l (j+1)):=by show _=_;omega
   obtain⟨hkb0,hkb1⟩:=hkb;have hnl:x.nodes.length<=sumAll mNode x.nodes:=len_le_sumAll (fun x=>by unfold mNode;omega) x.nodes;have HNL:Hid (x.nodes.length<=1000000000):=by show _<=_;omega
   clear he hs1 hs2 hkj hk hnl;have HSo:=hide (hS.mk hm);have HN:=hide N;have HM:=hide hm;clear N hm;have HB:Hid (kj<=1000000000000):=by show _<=_;omega
   go_wp2_with fail
   refine(markText_any _ _ HB.out).mono ?_;rintro e w1 ⟨s,rfl,hb1⟩;have m1:Mk S wr w1:=Mk.of_below hb1;obtain⟨v0,hc0,f0⟩:=(HN.out.mk' m1).flat 0 (by omega);obtain⟨v1,hc1,f1⟩:=(HN.out.mk' m1).flat 1 (by omega);obtain⟨v2,hc2,f2⟩:=(HN.out.mk' m1).flat 2 (by omega);obtain⟨v3,hc3,f3⟩:=(HN.out.mk' m1).flat 3 (by omega);rw[Nat.add_zero]at hc0;obtain⟨ra,rc,hr,hrF⟩:=(HN.out.mk' m1).vars;have hf1:=((HSo.out.mk m1) b hb).2;have M1:=hide m1;have HRF:=hide hrF;clear hrF m1 hb1;go_wp2_with fail
   have m2:Mk S w1 ((((w1.setCell ⟨b,off+j * 7,none⟩ (.string s)).setCell ⟨b,off+j * 7+1,none⟩ (.int .i64 (kj+1))).setCell ⟨b,off+j * 7+2,none⟩ (.int .i64 (kj+1+1))).setCell ⟨b,off+j * 7+3,none⟩ (.bool (decide ((kj+1+1+1) % 3=0)))):=by
    refine mk_set ?_ hb ⟨v3,hc3,f3⟩ _ trivial;refine mk_set ?_ hb ⟨v2,hc2,f2⟩ _ trivial;refine mk_set ?_ hb ⟨v1,hc1,f1⟩ _ trivial;refine mk_set ?_ hb ⟨v0,hc0,f0⟩ _ trivial;exact Mk.refl _ _
   have M2:=hide (M1.out.trans m2);refine(markStringS_any ra _ rc _ S _ (HRF.out.mk m2) (HSo.out.mk M2.out) (by omega) (by omega)).mono ?_;rintro e w2 ⟨rfl,m3⟩;have m4:=M2.out.trans m3;obtain⟨ka,kc,hr2,hkF⟩:=(HN.out.mk' m4).ups;clear hc0 f0 v0 hc1 f1 v1 hc2 f2 v2 hc3 f3 v3 hr m3 m2 M1 M2 HRF hf1;have HKF:=hide hkF;have M4:=hide m4;clear hkF m4;go_wp2_with fail
   refine(markUpS_any ka _ kc _ S _ HKF.out (HSo.out.mk M4.out) (by omega) (by omega)).mono ?_;rintro e w3 ⟨rfl,m5⟩;have m6:=M4.out.trans m5;obtain⟨na,nc,hr3,hnF⟩:=(HN.out.mk' m6).nodes;have HNF:=hide hnF;have M6:=hide m6;clear m5 hr2 m6 HKF hnF M4;go_wp2_with fail
   refine(markNodeS_any na _ nc _ S _ HNF.out (HSo.out.mk M6.out) (by omega) (by omega) HNL.out).mono ?_;rintro e w4 ⟨rfl,m7⟩;have M7:=hide (HM.out.trans (M6.out.trans m7));clear m7 hr3;go_wp2_with fail
   go_roundw
   case rel=>exact⟨j+1,by omega,by rw[<-HE.out];go_num,by go_num,M7.out⟩
   case measure=>simp[intOf];omega
  ·have HK:Hid (j=l.length):=by show _=_;omega
   go_wp2_with fail
   go_ret;rw[HK.out,sumTo_len];exact⟨rfl,hm⟩
theorem markUnit_any (a:Option Addr)(l:List FnD)(c:Nat)(k:Int)(S:Nat->Prop)(w:World)(hs:FnsM w S a l)(hS:Soft w S)(h0:0<=k)(hk:k+sumAll mFn l<=1000000000)(hn:l.length<=1000000000) :
  Calls Tryz.prog 10 #[.agg #[.slice a l.length c],.int .i64 k] w fun e w'=>e=.returned (.int .i64 (k+sumAll mFn l))/\Mk S w w':=by
 have hbA:Below w.heap.size w (w.alloc (.cells #[.slice a l.length c] 30)):=(Below.refl _ _).alloc (Nat.le_refl _) _;have HBA:=hide hbA;clear hbA;go_enter Tryz.func10,Tryz.ntmps10;go_wp2_with fail
 refine(markFnS_any a l c k S _ (hs.mk' (Mk.of_below HBA.out)) (hS.mk (Mk.of_below HBA.out)) h0 hk hn).mono ?_;rintro e w1 ⟨rfl,m1⟩;go_wp2_with fail
 go_ret;exact⟨rfl,(Mk.of_below HBA.out).trans m1⟩
end Go.Proofs.YtofcbekoaghikaaGreatDoor
