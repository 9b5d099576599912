import Derived.Test.YtomcjennjcpdnaaGreatDoorPart33
set_option linter.unusedSimpArgs false
set_option linter.unusedVariables false
set_option maxHeartbeats 8000000
namespace Go.Proofs.YtomcjennjcpdnaaGreatDoor
set_option maxRecDepth 100000
set_option maxHeartbeats 4000000
open Go.RowKit
attribute [local go_sem] run_store_float
theorem leave8 (F:CF)(X:CX)(nx:Bool)(w:World)(h:CC F X w)(hl:hasLoop X.ms)(hm:MOrd X.ms X.top)(t0:0<=X.top)(t1:X.top<=2000000)(m1:X.ms.length<=2000000)(hn:X.n+8000000<=2400000000000)(hnk:X.nk<=X.n) :
  Calls Tryz.prog 86 #[.pointer (some ⟨F.cb,0,none⟩),.bool nx] w (CPost F X w (.tuple #[]) X.top X.home 7999990):=by
 obtain⟨i0,hi,hz0,hz1,hz2⟩:=info_of info_i;have c11:=h.c11;have c16:=h.c16;obtain⟨am,cm,em,_,hmx⟩:=h.mks.form;rw[em]at c16;obtain⟨M,hM⟩:∃ M,X.ms.length=M+1:=by obtain⟨q,hq,_⟩:=hl;exact⟨X.ms.length-1,by omega⟩
 rw[hM]at c16 m1;have H:=hide h;have HM:=hide hM;have HO:=hide hm;have HLP:=hide hl;have IV0:Hid (LvI X M X):=by
  show LvI _ _ _;obtain⟨q,hq,hk⟩:=hl;exact⟨rfl,rfl,⟨q,by omega,hk⟩,t0,Int.le_refl _,fun q hq hk=>hm.low q (by omega) hk,Nat.le_refl _,by omega,hnk⟩
 clear h hM hm hl em hmx;go_enter Tryz.func86,Tryz.ntmps86;go_wp2_with fail
 go_loopw [5] (fun i wr=>∃(k:Nat) (X1:CX),k<=M/\i=.int .i64 k/\CC F X1 wr/\Fr X.O X1.O w wr/\LvI X k X1) (fun i _=>(intOf i).toNat)
 case atStart=>exact⟨M,X,Nat.le_refl _,rfl,H.out,Fr.refl,IV0.out⟩
 case round=>
  obtain⟨k,X1,hk,rfl,C1,f1,I1⟩:=hrel;have hkl:k<X1.ms.length:=by rw[I1.ms,HM.out];omega
  obtain⟨g,c,a3,n3,c3,a4,n4,c4,ev,d16,hgl,hgc,hml,e3,e4,k0,k1,k2,k3,k4,hz,en3,en4⟩:=C1.mkc hkl;rw[I1.ms]at k0 k1 k2;have hbs:=I1.bs k (Nat.le_refl _);have hlp:=hide I1.lp;have hor:=hide (fun q (hq:q<k) hk1 hk2=>HO.out.ord q k hq (by rw[HM.out];omega) hk1 hk2);have hpos:(mkQ X.ms k).kind≠4->0<k:=fun h4=>by
   obtain⟨q,hq,hk⟩:=I1.lp;rcases Nat.eq_zero_or_pos k with rfl | h
   ·obtain rfl:q=0:=by omega
    exact absurd hk h4
   ·exact h
  have BN:Hid (X1.n+2000000<=2400000000000):=by show _<=_;have:=I1.n2;have:=I1.t0;have:=I1.t1;have:=HM.out;omega
  by_cases h4:(mkQ X.ms k).kind=4
  case neg=>
   obtain⟨k',rfl⟩:∃ k',k=k'+1:=⟨k-1,by have:=hpos h4;omega⟩;have hne4:((mkQ X.ms (k'+1)).kind != 4)=true:=by simp;exact h4
   have H4:=hide h4;by_cases h2:(mkQ X.ms (k'+1)).kind=2
   ·have hq2:((mkQ X.ms (k'+1)).kind==2)=true:=by simp[h2]
    have R1:=hide (And.intro C1 (And.intro f1 I1));clear C1 f1 I1 h2 h4 hz ev en3 en4 hbs hpos;generalize hmq:mkQ X.ms (k'+1)=m at *;have HQ:=hide hmq;clear hmq;go_wp2_with fail
    refine(put_c F X1 _ _ _ _ _ _ (R1.out.1.alloc _) (by have:=BN.out;omega) R1.out.2.2.nk).mono ?_;rintro e w2 ⟨X2,rfl,C2,f2,s2,_⟩;have R2:=hide (And.intro C2 (And.intro ((R1.out.2.1.alloc _).trans f2) s2));clear C2 f2 s2;go_wp2_with fail
    go_roundw
    case rel=>
     obtain⟨C2,f2,s2⟩:=R2.out;have I1:=R1.out.2.2;exact⟨k',X2,by omega,by go_num,C2,f2,I1.next (by rw[HQ.out];exact H4.out) s2.ms s2.home (by rw[s2.top];exact I1.t0) (by rw[s2.top];exact Int.le_refl _) (fun q hq hk=>by rw[s2.top];exact(I1.bs q (by omega) hk).2) s2.n1 (by rw[s2.top];have:=s2.n2;omega) s2.nk⟩
    case measure=>simp[intOf]
   ·have hq2:((mkQ X.ms (k'+1)).kind==2)=false:=by simp;exact h2
    obtain⟨hb0,hb1⟩:=hbs h2;obtain⟨bb,hbb⟩:=Int.eq_ofNat_of_zero_le hb0;obtain⟨tt,htt⟩:=Int.eq_ofNat_of_zero_le I1.t0;have hbt:bb<=tt:=by omega
    have htl:tt<=2000000:=by have:=I1.t1;omega
    have ORD:Hid (∀ q,q<=k'->(mkQ X.ms q).kind≠2->(mkQ X.ms q).base<=bb):=fun q hq hk=>by have:=hor.out q (by omega) hk h2;omega
    have hnO:¬X1.O wr.heap.size:=fun ho=>by have:=(C1.low _ ho).2;omega
    have R1:=hide (And.intro C1 (And.intro f1 (And.intro I1 htt)));rw[hbb]at k2;clear C1 f1 I1 h2 h4 hz ev en3 en4 hbs hpos hb0 hb1 htt hor;have HQ:Hid ((mkQ X.ms (k'+1)).kind≠4):=H4;have NX:Hid (∀(w5:World) (X5:CX) (d:Nat),d<=1->CC F X5 w5->Fr X.O X5.O w w5->St X1 X5 X1.top X1.home d->Calls Tryz.prog 58 #[.pointer (some ⟨F.cb,0,none⟩),.int .i64 bb] w5 (fun e w6=>∃ X6,e=.returned (.tuple #[])/\CC F X6 w6/\Fr X.O X6.O w w6/\LvI X k' X6)):=fun w5 X5 d hd C5 f5 s5=>by
     obtain⟨C1,f1,I1,htt⟩:=R1.out;refine(drop_any F X5 tt w5 C5 (by rw[s5.top,htt]) bb (by omega) (by omega) (by have:=s5.n2;have:=BN.out;omega) s5.nk).mono ?_;rintro e w6 ⟨X6,rfl,C6,f6,s6⟩;exact⟨X6,rfl,C6,f5.trans f6,I1.next HQ.out (s6.ms.trans s5.ms) (s6.home.trans s5.home) (by rw[s6.top];omega) (by rw[s6.top,htt];omega) (fun q hq hk=>by rw[s6.top];exact ORD.out q hq hk) (Nat.le_trans s5.n1 s6.n1) (by rw[s6.top,htt];have:=s5.n2;have:=s6.n2;omega) s6.nk⟩
    cases hsc:(mkQ X.ms (k'+1)).scope
    ·rw[hsc]at k1;generalize mkQ X.ms (k'+1)=m at *;go_wp2_with fail
     refine(NX.out _ X1 0 (by omega) (R1.out.1.alloc _) (R1.out.2.1.alloc _) (St.refl R1.out.2.2.1.nk)).mono ?_;rintro e w6 ⟨X6,rfl,C6,f6,I6⟩;have R6:=hide (And.intro C6 (And.intro f6 I6));clear C6 f6 I6;go_wp2_with fail
     go_roundw
     case rel=>exact⟨k',X6,by omega,by go_num,R6.out.1,R6.out.2.1,R6.out.2.2⟩
     case measure=>simp[intOf]
    ·rw[hsc]at k1;generalize mkQ X.ms (k'+1)=m at *;go_wp2_with fail
     refine(put_c F X1 _ _ _ _ _ _ (R1.out.1.alloc _) (by have:=BN.out;omega) R1.out.2.2.1.nk).mono ?_;rintro e w2 ⟨X2,rfl,C2,f2,s2,_⟩;have b2:w2.cell? ⟨wr.heap.size,2,none⟩=some (.int .i64 bb):=by
      rw[World.cell?_of_block (a:=⟨wr.heap.size,2,none⟩) (f2.block wr.heap.size (by simp) hnO)];simp[go_sem]
     have R2:=hide (And.intro C2 (And.intro ((R1.out.2.1.alloc _).trans f2) s2));clear C2 f2 s2;go_wp2_with fail
     refine(NX.out _ X2 1 (by omega) R2.out.1 R2.out.2.1 R2.out.2.2).mono ?_;rintro e w6 ⟨X6,rfl,C6,f6,I6⟩;have R6:=hide (And.intro C6 (And.intro f6 I6));clear C6 f6 I6;go_wp2_with fail
     go_roundw
     case rel=>exact⟨k',X6,by omega,by go_num,R6.out.1,R6.out.2.1,R6.out.2.2⟩
     case measure=>simp[intOf]
  case pos=>
   have h2:(mkQ X.ms k).kind≠2:=by omega
   have hne4:((mkQ X.ms k).kind != 4)=false:=by simp[h4]
   obtain⟨hb0,hb1⟩:=hbs h2;obtain⟨bb,hbb⟩:=Int.eq_ofNat_of_zero_le hb0;obtain⟨tt,htt⟩:=Int.eq_ofNat_of_zero_le I1.t0;have htl:tt<=2000000:=by have:=I1.t1;omega
   have hbt:bb<=tt:=by omega
   have R1:=hide (And.intro C1 (And.intro f1 (And.intro I1 (And.intro htt hb1))));rw[hbb]at k2;clear C1 f1 I1 h2 h4 hz ev en3 en4 hbs hpos hb0 hb1 hor;generalize mkQ X.ms k=m at *;go_wp2_with fail
   refine(drop_any F X1 tt _ R1.out.1 htt bb (by omega) (by omega) (by have:=BN.out;omega) R1.out.2.2.1.nk).mono ?_;rintro e w2 ⟨X2,rfl,C2,f2,s2⟩;have R2:=hide (And.intro C2 (And.intro (R1.out.2.1.trans f2) s2));clear C2 f2 s2;go_wp2_with fail
   refine(put_any F X2 _ _ _ _ _ _ R2.out.1 (by have:=BN.out;have:=R2.out.2.2.n2;omega)).mono ?_;rintro e w3 ⟨iv,is,O,rfl,C3,f3⟩;obtain⟨X3,hX3⟩:∃ X3:CX,X3={ X2 with n:=X2.n+1,iv:=iv,is:=is,O:=O }:=⟨_,rfl⟩;rw[<-hX3]at C3;have hX3O:Hid (X3.O=O):=by show _=_;rw[hX3]
   have hX3n:Hid (X3.n=X2.n+1):=by show _=_;rw[hX3]
   have hX3m:X3.ms=X2.ms:=by rw[hX3]
   have hX3t:Hid (X3.home=X2.home/\X3.nk=X2.nk/\X3.J=X2.J/\X3.L=X2.L):=by show _/\_;rw[hX3];exact⟨rfl,rfl,rfl,rfl⟩
   have hL2:Hid (∀ i,i<2 * X2.ms.length->(X2.L i).length<=X2.n):=fun i hi=>(R2.out.1.inL i hi).1;have hk3:k<X3.ms.length:=by rw[hX3m,R2.out.2.2.ms,R1.out.2.2.1.ms,HM.out];omega
   obtain⟨w3',hw3⟩:∃ w3',w3'=w3:=⟨_,rfl⟩;subst hw3;obtain⟨g,c,a3,n3,c3,a4,n4,c4,ev,d16,hgl,hgc,hml,e3,e4,k0,k1,k2,k3,k4,hz,en3,en4⟩:=C3.mkc hk3;have EN3:=hide en3;have EN4:=hide en4;have E3:=hide e3;have E4:=hide e4;have EV:=hide ev;clear en3 en4 e3 e4 ev;obtain⟨W,hW⟩:∃ W:World,W=(w3'.alloc (.cells #[.int .i64 (X2.n:Int)] 3)).drew:=⟨_,rfl⟩;have HC:Hid (CC F X3 W):=by show CC _ _ _;rw[hW];exact(C3.alloc _).drew
   have HF:Hid (Fr X.O X3.O w W):=by show Fr _ _ _ _;rw[hW,hX3O.out];exact((R2.out.2.1.trans f3).alloc _).drew
   have hSz:Hid (W.heap.size=w3'.heap.size+1):=by show _=_;rw[hW];simp
   have HN:Hid (∀ j u,([.int .i64 (X2.n:Int)]:List Value)[j]? = some u->W.cell? ((⟨w3'.heap.size,0,none⟩:Addr).add j)=some u):=by
    show ∀ j u,_;rw[hW];intro j u hj;rcases j with _ | _<;>simp at hj<;>subst hj<;>simp[Addr.add,go_sem]
   have HW:=hide hW;have hB1:=C3.b1;have hcb3:=C3.cbl;have HB3:Hid (n3<=X2.n/\X2.n<=2450000000000):=⟨by rw[EN3.out,hX3t.out.2.2.2];exact hL2.out _ (by rw[<-hX3m];omega),by have:=R2.out.2.2.n2;have:=BN.out;omega⟩;have HB4:Hid (n4<=X2.n/\X2.n<=2450000000000):=⟨by rw[EN4.out,hX3t.out.2.2.2];exact hL2.out _ (by rw[<-hX3m];omega),by have:=R2.out.2.2.n2;have:=BN.out;omega⟩;have FINAL:Hid (∀(X4:CX) (w5:World) (O4:Nat->Prop),CC F X4 w5->Fr X3.O O4 W w5->X4.O=O4->X4.n=X3.n->X4.ms=X3.ms->X4.home=X3.home->X4.nk=X3.nk->CPost F X w (.tuple #[]) X.top X.home 7999990 (.returned (.tuple #[])) (w5.setCell ⟨F.cb,11,none⟩ (.int .i64 X.top))):=fun X4 w5 O4 C4 f4 eO en ems eh ek=>by
    obtain⟨C1,f1,I1,htt,hb1⟩:=R1.out;obtain⟨C2,f2,s2⟩:=R2.out;subst eO;exact⟨_,rfl,C4.top X.top,(HF.out.trans f4).set (a:=⟨F.cb,11,none⟩) C4.ocb _,rfl,by show X4.home=_;rw[eh,hX3t.out.1,s2.home,I1.home],by show X4.ms=_;rw[ems,hX3m,s2.ms,I1.ms],by show X.n<=X4.n;rw[en,hX3n.out];have:=s2.n1;have:=I1.n1;omega,by show X4.n<=_;rw[en,hX3n.out];have:=s2.n2;have:=I1.n2;have:=HM.out;omega,by show X4.nk<=X4.n;rw[ek,en,hX3t.out.2.1,hX3n.out];have:=s2.nk;omega⟩
   clear C3 f3 hX3 hW hX3m;cases nx
   ·skip
    have HJ:Hid ((X3.J (2 * k))=.slice a3 n3 c3):=by show _=_;exact E3.out
    have OWN:Hid (W.ownsRow F.B1 3 1 (.slice a3 n3 c3) n3 ((List.range (n3 * 1)).map (fun j=>.int .i64 ((X3.L (2 * k))[j]?.getD 0)))):=by
     show World.ownsRow _ _ _ _ _ _ _;have:=(HC.out.jls (2 * k) (by omega)).owns;rw[HJ.out,<-EN3.out]at this;exact this
    have NX:Hid (∀ w3,W.grownBy w3 (Value.slice a3 n3 c3).ownBlock->w3.cell? ⟨g,k * 5+3,none⟩=some (.slice a3 n3 c3)/\w3.frozen? ⟨g,k * 5+3,none⟩=false/\g<w3.heap.size/\w3.cell? ⟨F.cb,16,none⟩=some (.slice (some ⟨g,0,none⟩) X3.ms.length c)):=fun w3 hg=>by
     have hb:=hg.block g (by rw[hSz.out];omega) (fun e=>HC.out.dis.mj (2 * k) (by omega) g (by rw[EV.out];rfl) (by rw[HJ.out];exact e.symm));have hcW:W.cell? ⟨g,k * 5+3,none⟩=some (.slice a3 n3 c3):=by rw[HW.out];exact(World.cell?_of_block (a:=⟨g,k * 5+3,none⟩) (Below.heap_alloc w3' _ g hgl)).trans k3
     have hzW:W.frozen? ⟨g,k * 5+3,none⟩=false:=by rw[HW.out];exact(World.frozen?_of_block (a:=⟨g,k * 5+3,none⟩) (Below.heap_alloc w3' _ g hgl)).trans (hz _)
     have h1:=(World.cell?_of_block (a:=⟨g,k * 5+3,none⟩) hb).trans hcW;exact⟨h1,(World.frozen?_of_block (a:=⟨g,k * 5+3,none⟩) hb).trans hzW,World.block_lt_of_cell? _ _ h1,by
      have hbx:w3.rowIs F.cb 52 17 (ccV F X3):=HC.out.box.of_block (hg.block F.cb HC.out.cbl (fun e=>by have:=HC.out.dis.j1 (2 * k) (by omega) _ (by rw[HJ.out];exact e.symm);have:=HC.out.ok.cb.2;omega));rw[<-EV.out];exact hbx.cell (i:=16) (by omega)⟩
    have hzz:=hz (k * 5+3);clear hz;go_wp2_with fail
    go_region_law ((rw[<-HW.out];refine step_append_lies _ (by rfl) (.tmp 92) (.tmp 94) 26 (by rfl) F.B1 3 i0 (.int .i64 0) 1 8 Tryz.underlying26 hi hz0 hz1 hz2 rfl (by decide) (.slice a3 n3 c3) n3 _ rfl OWN.out ⟨w3'.heap.size,0,none⟩ 1 1 [.int .i64 (X2.n:Int)] rfl rfl HN.out (by intro u hu;simp at hu;subst hu;rfl) (by decide) (by unfold maxLen;have:=HB3.out;omega) (by have:=HB3.out;omega) (by rw[hSz.out];omega) (w3'.heap.size+1) hSz.out ?_;intro g3 cap3 w4 hown3 hgrow3 hat3 hlt3;obtain⟨y1,y2,y3,y4⟩:=NX.out _ hgrow3))
    all_goals
     have R4:=hide (CC.jump (i:=2 * k) (x:=X2.n) HC.out (by omega) ⟨by omega,by rw[hX3n.out];omega,by rw[<-EN3.out,hX3n.out];have:=HB3.out;omega⟩ EV.out (by rw[HJ.out];exact hgrow3) (by rw[HJ.out];exact hat3.elim .inl fun e=>.inr (by rw[hSz.out,e];exact Nat.le_refl _)) (by
      rw[<-EN3.out];exact OwnF.push rfl hown3 (jl_push (X3.L (2 * k)) X2.n EN3.out).1 (jl_push (X3.L (2 * k)) X2.n EN3.out).2))
     rw[show(2 * k) / 2 * 5+3+(2 * k) % 2=k * 5+3 by omega,<-EN3.out]at R4;clear hown3 hgrow3 hat3;have c11':=R4.out.1.c11;have z11':=R4.out.1.fz 11;go_wp2_with fail
     go_end0
     exact FINAL.out _ _ _ R4.out.1 R4.out.2 rfl rfl rfl rfl rfl
   ·skip
    have HJ:Hid ((X3.J (2 * k+1))=.slice a4 n4 c4):=by show _=_;exact E4.out
    have OWN:Hid (W.ownsRow F.B1 3 1 (.slice a4 n4 c4) n4 ((List.range (n4 * 1)).map (fun j=>.int .i64 ((X3.L (2 * k+1))[j]?.getD 0)))):=by
     show World.ownsRow _ _ _ _ _ _ _;have:=(HC.out.jls (2 * k+1) (by omega)).owns;rw[HJ.out,<-EN4.out]at this;exact this
    have NX:Hid (∀ w3,W.grownBy w3 (Value.slice a4 n4 c4).ownBlock->w3.cell? ⟨g,k * 5+4,none⟩=some (.slice a4 n4 c4)/\w3.frozen? ⟨g,k * 5+4,none⟩=false/\g<w3.heap.size/\w3.cell? ⟨F.cb,16,none⟩=some (.slice (some ⟨g,0,none⟩) X3.ms.length c)):=fun w3 hg=>by
     have hb:=hg.block g (by rw[hSz.out];omega) (fun e=>HC.out.dis.mj (2 * k+1) (by omega) g (by rw[EV.out];rfl) (by rw[HJ.out];exact e.symm));have hcW:W.cell? ⟨g,k * 5+4,none⟩=some (.slice a4 n4 c4):=by rw[HW.out];exact(World.cell?_of_block (a:=⟨g,k * 5+4,none⟩) (Below.heap_alloc w3' _ g hgl)).trans k4
     have hzW:W.frozen? ⟨g,k * 5+4,none⟩=false:=by rw[HW.out];exact(World.frozen?_of_block (a:=⟨g,k * 5+4,none⟩) (Below.heap_alloc w3' _ g hgl)).trans (hz _)
     have h1:=(World.cell?_of_block (a:=⟨g,k * 5+4,none⟩) hb).trans hcW;exact⟨h1,(World.frozen?_of_block (a:=⟨g,k * 5+4,none⟩) hb).trans hzW,World.block_lt_of_cell? _ _ h1,by
      have hbx:w3.rowIs F.cb 52 17 (ccV F X3):=HC.out.box.of_block (hg.block F.cb HC.out.cbl (fun e=>by have:=HC.out.dis.j1 (2 * k+1) (by omega) _ (by rw[HJ.out];exact e.symm);have:=HC.out.ok.cb.2;omega));rw[<-EV.out];exact hbx.cell (i:=16) (by omega)⟩
    have hzz:=hz (k * 5+4);clear hz;go_wp2_with fail
    go_region_law ((rw[<-HW.out];refine step_append_lies _ (by rfl) (.tmp 74) (.tmp 76) 26 (by rfl) F.B1 3 i0 (.int .i64 0) 1 8 Tryz.underlying26 hi hz0 hz1 hz2 rfl (by decide) (.slice a4 n4 c4) n4 _ rfl OWN.out ⟨w3'.heap.size,0,none⟩ 1 1 [.int .i64 (X2.n:Int)] rfl rfl HN.out (by intro u hu;simp at hu;subst hu;rfl) (by decide) (by unfold maxLen;have:=HB4.out;omega) (by have:=HB4.out;omega) (by rw[hSz.out];omega) (w3'.heap.size+1) hSz.out ?_;intro g3 cap3 w4 hown3 hgrow3 hat3 hlt3;obtain⟨y1,y2,y3,y4⟩:=NX.out _ hgrow3))
    all_goals
     have R4:=hide (CC.jump (i:=2 * k+1) (x:=X2.n) HC.out (by omega) ⟨by omega,by rw[hX3n.out];omega,by rw[<-EN4.out,hX3n.out];have:=HB4.out;omega⟩ EV.out (by rw[HJ.out];exact hgrow3) (by rw[HJ.out];exact hat3.elim .inl fun e=>.inr (by rw[hSz.out,e];exact Nat.le_refl _)) (by
      rw[<-EN4.out];exact OwnF.push rfl hown3 (jl_push (X3.L (2 * k+1)) X2.n EN4.out).1 (jl_push (X3.L (2 * k+1)) X2.n EN4.out).2))
     rw[show(2 * k+1) / 2 * 5+3+(2 * k+1) % 2=k * 5+4 by omega,<-EN4.out]at R4;clear hown3 hgrow3 hat3;have c11':=R4.out.1.c11;have z11':=R4.out.1.fz 11;go_wp2_with fail
     go_end0
     exact FINAL.out _ _ _ R4.out.1 R4.out.2 rfl rfl rfl rfl rfl
end Go.Proofs.YtomcjennjcpdnaaGreatDoor
