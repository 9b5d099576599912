import Derived.Test.YtomcjennjcpdnaaGreatDoorPart33
import Derived.Test.YtomcjennjcpdnaaGreatDoorPart22
set_option linter.unusedSimpArgs false
set_option linter.unusedVariables false
set_option maxHeartbeats 4000000
namespace Go.Proofs.YtomcjennjcpdnaaGreatDoor
set_option maxRecDepth 100000
set_option maxHeartbeats 4000000
open Go.RowKit
theorem CC.poke {F:CF}{X:CX}{w:World}(h:CC F X w){a:Addr}(ha:¬X.O a.block)(hb:F.B1<=a.block)(v:Value):CC F X (w.setCell a v):=by
 have k:=h.ok;have M:=h.move (w':=w.setCell a v) (fun b=>b=a.block) rfl rfl rfl (by simp) (fun b _ hz=>Below.heap_setCell _ _ _ _ hz) (fun b e=>by have:=k.cb;omega);have ne:∀ b,ownB F X b->b≠a.block:=fun b ho e=>ha (e ▸ h.own b ho);exact { h with
  old:=M.old,b1:=M.b1,box:=M.box (by have:=k.cb;omega),bx:=M.bx (by have:=k.bb;omega),hm:=M.hm (by have:=k.hb;omega),fr:=M.fr (by have:=k.fb;omega),tt:=M.tt (by have:=k.tb;omega)
  ins:=M.ins fun q e=>ne q (.inr (.inr (.inr (.inr (.inl e)))))
  con:=M.con fun q e=>ne q (.inr (.inr (.inr (.inr (.inr (.inl e))))))
  mks:=M.mks fun q e=>ne q (.inr (.inr (.inr (.inr (.inr (.inr (.inl e)))))))
  jls:=fun i hi=>M.jls i hi fun q e=>ne q (.inr (.inr (.inr (.inr (.inr (.inr (.inr ⟨i,hi,e⟩)))))))
  low:=fun b hb=>by have:=h.low b hb;simpa using this }
theorem Cur.poke {F:CF}{X Y:CX}{W1 w:World}{S:Nat->Prop}{nb:Nat}{n:NodeD}{a1 a2:Option Addr}{p1 p2:Nat}{ms:List MkD}{t:Int}{hm:Nat->Int}{d:Nat}{l:List FnD}{f:Nat}(K:Cur F X W1 S nb n a1 p1 a2 p2 ms t hm d Y w)(U:UOk F l f S){a:Addr}(ha:¬Y.O a.block)(hW:W1.heap.size<=a.block)(hB:F.B1<=W1.heap.size)(hnb:nb<W1.heap.size)(v:Value):Cur F X W1 S nb n a1 p1 a2 p2 ms t hm d Y (w.setCell a v) where
 c:=K.c.poke ha (by omega) v
 f:=⟨K.f.os,K.f.tape,K.f.output,by simpa using K.f.size,fun b hb ho=>(Below.heap_setCell _ _ _ _ (fun e=>by omega)).trans (K.f.block b hb ho),K.f.new⟩
 top:=K.top
 home:=K.home
 ms:=K.ms
 n1:=K.n1
 n2:=K.n2
 nk:=K.nk
 nb:=
  {row:=K.nb.row.of_block (Below.heap_setCell _ _ _ _ (fun e=>by omega))
   refs:=K.nb.refs.same fun b hb=>Below.heap_setCell _ _ _ _ (fun e=>by have:=U.low b hb;have:=K.c.ok.cb;omega)
   kids:=K.nb.kids.same fun b hb=>Below.heap_setCell _ _ _ _ (fun e=>by have:=U.low b hb;have:=K.c.ok.cb;omega)
   far:=K.nb.far }
end Go.Proofs.YtomcjennjcpdnaaGreatDoor
namespace Go.Proofs.YtomcjennjcpdnaaGreatDoor
set_option maxRecDepth 100000
set_option maxHeartbeats 4000000
open Go.RowKit
structure SW (sb hb nv:Nat)(an:Option Addr)(ln cn:Nat)(w:World)(h:Nat->Int):Prop where
 box:w.rowIs sb 80 2 (fun j=>if j=0 then .slice an ln cn else .slice (some ⟨hb,0,none⟩) nv nv)
 row:w.rowIs hb 3 nv (fun j=>.int .i64 (h j))
theorem SW.ne {sb hb nv ln cn:Nat}{an:Option Addr}{w:World}{h:Nat->Int}(S:SW sb hb nv an ln cn w h):sb≠hb:=row_ne S.box S.row (by decide)
theorem SW.below {sb hb nv ln cn:Nat}{an:Option Addr}{w w':World}{h:Nat->Int}(S:SW sb hb nv an ln cn w h)(b:Below w.heap.size w w'):SW sb hb nv an ln cn w' h:=⟨S.box.of_block (b.block _ S.box.lt),S.row.of_block (b.block _ S.row.lt)⟩
theorem SW.set {sb hb nv ln cn:Nat}{an:Option Addr}{w:World}{h:Nat->Int}(S:SW sb hb nv an ln cn w h)(i:Nat)(x:Int):SW sb hb nv an ln cn (w.setCell ⟨hb,i,none⟩ (.int .i64 x)) (updF h i x):=
 ⟨S.box.setOther S.ne _,(S.row.set i _).congr fun j _=>by unfold updF;split<;>rfl⟩
def SetPost (sb hb nv:Nat)(an:Option Addr)(ln cn:Nat)(w:World)(v:Value)(h:Nat->Int)(e:Ending)(w':World):Prop:=e=.returned v/\SW sb hb nv an ln cn w' h/\Fr (fun b=>b=hb) (fun b=>b=hb) w w'
theorem settle_any (sb hb nv:Nat)(an:Option Addr)(ln cn:Nat)(h:Nat->Int)(a:Option Addr)(l:List Int)(c:Nat)(t:Int)(S:Nat->Prop)(w:World)(hS:SW sb hb nv an ln cn w h)(hs:IntsAt w S a l)(hB:∀ b,S b->b<w.heap.size/\b≠hb)(hl:∀ j,j<l.length->0<=l[j]?.getD 0/\l[j]?.getD 0<nv)(h0:0<=t)(h1:t<=1000000000)(hlen:l.length<=2000000) :
  Calls Tryz.prog 69 #[.pointer (some ⟨sb,0,none⟩),.slice a l.length c,.int .i64 t] w (SetPost sb hb nv an ln cn w (.int .i64 (t+l.length)) (settleF h l t)):=by
 have H:=hide hS;have HS:=hide hs;have HB:=hide hB;have HL:=hide hl;clear hS hs hB hl;obtain⟨R,hR⟩:∃ R,l.length=R:=⟨_,rfl⟩;rw[hR];rw[hR]at hlen;have HR:=hide hR;clear hR;go_enter Tryz.func69,Tryz.ntmps69;go_wp2_with fail
 go_loopw [2,11] (fun q i wr=>∃(k:Nat),k<=R/\q=.int .i64 (t+k)/\i=.int .i64 k/\SW sb hb nv an ln cn wr (settleF h (l.take k) t)/\Fr (fun b=>b=hb) (fun b=>b=hb) w wr) (fun _ i _=>R-(intOf i).toNat)
 case atStart=>exact⟨0,Nat.zero_le _,by simp,rfl,by rw[List.take_zero];exact H.out,Fr.refl⟩
 case round=>
  obtain⟨k,hk,rfl,rfl,S1,f1⟩:=hrel;by_cases hlt:k<R
  ·have hlt':k<l.length:=by rw[HR.out];exact hlt
   obtain⟨b,o,rfl⟩:=HS.out.some_of (by omega);have kc:=(HS.out.fr f1 HB.out).cellAt hlt';obtain⟨hv0,hv1⟩:=HL.out k hlt';obtain⟨v,hv⟩:=Int.eq_ofNat_of_zero_le hv0;have hst:=settleF_take h l t hlt';rw[hv]at kc hv1 hst;simp only[Int.toNat_natCast]at hst;have hv2:v<nv:=by omega
   have c1:=S1.box.cell (i:=1) (by omega);have r1:=S1.row.cell hv2;have z1:=S1.row.frozen v;simp at c1;have R1:=hide (And.intro S1 (And.intro f1 hst));clear S1 f1 hst hlt' hv hv0;go_wp2_with fail
   go_roundw
   case rel=>
    obtain⟨S1,f1,hst⟩:=R1.out;exact⟨k+1,hlt,by go_num,by go_num,by rw[hst];exact S1.set v (t+k),f1.set (a:=⟨hb,v,none⟩) rfl _⟩
   case measure=>simp[intOf];omega
  ·obtain rfl:k=R:=by omega
   have ht:l.take k=l:=by rw[<-HR.out,List.take_length]
   rw[ht]at S1;have R1:=hide (And.intro S1 f1);clear S1 f1 ht;go_wp2_with fail
   go_ret;exact⟨rfl,R1.out.1,R1.out.2⟩
end Go.Proofs.YtomcjennjcpdnaaGreatDoor
namespace Go.Proofs.YtomcjennjcpdnaaGreatDoor
set_option maxRecDepth 100000
set_option maxHeartbeats 4000000
open Go.RowKit
def sumL (ns:List NodeD):List Int->Int
 | []=>0
 | k::l=>letLen ns k+sumL ns l
theorem sumL_snoc (ns:List NodeD):∀(l:List Int)(k:Int),sumL ns (l++[k])=sumL ns l+letLen ns k
 | [],k=>by simp[sumL]
 | x::l,k=>by show letLen ns x+sumL ns (l++[k])=letLen ns x+sumL ns l+letLen ns k;rw[sumL_snoc];omega
theorem blockF_snoc (ns:List NodeD)(r:Nat->HF):∀(l:List Int)(k t:Int)(h:Nat->Int),blockF ns r (l++[k]) t h=r k.toNat (t+sumL ns l) (blockF ns r l t h)
 | [],k,t,h=>by simp[blockF,sumL]
 | x::l,k,t,h=>by
  show blockF ns r (l++[k]) (t+letLen ns x) (r x.toNat t h)=_;rw[blockF_snoc];show _=r k.toNat (t+(letLen ns x+sumL ns l)) (blockF ns r l (t+letLen ns x) (r x.toNat t h));rw[Int.add_assoc]
theorem take_snoc {l:List Int}{k:Nat}(hk:k<l.length):l.take (k+1)=l.take k++[l[k]?.getD 0]:=by
 rw[List.take_add_one,List.getElem?_eq_getElem hk];rfl
theorem letLen_le {ns:List NodeD}(T:TreeOk ns){k:Int}(hk:k.toNat<ns.length):0<=letLen ns k/\letLen ns k<=wk ns k:=by
 have:=Wt_eq T hk;unfold letLen wk own1 at *;split<;>omega
theorem sumL_le {ns:List NodeD}(T:TreeOk ns){ks:List Int}(hks:∀ k∈ks,k.toNat<ns.length):∀ m,m<=ks.length->0<=sumL ns (ks.take m)/\sumL ns (ks.take m)<=sumTo (wk ns) ks m
 | 0,_=>by simp[sumL,sumTo]
 | m+1,h=>by
  have ih:=sumL_le T hks m (by omega);rw[take_snoc (by omega),sumL_snoc,sumTo_succ (wk ns) ks m 0 (by omega)];have:=letLen_le T (k:=ks[m]?.getD 0) (hks _ (by rw[List.getElem?_eq_getElem (by omega)];exact List.getElem_mem _));omega
def SStm (sb hb nv:Nat)(an:Option Addr)(cn:Nat)(S:Nat->Prop)(ns:List NodeD)(i:Nat):Prop:=∀(t:Int)(h:Nat->Int)(w:World),SW sb hb nv an ns.length cn w h->NodesAt w S an ns->(∀ b,S b->b<w.heap.size/\b≠hb)->0<=t->t+Wt ns i<=2000000 ->
 Calls Tryz.prog 36 #[.pointer (some ⟨sb,0,none⟩),.int .i64 i,.int .i64 t] w (SetPost sb hb nv an ns.length cn w (.int .i64 (t+letLen ns i)) (hF ns i t h))
theorem NodesAt.fr {w w':World}{S:Nat->Prop}{a:Option Addr}{l:List NodeD}{O O':Nat->Prop}(h:NodesAt w S a l)(g:Fr O O' w w')(hS:∀ b,S b->b<w.heap.size/\¬O b):NodesAt w' S a l:=h.same fun b hb=>g.block b (hS b hb).1 (hS b hb).2
theorem sblock_any (sb hb nv:Nat)(an:Option Addr)(cn:Nat)(S:Nat->Prop)(ns:List NodeD)(T:TreeOk ns)(a:Option Addr)(ks:List Int)(c:Nat)(t:Int)(h:Nat->Int)(w:World)(hW:SW sb hb nv an ns.length cn w h)(hN:NodesAt w S an ns)(hs:IntsAt w S a ks)(hB:∀ b,S b->b<w.heap.size/\b≠hb)
  (hk:∀ k∈ks,0<=k/\k.toNat<ns.length)(I:∀ k∈ks,SStm sb hb nv an cn S ns k.toNat)(h200:ks.length<=200)(h0:0<=t)(h1:t+sumAll (wk ns) ks<=2000000) :
  Calls Tryz.prog 68 #[.pointer (some ⟨sb,0,none⟩),.slice a ks.length c,.int .i64 t] w (SetPost sb hb nv an ns.length cn w (.tuple #[]) (blockF ns (hF ns) ks t h)):=by
 have H:=hide hW;have HN:=hide hN;have HS:=hide hs;have HB:=hide hB;have HK:=hide hk;have HI:=hide I;have HT:=hide T;clear hW hN hs hB hk I T;obtain⟨R,hR⟩:∃ R,ks.length=R:=⟨_,rfl⟩;rw[hR];rw[hR]at h200;have HR:=hide hR;have H1:=hide h1;clear hR h1;go_enter Tryz.func68,Tryz.ntmps68;go_wp2_with fail
 go_loopw [2,10] (fun q i wr=>∃(k:Nat),k<=R/\q=.int .i64 (t+sumL ns (ks.take k))/\i=.int .i64 k/\SW sb hb nv an ns.length cn wr (blockF ns (hF ns) (ks.take k) t h)/\Fr (fun b=>b=hb) (fun b=>b=hb) w wr) (fun _ i _=>R-(intOf i).toNat)
 case atStart=>exact⟨0,Nat.zero_le _,by simp[sumL],rfl,by rw[List.take_zero];exact H.out,Fr.refl⟩
 case round=>
  obtain⟨k,hk,rfl,rfl,S1,f1⟩:=hrel;by_cases hlt:k<R
  ·have hlt':k<ks.length:=by rw[HR.out];exact hlt
   obtain⟨b,o,rfl⟩:=HS.out.some_of (by omega);have kc:=(HS.out.fr f1 HB.out).cellAt hlt';have hmem:ks[k]?.getD 0∈ks:=by rw[List.getElem?_eq_getElem hlt'];exact List.getElem_mem _
   obtain⟨x,hx⟩:=Int.eq_ofNat_of_zero_le (HK.out _ hmem).1;have J:=HI.out _ hmem;have hsl:=sumL_le HT.out (fun k hk=>(HK.out k hk).2) k (by omega);have hsm:=sumTo_succ (wk ns) ks k 0 hlt';have hle:=sumTo_le (wk ns) ks (k+1);have e1:=take_snoc hlt';rw[hx]at kc J hsm e1;simp only[wk,Int.toNat_natCast]at hsm J;have JJ:=hide (J (t+sumL ns (ks.take k)) _ _ S1 (HN.out.fr f1 HB.out) (fun b hb=>⟨Nat.lt_of_lt_of_le (HB.out b hb).1 f1.size,(HB.out b hb).2⟩) (by omega) (by have:=H1.out;omega));have E1:Hid (sumL ns (ks.take (k+1))=sumL ns (ks.take k)+letLen ns x/\blockF ns (hF ns) (ks.take (k+1)) t h=hF ns x (t+sumL ns (ks.take k)) (blockF ns (hF ns) (ks.take k) t h)):=⟨by rw[e1,sumL_snoc],by rw[e1,blockF_snoc];rfl⟩;have F1:=hide f1;clear S1 f1 J hsl hsm hle e1 hx hmem hlt';generalize sumL ns (ks.take k)=s1 at *;go_wp2_with fail
   refine JJ.out.mono ?_;rintro e w2 ⟨rfl,S2,f2⟩;have R2:=hide (And.intro S2 f2);clear S2 f2;go_wp2_with fail
   go_roundw
   case rel=>exact⟨k+1,hlt,by rw[E1.out.1,Int.add_assoc],by go_num,by rw[E1.out.2];exact R2.out.1,F1.out.trans R2.out.2⟩
   case measure=>simp[intOf];omega
  ·obtain rfl:k=R:=by omega
   have ht:ks.take k=ks:=by rw[<-HR.out,List.take_length]
   rw[ht]at S1;have R1:=hide (And.intro S1 f1);clear S1 f1 ht;go_wp2_with fail
   go_end0
   exact⟨rfl,R1.out.1,R1.out.2⟩
end Go.Proofs.YtomcjennjcpdnaaGreatDoor
namespace Go.Proofs.YtomcjennjcpdnaaGreatDoor
set_option maxRecDepth 100000
set_option maxHeartbeats 4000000
open Go.RowKit
attribute [local go_sem] run_store_float
theorem st_other {sb hb nv:Nat}{an:Option Addr}{cn:Nat}{S:Nat->Prop}{ns:List NodeD}(T:TreeOk ns)(i:Nat)(hi:i<ns.length)(hk:(nd ns i).kind≠1/\(nd ns i).kind≠2/\(nd ns i).kind≠5/\(nd ns i).kind≠6/\(nd ns i).kind≠7/\(nd ns i).kind≠8/\(nd ns i).kind≠12):SStm sb hb nv an cn S ns i:=by
 intro t h w hW hN hB h0 h1;obtain⟨b6,o6,rfl,hb6,hn6⟩:=hN.2 (by omega);have M:NodeCells w S b6 (o6+i * 8) (nd ns i):=hn6 i hi;have hl6:=hN.1;have c0:=hW.box.cell (i:=0) (by omega);simp at c0;have m0:=M.kind;have m1:=M.line;have m2:=M.op;have m3:=M.num;have m4:=M.flt;have m5:=M.str;obtain⟨a1,k1,m6,I6⟩:=M.refs;obtain⟨a2,k2,m7,I7⟩:=M.kids;have hsb:sb<w.heap.size:=hW.box.lt;have hb6l:b6<w.heap.size:=(hB b6 hb6).1;have hWt:=Wt_eq T hi;have bal:∀ o,Below w.heap.size w (w.alloc o):=fun o=>(Below.refl _ _).alloc (Nat.le_refl _) _;have BAL:=hide bal;have hF0:hF ns i t h=h:=by
  rw[hF_eq T hi ⟨fun e=>by omega,fun e=>by omega⟩];unfold stepF;simp only;split<;>first | rfl | (rename_i e;omega)
 have hL0:letLen ns i=0:=by unfold letLen;rw[Int.toNat_natCast,if_neg (by omega)]
 rw[hF0,hL0,Int.add_zero];clear hF0 hL0;have HW:=hide hW;have HN:=hide hN;have HB:=hide hB;have HI6:=hide I6;have HI7:=hide I7;have HWt:=hide hWt;have H1:=hide h1;have t1:t<=2000000:=by omega
 clear hW hN hB I6 I7 M hn6 hWt h1 bal;unfold own1 at HWt;generalize nd ns i=n at *;have x1:(n.kind==1)=false:=by simp;omega
 have x2:(n.kind==2)=false:=by simp;omega
 have x5:(n.kind==5)=false:=by simp;omega
 have x6:(n.kind==6)=false:=by simp;omega
 have x7:(n.kind==7)=false:=by simp;omega
 have x8:(n.kind==8)=false:=by simp;omega
 have x12:(n.kind==12)=false:=by simp;omega
 clear hk;go_enter Tryz.func36,Tryz.ntmps36;go_wp2_with fail
 go_ret;exact⟨rfl,HW.out.below (BAL.out _),.of_below (BAL.out _)⟩
theorem st_2 {sb hb nv:Nat}{an:Option Addr}{cn:Nat}{S:Nat->Prop}{ns:List NodeD}(T:TreeOk ns)(i:Nat)(hi:i<ns.length)(hk:(nd ns i).kind=2)(hrf:∀ j,j<(nd ns i).refs.length->0<=(nd ns i).refs[j]?.getD 0/\(nd ns i).refs[j]?.getD 0<nv):SStm sb hb nv an cn S ns i:=by
 intro t h w hW hN hB h0 h1;obtain⟨b6,o6,rfl,hb6,hn6⟩:=hN.2 (by omega);have M:NodeCells w S b6 (o6+i * 8) (nd ns i):=hn6 i hi;have hl6:=hN.1;have c0:=hW.box.cell (i:=0) (by omega);simp at c0;have m0:=M.kind;have m1:=M.line;have m2:=M.op;have m3:=M.num;have m4:=M.flt;have m5:=M.str;obtain⟨a1,k1,m6,I6⟩:=M.refs;obtain⟨a2,k2,m7,I7⟩:=M.kids;have hsb:sb<w.heap.size:=hW.box.lt;have hb6l:b6<w.heap.size:=(hB b6 hb6).1;have hWt:=Wt_eq T hi;have bal:∀ o,Below w.heap.size w (w.alloc o):=fun o=>(Below.refl _ _).alloc (Nat.le_refl _) _;have BAL:=hide bal;have hF0:hF ns i t h=settleF h (nd ns i).refs t:=by
  rw[hF_eq T hi ⟨fun e=>by omega,fun e=>by omega⟩];unfold stepF;simp only[hk]
 have hL0:letLen ns i=(nd ns i).refs.length:=by unfold letLen;rw[Int.toNat_natCast,if_pos hk]
 rw[hF0,hL0];clear hF0 hL0;have HR:=hide hrf;clear hrf;have HW:=hide hW;have HN:=hide hN;have HB:=hide hB;have HI6:=hide I6;have HI7:=hide I7;have HWt:=hide hWt;have H1:=hide h1;have t1:t<=2000000:=by omega
 clear hW hN hB I6 I7 M hn6 hWt h1 bal;unfold own1 at HWt;generalize nd ns i=n at *;go_enter Tryz.func36,Tryz.ntmps36;go_wp2_with fail
 refine(settle_any sb hb nv _ ns.length cn h a1 n.refs k1 t S _ (HW.out.below (BAL.out _)) (HI6.out.keep (BAL.out _) (fun b hb=>(HB.out b hb).1)) (fun b hb=>⟨Nat.lt_of_lt_of_le (HB.out b hb).1 (BAL.out _).size,(HB.out b hb).2⟩) HR.out h0 (by omega) (by have:=HWt.out;have:=H1.out;omega)).mono ?_;rintro e w2 ⟨rfl,S2,f2⟩;have R2:=hide (And.intro S2 ((Fr.of_below (BAL.out _)).trans f2));clear S2 f2;go_wp2_with fail
 go_ret;exact⟨rfl,R2.out.1,R2.out.2⟩
theorem st_1 {sb hb nv:Nat}{an:Option Addr}{cn:Nat}{S:Nat->Prop}{ns:List NodeD}(T:TreeOk ns)(i:Nat)(hi:i<ns.length)(hk:(nd ns i).kind=1)(I:∀ k,k<i->SStm sb hb nv an cn S ns k):SStm sb hb nv an cn S ns i:=by
 intro t h w hW hN hB h0 h1;obtain⟨b6,o6,rfl,hb6,hn6⟩:=hN.2 (by omega);have M:NodeCells w S b6 (o6+i * 8) (nd ns i):=hn6 i hi;have hl6:=hN.1;have c0:=hW.box.cell (i:=0) (by omega);simp at c0;have m0:=M.kind;have m1:=M.line;have m2:=M.op;have m3:=M.num;have m4:=M.flt;have m5:=M.str;obtain⟨a1,k1,m6,I6⟩:=M.refs;obtain⟨a2,k2,m7,I7⟩:=M.kids;have hsb:sb<w.heap.size:=hW.box.lt;have hb6l:b6<w.heap.size:=(hB b6 hb6).1;have hWt:=Wt_eq T hi;have bal:∀ o,Below w.heap.size w (w.alloc o):=fun o=>(Below.refl _ _).alloc (Nat.le_refl _) _;have BAL:=hide bal;have hF0:hF ns i t h=blockF ns (hF ns) (nd ns i).kids t h:=by
  rw[hF_eq T hi ⟨fun e=>by omega,fun e=>by omega⟩];unfold stepF;simp only[hk]
 have hL0:letLen ns i=0:=by unfold letLen;rw[Int.toNat_natCast,if_neg (by omega)]
 rw[hF0,hL0,Int.add_zero];clear hF0 hL0;have hks:=fun k (hk:k∈(nd ns i).kids)=>kids_lt T hi hk;have IK:=hide (fun k hk=>I k.toNat (hks k hk).2);have HK:Hid (∀ k∈(nd ns i).kids,0<=k/\k.toNat<ns.length):=fun k hk=>⟨(hks k hk).1,by have:=(hks k hk).2;omega⟩;have h200:=hide (T.nkid i hi);have HT:=hide T;clear hks I;have HW:=hide hW;have HN:=hide hN;have HB:=hide hB;have HI6:=hide I6;have HI7:=hide I7;have HWt:=hide hWt;have H1:=hide h1;have t1:t<=2000000:=by omega
 clear hW hN hB I6 I7 M hn6 hWt h1 bal;unfold own1 at HWt;generalize nd ns i=n at *;go_enter Tryz.func36,Tryz.ntmps36;go_wp2_with fail
 refine(sblock_any sb hb nv _ cn S ns HT.out a2 n.kids k2 t h _ (HW.out.below (BAL.out _)) (HN.out.keep (BAL.out _) (fun b hb=>(HB.out b hb).1)) (HI7.out.keep (BAL.out _) (fun b hb=>(HB.out b hb).1)) (fun b hb=>⟨Nat.lt_of_lt_of_le (HB.out b hb).1 (BAL.out _).size,(HB.out b hb).2⟩) HK.out IK.out h200.out h0 (by have:=HWt.out;have:=H1.out;omega)).mono ?_;rintro e w2 ⟨rfl,S2,f2⟩;have R2:=hide (And.intro S2 ((Fr.of_below (BAL.out _)).trans f2));clear S2 f2;go_wp2_with fail
 go_ret;exact⟨rfl,R2.out.1,R2.out.2⟩
end Go.Proofs.YtomcjennjcpdnaaGreatDoor
