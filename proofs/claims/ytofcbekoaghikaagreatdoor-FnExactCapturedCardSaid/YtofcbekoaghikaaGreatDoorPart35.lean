import Derived.Test.YtofcbekoaghikaaGreatDoorPart34
import Derived.Test.YtofcbekoaghikaaGreatDoorPart33
import Derived.Test.YtofcbekoaghikaaGreatDoorPart30
import Derived.DeepKeys4
import Derived.KernelRfl
set_option linter.unusedSimpArgs false
set_option linter.unusedVariables false
set_option maxHeartbeats 4000000
set_option maxRecDepth 100000
namespace Go.Proofs.YtofcbekoaghikaaGreatDoor
open Go.RowKit Go.Maps
def varK (f i:Nat):Value:=.agg #[.int .i64 f,.int .i64 i]
theorem laidOut':laidOutB Tryz.prog=true:=by kernel_rfl
theorem keyed_var:Keyed Tryz.prog 68:=Keyed.of_law (deep_law_laid laidOut' (m:=3) (by decide) (of_decide_eq_true (by kernel_rfl)) (by kernel_rfl) (by kernel_rfl))
theorem keyed_int:Keyed Tryz.prog 3:=int_keyed Tryz.underlying3
theorem types_pos:∃ n,Tryz.prog.types.size=n+1:=⟨Tryz.prog.types.size-1,by kernel_rfl⟩
theorem c_var:Tryz.prog.cellsOf 68=2:=by kernel_rfl
theorem c_int':Tryz.prog.cellsOf 3=1:=by kernel_rfl
theorem keyType_var:Tryz.prog.keyType 68=true:=by kernel_rfl
theorem wf_small (i:Nat)(hi:i<=1000000):(Lit.int .i64 i).wf=true:=by
 have h1:IntKind.i64.min=-9223372036854775808:=by decide
 have h2:IntKind.i64.max=9223372036854775807:=by decide
 show(decide (IntKind.i64.min<=(i:Int))&&decide ((i:Int)<=IntKind.i64.max))=true;rw[h1,h2,Bool.and_eq_true,decide_eq_true_eq,decide_eq_true_eq];omega
theorem key_int (i:Nat)(hi:i<=1000000):∃ lk,keyOf Tryz.prog 3 (.int .i64 i)=some lk:=by
 unfold keyOf mapKey;rw[Tryz.underlying3];exact⟨_,if_pos ⟨rfl,wf_small i hi⟩⟩
theorem lits_int (d:Nat)(i:Nat)(hi:i<=1000000):Tryz.prog.keyLits (d+1) 3 [.int .i64 i]=some [.int .i64 i]:=by
 unfold Program.keyLits;rw[Tryz.underlying3];exact if_pos ⟨rfl,wf_small i hi⟩
theorem key_var (f i:Nat)(hf:f<=1000000)(hi:i<=1000000):∃ lk,keyOf Tryz.prog 68 (varK f i)=some lk:=by
 obtain⟨n,hn⟩:=types_pos;have hl:Tryz.prog.keyLits (Tryz.prog.types.size+1) 68 [.int .i64 f,.int .i64 i]=some [.int .i64 f,.int .i64 i]:=by
  rw[hn];unfold Program.keyLits;simp only[Tryz.underlying68,c_var];simp[lits_int n f hf,lits_int n i hi,c_int']
 unfold keyOf;simp only[Tryz.underlying68];have hfm:(varK f i).formed Tryz.prog 68=true:=by
  unfold Value.formed varK;simp only[Tryz.underlying68,c_var];rfl
 rw[keyType_var,hfm];refine⟨.string (keyBytes [.int .i64 f,.int .i64 i]),?_⟩;refine Eq.trans (if_pos (by rfl)) ?_;show Option.map _ (Tryz.prog.keyLits (Tryz.prog.types.size+1) 68 [.int .i64 f,.int .i64 i])=_;rw[hl];rfl
theorem varK_inj {f i j:Nat}:varK f i=varK f j↔i=j:=by
 unfold varK;constructor
 ·intro h;injection h with h;simp at h;omega
 ·rintro rfl;rfl
theorem zero_set (w:World):(zeroValue 66).run Tryz.prog w=.ok (.map none) w:=by kernel_rfl
def SetNe (w:World)(b:Nat):Prop:=∃(ms:Value->Option Value)(k v:Value),MapK Tryz.prog 3 w b ms/\ms k=some v
theorem SetNe.block {w w':World}{b:Nat}(h:SetNe w b)(hb:w'.heap[b]? = w.heap[b]?):SetNe w' b:=by
 obtain⟨ms,k,v,h1,h2⟩:=h;exact⟨ms,k,v,h1.block hb,h2⟩
theorem SetNe.lt {w:World}{b:Nat}(h:SetNe w b):b<w.heap.size:=by
 obtain⟨ms,k,v,h1,h2⟩:=h;exact h1.lt
structure CloW (B f bm:Nat)(g:Nat->Bool)(m:Value->Option Value)(w:World):Prop where
 map:MapK Tryz.prog 68 w bm m
 yes:∀ i,g i=true->∃ bs,m (varK f i)=some (.map (some bs))/\SetNe w bs/\B<=bs/\bs≠bm
 no:∀ i,g i=false->m (varK f i)=none
section
variable {B f bm:Nat} {g g':Nat->Bool} {m:Value->Option Value} {w w':World}
theorem CloW.keep (h:CloW B f bm g m w)(hb:Below w.heap.size w w'):CloW B f bm g m w' where
 map:=h.map.keep hb h.map.lt
 yes i hi:=by
  obtain⟨bs,h1,h2,h3,h4⟩:=h.yes i hi;exact⟨bs,h1,h2.block (hb.block bs h2.lt),h3,h4⟩
 no:=h.no
theorem CloW.congr (h:CloW B f bm g m w)(e:∀ i,g' i=g i):CloW B f bm g' m w:=
 ⟨h.map,fun i hi=>h.yes i (by rw[<-e i];exact hi),fun i hi=>h.no i (by rw[<-e i];exact hi)⟩
theorem CloW.stored (h:CloW B f bm g m w){bs:Nat}(hne:bs≠bm){ms:Value->Option Value}{k v:Value}(hm:MapK Tryz.prog 3 w' bs ms)(hk:ms k=some v)(hg:w.grownBy w' (some bs)):CloW B f bm g m w' where
 map:=h.map.block (hg.block bm h.map.lt (fun e=>hne (Option.some.inj e).symm))
 yes i hi:=by
  obtain⟨b',h1,h2,h3,h4⟩:=h.yes i hi;refine⟨b',h1,?_,h3,h4⟩;by_cases e:b'=bs
  ·subst e;exact⟨ms,k,v,hm,hk⟩
  ·exact h2.block (hg.block b' h2.lt (fun e'=>e (Option.some.inj e')))
 no:=h.no
open Classical in
theorem CloW.added (h:CloW B f bm g m w){bs ix:Nat}(hne:bs≠bm)(hB:B<=bs)(hS:SetNe w' bs)(hm:MapK Tryz.prog 68 w' bm (fun j=>if j=varK f ix then some (.map (some (bs)))else m j))
  (hblk:∀ b,b<w.heap.size->b≠bm->b≠bs->w'.heap[b]? = w.heap[b]?):CloW B f bm (fun i=>g i||decide (i=ix)) (fun j=>if j=varK f ix then some (.map (some (bs)))else m j) w' where
 map:=hm
 yes i hi:=by
  by_cases e:i=ix
  ·subst e;exact⟨bs,if_pos rfl,hS,hB,hne⟩
  ·simp[e]at hi;obtain⟨b',h1,h2,h3,h4⟩:=h.yes i hi;refine⟨b',by show(if _ then _ else _)=_;rw[if_neg (fun x=>e (varK_inj.1 x))];exact h1,?_,h3,h4⟩;by_cases e:b'=bs
   ·subst e;exact hS
   ·exact h2.block (hblk b' h2.lt h4 e)
 no i hi:=by
  have e:i≠ix:=fun e=>by subst e;simp at hi
  simp[e]at hi;show(if _ then _ else _)=_;rw[if_neg (fun x=>e (varK_inj.1 x))];exact h.no i hi
end
theorem run_makeSet (w:World):(Instr.makeMap 66 none).run Tryz.prog w=.ok (.map (some w.heap.size)) (w.alloc (.map #[] 0)):=by
 simp[Instr.makeMap,run_underlying Tryz.underlying66,Result.andThen]
theorem eql_set (m:Option Nat)(w:World):(binOp .eql 66 (.map m) (.map none)).run Tryz.prog w=.ok (.bool m.isNone) w:=by
 simp[binOp,run_equal_map_nil (P:=Tryz.prog) (w:=w) 66 3 120 m Tryz.underlying66,Result.andThen]
open Classical in
theorem addCloser_any (a:Option Addr)(l:List FnD)(c f n B bm:Nat)(g:Nat->Bool)(m0:Value->Option Value)(S:Nat->Prop)(w:World)(hs:FnsAt w S a l)(hS:∀ b,S b->b<B)(hB:B<=bm)(hBw:B<=w.heap.size)(hn:n<l.length)(hl:l.length<=1000000)(hf:f<l.length)
  (hul:(fnD l n).ups.length<=200)(hok:∀ q,q<(fnD l n).ups.length->(upD (fnD l n).ups q).1=true->0<=(upD (fnD l n).ups q).2/\(upD (fnD l n).ups q).2<1000)(hC:CloW B f bm g m0 w) :
  Calls Tryz.prog 53 #[.map (some bm),.agg #[.slice a l.length c],.int .i64 f,.int .i64 n] w fun e w'=>e=.returned (.tuple #[])/\(∃ m,CloW B f bm (fun i=>g i||capUps (fnD l n).ups (fnD l n).ups.length i) m w')/\Below B w w':=by
 obtain⟨b,off,rfl,hb,hcc⟩:=hs.2 (by omega);have hbs:b<w.heap.size:=Nat.lt_of_lt_of_le (hS b hb) hBw;have NG:FnCells w S b (off+n * 7) (fnD l n):=hcc n hn;obtain⟨ua,uc,hua,huI⟩:=NG.ups;have HU:=hide huI;have HB:=hide hS;have HOK:=hide hok;have HC:=hide hC;have hnI:(n:Int)<l.length:=by omega
 have hnI0:(0:Int)<=n:=by omega
 have HUS:Hid (∀(q i:Nat),capUps (fnD l n).ups (q+1) i=(capUps (fnD l n).ups q i||((upD (fnD l n).ups q).1&&decide ((upD (fnD l n).ups q).2=(i:Int))))):=fun q i=>rfl;have HU0:Hid (∀ i,capUps (fnD l n).ups 0 i=false):=fun i=>rfl;clear hcc NG huI hS hok hC hs;generalize (fnD l n).ups=us at *;go_enter Tryz.func53,Tryz.ntmps53;go_wp2_with fail
 go_loopg [18] us.length (fun gg i wr=>∃(q:Nat) (m:Value->Option Value),q+gg=us.length/\i=.int .i64 q/\CloW B f bm (fun i=>g i||capUps us q i) m wr/\Below B w wr)
 case atStart=>
  have hA:Below w.heap.size w (w.alloc (.cells #[.slice (some ⟨b,off,none⟩) l.length c] 30)):=(Below.refl _ _).alloc (Nat.le_refl _) _;exact⟨0,m0,by omega,rfl,((unhide HC).keep hA).congr (fun i=>by rw[unhide HU0 i,Bool.or_false]),hA.mono hBw⟩
 case round=>
  obtain⟨q,m,hqg,rfl,hy,hw⟩:=hrel;clear HC hua;by_cases hlq:q<us.length
  ·obtain⟨ub,uoff,rfl,hub,huc⟩:=((unhide HU).keep hw (unhide HB)).2 (by omega);obtain⟨e0,e1⟩:=huc q hlq;have H4q:=hide (unhide HOK q hlq);have HUq:=hide (unhide HUS q);have hubs:ub<wr.heap.size:=Nat.lt_of_lt_of_le (unhide HB ub hub) (Nat.le_trans hBw hw.size);change wr.cell? ⟨ub,uoff+q * 2,none⟩=some (.bool (upD us q).1)at e0;change wr.cell? ⟨ub,uoff+q * 2+1,none⟩=some (.int .i64 (upD us q).2)at e1;clear huc;generalize upD us q=u at *;obtain⟨loc,ix⟩:=u;dsimp only at *;have CY:=hide hy;have HW:=hide hw;clear hy hw;have hBr:B<=wr.heap.size:=Nat.le_trans hBw (unhide HW).size;cases loc
   ·have HE:Hid (∀ i,(g i||capUps us (q+1) i)=(g i||capUps us q i)):=fun i=>by rw[unhide HUq i];simp
    go_wp2_with fail
    go_roundg (us.length-(q+1))
    case rel=>
     have hA:Below wr.heap.size wr (wr.alloc (.cells #[.bool false,.int .i64 ix] 60)):=(Below.refl _ _).alloc (Nat.le_refl _) _;exact⟨q+1,m,by omega,by go_num,((unhide CY).keep hA).congr (fun i=>unhide HE i),(unhide HW).trans (hA.mono hBr)⟩
    case measure=>omega
   ·obtain⟨i0,i1⟩:=unhide H4q rfl;obtain⟨ixn,rfl⟩:∃ ixn:Nat,ix=ixn:=⟨ix.toNat,by omega⟩;have hA:Below wr.heap.size wr ((wr.alloc (.cells #[.bool true,.int .i64 ixn] 60)).alloc (.cells #[.int .i64 f,.int .i64 ixn] 68)):=((Below.refl _ _).alloc (Nat.le_refl _) _).alloc (by simp) _;have hC2:=(unhide CY).keep hA;obtain⟨lk,hkey⟩:=key_var f ixn (by omega) (by omega);have hlk:=hC2.map.look keyed_var Tryz.underlying63 (zero_set _) hkey false;have HE:Hid (∀ i,(g i||capUps us (q+1) i)=((g i||capUps us q i)||decide (i=ixn))):=fun i=>by
     rw[unhide HUq i];by_cases e:i=ixn
     ·subst e;simp
     ·have e':¬((ixn:Int)=(i:Int)):=by omega
      simp[e,e']
    have HC2:=hide hC2;have HA:=hide hA;clear hC2 hA;cases hgi:(g ixn||capUps us q ixn)
    ·have hm:=(unhide CY).no ixn hgi;rw[hm]at hlk;unfold varK at hlk;dsimp only[Option.getD_none,if_false,Bool.false_eq_true]at hlk;have hq:=eql_set;have hmm:=run_makeSet;have hbm:bm<wr.heap.size:=(unhide CY).map.lt;obtain⟨W2,hW2⟩:∃ W2,W2=(wr.alloc (.cells #[.bool true,.int .i64 ixn] 60)).alloc (.cells #[.int .i64 f,.int .i64 ixn] 68):=⟨_,rfl⟩;have hz2:W2.heap.size=wr.heap.size+1+1:=by rw[hW2];simp
     have HM3:Hid (MapK Tryz.prog 68 (W2.alloc (.map #[] 0)) bm m):=by
      rw[hW2];exact(unhide HC2).map.keep (B:=wr.heap.size) ((Below.refl _ _).alloc (by simp;omega) _) hbm
     have HN3:Hid (MapK Tryz.prog 3 (W2.alloc (.map #[] 0)) (wr.heap.size+1+1) (fun _=>none)):=by
      rw[<-hz2];exact MapK.made _ _ _
     have hv0:W2.cell? ⟨wr.heap.size+1,0,none⟩=some (.int .i64 f):=by rw[hW2];simp[go_sem]
     have hv1:W2.cell? ⟨wr.heap.size+1,1,none⟩=some (.int .i64 ixn):=by rw[hW2];simp[go_sem]
     have STEP:Hid (∀ w3,MapK Tryz.prog 68 w3 bm (fun j=>if j=varK f ixn then some (.map (some (wr.heap.size+1+1)))else m j)->(W2.alloc (.map #[] 0)).grownBy w3 (some bm) ->
       w3.cell? ⟨wr.heap.size+1,0,none⟩=some (.int .i64 f)/\w3.cell? ⟨wr.heap.size+1,1,none⟩=some (.int .i64 ixn) /\
       (Instr.lookup 63 (.map (some bm)) (.agg #[.int .i64 f,.int .i64 ixn]) false).run Tryz.prog w3=.ok (.map (some (wr.heap.size+1+1))) w3 /\
       MapK Tryz.prog 3 w3 (wr.heap.size+1+1) (fun _=>none)):=fun w3 h1 h2=>by
      have hblk:w3.heap[wr.heap.size+1]? = W2.heap[wr.heap.size+1]?:=(h2.block _ (by simp;omega) (by simp;omega)).trans (Below.heap_alloc _ _ _ (by omega));refine⟨(World.cell?_of_block (a:=⟨wr.heap.size+1,0,none⟩) hblk).trans hv0,(World.cell?_of_block (a:=⟨wr.heap.size+1,1,none⟩) hblk).trans hv1,?_,(unhide HN3).block (h2.block _ (by simp;omega) (by simp;omega))⟩;have:=h1.look keyed_var Tryz.underlying63 (zero_set _) hkey false;rw[if_pos (rfl:varK f ixn=varK f ixn)]at this;exact this
     obtain⟨ln,hkn⟩:=key_int n (by omega);have HE2:Hid (∀ i,(g i||capUps us (q+1) i)=((g i||capUps us q i)||decide (i=ixn))):=HE;have FIN:Hid (∀ w3 w4,MapK Tryz.prog 68 w3 bm (fun j=>if j=varK f ixn then some (.map (some (wr.heap.size+1+1)))else m j)->(W2.alloc (.map #[] 0)).grownBy w3 (some bm)->(∃ ms k v,MapK Tryz.prog 3 w4 (wr.heap.size+1+1) ms/\ms k=some v)->w3.grownBy w4 (some (wr.heap.size+1+1)) ->
       CloW B f bm (fun i=>g i||capUps us (q+1) i) (fun j=>if j=varK f ixn then some (.map (some (wr.heap.size+1+1)))else m j) w4/\Below B w w4):=fun w3 w4 h1 h2 h3 h4=>by
      have hA2:Below wr.heap.size wr (W2.alloc (.map #[] 0)):=by rw[hW2];exact(unhide HA).alloc (by simp;omega) _
      have hz3:(W2.alloc (.map #[] 0)).heap.size=wr.heap.size+1+1+1:=by simp[hz2]
      have s3:=h2.size;have hb3:Below B wr w3:=(hA2.mono hBr).trans ⟨h2.os,h2.tape,h2.output,h2.size,fun k hk=>h2.block k (by omega) (fun e=>by have:=Option.some.inj e;omega)⟩;have hb4:Below B wr w4:=hb3.trans ⟨h4.os,h4.tape,h4.output,h4.size,fun k hk=>h4.block k (by omega) (fun e=>by have:=Option.some.inj e;omega)⟩;refine⟨((unhide CY).added (bs:=wr.heap.size+1+1) (ix:=ixn) (by omega) (by omega) h3 (h1.block (h4.block bm (by omega) (fun e=>by have:=Option.some.inj e;omega))) fun k hk hk1 hk2=>?_).congr (fun i=>unhide HE i),(unhide HW).trans hb4⟩;exact((h4.block k (by omega) (fun e=>hk2 (Option.some.inj e))).trans (h2.block k (by omega) (fun e=>hk1 (Option.some.inj e)))).trans (hA2.block k hk)
     clear hv0 hv1;subst hW2;go_wp2_with (first
      | (at_mapUpdate;refine wpList_putK keyed_var _ rfl _ _ _ 63 66 rfl Tryz.underlying63 bm m (unhide HM3) rfl _ rfl hkey _ rfl ?_;intro w3 hP hg3;obtain⟨s0,s1,s2,s3⟩:=unhide STEP w3 hP hg3)
      | (at_mapUpdate;refine wpList_putK keyed_int _ rfl _ _ _ 66 120 rfl Tryz.underlying66 (wr.heap.size+1+1) _ s3 rfl _ rfl hkn _ rfl ?_;intro w4 hP4 hg4;obtain⟨f0,f1⟩:=unhide FIN w3 w4 hP hg3 ⟨_,_,_,hP4,if_pos rfl⟩ hg4))
     go_roundg (us.length-(q+1))
     case rel=>exact⟨q+1,_,by omega,by go_num,f0,f1⟩
     case measure=>omega
    ·obtain⟨bs,hm,hbs',hBb,hne⟩:=(unhide HC2).yes ixn hgi;rw[hm]at hlk;unfold varK at hlk;dsimp only[Option.getD_some,if_false,Bool.false_eq_true]at hlk;have hq:=eql_set;obtain⟨ms,k0,v0,hms,_⟩:=hbs';obtain⟨ln,hkn⟩:=key_int n (by omega);have HMS:=hide hms;have hbm:bm<wr.heap.size:=(unhide CY).map.lt;have FIN:Hid (∀ w4,(∃ ms k v,MapK Tryz.prog 3 w4 bs ms/\ms k=some v)->((wr.alloc (.cells #[.bool true,.int .i64 ixn] 60)).alloc (.cells #[.int .i64 f,.int .i64 ixn] 68)).grownBy w4 (some bs) ->
       CloW B f bm (fun i=>g i||capUps us (q+1) i) m w4/\Below B w w4):=fun w4 h3 h4=>by
      obtain⟨ms',k',v',h5,h6⟩:=h3;have hA2:=unhide HA;have hz3:=hA2.size;refine⟨((unhide HC2).stored hne h5 h6 h4).congr (fun i=>?_),(unhide HW).trans ((hA2.mono hBr).trans ⟨h4.os,h4.tape,h4.output,h4.size,fun k hk=>h4.block k (by omega) (fun e=>by have:=Option.some.inj e;omega)⟩)⟩;rw[unhide HE i];by_cases e:i=ixn
      ·subst e;rw[hgi];rfl
      ·simp[e]
     clear hms;go_wp2_with (at_mapUpdate;refine wpList_putK keyed_int _ rfl _ _ _ 66 120 rfl Tryz.underlying66 bs _ (unhide HMS) rfl _ rfl hkn _ rfl ?_;intro w4 hP4 hg4;obtain⟨f0,f1⟩:=unhide FIN w4 ⟨_,_,_,hP4,if_pos rfl⟩ hg4)
     go_roundg (us.length-(q+1))
     case rel=>exact⟨q+1,_,by omega,by go_num,f0,f1⟩
     case measure=>omega
  ·have HK:Hid (q=us.length):=by show _=_;omega
   go_wp2_with fail
   go_end0
   exact⟨rfl,⟨m,by rw[<-HK.out];exact hy⟩,hw⟩
end Go.Proofs.YtofcbekoaghikaaGreatDoor
