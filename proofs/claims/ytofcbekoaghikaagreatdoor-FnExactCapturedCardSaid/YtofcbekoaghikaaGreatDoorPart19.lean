import Derived.Test.YtofcbekoaghikaaGreatDoorPart18
set_option linter.unusedSimpArgs false
set_option linter.unusedVariables false
set_option maxHeartbeats 4000000
set_option maxRecDepth 100000
namespace Go.Proofs.YtofcbekoaghikaaGreatDoor
open Go.RowKit
theorem zero_step (w:World):(zeroValue 116).run Tryz.prog w=.ok .nilFunc w:=by kernel_rfl
theorem look_step {C:VC}{s:VS}{w:World}(h:Vis C s w)(k:Int):(Instr.lookup 113 (.map (some C.kb)) (.int .i64 k) true).run Tryz.prog w=.ok (.tuple #[(stepOf C.vb k).getD .nilFunc,.bool (stepOf C.vb k).isSome]) w:=
 h.k.look Tryz.underlying113 Tryz.underlying3 (zero_step _) k true
theorem visit_end {C:VC}{K:Cx}{n:Nat}{F G:Int->Int->Int->Prop}{w w0 w1:World}(h5:∀ c f p,G c f p↔(F c f p\/(c=5/\f=C.f/\p=n/\100<K.dpt n)))(hB:ButS C.T w.heap.size w w0){s':VS}(hV:Vis C s' w1)(hA:Ahead C s' (fun v=>K.cnt n v+letOf C n v) (K.lps n) (K.dpt n+1))
  (hL:Least (fun c f p=>G c f p\/Own C K n c f p\/TrK C K n (nkidN C n) c f p) s')(hB1:ButS C.T w0.heap.size w0 w1) :
  ∃ s'',Vis C s'' (w1.setCell ⟨C.vb,13,none⟩ (.int .i64 (K.dpt n)))/\Ahead C s'' (fun v=>K.cnt n v+letOf C n v) (K.lps n) (K.dpt n)/\Least (fun c f p=>F c f p\/Tr C K n c f p) s''/\ButS C.T w.heap.size w (w1.setCell ⟨C.vb,13,none⟩ (.int .i64 (K.dpt n))):=
 ⟨_,hV.setDp _,⟨hA.sc,hA.lo,rfl⟩,hL.congr (fun c f p=>by
  rw[tr_split,h5];constructor
  ·rintro(h | h | h | h)
   ·exact .inl (.inl h)
   ·exact .inl (.inr h)
   ·exact .inr (.inl h)
   ·exact .inr (.inr h)
  ·rintro((h | h) | h | h)
   ·exact .inl h
   ·exact .inr (.inl h)
   ·exact .inr (.inr (.inl h))
   ·exact .inr (.inr (.inr h))) rfl rfl rfl,(hB.next hB1).set C.Tv _ _⟩
theorem visit_block (C:VC)(K:Cx)(hK:CxOk C K)(n:Nat)(hn:n<C.x.nodes.length)(hst:stepOf C.vb (kindN C n)=some (.func (.func 88) #[.pointer (some ⟨C.vb,0,none⟩)] #[]))
  (STEP:∀(s:VS)(w:World)(F:Int->Int->Int->Prop),Vis C s w->Ahead C s (K.cnt n) (K.lps n) (K.dpt n+1)->Least F s->Calls Tryz.prog 88 #[.pointer (some ⟨C.vb,0,none⟩),.int .i64 n] w (StepPost C K n F w)):VisitOk C K n:=by
 intro s w F hVw hAw hLw;have hd:=hK.dpt0 n hn;have hd0:=hd.1;have hd1:=hd.2;have HST:=hide hst;have HSTEP:=hide STEP;have hBw:ButS C.T w.heap.size w w:=ButS.refl _ _ _;have c13:=hVw.c13;rw[hAw.dp]at c13;clear hst STEP hd hK;by_cases q:100<K.dpt n
 ·have q':decide (100<K.dpt n)=true:=decide_eq_true q;have HQ:=hide q;have T:=hide (tell_any C s 5 n w hVw);have HA:=hide (hAw.tell 5 n);have HL:=hide (hLw.tell (C:=C) (c:=5) (by decide) n);clear hVw hAw hLw;go_enter Tryz.func73,Tryz.ntmps73;go_wp2_with fail
  refine(unhide T).mono ?_;rintro e w1 ⟨rfl,hVw1,hBw1⟩;have hAw1:=unhide HA;have hLw1:=unhide HL;clear T HA HL c13;obtain⟨b,off,hna,hb,N⟩:=hVw1.node hn;have cK:w1.cell? ⟨b,off+n * 8,none⟩=some (.int .i64 (kindN C n)):=N.kind;have c8:=hVw1.c8;rw[hna]at c8;have c9:=hVw1.c9;have c13:=hVw1.c13;rw[hAw1.dp]at c13;have z13:=hVw1.v.frozen 13;have hnl:=hVw1.nodes.1;have hlk:∀ q,(Instr.lookup 113 (.map (some C.kb)) (.int .i64 (kindN C n)) true).run Tryz.prog (w1.drewN q)=.ok (.tuple #[.func (.func 88) #[.pointer (some ⟨C.vb,0,none⟩)] #[],.bool true]) (w1.drewN q):=fun q=>by rw[look_step (hVw1.drewN q),unhide HST];rfl
  have CALL:Hid (∀ q,Calls Tryz.prog 88 #[.pointer (some ⟨C.vb,0,none⟩),.int .i64 n] ((w1.drewN q).setCell ⟨C.vb,13,none⟩ (.int .i64 (K.dpt n+1))) (StepPost C K n (fun c' f' n'=>F c' f' n'\/(c'=5/\f'=C.f/\n'=n)) ((w1.drewN q).setCell ⟨C.vb,13,none⟩ (.int .i64 (K.dpt n+1))))):=fun q=>
   unhide HSTEP { (tellS C s 5 n)with dp:=K.dpt n+1 } _ (fun c' f' n'=>F c' f' n'\/(c'=5/\f'=C.f/\n'=n)) ((hVw1.drewN q).setDp _) ⟨hAw1.sc,hAw1.lo,rfl⟩ (hLw1.congr (fun _ _ _=>Iff.rfl) rfl rfl rfl)
  have HB0:Hid (∀ q,ButS C.T w.heap.size w ((w1.drewN q).setCell ⟨C.vb,13,none⟩ (.int .i64 (K.dpt n+1)))):=fun q=>(hBw1.trans (ButS.of_below (below_drewN _ _ q))).set C.Tv _ _;clear N hVw1 hAw1 hLw1 hBw1;generalize kindN C n=kn at *;go_wp2_with fail
  go_quiet (fail)
  go_wp2_with fail
  refine(unhide CALL _).mono ?_;rintro e w2 ⟨rfl,s2,hV2,hA2,hL2,hB2⟩;have c13:=hV2.c13;rw[hA2.dp]at c13;have z13:=hV2.v.frozen 13;have FIN:=hide (visit_end (F:=F) (K:=K) (n:=n) (fun c f p=>⟨fun h=>h.elim .inl (fun h=>.inr ⟨h.1,h.2.1,h.2.2,HQ.out⟩),fun h=>h.elim .inl (fun h=>.inr ⟨h.1,h.2.1,h.2.2.1⟩)⟩) (unhide HB0 _) hV2 hA2 hL2 hB2);clear hV2 hA2 hL2 hB2;go_wp2_with fail
  go_end0
  exact⟨rfl,unhide FIN⟩
 ·have q':decide (100<K.dpt n)=false:=decide_eq_false q;have HQ:=hide q;clear q c13;obtain⟨b,off,hna,hb,N⟩:=hVw.node hn;have cK:w.cell? ⟨b,off+n * 8,none⟩=some (.int .i64 (kindN C n)):=N.kind;have c8:=hVw.c8;rw[hna]at c8;have c9:=hVw.c9;have c13:=hVw.c13;rw[hAw.dp]at c13;have z13:=hVw.v.frozen 13;have hnl:=hVw.nodes.1;have hlk:∀ q,(Instr.lookup 113 (.map (some C.kb)) (.int .i64 (kindN C n)) true).run Tryz.prog (w.drewN q)=.ok (.tuple #[.func (.func 88) #[.pointer (some ⟨C.vb,0,none⟩)] #[],.bool true]) (w.drewN q):=fun q=>by rw[look_step (hVw.drewN q),unhide HST];rfl
  have CALL:Hid (∀ q,Calls Tryz.prog 88 #[.pointer (some ⟨C.vb,0,none⟩),.int .i64 n] ((w.drewN q).setCell ⟨C.vb,13,none⟩ (.int .i64 (K.dpt n+1))) (StepPost C K n F ((w.drewN q).setCell ⟨C.vb,13,none⟩ (.int .i64 (K.dpt n+1))))):=fun q=>
   unhide HSTEP { s with dp:=K.dpt n+1 } _ F ((hVw.drewN q).setDp _) ⟨hAw.sc,hAw.lo,rfl⟩ (hLw.congr (fun _ _ _=>Iff.rfl) rfl rfl rfl)
  have HB0:Hid (∀ q,ButS C.T w.heap.size w ((w.drewN q).setCell ⟨C.vb,13,none⟩ (.int .i64 (K.dpt n+1)))):=fun q=>(hBw.trans (ButS.of_below (below_drewN _ _ q))).set C.Tv _ _;clear N hVw hAw hLw hBw;generalize kindN C n=kn at *;go_enter Tryz.func73,Tryz.ntmps73;go_wp2_with fail
  go_quiet (fail)
  go_wp2_with fail
  refine(unhide CALL _).mono ?_;rintro e w2 ⟨rfl,s2,hV2,hA2,hL2,hB2⟩;have c13:=hV2.c13;rw[hA2.dp]at c13;have z13:=hV2.v.frozen 13;have FIN:=hide (visit_end (F:=F) (K:=K) (n:=n) (fun c f p=>⟨.inl,fun h=>h.elim id (fun h=>absurd h.2.2.2 (by have:=HQ.out;omega))⟩) (unhide HB0 _) hV2 hA2 hL2 hB2);clear hV2 hA2 hL2 hB2;go_wp2_with fail
  go_end0
  exact⟨rfl,unhide FIN⟩
theorem visit_let (C:VC)(K:Cx)(hK:CxOk C K)(n:Nat)(hn:n<C.x.nodes.length)(hst:stepOf C.vb (kindN C n)=some (.func (.func 89) #[.pointer (some ⟨C.vb,0,none⟩)] #[]))
  (STEP:∀(s:VS)(w:World)(F:Int->Int->Int->Prop),Vis C s w->Ahead C s (K.cnt n) (K.lps n) (K.dpt n+1)->Least F s->Calls Tryz.prog 89 #[.pointer (some ⟨C.vb,0,none⟩),.int .i64 n] w (StepPost C K n F w)):VisitOk C K n:=by
 intro s w F hVw hAw hLw;have hd:=hK.dpt0 n hn;have hd0:=hd.1;have hd1:=hd.2;have HST:=hide hst;have HSTEP:=hide STEP;have hBw:ButS C.T w.heap.size w w:=ButS.refl _ _ _;have c13:=hVw.c13;rw[hAw.dp]at c13;clear hst STEP hd hK;by_cases q:100<K.dpt n
 ·have q':decide (100<K.dpt n)=true:=decide_eq_true q;have HQ:=hide q;have T:=hide (tell_any C s 5 n w hVw);have HA:=hide (hAw.tell 5 n);have HL:=hide (hLw.tell (C:=C) (c:=5) (by decide) n);clear hVw hAw hLw;go_enter Tryz.func73,Tryz.ntmps73;go_wp2_with fail
  refine(unhide T).mono ?_;rintro e w1 ⟨rfl,hVw1,hBw1⟩;have hAw1:=unhide HA;have hLw1:=unhide HL;clear T HA HL c13;obtain⟨b,off,hna,hb,N⟩:=hVw1.node hn;have cK:w1.cell? ⟨b,off+n * 8,none⟩=some (.int .i64 (kindN C n)):=N.kind;have c8:=hVw1.c8;rw[hna]at c8;have c9:=hVw1.c9;have c13:=hVw1.c13;rw[hAw1.dp]at c13;have z13:=hVw1.v.frozen 13;have hnl:=hVw1.nodes.1;have hlk:∀ q,(Instr.lookup 113 (.map (some C.kb)) (.int .i64 (kindN C n)) true).run Tryz.prog (w1.drewN q)=.ok (.tuple #[.func (.func 89) #[.pointer (some ⟨C.vb,0,none⟩)] #[],.bool true]) (w1.drewN q):=fun q=>by rw[look_step (hVw1.drewN q),unhide HST];rfl
  have CALL:Hid (∀ q,Calls Tryz.prog 89 #[.pointer (some ⟨C.vb,0,none⟩),.int .i64 n] ((w1.drewN q).setCell ⟨C.vb,13,none⟩ (.int .i64 (K.dpt n+1))) (StepPost C K n (fun c' f' n'=>F c' f' n'\/(c'=5/\f'=C.f/\n'=n)) ((w1.drewN q).setCell ⟨C.vb,13,none⟩ (.int .i64 (K.dpt n+1))))):=fun q=>
   unhide HSTEP { (tellS C s 5 n)with dp:=K.dpt n+1 } _ (fun c' f' n'=>F c' f' n'\/(c'=5/\f'=C.f/\n'=n)) ((hVw1.drewN q).setDp _) ⟨hAw1.sc,hAw1.lo,rfl⟩ (hLw1.congr (fun _ _ _=>Iff.rfl) rfl rfl rfl)
  have HB0:Hid (∀ q,ButS C.T w.heap.size w ((w1.drewN q).setCell ⟨C.vb,13,none⟩ (.int .i64 (K.dpt n+1)))):=fun q=>(hBw1.trans (ButS.of_below (below_drewN _ _ q))).set C.Tv _ _;clear N hVw1 hAw1 hLw1 hBw1;generalize kindN C n=kn at *;go_wp2_with fail
  go_quiet (fail)
  go_wp2_with fail
  refine(unhide CALL _).mono ?_;rintro e w2 ⟨rfl,s2,hV2,hA2,hL2,hB2⟩;have c13:=hV2.c13;rw[hA2.dp]at c13;have z13:=hV2.v.frozen 13;have FIN:=hide (visit_end (F:=F) (K:=K) (n:=n) (fun c f p=>⟨fun h=>h.elim .inl (fun h=>.inr ⟨h.1,h.2.1,h.2.2,HQ.out⟩),fun h=>h.elim .inl (fun h=>.inr ⟨h.1,h.2.1,h.2.2.1⟩)⟩) (unhide HB0 _) hV2 hA2 hL2 hB2);clear hV2 hA2 hL2 hB2;go_wp2_with fail
  go_end0
  exact⟨rfl,unhide FIN⟩
 ·have q':decide (100<K.dpt n)=false:=decide_eq_false q;have HQ:=hide q;clear q c13;obtain⟨b,off,hna,hb,N⟩:=hVw.node hn;have cK:w.cell? ⟨b,off+n * 8,none⟩=some (.int .i64 (kindN C n)):=N.kind;have c8:=hVw.c8;rw[hna]at c8;have c9:=hVw.c9;have c13:=hVw.c13;rw[hAw.dp]at c13;have z13:=hVw.v.frozen 13;have hnl:=hVw.nodes.1;have hlk:∀ q,(Instr.lookup 113 (.map (some C.kb)) (.int .i64 (kindN C n)) true).run Tryz.prog (w.drewN q)=.ok (.tuple #[.func (.func 89) #[.pointer (some ⟨C.vb,0,none⟩)] #[],.bool true]) (w.drewN q):=fun q=>by rw[look_step (hVw.drewN q),unhide HST];rfl
  have CALL:Hid (∀ q,Calls Tryz.prog 89 #[.pointer (some ⟨C.vb,0,none⟩),.int .i64 n] ((w.drewN q).setCell ⟨C.vb,13,none⟩ (.int .i64 (K.dpt n+1))) (StepPost C K n F ((w.drewN q).setCell ⟨C.vb,13,none⟩ (.int .i64 (K.dpt n+1))))):=fun q=>
   unhide HSTEP { s with dp:=K.dpt n+1 } _ F ((hVw.drewN q).setDp _) ⟨hAw.sc,hAw.lo,rfl⟩ (hLw.congr (fun _ _ _=>Iff.rfl) rfl rfl rfl)
  have HB0:Hid (∀ q,ButS C.T w.heap.size w ((w.drewN q).setCell ⟨C.vb,13,none⟩ (.int .i64 (K.dpt n+1)))):=fun q=>(hBw.trans (ButS.of_below (below_drewN _ _ q))).set C.Tv _ _;clear N hVw hAw hLw hBw;generalize kindN C n=kn at *;go_enter Tryz.func73,Tryz.ntmps73;go_wp2_with fail
  go_quiet (fail)
  go_wp2_with fail
  refine(unhide CALL _).mono ?_;rintro e w2 ⟨rfl,s2,hV2,hA2,hL2,hB2⟩;have c13:=hV2.c13;rw[hA2.dp]at c13;have z13:=hV2.v.frozen 13;have FIN:=hide (visit_end (F:=F) (K:=K) (n:=n) (fun c f p=>⟨.inl,fun h=>h.elim id (fun h=>absurd h.2.2.2 (by have:=HQ.out;omega))⟩) (unhide HB0 _) hV2 hA2 hL2 hB2);clear hV2 hA2 hL2 hB2;go_wp2_with fail
  go_end0
  exact⟨rfl,unhide FIN⟩
theorem visit_loop (C:VC)(K:Cx)(hK:CxOk C K)(n:Nat)(hn:n<C.x.nodes.length)(hst:stepOf C.vb (kindN C n)=some (.func (.func 90) #[.pointer (some ⟨C.vb,0,none⟩)] #[]))
  (STEP:∀(s:VS)(w:World)(F:Int->Int->Int->Prop),Vis C s w->Ahead C s (K.cnt n) (K.lps n) (K.dpt n+1)->Least F s->Calls Tryz.prog 90 #[.pointer (some ⟨C.vb,0,none⟩),.int .i64 n] w (StepPost C K n F w)):VisitOk C K n:=by
 intro s w F hVw hAw hLw;have hd:=hK.dpt0 n hn;have hd0:=hd.1;have hd1:=hd.2;have HST:=hide hst;have HSTEP:=hide STEP;have hBw:ButS C.T w.heap.size w w:=ButS.refl _ _ _;have c13:=hVw.c13;rw[hAw.dp]at c13;clear hst STEP hd hK;by_cases q:100<K.dpt n
 ·have q':decide (100<K.dpt n)=true:=decide_eq_true q;have HQ:=hide q;have T:=hide (tell_any C s 5 n w hVw);have HA:=hide (hAw.tell 5 n);have HL:=hide (hLw.tell (C:=C) (c:=5) (by decide) n);clear hVw hAw hLw;go_enter Tryz.func73,Tryz.ntmps73;go_wp2_with fail
  refine(unhide T).mono ?_;rintro e w1 ⟨rfl,hVw1,hBw1⟩;have hAw1:=unhide HA;have hLw1:=unhide HL;clear T HA HL c13;obtain⟨b,off,hna,hb,N⟩:=hVw1.node hn;have cK:w1.cell? ⟨b,off+n * 8,none⟩=some (.int .i64 (kindN C n)):=N.kind;have c8:=hVw1.c8;rw[hna]at c8;have c9:=hVw1.c9;have c13:=hVw1.c13;rw[hAw1.dp]at c13;have z13:=hVw1.v.frozen 13;have hnl:=hVw1.nodes.1;have hlk:∀ q,(Instr.lookup 113 (.map (some C.kb)) (.int .i64 (kindN C n)) true).run Tryz.prog (w1.drewN q)=.ok (.tuple #[.func (.func 90) #[.pointer (some ⟨C.vb,0,none⟩)] #[],.bool true]) (w1.drewN q):=fun q=>by rw[look_step (hVw1.drewN q),unhide HST];rfl
  have CALL:Hid (∀ q,Calls Tryz.prog 90 #[.pointer (some ⟨C.vb,0,none⟩),.int .i64 n] ((w1.drewN q).setCell ⟨C.vb,13,none⟩ (.int .i64 (K.dpt n+1))) (StepPost C K n (fun c' f' n'=>F c' f' n'\/(c'=5/\f'=C.f/\n'=n)) ((w1.drewN q).setCell ⟨C.vb,13,none⟩ (.int .i64 (K.dpt n+1))))):=fun q=>
   unhide HSTEP { (tellS C s 5 n)with dp:=K.dpt n+1 } _ (fun c' f' n'=>F c' f' n'\/(c'=5/\f'=C.f/\n'=n)) ((hVw1.drewN q).setDp _) ⟨hAw1.sc,hAw1.lo,rfl⟩ (hLw1.congr (fun _ _ _=>Iff.rfl) rfl rfl rfl)
  have HB0:Hid (∀ q,ButS C.T w.heap.size w ((w1.drewN q).setCell ⟨C.vb,13,none⟩ (.int .i64 (K.dpt n+1)))):=fun q=>(hBw1.trans (ButS.of_below (below_drewN _ _ q))).set C.Tv _ _;clear N hVw1 hAw1 hLw1 hBw1;generalize kindN C n=kn at *;go_wp2_with fail
  go_quiet (fail)
  go_wp2_with fail
  refine(unhide CALL _).mono ?_;rintro e w2 ⟨rfl,s2,hV2,hA2,hL2,hB2⟩;have c13:=hV2.c13;rw[hA2.dp]at c13;have z13:=hV2.v.frozen 13;have FIN:=hide (visit_end (F:=F) (K:=K) (n:=n) (fun c f p=>⟨fun h=>h.elim .inl (fun h=>.inr ⟨h.1,h.2.1,h.2.2,HQ.out⟩),fun h=>h.elim .inl (fun h=>.inr ⟨h.1,h.2.1,h.2.2.1⟩)⟩) (unhide HB0 _) hV2 hA2 hL2 hB2);clear hV2 hA2 hL2 hB2;go_wp2_with fail
  go_end0
  exact⟨rfl,unhide FIN⟩
 ·have q':decide (100<K.dpt n)=false:=decide_eq_false q;have HQ:=hide q;clear q c13;obtain⟨b,off,hna,hb,N⟩:=hVw.node hn;have cK:w.cell? ⟨b,off+n * 8,none⟩=some (.int .i64 (kindN C n)):=N.kind;have c8:=hVw.c8;rw[hna]at c8;have c9:=hVw.c9;have c13:=hVw.c13;rw[hAw.dp]at c13;have z13:=hVw.v.frozen 13;have hnl:=hVw.nodes.1;have hlk:∀ q,(Instr.lookup 113 (.map (some C.kb)) (.int .i64 (kindN C n)) true).run Tryz.prog (w.drewN q)=.ok (.tuple #[.func (.func 90) #[.pointer (some ⟨C.vb,0,none⟩)] #[],.bool true]) (w.drewN q):=fun q=>by rw[look_step (hVw.drewN q),unhide HST];rfl
  have CALL:Hid (∀ q,Calls Tryz.prog 90 #[.pointer (some ⟨C.vb,0,none⟩),.int .i64 n] ((w.drewN q).setCell ⟨C.vb,13,none⟩ (.int .i64 (K.dpt n+1))) (StepPost C K n F ((w.drewN q).setCell ⟨C.vb,13,none⟩ (.int .i64 (K.dpt n+1))))):=fun q=>
   unhide HSTEP { s with dp:=K.dpt n+1 } _ F ((hVw.drewN q).setDp _) ⟨hAw.sc,hAw.lo,rfl⟩ (hLw.congr (fun _ _ _=>Iff.rfl) rfl rfl rfl)
  have HB0:Hid (∀ q,ButS C.T w.heap.size w ((w.drewN q).setCell ⟨C.vb,13,none⟩ (.int .i64 (K.dpt n+1)))):=fun q=>(hBw.trans (ButS.of_below (below_drewN _ _ q))).set C.Tv _ _;clear N hVw hAw hLw hBw;generalize kindN C n=kn at *;go_enter Tryz.func73,Tryz.ntmps73;go_wp2_with fail
  go_quiet (fail)
  go_wp2_with fail
  refine(unhide CALL _).mono ?_;rintro e w2 ⟨rfl,s2,hV2,hA2,hL2,hB2⟩;have c13:=hV2.c13;rw[hA2.dp]at c13;have z13:=hV2.v.frozen 13;have FIN:=hide (visit_end (F:=F) (K:=K) (n:=n) (fun c f p=>⟨.inl,fun h=>h.elim id (fun h=>absurd h.2.2.2 (by have:=HQ.out;omega))⟩) (unhide HB0 _) hV2 hA2 hL2 hB2);clear hV2 hA2 hL2 hB2;go_wp2_with fail
  go_end0
  exact⟨rfl,unhide FIN⟩
theorem visit_try (C:VC)(K:Cx)(hK:CxOk C K)(n:Nat)(hn:n<C.x.nodes.length)(hst:stepOf C.vb (kindN C n)=some (.func (.func 91) #[.pointer (some ⟨C.vb,0,none⟩)] #[]))
  (STEP:∀(s:VS)(w:World)(F:Int->Int->Int->Prop),Vis C s w->Ahead C s (K.cnt n) (K.lps n) (K.dpt n+1)->Least F s->Calls Tryz.prog 91 #[.pointer (some ⟨C.vb,0,none⟩),.int .i64 n] w (StepPost C K n F w)):VisitOk C K n:=by
 intro s w F hVw hAw hLw;have hd:=hK.dpt0 n hn;have hd0:=hd.1;have hd1:=hd.2;have HST:=hide hst;have HSTEP:=hide STEP;have hBw:ButS C.T w.heap.size w w:=ButS.refl _ _ _;have c13:=hVw.c13;rw[hAw.dp]at c13;clear hst STEP hd hK;by_cases q:100<K.dpt n
 ·have q':decide (100<K.dpt n)=true:=decide_eq_true q;have HQ:=hide q;have T:=hide (tell_any C s 5 n w hVw);have HA:=hide (hAw.tell 5 n);have HL:=hide (hLw.tell (C:=C) (c:=5) (by decide) n);clear hVw hAw hLw;go_enter Tryz.func73,Tryz.ntmps73;go_wp2_with fail
  refine(unhide T).mono ?_;rintro e w1 ⟨rfl,hVw1,hBw1⟩;have hAw1:=unhide HA;have hLw1:=unhide HL;clear T HA HL c13;obtain⟨b,off,hna,hb,N⟩:=hVw1.node hn;have cK:w1.cell? ⟨b,off+n * 8,none⟩=some (.int .i64 (kindN C n)):=N.kind;have c8:=hVw1.c8;rw[hna]at c8;have c9:=hVw1.c9;have c13:=hVw1.c13;rw[hAw1.dp]at c13;have z13:=hVw1.v.frozen 13;have hnl:=hVw1.nodes.1;have hlk:∀ q,(Instr.lookup 113 (.map (some C.kb)) (.int .i64 (kindN C n)) true).run Tryz.prog (w1.drewN q)=.ok (.tuple #[.func (.func 91) #[.pointer (some ⟨C.vb,0,none⟩)] #[],.bool true]) (w1.drewN q):=fun q=>by rw[look_step (hVw1.drewN q),unhide HST];rfl
  have CALL:Hid (∀ q,Calls Tryz.prog 91 #[.pointer (some ⟨C.vb,0,none⟩),.int .i64 n] ((w1.drewN q).setCell ⟨C.vb,13,none⟩ (.int .i64 (K.dpt n+1))) (StepPost C K n (fun c' f' n'=>F c' f' n'\/(c'=5/\f'=C.f/\n'=n)) ((w1.drewN q).setCell ⟨C.vb,13,none⟩ (.int .i64 (K.dpt n+1))))):=fun q=>
   unhide HSTEP { (tellS C s 5 n)with dp:=K.dpt n+1 } _ (fun c' f' n'=>F c' f' n'\/(c'=5/\f'=C.f/\n'=n)) ((hVw1.drewN q).setDp _) ⟨hAw1.sc,hAw1.lo,rfl⟩ (hLw1.congr (fun _ _ _=>Iff.rfl) rfl rfl rfl)
  have HB0:Hid (∀ q,ButS C.T w.heap.size w ((w1.drewN q).setCell ⟨C.vb,13,none⟩ (.int .i64 (K.dpt n+1)))):=fun q=>(hBw1.trans (ButS.of_below (below_drewN _ _ q))).set C.Tv _ _;clear N hVw1 hAw1 hLw1 hBw1;generalize kindN C n=kn at *;go_wp2_with fail
  go_quiet (fail)
  go_wp2_with fail
  refine(unhide CALL _).mono ?_;rintro e w2 ⟨rfl,s2,hV2,hA2,hL2,hB2⟩;have c13:=hV2.c13;rw[hA2.dp]at c13;have z13:=hV2.v.frozen 13;have FIN:=hide (visit_end (F:=F) (K:=K) (n:=n) (fun c f p=>⟨fun h=>h.elim .inl (fun h=>.inr ⟨h.1,h.2.1,h.2.2,HQ.out⟩),fun h=>h.elim .inl (fun h=>.inr ⟨h.1,h.2.1,h.2.2.1⟩)⟩) (unhide HB0 _) hV2 hA2 hL2 hB2);clear hV2 hA2 hL2 hB2;go_wp2_with fail
  go_end0
  exact⟨rfl,unhide FIN⟩
 ·have q':decide (100<K.dpt n)=false:=decide_eq_false q;have HQ:=hide q;clear q c13;obtain⟨b,off,hna,hb,N⟩:=hVw.node hn;have cK:w.cell? ⟨b,off+n * 8,none⟩=some (.int .i64 (kindN C n)):=N.kind;have c8:=hVw.c8;rw[hna]at c8;have c9:=hVw.c9;have c13:=hVw.c13;rw[hAw.dp]at c13;have z13:=hVw.v.frozen 13;have hnl:=hVw.nodes.1;have hlk:∀ q,(Instr.lookup 113 (.map (some C.kb)) (.int .i64 (kindN C n)) true).run Tryz.prog (w.drewN q)=.ok (.tuple #[.func (.func 91) #[.pointer (some ⟨C.vb,0,none⟩)] #[],.bool true]) (w.drewN q):=fun q=>by rw[look_step (hVw.drewN q),unhide HST];rfl
  have CALL:Hid (∀ q,Calls Tryz.prog 91 #[.pointer (some ⟨C.vb,0,none⟩),.int .i64 n] ((w.drewN q).setCell ⟨C.vb,13,none⟩ (.int .i64 (K.dpt n+1))) (StepPost C K n F ((w.drewN q).setCell ⟨C.vb,13,none⟩ (.int .i64 (K.dpt n+1))))):=fun q=>
   unhide HSTEP { s with dp:=K.dpt n+1 } _ F ((hVw.drewN q).setDp _) ⟨hAw.sc,hAw.lo,rfl⟩ (hLw.congr (fun _ _ _=>Iff.rfl) rfl rfl rfl)
  have HB0:Hid (∀ q,ButS C.T w.heap.size w ((w.drewN q).setCell ⟨C.vb,13,none⟩ (.int .i64 (K.dpt n+1)))):=fun q=>(hBw.trans (ButS.of_below (below_drewN _ _ q))).set C.Tv _ _;clear N hVw hAw hLw hBw;generalize kindN C n=kn at *;go_enter Tryz.func73,Tryz.ntmps73;go_wp2_with fail
  go_quiet (fail)
  go_wp2_with fail
  refine(unhide CALL _).mono ?_;rintro e w2 ⟨rfl,s2,hV2,hA2,hL2,hB2⟩;have c13:=hV2.c13;rw[hA2.dp]at c13;have z13:=hV2.v.frozen 13;have FIN:=hide (visit_end (F:=F) (K:=K) (n:=n) (fun c f p=>⟨.inl,fun h=>h.elim id (fun h=>absurd h.2.2.2 (by have:=HQ.out;omega))⟩) (unhide HB0 _) hV2 hA2 hL2 hB2);clear hV2 hA2 hL2 hB2;go_wp2_with fail
  go_end0
  exact⟨rfl,unhide FIN⟩
theorem visit_leave (C:VC)(K:Cx)(hK:CxOk C K)(n:Nat)(hn:n<C.x.nodes.length)(hst:stepOf C.vb (kindN C n)=some (.func (.func 92) #[.pointer (some ⟨C.vb,0,none⟩)] #[]))
  (STEP:∀(s:VS)(w:World)(F:Int->Int->Int->Prop),Vis C s w->Ahead C s (K.cnt n) (K.lps n) (K.dpt n+1)->Least F s->Calls Tryz.prog 92 #[.pointer (some ⟨C.vb,0,none⟩),.int .i64 n] w (StepPost C K n F w)):VisitOk C K n:=by
 intro s w F hVw hAw hLw;have hd:=hK.dpt0 n hn;have hd0:=hd.1;have hd1:=hd.2;have HST:=hide hst;have HSTEP:=hide STEP;have hBw:ButS C.T w.heap.size w w:=ButS.refl _ _ _;have c13:=hVw.c13;rw[hAw.dp]at c13;clear hst STEP hd hK;by_cases q:100<K.dpt n
 ·have q':decide (100<K.dpt n)=true:=decide_eq_true q;have HQ:=hide q;have T:=hide (tell_any C s 5 n w hVw);have HA:=hide (hAw.tell 5 n);have HL:=hide (hLw.tell (C:=C) (c:=5) (by decide) n);clear hVw hAw hLw;go_enter Tryz.func73,Tryz.ntmps73;go_wp2_with fail
  refine(unhide T).mono ?_;rintro e w1 ⟨rfl,hVw1,hBw1⟩;have hAw1:=unhide HA;have hLw1:=unhide HL;clear T HA HL c13;obtain⟨b,off,hna,hb,N⟩:=hVw1.node hn;have cK:w1.cell? ⟨b,off+n * 8,none⟩=some (.int .i64 (kindN C n)):=N.kind;have c8:=hVw1.c8;rw[hna]at c8;have c9:=hVw1.c9;have c13:=hVw1.c13;rw[hAw1.dp]at c13;have z13:=hVw1.v.frozen 13;have hnl:=hVw1.nodes.1;have hlk:∀ q,(Instr.lookup 113 (.map (some C.kb)) (.int .i64 (kindN C n)) true).run Tryz.prog (w1.drewN q)=.ok (.tuple #[.func (.func 92) #[.pointer (some ⟨C.vb,0,none⟩)] #[],.bool true]) (w1.drewN q):=fun q=>by rw[look_step (hVw1.drewN q),unhide HST];rfl
  have CALL:Hid (∀ q,Calls Tryz.prog 92 #[.pointer (some ⟨C.vb,0,none⟩),.int .i64 n] ((w1.drewN q).setCell ⟨C.vb,13,none⟩ (.int .i64 (K.dpt n+1))) (StepPost C K n (fun c' f' n'=>F c' f' n'\/(c'=5/\f'=C.f/\n'=n)) ((w1.drewN q).setCell ⟨C.vb,13,none⟩ (.int .i64 (K.dpt n+1))))):=fun q=>
   unhide HSTEP { (tellS C s 5 n)with dp:=K.dpt n+1 } _ (fun c' f' n'=>F c' f' n'\/(c'=5/\f'=C.f/\n'=n)) ((hVw1.drewN q).setDp _) ⟨hAw1.sc,hAw1.lo,rfl⟩ (hLw1.congr (fun _ _ _=>Iff.rfl) rfl rfl rfl)
  have HB0:Hid (∀ q,ButS C.T w.heap.size w ((w1.drewN q).setCell ⟨C.vb,13,none⟩ (.int .i64 (K.dpt n+1)))):=fun q=>(hBw1.trans (ButS.of_below (below_drewN _ _ q))).set C.Tv _ _;clear N hVw1 hAw1 hLw1 hBw1;generalize kindN C n=kn at *;go_wp2_with fail
  go_quiet (fail)
  go_wp2_with fail
  refine(unhide CALL _).mono ?_;rintro e w2 ⟨rfl,s2,hV2,hA2,hL2,hB2⟩;have c13:=hV2.c13;rw[hA2.dp]at c13;have z13:=hV2.v.frozen 13;have FIN:=hide (visit_end (F:=F) (K:=K) (n:=n) (fun c f p=>⟨fun h=>h.elim .inl (fun h=>.inr ⟨h.1,h.2.1,h.2.2,HQ.out⟩),fun h=>h.elim .inl (fun h=>.inr ⟨h.1,h.2.1,h.2.2.1⟩)⟩) (unhide HB0 _) hV2 hA2 hL2 hB2);clear hV2 hA2 hL2 hB2;go_wp2_with fail
  go_end0
  exact⟨rfl,unhide FIN⟩
 ·have q':decide (100<K.dpt n)=false:=decide_eq_false q;have HQ:=hide q;clear q c13;obtain⟨b,off,hna,hb,N⟩:=hVw.node hn;have cK:w.cell? ⟨b,off+n * 8,none⟩=some (.int .i64 (kindN C n)):=N.kind;have c8:=hVw.c8;rw[hna]at c8;have c9:=hVw.c9;have c13:=hVw.c13;rw[hAw.dp]at c13;have z13:=hVw.v.frozen 13;have hnl:=hVw.nodes.1;have hlk:∀ q,(Instr.lookup 113 (.map (some C.kb)) (.int .i64 (kindN C n)) true).run Tryz.prog (w.drewN q)=.ok (.tuple #[.func (.func 92) #[.pointer (some ⟨C.vb,0,none⟩)] #[],.bool true]) (w.drewN q):=fun q=>by rw[look_step (hVw.drewN q),unhide HST];rfl
  have CALL:Hid (∀ q,Calls Tryz.prog 92 #[.pointer (some ⟨C.vb,0,none⟩),.int .i64 n] ((w.drewN q).setCell ⟨C.vb,13,none⟩ (.int .i64 (K.dpt n+1))) (StepPost C K n F ((w.drewN q).setCell ⟨C.vb,13,none⟩ (.int .i64 (K.dpt n+1))))):=fun q=>
   unhide HSTEP { s with dp:=K.dpt n+1 } _ F ((hVw.drewN q).setDp _) ⟨hAw.sc,hAw.lo,rfl⟩ (hLw.congr (fun _ _ _=>Iff.rfl) rfl rfl rfl)
  have HB0:Hid (∀ q,ButS C.T w.heap.size w ((w.drewN q).setCell ⟨C.vb,13,none⟩ (.int .i64 (K.dpt n+1)))):=fun q=>(hBw.trans (ButS.of_below (below_drewN _ _ q))).set C.Tv _ _;clear N hVw hAw hLw hBw;generalize kindN C n=kn at *;go_enter Tryz.func73,Tryz.ntmps73;go_wp2_with fail
  go_quiet (fail)
  go_wp2_with fail
  refine(unhide CALL _).mono ?_;rintro e w2 ⟨rfl,s2,hV2,hA2,hL2,hB2⟩;have c13:=hV2.c13;rw[hA2.dp]at c13;have z13:=hV2.v.frozen 13;have FIN:=hide (visit_end (F:=F) (K:=K) (n:=n) (fun c f p=>⟨.inl,fun h=>h.elim id (fun h=>absurd h.2.2.2 (by have:=HQ.out;omega))⟩) (unhide HB0 _) hV2 hA2 hL2 hB2);clear hV2 hA2 hL2 hB2;go_wp2_with fail
  go_end0
  exact⟨rfl,unhide FIN⟩
theorem visit_variable (C:VC)(K:Cx)(hK:CxOk C K)(n:Nat)(hn:n<C.x.nodes.length)(hst:stepOf C.vb (kindN C n)=some (.func (.func 93) #[.pointer (some ⟨C.vb,0,none⟩)] #[]))
  (STEP:∀(s:VS)(w:World)(F:Int->Int->Int->Prop),Vis C s w->Ahead C s (K.cnt n) (K.lps n) (K.dpt n+1)->Least F s->Calls Tryz.prog 93 #[.pointer (some ⟨C.vb,0,none⟩),.int .i64 n] w (StepPost C K n F w)):VisitOk C K n:=by
 intro s w F hVw hAw hLw;have hd:=hK.dpt0 n hn;have hd0:=hd.1;have hd1:=hd.2;have HST:=hide hst;have HSTEP:=hide STEP;have hBw:ButS C.T w.heap.size w w:=ButS.refl _ _ _;have c13:=hVw.c13;rw[hAw.dp]at c13;clear hst STEP hd hK;by_cases q:100<K.dpt n
 ·have q':decide (100<K.dpt n)=true:=decide_eq_true q;have HQ:=hide q;have T:=hide (tell_any C s 5 n w hVw);have HA:=hide (hAw.tell 5 n);have HL:=hide (hLw.tell (C:=C) (c:=5) (by decide) n);clear hVw hAw hLw;go_enter Tryz.func73,Tryz.ntmps73;go_wp2_with fail
  refine(unhide T).mono ?_;rintro e w1 ⟨rfl,hVw1,hBw1⟩;have hAw1:=unhide HA;have hLw1:=unhide HL;clear T HA HL c13;obtain⟨b,off,hna,hb,N⟩:=hVw1.node hn;have cK:w1.cell? ⟨b,off+n * 8,none⟩=some (.int .i64 (kindN C n)):=N.kind;have c8:=hVw1.c8;rw[hna]at c8;have c9:=hVw1.c9;have c13:=hVw1.c13;rw[hAw1.dp]at c13;have z13:=hVw1.v.frozen 13;have hnl:=hVw1.nodes.1;have hlk:∀ q,(Instr.lookup 113 (.map (some C.kb)) (.int .i64 (kindN C n)) true).run Tryz.prog (w1.drewN q)=.ok (.tuple #[.func (.func 93) #[.pointer (some ⟨C.vb,0,none⟩)] #[],.bool true]) (w1.drewN q):=fun q=>by rw[look_step (hVw1.drewN q),unhide HST];rfl
  have CALL:Hid (∀ q,Calls Tryz.prog 93 #[.pointer (some ⟨C.vb,0,none⟩),.int .i64 n] ((w1.drewN q).setCell ⟨C.vb,13,none⟩ (.int .i64 (K.dpt n+1))) (StepPost C K n (fun c' f' n'=>F c' f' n'\/(c'=5/\f'=C.f/\n'=n)) ((w1.drewN q).setCell ⟨C.vb,13,none⟩ (.int .i64 (K.dpt n+1))))):=fun q=>
   unhide HSTEP { (tellS C s 5 n)with dp:=K.dpt n+1 } _ (fun c' f' n'=>F c' f' n'\/(c'=5/\f'=C.f/\n'=n)) ((hVw1.drewN q).setDp _) ⟨hAw1.sc,hAw1.lo,rfl⟩ (hLw1.congr (fun _ _ _=>Iff.rfl) rfl rfl rfl)
  have HB0:Hid (∀ q,ButS C.T w.heap.size w ((w1.drewN q).setCell ⟨C.vb,13,none⟩ (.int .i64 (K.dpt n+1)))):=fun q=>(hBw1.trans (ButS.of_below (below_drewN _ _ q))).set C.Tv _ _;clear N hVw1 hAw1 hLw1 hBw1;generalize kindN C n=kn at *;go_wp2_with fail
  go_quiet (fail)
  go_wp2_with fail
  refine(unhide CALL _).mono ?_;rintro e w2 ⟨rfl,s2,hV2,hA2,hL2,hB2⟩;have c13:=hV2.c13;rw[hA2.dp]at c13;have z13:=hV2.v.frozen 13;have FIN:=hide (visit_end (F:=F) (K:=K) (n:=n) (fun c f p=>⟨fun h=>h.elim .inl (fun h=>.inr ⟨h.1,h.2.1,h.2.2,HQ.out⟩),fun h=>h.elim .inl (fun h=>.inr ⟨h.1,h.2.1,h.2.2.1⟩)⟩) (unhide HB0 _) hV2 hA2 hL2 hB2);clear hV2 hA2 hL2 hB2;go_wp2_with fail
  go_end0
  exact⟨rfl,unhide FIN⟩
 ·have q':decide (100<K.dpt n)=false:=decide_eq_false q;have HQ:=hide q;clear q c13;obtain⟨b,off,hna,hb,N⟩:=hVw.node hn;have cK:w.cell? ⟨b,off+n * 8,none⟩=some (.int .i64 (kindN C n)):=N.kind;have c8:=hVw.c8;rw[hna]at c8;have c9:=hVw.c9;have c13:=hVw.c13;rw[hAw.dp]at c13;have z13:=hVw.v.frozen 13;have hnl:=hVw.nodes.1;have hlk:∀ q,(Instr.lookup 113 (.map (some C.kb)) (.int .i64 (kindN C n)) true).run Tryz.prog (w.drewN q)=.ok (.tuple #[.func (.func 93) #[.pointer (some ⟨C.vb,0,none⟩)] #[],.bool true]) (w.drewN q):=fun q=>by rw[look_step (hVw.drewN q),unhide HST];rfl
  have CALL:Hid (∀ q,Calls Tryz.prog 93 #[.pointer (some ⟨C.vb,0,none⟩),.int .i64 n] ((w.drewN q).setCell ⟨C.vb,13,none⟩ (.int .i64 (K.dpt n+1))) (StepPost C K n F ((w.drewN q).setCell ⟨C.vb,13,none⟩ (.int .i64 (K.dpt n+1))))):=fun q=>
   unhide HSTEP { s with dp:=K.dpt n+1 } _ F ((hVw.drewN q).setDp _) ⟨hAw.sc,hAw.lo,rfl⟩ (hLw.congr (fun _ _ _=>Iff.rfl) rfl rfl rfl)
  have HB0:Hid (∀ q,ButS C.T w.heap.size w ((w.drewN q).setCell ⟨C.vb,13,none⟩ (.int .i64 (K.dpt n+1)))):=fun q=>(hBw.trans (ButS.of_below (below_drewN _ _ q))).set C.Tv _ _;clear N hVw hAw hLw hBw;generalize kindN C n=kn at *;go_enter Tryz.func73,Tryz.ntmps73;go_wp2_with fail
  go_quiet (fail)
  go_wp2_with fail
  refine(unhide CALL _).mono ?_;rintro e w2 ⟨rfl,s2,hV2,hA2,hL2,hB2⟩;have c13:=hV2.c13;rw[hA2.dp]at c13;have z13:=hV2.v.frozen 13;have FIN:=hide (visit_end (F:=F) (K:=K) (n:=n) (fun c f p=>⟨.inl,fun h=>h.elim id (fun h=>absurd h.2.2.2 (by have:=HQ.out;omega))⟩) (unhide HB0 _) hV2 hA2 hL2 hB2);clear hV2 hA2 hL2 hB2;go_wp2_with fail
  go_end0
  exact⟨rfl,unhide FIN⟩
theorem visit_up (C:VC)(K:Cx)(hK:CxOk C K)(n:Nat)(hn:n<C.x.nodes.length)(hst:stepOf C.vb (kindN C n)=some (.func (.func 94) #[.pointer (some ⟨C.vb,0,none⟩)] #[]))
  (STEP:∀(s:VS)(w:World)(F:Int->Int->Int->Prop),Vis C s w->Ahead C s (K.cnt n) (K.lps n) (K.dpt n+1)->Least F s->Calls Tryz.prog 94 #[.pointer (some ⟨C.vb,0,none⟩),.int .i64 n] w (StepPost C K n F w)):VisitOk C K n:=by
 intro s w F hVw hAw hLw;have hd:=hK.dpt0 n hn;have hd0:=hd.1;have hd1:=hd.2;have HST:=hide hst;have HSTEP:=hide STEP;have hBw:ButS C.T w.heap.size w w:=ButS.refl _ _ _;have c13:=hVw.c13;rw[hAw.dp]at c13;clear hst STEP hd hK;by_cases q:100<K.dpt n
 ·have q':decide (100<K.dpt n)=true:=decide_eq_true q;have HQ:=hide q;have T:=hide (tell_any C s 5 n w hVw);have HA:=hide (hAw.tell 5 n);have HL:=hide (hLw.tell (C:=C) (c:=5) (by decide) n);clear hVw hAw hLw;go_enter Tryz.func73,Tryz.ntmps73;go_wp2_with fail
  refine(unhide T).mono ?_;rintro e w1 ⟨rfl,hVw1,hBw1⟩;have hAw1:=unhide HA;have hLw1:=unhide HL;clear T HA HL c13;obtain⟨b,off,hna,hb,N⟩:=hVw1.node hn;have cK:w1.cell? ⟨b,off+n * 8,none⟩=some (.int .i64 (kindN C n)):=N.kind;have c8:=hVw1.c8;rw[hna]at c8;have c9:=hVw1.c9;have c13:=hVw1.c13;rw[hAw1.dp]at c13;have z13:=hVw1.v.frozen 13;have hnl:=hVw1.nodes.1;have hlk:∀ q,(Instr.lookup 113 (.map (some C.kb)) (.int .i64 (kindN C n)) true).run Tryz.prog (w1.drewN q)=.ok (.tuple #[.func (.func 94) #[.pointer (some ⟨C.vb,0,none⟩)] #[],.bool true]) (w1.drewN q):=fun q=>by rw[look_step (hVw1.drewN q),unhide HST];rfl
  have CALL:Hid (∀ q,Calls Tryz.prog 94 #[.pointer (some ⟨C.vb,0,none⟩),.int .i64 n] ((w1.drewN q).setCell ⟨C.vb,13,none⟩ (.int .i64 (K.dpt n+1))) (StepPost C K n (fun c' f' n'=>F c' f' n'\/(c'=5/\f'=C.f/\n'=n)) ((w1.drewN q).setCell ⟨C.vb,13,none⟩ (.int .i64 (K.dpt n+1))))):=fun q=>
   unhide HSTEP { (tellS C s 5 n)with dp:=K.dpt n+1 } _ (fun c' f' n'=>F c' f' n'\/(c'=5/\f'=C.f/\n'=n)) ((hVw1.drewN q).setDp _) ⟨hAw1.sc,hAw1.lo,rfl⟩ (hLw1.congr (fun _ _ _=>Iff.rfl) rfl rfl rfl)
  have HB0:Hid (∀ q,ButS C.T w.heap.size w ((w1.drewN q).setCell ⟨C.vb,13,none⟩ (.int .i64 (K.dpt n+1)))):=fun q=>(hBw1.trans (ButS.of_below (below_drewN _ _ q))).set C.Tv _ _;clear N hVw1 hAw1 hLw1 hBw1;generalize kindN C n=kn at *;go_wp2_with fail
  go_quiet (fail)
  go_wp2_with fail
  refine(unhide CALL _).mono ?_;rintro e w2 ⟨rfl,s2,hV2,hA2,hL2,hB2⟩;have c13:=hV2.c13;rw[hA2.dp]at c13;have z13:=hV2.v.frozen 13;have FIN:=hide (visit_end (F:=F) (K:=K) (n:=n) (fun c f p=>⟨fun h=>h.elim .inl (fun h=>.inr ⟨h.1,h.2.1,h.2.2,HQ.out⟩),fun h=>h.elim .inl (fun h=>.inr ⟨h.1,h.2.1,h.2.2.1⟩)⟩) (unhide HB0 _) hV2 hA2 hL2 hB2);clear hV2 hA2 hL2 hB2;go_wp2_with fail
  go_end0
  exact⟨rfl,unhide FIN⟩
 ·have q':decide (100<K.dpt n)=false:=decide_eq_false q;have HQ:=hide q;clear q c13;obtain⟨b,off,hna,hb,N⟩:=hVw.node hn;have cK:w.cell? ⟨b,off+n * 8,none⟩=some (.int .i64 (kindN C n)):=N.kind;have c8:=hVw.c8;rw[hna]at c8;have c9:=hVw.c9;have c13:=hVw.c13;rw[hAw.dp]at c13;have z13:=hVw.v.frozen 13;have hnl:=hVw.nodes.1;have hlk:∀ q,(Instr.lookup 113 (.map (some C.kb)) (.int .i64 (kindN C n)) true).run Tryz.prog (w.drewN q)=.ok (.tuple #[.func (.func 94) #[.pointer (some ⟨C.vb,0,none⟩)] #[],.bool true]) (w.drewN q):=fun q=>by rw[look_step (hVw.drewN q),unhide HST];rfl
  have CALL:Hid (∀ q,Calls Tryz.prog 94 #[.pointer (some ⟨C.vb,0,none⟩),.int .i64 n] ((w.drewN q).setCell ⟨C.vb,13,none⟩ (.int .i64 (K.dpt n+1))) (StepPost C K n F ((w.drewN q).setCell ⟨C.vb,13,none⟩ (.int .i64 (K.dpt n+1))))):=fun q=>
   unhide HSTEP { s with dp:=K.dpt n+1 } _ F ((hVw.drewN q).setDp _) ⟨hAw.sc,hAw.lo,rfl⟩ (hLw.congr (fun _ _ _=>Iff.rfl) rfl rfl rfl)
  have HB0:Hid (∀ q,ButS C.T w.heap.size w ((w.drewN q).setCell ⟨C.vb,13,none⟩ (.int .i64 (K.dpt n+1)))):=fun q=>(hBw.trans (ButS.of_below (below_drewN _ _ q))).set C.Tv _ _;clear N hVw hAw hLw hBw;generalize kindN C n=kn at *;go_enter Tryz.func73,Tryz.ntmps73;go_wp2_with fail
  go_quiet (fail)
  go_wp2_with fail
  refine(unhide CALL _).mono ?_;rintro e w2 ⟨rfl,s2,hV2,hA2,hL2,hB2⟩;have c13:=hV2.c13;rw[hA2.dp]at c13;have z13:=hV2.v.frozen 13;have FIN:=hide (visit_end (F:=F) (K:=K) (n:=n) (fun c f p=>⟨.inl,fun h=>h.elim id (fun h=>absurd h.2.2.2 (by have:=HQ.out;omega))⟩) (unhide HB0 _) hV2 hA2 hL2 hB2);clear hV2 hA2 hL2 hB2;go_wp2_with fail
  go_end0
  exact⟨rfl,unhide FIN⟩
theorem visit_closure (C:VC)(K:Cx)(hK:CxOk C K)(n:Nat)(hn:n<C.x.nodes.length)(hst:stepOf C.vb (kindN C n)=some (.func (.func 95) #[.pointer (some ⟨C.vb,0,none⟩)] #[]))
  (STEP:∀(s:VS)(w:World)(F:Int->Int->Int->Prop),Vis C s w->Ahead C s (K.cnt n) (K.lps n) (K.dpt n+1)->Least F s->Calls Tryz.prog 95 #[.pointer (some ⟨C.vb,0,none⟩),.int .i64 n] w (StepPost C K n F w)):VisitOk C K n:=by
 intro s w F hVw hAw hLw;have hd:=hK.dpt0 n hn;have hd0:=hd.1;have hd1:=hd.2;have HST:=hide hst;have HSTEP:=hide STEP;have hBw:ButS C.T w.heap.size w w:=ButS.refl _ _ _;have c13:=hVw.c13;rw[hAw.dp]at c13;clear hst STEP hd hK;by_cases q:100<K.dpt n
 ·have q':decide (100<K.dpt n)=true:=decide_eq_true q;have HQ:=hide q;have T:=hide (tell_any C s 5 n w hVw);have HA:=hide (hAw.tell 5 n);have HL:=hide (hLw.tell (C:=C) (c:=5) (by decide) n);clear hVw hAw hLw;go_enter Tryz.func73,Tryz.ntmps73;go_wp2_with fail
  refine(unhide T).mono ?_;rintro e w1 ⟨rfl,hVw1,hBw1⟩;have hAw1:=unhide HA;have hLw1:=unhide HL;clear T HA HL c13;obtain⟨b,off,hna,hb,N⟩:=hVw1.node hn;have cK:w1.cell? ⟨b,off+n * 8,none⟩=some (.int .i64 (kindN C n)):=N.kind;have c8:=hVw1.c8;rw[hna]at c8;have c9:=hVw1.c9;have c13:=hVw1.c13;rw[hAw1.dp]at c13;have z13:=hVw1.v.frozen 13;have hnl:=hVw1.nodes.1;have hlk:∀ q,(Instr.lookup 113 (.map (some C.kb)) (.int .i64 (kindN C n)) true).run Tryz.prog (w1.drewN q)=.ok (.tuple #[.func (.func 95) #[.pointer (some ⟨C.vb,0,none⟩)] #[],.bool true]) (w1.drewN q):=fun q=>by rw[look_step (hVw1.drewN q),unhide HST];rfl
  have CALL:Hid (∀ q,Calls Tryz.prog 95 #[.pointer (some ⟨C.vb,0,none⟩),.int .i64 n] ((w1.drewN q).setCell ⟨C.vb,13,none⟩ (.int .i64 (K.dpt n+1))) (StepPost C K n (fun c' f' n'=>F c' f' n'\/(c'=5/\f'=C.f/\n'=n)) ((w1.drewN q).setCell ⟨C.vb,13,none⟩ (.int .i64 (K.dpt n+1))))):=fun q=>
   unhide HSTEP { (tellS C s 5 n)with dp:=K.dpt n+1 } _ (fun c' f' n'=>F c' f' n'\/(c'=5/\f'=C.f/\n'=n)) ((hVw1.drewN q).setDp _) ⟨hAw1.sc,hAw1.lo,rfl⟩ (hLw1.congr (fun _ _ _=>Iff.rfl) rfl rfl rfl)
  have HB0:Hid (∀ q,ButS C.T w.heap.size w ((w1.drewN q).setCell ⟨C.vb,13,none⟩ (.int .i64 (K.dpt n+1)))):=fun q=>(hBw1.trans (ButS.of_below (below_drewN _ _ q))).set C.Tv _ _;clear N hVw1 hAw1 hLw1 hBw1;generalize kindN C n=kn at *;go_wp2_with fail
  go_quiet (fail)
  go_wp2_with fail
  refine(unhide CALL _).mono ?_;rintro e w2 ⟨rfl,s2,hV2,hA2,hL2,hB2⟩;have c13:=hV2.c13;rw[hA2.dp]at c13;have z13:=hV2.v.frozen 13;have FIN:=hide (visit_end (F:=F) (K:=K) (n:=n) (fun c f p=>⟨fun h=>h.elim .inl (fun h=>.inr ⟨h.1,h.2.1,h.2.2,HQ.out⟩),fun h=>h.elim .inl (fun h=>.inr ⟨h.1,h.2.1,h.2.2.1⟩)⟩) (unhide HB0 _) hV2 hA2 hL2 hB2);clear hV2 hA2 hL2 hB2;go_wp2_with fail
  go_end0
  exact⟨rfl,unhide FIN⟩
 ·have q':decide (100<K.dpt n)=false:=decide_eq_false q;have HQ:=hide q;clear q c13;obtain⟨b,off,hna,hb,N⟩:=hVw.node hn;have cK:w.cell? ⟨b,off+n * 8,none⟩=some (.int .i64 (kindN C n)):=N.kind;have c8:=hVw.c8;rw[hna]at c8;have c9:=hVw.c9;have c13:=hVw.c13;rw[hAw.dp]at c13;have z13:=hVw.v.frozen 13;have hnl:=hVw.nodes.1;have hlk:∀ q,(Instr.lookup 113 (.map (some C.kb)) (.int .i64 (kindN C n)) true).run Tryz.prog (w.drewN q)=.ok (.tuple #[.func (.func 95) #[.pointer (some ⟨C.vb,0,none⟩)] #[],.bool true]) (w.drewN q):=fun q=>by rw[look_step (hVw.drewN q),unhide HST];rfl
  have CALL:Hid (∀ q,Calls Tryz.prog 95 #[.pointer (some ⟨C.vb,0,none⟩),.int .i64 n] ((w.drewN q).setCell ⟨C.vb,13,none⟩ (.int .i64 (K.dpt n+1))) (StepPost C K n F ((w.drewN q).setCell ⟨C.vb,13,none⟩ (.int .i64 (K.dpt n+1))))):=fun q=>
   unhide HSTEP { s with dp:=K.dpt n+1 } _ F ((hVw.drewN q).setDp _) ⟨hAw.sc,hAw.lo,rfl⟩ (hLw.congr (fun _ _ _=>Iff.rfl) rfl rfl rfl)
  have HB0:Hid (∀ q,ButS C.T w.heap.size w ((w.drewN q).setCell ⟨C.vb,13,none⟩ (.int .i64 (K.dpt n+1)))):=fun q=>(hBw.trans (ButS.of_below (below_drewN _ _ q))).set C.Tv _ _;clear N hVw hAw hLw hBw;generalize kindN C n=kn at *;go_enter Tryz.func73,Tryz.ntmps73;go_wp2_with fail
  go_quiet (fail)
  go_wp2_with fail
  refine(unhide CALL _).mono ?_;rintro e w2 ⟨rfl,s2,hV2,hA2,hL2,hB2⟩;have c13:=hV2.c13;rw[hA2.dp]at c13;have z13:=hV2.v.frozen 13;have FIN:=hide (visit_end (F:=F) (K:=K) (n:=n) (fun c f p=>⟨.inl,fun h=>h.elim id (fun h=>absurd h.2.2.2 (by have:=HQ.out;omega))⟩) (unhide HB0 _) hV2 hA2 hL2 hB2);clear hV2 hA2 hL2 hB2;go_wp2_with fail
  go_end0
  exact⟨rfl,unhide FIN⟩
theorem visit_rest (C:VC)(K:Cx)(hK:CxOk C K)(n:Nat)(hn:n<C.x.nodes.length)(hst:stepOf C.vb (kindN C n)=some (.func (.func 96) #[.pointer (some ⟨C.vb,0,none⟩)] #[]))
  (STEP:∀(s:VS)(w:World)(F:Int->Int->Int->Prop),Vis C s w->Ahead C s (K.cnt n) (K.lps n) (K.dpt n+1)->Least F s->Calls Tryz.prog 96 #[.pointer (some ⟨C.vb,0,none⟩),.int .i64 n] w (StepPost C K n F w)):VisitOk C K n:=by
 intro s w F hVw hAw hLw;have hd:=hK.dpt0 n hn;have hd0:=hd.1;have hd1:=hd.2;have HST:=hide hst;have HSTEP:=hide STEP;have hBw:ButS C.T w.heap.size w w:=ButS.refl _ _ _;have c13:=hVw.c13;rw[hAw.dp]at c13;clear hst STEP hd hK;by_cases q:100<K.dpt n
 ·have q':decide (100<K.dpt n)=true:=decide_eq_true q;have HQ:=hide q;have T:=hide (tell_any C s 5 n w hVw);have HA:=hide (hAw.tell 5 n);have HL:=hide (hLw.tell (C:=C) (c:=5) (by decide) n);clear hVw hAw hLw;go_enter Tryz.func73,Tryz.ntmps73;go_wp2_with fail
  refine(unhide T).mono ?_;rintro e w1 ⟨rfl,hVw1,hBw1⟩;have hAw1:=unhide HA;have hLw1:=unhide HL;clear T HA HL c13;obtain⟨b,off,hna,hb,N⟩:=hVw1.node hn;have cK:w1.cell? ⟨b,off+n * 8,none⟩=some (.int .i64 (kindN C n)):=N.kind;have c8:=hVw1.c8;rw[hna]at c8;have c9:=hVw1.c9;have c13:=hVw1.c13;rw[hAw1.dp]at c13;have z13:=hVw1.v.frozen 13;have hnl:=hVw1.nodes.1;have hlk:∀ q,(Instr.lookup 113 (.map (some C.kb)) (.int .i64 (kindN C n)) true).run Tryz.prog (w1.drewN q)=.ok (.tuple #[.func (.func 96) #[.pointer (some ⟨C.vb,0,none⟩)] #[],.bool true]) (w1.drewN q):=fun q=>by rw[look_step (hVw1.drewN q),unhide HST];rfl
  have CALL:Hid (∀ q,Calls Tryz.prog 96 #[.pointer (some ⟨C.vb,0,none⟩),.int .i64 n] ((w1.drewN q).setCell ⟨C.vb,13,none⟩ (.int .i64 (K.dpt n+1))) (StepPost C K n (fun c' f' n'=>F c' f' n'\/(c'=5/\f'=C.f/\n'=n)) ((w1.drewN q).setCell ⟨C.vb,13,none⟩ (.int .i64 (K.dpt n+1))))):=fun q=>
   unhide HSTEP { (tellS C s 5 n)with dp:=K.dpt n+1 } _ (fun c' f' n'=>F c' f' n'\/(c'=5/\f'=C.f/\n'=n)) ((hVw1.drewN q).setDp _) ⟨hAw1.sc,hAw1.lo,rfl⟩ (hLw1.congr (fun _ _ _=>Iff.rfl) rfl rfl rfl)
  have HB0:Hid (∀ q,ButS C.T w.heap.size w ((w1.drewN q).setCell ⟨C.vb,13,none⟩ (.int .i64 (K.dpt n+1)))):=fun q=>(hBw1.trans (ButS.of_below (below_drewN _ _ q))).set C.Tv _ _;clear N hVw1 hAw1 hLw1 hBw1;generalize kindN C n=kn at *;go_wp2_with fail
  go_quiet (fail)
  go_wp2_with fail
  refine(unhide CALL _).mono ?_;rintro e w2 ⟨rfl,s2,hV2,hA2,hL2,hB2⟩;have c13:=hV2.c13;rw[hA2.dp]at c13;have z13:=hV2.v.frozen 13;have FIN:=hide (visit_end (F:=F) (K:=K) (n:=n) (fun c f p=>⟨fun h=>h.elim .inl (fun h=>.inr ⟨h.1,h.2.1,h.2.2,HQ.out⟩),fun h=>h.elim .inl (fun h=>.inr ⟨h.1,h.2.1,h.2.2.1⟩)⟩) (unhide HB0 _) hV2 hA2 hL2 hB2);clear hV2 hA2 hL2 hB2;go_wp2_with fail
  go_end0
  exact⟨rfl,unhide FIN⟩
 ·have q':decide (100<K.dpt n)=false:=decide_eq_false q;have HQ:=hide q;clear q c13;obtain⟨b,off,hna,hb,N⟩:=hVw.node hn;have cK:w.cell? ⟨b,off+n * 8,none⟩=some (.int .i64 (kindN C n)):=N.kind;have c8:=hVw.c8;rw[hna]at c8;have c9:=hVw.c9;have c13:=hVw.c13;rw[hAw.dp]at c13;have z13:=hVw.v.frozen 13;have hnl:=hVw.nodes.1;have hlk:∀ q,(Instr.lookup 113 (.map (some C.kb)) (.int .i64 (kindN C n)) true).run Tryz.prog (w.drewN q)=.ok (.tuple #[.func (.func 96) #[.pointer (some ⟨C.vb,0,none⟩)] #[],.bool true]) (w.drewN q):=fun q=>by rw[look_step (hVw.drewN q),unhide HST];rfl
  have CALL:Hid (∀ q,Calls Tryz.prog 96 #[.pointer (some ⟨C.vb,0,none⟩),.int .i64 n] ((w.drewN q).setCell ⟨C.vb,13,none⟩ (.int .i64 (K.dpt n+1))) (StepPost C K n F ((w.drewN q).setCell ⟨C.vb,13,none⟩ (.int .i64 (K.dpt n+1))))):=fun q=>
   unhide HSTEP { s with dp:=K.dpt n+1 } _ F ((hVw.drewN q).setDp _) ⟨hAw.sc,hAw.lo,rfl⟩ (hLw.congr (fun _ _ _=>Iff.rfl) rfl rfl rfl)
  have HB0:Hid (∀ q,ButS C.T w.heap.size w ((w.drewN q).setCell ⟨C.vb,13,none⟩ (.int .i64 (K.dpt n+1)))):=fun q=>(hBw.trans (ButS.of_below (below_drewN _ _ q))).set C.Tv _ _;clear N hVw hAw hLw hBw;generalize kindN C n=kn at *;go_enter Tryz.func73,Tryz.ntmps73;go_wp2_with fail
  go_quiet (fail)
  go_wp2_with fail
  refine(unhide CALL _).mono ?_;rintro e w2 ⟨rfl,s2,hV2,hA2,hL2,hB2⟩;have c13:=hV2.c13;rw[hA2.dp]at c13;have z13:=hV2.v.frozen 13;have FIN:=hide (visit_end (F:=F) (K:=K) (n:=n) (fun c f p=>⟨.inl,fun h=>h.elim id (fun h=>absurd h.2.2.2 (by have:=HQ.out;omega))⟩) (unhide HB0 _) hV2 hA2 hL2 hB2);clear hV2 hA2 hL2 hB2;go_wp2_with fail
  go_end0
  exact⟨rfl,unhide FIN⟩
theorem visit_kids (C:VC)(K:Cx)(hK:CxOk C K)(n:Nat)(hn:n<C.x.nodes.length)(hst:stepOf C.vb (kindN C n)=none)
  (STEP:∀(s:VS)(w:World)(F:Int->Int->Int->Prop),Vis C s w->Ahead C s (K.cnt n) (K.lps n) (K.dpt n+1)->Least F s->Calls Tryz.prog 99 #[.pointer (some ⟨C.vb,0,none⟩),.int .i64 n] w (StepPost C K n F w)):VisitOk C K n:=by
 intro s w F hVw hAw hLw;have hd:=hK.dpt0 n hn;have hd0:=hd.1;have hd1:=hd.2;have HST:=hide hst;have HSTEP:=hide STEP;have hBw:ButS C.T w.heap.size w w:=ButS.refl _ _ _;have c13:=hVw.c13;rw[hAw.dp]at c13;clear hst STEP hd hK;by_cases q:100<K.dpt n
 ·have q':decide (100<K.dpt n)=true:=decide_eq_true q;have HQ:=hide q;have T:=hide (tell_any C s 5 n w hVw);have HA:=hide (hAw.tell 5 n);have HL:=hide (hLw.tell (C:=C) (c:=5) (by decide) n);clear hVw hAw hLw;go_enter Tryz.func73,Tryz.ntmps73;go_wp2_with fail
  refine(unhide T).mono ?_;rintro e w1 ⟨rfl,hVw1,hBw1⟩;have hAw1:=unhide HA;have hLw1:=unhide HL;clear T HA HL c13;obtain⟨b,off,hna,hb,N⟩:=hVw1.node hn;have cK:w1.cell? ⟨b,off+n * 8,none⟩=some (.int .i64 (kindN C n)):=N.kind;have c8:=hVw1.c8;rw[hna]at c8;have c9:=hVw1.c9;have c13:=hVw1.c13;rw[hAw1.dp]at c13;have z13:=hVw1.v.frozen 13;have hnl:=hVw1.nodes.1;have hlk:∀ q,(Instr.lookup 113 (.map (some C.kb)) (.int .i64 (kindN C n)) true).run Tryz.prog (w1.drewN q)=.ok (.tuple #[.nilFunc,.bool false]) (w1.drewN q):=fun q=>by rw[look_step (hVw1.drewN q),unhide HST];rfl
  have CALL:Hid (∀ q,Calls Tryz.prog 99 #[.pointer (some ⟨C.vb,0,none⟩),.int .i64 n] ((w1.drewN q).setCell ⟨C.vb,13,none⟩ (.int .i64 (K.dpt n+1))) (StepPost C K n (fun c' f' n'=>F c' f' n'\/(c'=5/\f'=C.f/\n'=n)) ((w1.drewN q).setCell ⟨C.vb,13,none⟩ (.int .i64 (K.dpt n+1))))):=fun q=>
   unhide HSTEP { (tellS C s 5 n)with dp:=K.dpt n+1 } _ (fun c' f' n'=>F c' f' n'\/(c'=5/\f'=C.f/\n'=n)) ((hVw1.drewN q).setDp _) ⟨hAw1.sc,hAw1.lo,rfl⟩ (hLw1.congr (fun _ _ _=>Iff.rfl) rfl rfl rfl)
  have HB0:Hid (∀ q,ButS C.T w.heap.size w ((w1.drewN q).setCell ⟨C.vb,13,none⟩ (.int .i64 (K.dpt n+1)))):=fun q=>(hBw1.trans (ButS.of_below (below_drewN _ _ q))).set C.Tv _ _;clear N hVw1 hAw1 hLw1 hBw1;generalize kindN C n=kn at *;go_wp2_with fail
  go_quiet (fail)
  go_wp2_with fail
  refine(unhide CALL _).mono ?_;rintro e w2 ⟨rfl,s2,hV2,hA2,hL2,hB2⟩;have c13:=hV2.c13;rw[hA2.dp]at c13;have z13:=hV2.v.frozen 13;have FIN:=hide (visit_end (F:=F) (K:=K) (n:=n) (fun c f p=>⟨fun h=>h.elim .inl (fun h=>.inr ⟨h.1,h.2.1,h.2.2,HQ.out⟩),fun h=>h.elim .inl (fun h=>.inr ⟨h.1,h.2.1,h.2.2.1⟩)⟩) (unhide HB0 _) hV2 hA2 hL2 hB2);clear hV2 hA2 hL2 hB2;go_wp2_with fail
  go_end0
  exact⟨rfl,unhide FIN⟩
 ·have q':decide (100<K.dpt n)=false:=decide_eq_false q;have HQ:=hide q;clear q c13;obtain⟨b,off,hna,hb,N⟩:=hVw.node hn;have cK:w.cell? ⟨b,off+n * 8,none⟩=some (.int .i64 (kindN C n)):=N.kind;have c8:=hVw.c8;rw[hna]at c8;have c9:=hVw.c9;have c13:=hVw.c13;rw[hAw.dp]at c13;have z13:=hVw.v.frozen 13;have hnl:=hVw.nodes.1;have hlk:∀ q,(Instr.lookup 113 (.map (some C.kb)) (.int .i64 (kindN C n)) true).run Tryz.prog (w.drewN q)=.ok (.tuple #[.nilFunc,.bool false]) (w.drewN q):=fun q=>by rw[look_step (hVw.drewN q),unhide HST];rfl
  have CALL:Hid (∀ q,Calls Tryz.prog 99 #[.pointer (some ⟨C.vb,0,none⟩),.int .i64 n] ((w.drewN q).setCell ⟨C.vb,13,none⟩ (.int .i64 (K.dpt n+1))) (StepPost C K n F ((w.drewN q).setCell ⟨C.vb,13,none⟩ (.int .i64 (K.dpt n+1))))):=fun q=>
   unhide HSTEP { s with dp:=K.dpt n+1 } _ F ((hVw.drewN q).setDp _) ⟨hAw.sc,hAw.lo,rfl⟩ (hLw.congr (fun _ _ _=>Iff.rfl) rfl rfl rfl)
  have HB0:Hid (∀ q,ButS C.T w.heap.size w ((w.drewN q).setCell ⟨C.vb,13,none⟩ (.int .i64 (K.dpt n+1)))):=fun q=>(hBw.trans (ButS.of_below (below_drewN _ _ q))).set C.Tv _ _;clear N hVw hAw hLw hBw;generalize kindN C n=kn at *;go_enter Tryz.func73,Tryz.ntmps73;go_wp2_with fail
  go_quiet (fail)
  go_wp2_with fail
  refine(unhide CALL _).mono ?_;rintro e w2 ⟨rfl,s2,hV2,hA2,hL2,hB2⟩;have c13:=hV2.c13;rw[hA2.dp]at c13;have z13:=hV2.v.frozen 13;have FIN:=hide (visit_end (F:=F) (K:=K) (n:=n) (fun c f p=>⟨.inl,fun h=>h.elim id (fun h=>absurd h.2.2.2 (by have:=HQ.out;omega))⟩) (unhide HB0 _) hV2 hA2 hL2 hB2);clear hV2 hA2 hL2 hB2;go_wp2_with fail
  go_end0
  exact⟨rfl,unhide FIN⟩
theorem visit_all (C:VC)(K:Cx)(hK:CxOk C K):∀ n,n<C.x.nodes.length->VisitOk C K n:=by
 intro n
 induction n using Nat.strongRecOn with
 | ind n ih=>
  intro hn;have IH:∀ m,m<n->VisitOk C K m:=fun m hm=>ih m hm (by omega);by_cases h1:kindN C n=1
  ·exact visit_block C K hK n hn (by rw[h1];rfl) (block_step C K hK n hn h1 IH)
  by_cases h2:kindN C n=2
  ·exact visit_let C K hK n hn (by rw[h2];rfl) (let_step C K hK n hn h2 IH)
  by_cases h3:kindN C n=6\/kindN C n=7\/kindN C n=8
  ·exact visit_loop C K hK n hn (by unfold stepOf;rw[if_neg h1,if_neg h2,if_pos h3]) (loop_step C K hK n hn h3 IH)
  by_cases h4:kindN C n=12
  ·exact visit_try C K hK n hn (by unfold stepOf;rw[if_neg h1,if_neg h2,if_neg h3,if_pos h4]) (try_step C K hK n hn h4 IH)
  by_cases h5:kindN C n=9\/kindN C n=10
  ·exact visit_leave C K hK n hn (by unfold stepOf;rw[if_neg h1,if_neg h2,if_neg h3,if_neg h4,if_pos h5]) (leave_step C K hK n hn h5)
  by_cases h6:kindN C n=26
  ·exact visit_variable C K hK n hn (by unfold stepOf;rw[if_neg h1,if_neg h2,if_neg h3,if_neg h4,if_neg h5,if_pos h6]) (variable_step C K hK n hn h6)
  by_cases h7:kindN C n=27
  ·exact visit_up C K hK n hn (by unfold stepOf;rw[if_neg h1,if_neg h2,if_neg h3,if_neg h4,if_neg h5,if_neg h6,if_pos h7]) (up_step C K hK n hn h7)
  by_cases h8:kindN C n=36
  ·exact visit_closure C K hK n hn (by unfold stepOf;rw[if_neg h1,if_neg h2,if_neg h3,if_neg h4,if_neg h5,if_neg h6,if_neg h7,if_pos h8]) (closure_step C K hK n hn h8)
  by_cases h9:kindN C n=37
  ·exact visit_rest C K hK n hn (by unfold stepOf;rw[if_neg h1,if_neg h2,if_neg h3,if_neg h4,if_neg h5,if_neg h6,if_neg h7,if_neg h8,if_pos h9]) (rest_step C K hK n hn h9)
  refine visit_kids C K hK n hn (by unfold stepOf;rw[if_neg h1,if_neg h2,if_neg h3,if_neg h4,if_neg h5,if_neg h6,if_neg h7,if_neg h8,if_neg h9]) ?_;refine kids_step C K hK n hn ?_ ⟨by omega,by omega,h6,h7,h8,h9⟩ h1 h2 IH;unfold bodyKind;simp only[Bool.or_eq_false_iff,beq_eq_false_iff_ne];omega
end Go.Proofs.YtofcbekoaghikaaGreatDoor
