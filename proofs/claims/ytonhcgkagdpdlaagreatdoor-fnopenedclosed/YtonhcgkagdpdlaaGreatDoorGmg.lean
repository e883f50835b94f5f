import Derived.Test.YtonhcgkagdpdlaaGreatDoorGma
set_option linter.unusedSimpArgs false
set_option linter.unusedVariables false
set_option maxHeartbeats 4000000
namespace Go.Proofs.YtonhcgkagdpdlaaGreatDoor
open Go.RowKit
theorem shiftedNode_Opened_cell_yes (o ck cn:Int) (cs:ByteArray) (ac ar:Int) (af ag:Bool) (bc br:Int) (bf bg:Bool) {KA:Option Addr} {kc:Nat} {l:List Int} (d e:Int) (p q:Nat) (w:World) (hp:p<w.heap.size) (hq:q<w.heap.size) (cp:w.cell? ⟨p,0,none⟩=some (.int .i64 d)) (cq:w.cell? ⟨q,0,none⟩=some (.int .i64 e)) (hac: -1000≤ac∧ac≤1000) (har: -1000≤ar∧ar≤1000) (hd: -1000≤d∧d≤1000) (he: -1000≤e∧e≤1000)
  (hA:areaOkB ac (opI ar d e) ac (opI ar d e)=true) (h0:KA=none→kc=0) (hi:IntRow w KA l) (hn:l.length≤1048576):
  Calls Tryz.prog 38 #[.agg #[.int .i64 2,.int .i64 o,.int .i64 ck,.int .i64 cn,.string cs,.int .i64 ac,.int .i64 ar,.bool af,.bool ag,.int .i64 bc,.int .i64 br,.bool bf,.bool bg,.slice KA l.length kc],.func (.func 20) #[] #[.pointer (some ⟨p,0,none⟩),.pointer (some ⟨q,0,none⟩)]] w fun z w'=> ∃KB kb,z= .returned (.agg #[.int .i64 2,.int .i64 o,.int .i64 ck,.int .i64 cn,.string cs,.int .i64 ac,.int .i64 (opI ar d e),.bool af,.bool ag,.int .i64 bc,.int .i64 br,.bool bf,.bool bg,.slice KB l.length kb])∧w'.ownsRow w.heap.size 2 1 (.slice KB l.length kb) l.length (l.map (Value.int .i64))∧Below w.heap.size w w':=by
 have HA:Hid (areaOkB ac (opI ar d e) ac (opI ar d e)=true):=hA
 clear hA
 have HI:Hid (IntRow w KA l):=hi
 have HN:Hid (l.length≤1048576):=hn
 have HK:Hid (KA=none→kc=0):=h0
 clear hi hn h0
 go_enter Tryz.func38,Tryz.ntmps38
 go_wp2_with (first
  | (go_at_call 20;refine(impl_Opened_1 _ _ _ _ _ _ _ _ d e p q _ (ltB (by go_grown) hp) (ltB (by go_grown) hq) (cellB (by go_grown) hp cp) (cellB (by go_grown) hq cq) hac har hac har hd he).mono ?_;rintro z wA ⟨rfl,hb⟩;obtain⟨hc,hf,hC,hF,hz,hk,l0,l1⟩:=bk2 (w:=w) (by go_grown) (by go_size) hb;clear hb)
  | (go_at_call 56;refine(impl_AreaOk_is _ _ _ _ true _ HA.out).mono ?_;rintro z wB ⟨rfl,hb⟩;obtain⟨hcB,hfB,hCB,hFB,hzB,hkB,lB0,lB1⟩:=bk2 (w:=w) (by go_grown) (by go_size) hb;have x0:wB.cell? ⟨w.heap.size,0,none⟩=some (.int .i64 2):=(by simp (maxDischargeDepth:=9) [go_sem, *]);have x1:wB.cell? ⟨w.heap.size,1,none⟩=some (.int .i64 o):=(by simp (maxDischargeDepth:=9) [go_sem, *]);have x2:wB.cell? ⟨w.heap.size,2,none⟩=some (.int .i64 ck):=(by simp (maxDischargeDepth:=9) [go_sem, *]);have x3:wB.cell? ⟨w.heap.size,3,none⟩=some (.int .i64 cn):=(by simp (maxDischargeDepth:=9) [go_sem, *]);have x4:wB.cell? ⟨w.heap.size,4,none⟩=some (.string cs):=(by simp (maxDischargeDepth:=9) [go_sem, *]);have x5:wB.cell? ⟨w.heap.size,5,none⟩=some (.int .i64 ac):=(by simp (maxDischargeDepth:=9) [go_sem, *]);have x6:wB.cell? ⟨w.heap.size,6,none⟩=some (.int .i64 ar):=(by simp (maxDischargeDepth:=9) [go_sem, *]);have x7:wB.cell? ⟨w.heap.size,7,none⟩=some (.bool af):=(by simp (maxDischargeDepth:=9) [go_sem, *]);have x8:wB.cell? ⟨w.heap.size,8,none⟩=some (.bool ag):=(by simp (maxDischargeDepth:=9) [go_sem, *]);have x9:wB.cell? ⟨w.heap.size,9,none⟩=some (.int .i64 bc):=(by simp (maxDischargeDepth:=9) [go_sem, *]);have x10:wB.cell? ⟨w.heap.size,10,none⟩=some (.int .i64 br):=(by simp (maxDischargeDepth:=9) [go_sem, *]);have x11:wB.cell? ⟨w.heap.size,11,none⟩=some (.bool bf):=(by simp (maxDischargeDepth:=9) [go_sem, *]);have x12:wB.cell? ⟨w.heap.size,12,none⟩=some (.bool bg):=(by simp (maxDischargeDepth:=9) [go_sem, *]);have x13:wB.cell? ⟨w.heap.size,13,none⟩=some (.slice KA l.length kc):=(by simp (maxDischargeDepth:=9) [go_sem, *]);have z0:wB.cell? ⟨w.heap.size+1,0,none⟩=some (.int .i64 0):=(by simp (maxDischargeDepth:=9) [go_sem, *]);have z1:wB.cell? ⟨w.heap.size+1,1,none⟩=some (.int .i64 0):=(by simp (maxDischargeDepth:=9) [go_sem, *]);have z2:wB.cell? ⟨w.heap.size+1,2,none⟩=some (.int .i64 0):=(by simp (maxDischargeDepth:=9) [go_sem, *]);have z3:wB.cell? ⟨w.heap.size+1,3,none⟩=some (.int .i64 0):=(by simp (maxDischargeDepth:=9) [go_sem, *]);have z4:wB.cell? ⟨w.heap.size+1,4,none⟩=some (.string ⟨#[]⟩):=(by simp (maxDischargeDepth:=9) [go_sem, *]);have z5:wB.cell? ⟨w.heap.size+1,5,none⟩=some (.int .i64 0):=(by simp (maxDischargeDepth:=9) [go_sem, *]);have z6:wB.cell? ⟨w.heap.size+1,6,none⟩=some (.int .i64 0):=(by simp (maxDischargeDepth:=9) [go_sem, *]);have z7:wB.cell? ⟨w.heap.size+1,7,none⟩=some (.bool false):=(by simp (maxDischargeDepth:=9) [go_sem, *]);have z8:wB.cell? ⟨w.heap.size+1,8,none⟩=some (.bool false):=(by simp (maxDischargeDepth:=9) [go_sem, *]);have z9:wB.cell? ⟨w.heap.size+1,9,none⟩=some (.int .i64 0):=(by simp (maxDischargeDepth:=9) [go_sem, *]);have z10:wB.cell? ⟨w.heap.size+1,10,none⟩=some (.int .i64 0):=(by simp (maxDischargeDepth:=9) [go_sem, *]);have z11:wB.cell? ⟨w.heap.size+1,11,none⟩=some (.bool false):=(by simp (maxDischargeDepth:=9) [go_sem, *]);have z12:wB.cell? ⟨w.heap.size+1,12,none⟩=some (.bool false):=(by simp (maxDischargeDepth:=9) [go_sem, *]);have z13:wB.cell? ⟨w.heap.size+1,13,none⟩=some (.slice none 0 0):=(by simp (maxDischargeDepth:=9) [go_sem, *]);have t0:wB.cell? ⟨wA.heap.size,0,none⟩=some (.int .i64 ac):=(by simp (maxDischargeDepth:=9) [go_sem, *]);have t1:wB.cell? ⟨wA.heap.size,1,none⟩=some (.int .i64 (opI ar d e)):=(by simp (maxDischargeDepth:=9) [go_sem, *]);have t2:wB.cell? ⟨wA.heap.size,2,none⟩=some (.bool af):=(by simp (maxDischargeDepth:=9) [go_sem, *]);have t3:wB.cell? ⟨wA.heap.size,3,none⟩=some (.bool ag):=(by simp (maxDischargeDepth:=9) [go_sem, *]);clear hb hcB hCB)
  | (at_builtin;refine app_kids _ rfl _ _ rfl (.slice none 0 0) rfl (w.heap.size+2) ?kb ?kn rfl HK.out ?ki HN.out ?_))
 case kb=>go_size
 case kn=>exact⟨rfl,Or.inl ⟨rfl,rfl⟩⟩
 case ki=>exact HI.out.below (by go_grown)
 intro KB kb w9 hown hgrow
 have HO:Hid (w9.ownsRow (w.heap.size+2) 2 1 (.slice KB l.length kb) l.length (l.map (Value.int .i64))):=hown
 have hb:=(Below.refl _ _).grown hgrow (Nat.le_refl _) (fun k hk=>by cases hk)
 obtain⟨hc9,hf9,hC9,hF9,hz9,hk9,m0,m1⟩:=bk2 (w:=w) (by go_grown) (by go_size) hb
 clear hgrow hb hown
 go_wp2_with fail
 refine bodyPost_ret (v:= .agg #[.int .i64 2,.int .i64 o,.int .i64 ck,.int .i64 cn,.string cs,.int .i64 ac,.int .i64 (opI ar d e),.bool af,.bool ag,.int .i64 bc,.int .i64 br,.bool bf,.bool bg,.slice KB l.length kb]) ?_ rfl ⟨_,_,rfl,?_,by go_grown⟩
 ·simp (maxDischargeDepth:=9) [results,Tryz.results38,go_sem, *]
 ·refine own_mono (B:=w.heap.size+2) ?_ (by omega)
  repeat (refine ownsRow_setCell_below ?_ (by simp) _)
  exact HO.out
theorem shiftedNode_Opened_cell_no (o ck cn:Int) (cs:ByteArray) (ac ar:Int) (af ag:Bool) (bc br:Int) (bf bg:Bool) {KA:Option Addr} {kc:Nat} {l:List Int} (d e:Int) (p q:Nat) (w:World) (hp:p<w.heap.size) (hq:q<w.heap.size) (cp:w.cell? ⟨p,0,none⟩=some (.int .i64 d)) (cq:w.cell? ⟨q,0,none⟩=some (.int .i64 e)) (hac: -1000≤ac∧ac≤1000) (har: -1000≤ar∧ar≤1000) (hd: -1000≤d∧d≤1000) (he: -1000≤e∧e≤1000)
  (hA:areaOkB ac (opI ar d e) ac (opI ar d e)=false) (h0:KA=none→kc=0) (hi:IntRow w KA l) (hn:l.length≤1048576):
  Calls Tryz.prog 38 #[.agg #[.int .i64 2,.int .i64 o,.int .i64 ck,.int .i64 cn,.string cs,.int .i64 ac,.int .i64 ar,.bool af,.bool ag,.int .i64 bc,.int .i64 br,.bool bf,.bool bg,.slice KA l.length kc],.func (.func 20) #[] #[.pointer (some ⟨p,0,none⟩),.pointer (some ⟨q,0,none⟩)]] w fun z w'=>z= .returned (.agg #[.int .i64 1,.int .i64 0,.int .i64 4,.int .i64 3,.string ⟨#[]⟩,.int .i64 0,.int .i64 0,.bool false,.bool false,.int .i64 0,.int .i64 0,.bool false,.bool false,.slice none 0 0])∧Below w.heap.size w w':=by
 have HA:Hid (areaOkB ac (opI ar d e) ac (opI ar d e)=false):=hA
 clear hA
 have HI:Hid (IntRow w KA l):=hi
 have HN:Hid (l.length≤1048576):=hn
 have HK:Hid (KA=none→kc=0):=h0
 clear hi hn h0
 go_enter Tryz.func38,Tryz.ntmps38
 go_wp2_with (first
  | (go_at_call 20;refine(impl_Opened_1 _ _ _ _ _ _ _ _ d e p q _ (ltB (by go_grown) hp) (ltB (by go_grown) hq) (cellB (by go_grown) hp cp) (cellB (by go_grown) hq cq) hac har hac har hd he).mono ?_;rintro z w1 ⟨rfl,hb⟩;obtain⟨hc,hf,hC,hF,hz,hk,l0,l1⟩:=bk2 (w:=w) (by go_grown) (by go_size) hb;clear hb)
  | (go_at_call 56;refine(impl_AreaOk_is _ _ _ _ false _ HA.out).mono ?_;rintro z w1 ⟨rfl,hb⟩;obtain⟨hc,hf,hC,hF,hz,hk,l0,l1⟩:=bk2 (w:=w) (by go_grown) (by go_size) hb;clear hb)
  | (go_at_call 60;refine(impl_lostNode _).mono ?_;rintro z w1 ⟨rfl,hb⟩;obtain⟨hc,hf,hC,hF,hz,hk,l0,l1⟩:=bk2 (w:=w) (by go_grown) (by go_size) hb;clear hb))
 refine bodyPost_ret (v:= .agg #[.int .i64 1,.int .i64 0,.int .i64 4,.int .i64 3,.string ⟨#[]⟩,.int .i64 0,.int .i64 0,.bool false,.bool false,.int .i64 0,.int .i64 0,.bool false,.bool false,.slice none 0 0]) ?_ rfl ⟨rfl,by go_grown⟩
 simp (maxDischargeDepth:=9) [results,Tryz.results38,go_sem, *]
theorem shiftedNode_Opened_area_yes (o ck cn:Int) (cs:ByteArray) (ac ar:Int) (af ag:Bool) (bc br:Int) (bf bg:Bool) {KA:Option Addr} {kc:Nat} {l:List Int} (d e:Int) (p q:Nat) (w:World) (hp:p<w.heap.size) (hq:q<w.heap.size) (cp:w.cell? ⟨p,0,none⟩=some (.int .i64 d)) (cq:w.cell? ⟨q,0,none⟩=some (.int .i64 e)) (hac: -1000≤ac∧ac≤1000) (har: -1000≤ar∧ar≤1000) (hbc: -1000≤bc∧bc≤1000) (hbr: -1000≤br∧br≤1000) (hd: -1000≤d∧d≤1000) (he: -1000≤e∧e≤1000)
  (hA:areaOkB ac (opI ar d e) bc (opI br d e)=true) (h0:KA=none→kc=0) (hi:IntRow w KA l) (hn:l.length≤1048576):
  Calls Tryz.prog 38 #[.agg #[.int .i64 3,.int .i64 o,.int .i64 ck,.int .i64 cn,.string cs,.int .i64 ac,.int .i64 ar,.bool af,.bool ag,.int .i64 bc,.int .i64 br,.bool bf,.bool bg,.slice KA l.length kc],.func (.func 20) #[] #[.pointer (some ⟨p,0,none⟩),.pointer (some ⟨q,0,none⟩)]] w fun z w'=> ∃KB kb,z= .returned (.agg #[.int .i64 3,.int .i64 o,.int .i64 ck,.int .i64 cn,.string cs,.int .i64 ac,.int .i64 (opI ar d e),.bool af,.bool ag,.int .i64 bc,.int .i64 (opI br d e),.bool bf,.bool bg,.slice KB l.length kb])∧w'.ownsRow w.heap.size 2 1 (.slice KB l.length kb) l.length (l.map (Value.int .i64))∧Below w.heap.size w w':=by
 have HA:Hid (areaOkB ac (opI ar d e) bc (opI br d e)=true):=hA
 clear hA
 have HI:Hid (IntRow w KA l):=hi
 have HN:Hid (l.length≤1048576):=hn
 have HK:Hid (KA=none→kc=0):=h0
 clear hi hn h0
 go_enter Tryz.func38,Tryz.ntmps38
 go_wp2_with (first
  | (go_at_call 20;refine(impl_Opened_1 _ _ _ _ _ _ _ _ d e p q _ (ltB (by go_grown) hp) (ltB (by go_grown) hq) (cellB (by go_grown) hp cp) (cellB (by go_grown) hq cq) hac har hbc hbr hd he).mono ?_;rintro z w1 ⟨rfl,hb⟩;obtain⟨hc,hf,hC,hF,hz,hk,l0,l1⟩:=bk2 (w:=w) (by go_grown) (by go_size) hb;clear hb)
  | (go_at_call 28;refine(impl_areaOf_area _ _ _ _ _ _ _ _ _ _ _ _ _).mono ?_;rintro z w1 ⟨rfl,hb⟩;obtain⟨hc,hf,hC,hF,hz,hk,l0,l1⟩:=bk2 (w:=w) (by go_grown) (by go_size) hb;clear hb)
  | (go_at_call 56;refine(impl_AreaOk_is _ _ _ _ true _ HA.out).mono ?_;rintro z w1 ⟨rfl,hb⟩;obtain⟨hc,hf,hC,hF,hz,hk,l0,l1⟩:=bk2 (w:=w) (by go_grown) (by go_size) hb;clear hb)
  | (at_builtin;refine app_kids _ rfl _ _ rfl (.slice none 0 0) rfl (w.heap.size+2) ?kb ?kn rfl HK.out ?ki HN.out ?_))
 case kb=>go_size
 case kn=>exact⟨rfl,Or.inl ⟨rfl,rfl⟩⟩
 case ki=>exact HI.out.below (by go_grown)
 intro KB kb w9 hown hgrow
 have HO:Hid (w9.ownsRow (w.heap.size+2) 2 1 (.slice KB l.length kb) l.length (l.map (Value.int .i64))):=hown
 have hb:=(Below.refl _ _).grown hgrow (Nat.le_refl _) (fun k hk=>by cases hk)
 obtain⟨hc9,hf9,hC9,hF9,hz9,hk9,m0,m1⟩:=bk2 (w:=w) (by go_grown) (by go_size) hb
 clear hgrow hb hown
 go_wp2_with fail
 refine bodyPost_ret (v:= .agg #[.int .i64 3,.int .i64 o,.int .i64 ck,.int .i64 cn,.string cs,.int .i64 ac,.int .i64 (opI ar d e),.bool af,.bool ag,.int .i64 bc,.int .i64 (opI br d e),.bool bf,.bool bg,.slice KB l.length kb]) ?_ rfl ⟨_,_,rfl,?_,by go_grown⟩
 ·simp (maxDischargeDepth:=9) [results,Tryz.results38,go_sem, *]
 ·refine own_mono (B:=w.heap.size+2) ?_ (by omega)
  repeat (refine ownsRow_setCell_below ?_ (by simp) _)
  exact HO.out
theorem shiftedNode_Opened_area_no (o ck cn:Int) (cs:ByteArray) (ac ar:Int) (af ag:Bool) (bc br:Int) (bf bg:Bool) {KA:Option Addr} {kc:Nat} {l:List Int} (d e:Int) (p q:Nat) (w:World) (hp:p<w.heap.size) (hq:q<w.heap.size) (cp:w.cell? ⟨p,0,none⟩=some (.int .i64 d)) (cq:w.cell? ⟨q,0,none⟩=some (.int .i64 e)) (hac: -1000≤ac∧ac≤1000) (har: -1000≤ar∧ar≤1000) (hbc: -1000≤bc∧bc≤1000) (hbr: -1000≤br∧br≤1000) (hd: -1000≤d∧d≤1000) (he: -1000≤e∧e≤1000)
  (hA:areaOkB ac (opI ar d e) bc (opI br d e)=false) (h0:KA=none→kc=0) (hi:IntRow w KA l) (hn:l.length≤1048576):
  Calls Tryz.prog 38 #[.agg #[.int .i64 3,.int .i64 o,.int .i64 ck,.int .i64 cn,.string cs,.int .i64 ac,.int .i64 ar,.bool af,.bool ag,.int .i64 bc,.int .i64 br,.bool bf,.bool bg,.slice KA l.length kc],.func (.func 20) #[] #[.pointer (some ⟨p,0,none⟩),.pointer (some ⟨q,0,none⟩)]] w fun z w'=>z= .returned (.agg #[.int .i64 1,.int .i64 0,.int .i64 4,.int .i64 3,.string ⟨#[]⟩,.int .i64 0,.int .i64 0,.bool false,.bool false,.int .i64 0,.int .i64 0,.bool false,.bool false,.slice none 0 0])∧Below w.heap.size w w':=by
 have HA:Hid (areaOkB ac (opI ar d e) bc (opI br d e)=false):=hA
 clear hA
 have HI:Hid (IntRow w KA l):=hi
 have HN:Hid (l.length≤1048576):=hn
 have HK:Hid (KA=none→kc=0):=h0
 clear hi hn h0
 go_enter Tryz.func38,Tryz.ntmps38
 go_wp2_with (first
  | (go_at_call 20;refine(impl_Opened_1 _ _ _ _ _ _ _ _ d e p q _ (ltB (by go_grown) hp) (ltB (by go_grown) hq) (cellB (by go_grown) hp cp) (cellB (by go_grown) hq cq) hac har hbc hbr hd he).mono ?_;rintro z w1 ⟨rfl,hb⟩;obtain⟨hc,hf,hC,hF,hz,hk,l0,l1⟩:=bk2 (w:=w) (by go_grown) (by go_size) hb;clear hb)
  | (go_at_call 28;refine(impl_areaOf_area _ _ _ _ _ _ _ _ _ _ _ _ _).mono ?_;rintro z w1 ⟨rfl,hb⟩;obtain⟨hc,hf,hC,hF,hz,hk,l0,l1⟩:=bk2 (w:=w) (by go_grown) (by go_size) hb;clear hb)
  | (go_at_call 56;refine(impl_AreaOk_is _ _ _ _ false _ HA.out).mono ?_;rintro z w1 ⟨rfl,hb⟩;obtain⟨hc,hf,hC,hF,hz,hk,l0,l1⟩:=bk2 (w:=w) (by go_grown) (by go_size) hb;clear hb)
  | (go_at_call 60;refine(impl_lostNode _).mono ?_;rintro z w1 ⟨rfl,hb⟩;obtain⟨hc,hf,hC,hF,hz,hk,l0,l1⟩:=bk2 (w:=w) (by go_grown) (by go_size) hb;clear hb))
 refine bodyPost_ret (v:= .agg #[.int .i64 1,.int .i64 0,.int .i64 4,.int .i64 3,.string ⟨#[]⟩,.int .i64 0,.int .i64 0,.bool false,.bool false,.int .i64 0,.int .i64 0,.bool false,.bool false,.slice none 0 0]) ?_ rfl ⟨rfl,by go_grown⟩
 simp (maxDischargeDepth:=9) [results,Tryz.results38,go_sem, *]
theorem shiftedNode_Closed_cell_yes (o ck cn:Int) (cs:ByteArray) (ac ar:Int) (af ag:Bool) (bc br:Int) (bf bg:Bool) {KA:Option Addr} {kc:Nat} {l:List Int} (d e:Int) (p q:Nat) (w:World) (hp:p<w.heap.size) (hq:q<w.heap.size) (cp:w.cell? ⟨p,0,none⟩=some (.int .i64 d)) (cq:w.cell? ⟨q,0,none⟩=some (.int .i64 e)) (hac: -1000≤ac∧ac≤1000) (har: -1000≤ar∧ar≤1000) (hd: -1000≤d∧d≤1000) (he: -1000≤e∧e≤1000)
  (hA:areaOkB ac (clI ar d e d) ac (clI ar d e (d-1))=true) (h0:KA=none→kc=0) (hi:IntRow w KA l) (hn:l.length≤1048576):
  Calls Tryz.prog 38 #[.agg #[.int .i64 2,.int .i64 o,.int .i64 ck,.int .i64 cn,.string cs,.int .i64 ac,.int .i64 ar,.bool af,.bool ag,.int .i64 bc,.int .i64 br,.bool bf,.bool bg,.slice KA l.length kc],.func (.func 25) #[] #[.pointer (some ⟨p,0,none⟩),.pointer (some ⟨q,0,none⟩)]] w fun z w'=> ∃KB kb,z= .returned (.agg #[.int .i64 2,.int .i64 o,.int .i64 ck,.int .i64 cn,.string cs,.int .i64 ac,.int .i64 (clI ar d e d),.bool af,.bool ag,.int .i64 bc,.int .i64 br,.bool bf,.bool bg,.slice KB l.length kb])∧w'.ownsRow w.heap.size 2 1 (.slice KB l.length kb) l.length (l.map (Value.int .i64))∧Below w.heap.size w w':=by
 have HA:Hid (areaOkB ac (clI ar d e d) ac (clI ar d e (d-1))=true):=hA
 clear hA
 have HI:Hid (IntRow w KA l):=hi
 have HN:Hid (l.length≤1048576):=hn
 have HK:Hid (KA=none→kc=0):=h0
 clear hi hn h0
 go_enter Tryz.func38,Tryz.ntmps38
 go_wp2_with (first
  | (go_at_call 25;refine(impl_Closed_1 _ _ _ _ _ _ _ _ d e p q _ (ltB (by go_grown) hp) (ltB (by go_grown) hq) (cellB (by go_grown) hp cp) (cellB (by go_grown) hq cq) hac har hac har hd he).mono ?_;rintro z wA ⟨rfl,hb⟩;obtain⟨hc,hf,hC,hF,hz,hk,l0,l1⟩:=bk2 (w:=w) (by go_grown) (by go_size) hb;clear hb)
  | (go_at_call 56;refine(impl_AreaOk_is _ _ _ _ true _ HA.out).mono ?_;rintro z wB ⟨rfl,hb⟩;obtain⟨hcB,hfB,hCB,hFB,hzB,hkB,lB0,lB1⟩:=bk2 (w:=w) (by go_grown) (by go_size) hb;have x0:wB.cell? ⟨w.heap.size,0,none⟩=some (.int .i64 2):=(by simp (maxDischargeDepth:=9) [go_sem, *]);have x1:wB.cell? ⟨w.heap.size,1,none⟩=some (.int .i64 o):=(by simp (maxDischargeDepth:=9) [go_sem, *]);have x2:wB.cell? ⟨w.heap.size,2,none⟩=some (.int .i64 ck):=(by simp (maxDischargeDepth:=9) [go_sem, *]);have x3:wB.cell? ⟨w.heap.size,3,none⟩=some (.int .i64 cn):=(by simp (maxDischargeDepth:=9) [go_sem, *]);have x4:wB.cell? ⟨w.heap.size,4,none⟩=some (.string cs):=(by simp (maxDischargeDepth:=9) [go_sem, *]);have x5:wB.cell? ⟨w.heap.size,5,none⟩=some (.int .i64 ac):=(by simp (maxDischargeDepth:=9) [go_sem, *]);have x6:wB.cell? ⟨w.heap.size,6,none⟩=some (.int .i64 ar):=(by simp (maxDischargeDepth:=9) [go_sem, *]);have x7:wB.cell? ⟨w.heap.size,7,none⟩=some (.bool af):=(by simp (maxDischargeDepth:=9) [go_sem, *]);have x8:wB.cell? ⟨w.heap.size,8,none⟩=some (.bool ag):=(by simp (maxDischargeDepth:=9) [go_sem, *]);have x9:wB.cell? ⟨w.heap.size,9,none⟩=some (.int .i64 bc):=(by simp (maxDischargeDepth:=9) [go_sem, *]);have x10:wB.cell? ⟨w.heap.size,10,none⟩=some (.int .i64 br):=(by simp (maxDischargeDepth:=9) [go_sem, *]);have x11:wB.cell? ⟨w.heap.size,11,none⟩=some (.bool bf):=(by simp (maxDischargeDepth:=9) [go_sem, *]);have x12:wB.cell? ⟨w.heap.size,12,none⟩=some (.bool bg):=(by simp (maxDischargeDepth:=9) [go_sem, *]);have x13:wB.cell? ⟨w.heap.size,13,none⟩=some (.slice KA l.length kc):=(by simp (maxDischargeDepth:=9) [go_sem, *]);have z0:wB.cell? ⟨w.heap.size+1,0,none⟩=some (.int .i64 0):=(by simp (maxDischargeDepth:=9) [go_sem, *]);have z1:wB.cell? ⟨w.heap.size+1,1,none⟩=some (.int .i64 0):=(by simp (maxDischargeDepth:=9) [go_sem, *]);have z2:wB.cell? ⟨w.heap.size+1,2,none⟩=some (.int .i64 0):=(by simp (maxDischargeDepth:=9) [go_sem, *]);have z3:wB.cell? ⟨w.heap.size+1,3,none⟩=some (.int .i64 0):=(by simp (maxDischargeDepth:=9) [go_sem, *]);have z4:wB.cell? ⟨w.heap.size+1,4,none⟩=some (.string ⟨#[]⟩):=(by simp (maxDischargeDepth:=9) [go_sem, *]);have z5:wB.cell? ⟨w.heap.size+1,5,none⟩=some (.int .i64 0):=(by simp (maxDischargeDepth:=9) [go_sem, *]);have z6:wB.cell? ⟨w.heap.size+1,6,none⟩=some (.int .i64 0):=(by simp (maxDischargeDepth:=9) [go_sem, *]);have z7:wB.cell? ⟨w.heap.size+1,7,none⟩=some (.bool false):=(by simp (maxDischargeDepth:=9) [go_sem, *]);have z8:wB.cell? ⟨w.heap.size+1,8,none⟩=some (.bool false):=(by simp (maxDischargeDepth:=9) [go_sem, *]);have z9:wB.cell? ⟨w.heap.size+1,9,none⟩=some (.int .i64 0):=(by simp (maxDischargeDepth:=9) [go_sem, *]);have z10:wB.cell? ⟨w.heap.size+1,10,none⟩=some (.int .i64 0):=(by simp (maxDischargeDepth:=9) [go_sem, *]);have z11:wB.cell? ⟨w.heap.size+1,11,none⟩=some (.bool false):=(by simp (maxDischargeDepth:=9) [go_sem, *]);have z12:wB.cell? ⟨w.heap.size+1,12,none⟩=some (.bool false):=(by simp (maxDischargeDepth:=9) [go_sem, *]);have z13:wB.cell? ⟨w.heap.size+1,13,none⟩=some (.slice none 0 0):=(by simp (maxDischargeDepth:=9) [go_sem, *]);have t0:wB.cell? ⟨wA.heap.size,0,none⟩=some (.int .i64 ac):=(by simp (maxDischargeDepth:=9) [go_sem, *]);have t1:wB.cell? ⟨wA.heap.size,1,none⟩=some (.int .i64 (clI ar d e d)):=(by simp (maxDischargeDepth:=9) [go_sem, *]);have t2:wB.cell? ⟨wA.heap.size,2,none⟩=some (.bool af):=(by simp (maxDischargeDepth:=9) [go_sem, *]);have t3:wB.cell? ⟨wA.heap.size,3,none⟩=some (.bool ag):=(by simp (maxDischargeDepth:=9) [go_sem, *]);clear hb hcB hCB)
  | (at_builtin;refine app_kids _ rfl _ _ rfl (.slice none 0 0) rfl (w.heap.size+2) ?kb ?kn rfl HK.out ?ki HN.out ?_))
 case kb=>go_size
 case kn=>exact⟨rfl,Or.inl ⟨rfl,rfl⟩⟩
 case ki=>exact HI.out.below (by go_grown)
 intro KB kb w9 hown hgrow
 have HO:Hid (w9.ownsRow (w.heap.size+2) 2 1 (.slice KB l.length kb) l.length (l.map (Value.int .i64))):=hown
 have hb:=(Below.refl _ _).grown hgrow (Nat.le_refl _) (fun k hk=>by cases hk)
 obtain⟨hc9,hf9,hC9,hF9,hz9,hk9,m0,m1⟩:=bk2 (w:=w) (by go_grown) (by go_size) hb
 clear hgrow hb hown
 go_wp2_with fail
 refine bodyPost_ret (v:= .agg #[.int .i64 2,.int .i64 o,.int .i64 ck,.int .i64 cn,.string cs,.int .i64 ac,.int .i64 (clI ar d e d),.bool af,.bool ag,.int .i64 bc,.int .i64 br,.bool bf,.bool bg,.slice KB l.length kb]) ?_ rfl ⟨_,_,rfl,?_,by go_grown⟩
 ·simp (maxDischargeDepth:=9) [results,Tryz.results38,go_sem, *]
 ·refine own_mono (B:=w.heap.size+2) ?_ (by omega)
  repeat (refine ownsRow_setCell_below ?_ (by simp) _)
  exact HO.out
theorem shiftedNode_Closed_cell_no (o ck cn:Int) (cs:ByteArray) (ac ar:Int) (af ag:Bool) (bc br:Int) (bf bg:Bool) {KA:Option Addr} {kc:Nat} {l:List Int} (d e:Int) (p q:Nat) (w:World) (hp:p<w.heap.size) (hq:q<w.heap.size) (cp:w.cell? ⟨p,0,none⟩=some (.int .i64 d)) (cq:w.cell? ⟨q,0,none⟩=some (.int .i64 e)) (hac: -1000≤ac∧ac≤1000) (har: -1000≤ar∧ar≤1000) (hd: -1000≤d∧d≤1000) (he: -1000≤e∧e≤1000)
  (hA:areaOkB ac (clI ar d e d) ac (clI ar d e (d-1))=false) (h0:KA=none→kc=0) (hi:IntRow w KA l) (hn:l.length≤1048576):
  Calls Tryz.prog 38 #[.agg #[.int .i64 2,.int .i64 o,.int .i64 ck,.int .i64 cn,.string cs,.int .i64 ac,.int .i64 ar,.bool af,.bool ag,.int .i64 bc,.int .i64 br,.bool bf,.bool bg,.slice KA l.length kc],.func (.func 25) #[] #[.pointer (some ⟨p,0,none⟩),.pointer (some ⟨q,0,none⟩)]] w fun z w'=>z= .returned (.agg #[.int .i64 1,.int .i64 0,.int .i64 4,.int .i64 3,.string ⟨#[]⟩,.int .i64 0,.int .i64 0,.bool false,.bool false,.int .i64 0,.int .i64 0,.bool false,.bool false,.slice none 0 0])∧Below w.heap.size w w':=by
 have HA:Hid (areaOkB ac (clI ar d e d) ac (clI ar d e (d-1))=false):=hA
 clear hA
 have HI:Hid (IntRow w KA l):=hi
 have HN:Hid (l.length≤1048576):=hn
 have HK:Hid (KA=none→kc=0):=h0
 clear hi hn h0
 go_enter Tryz.func38,Tryz.ntmps38
 go_wp2_with (first
  | (go_at_call 25;refine(impl_Closed_1 _ _ _ _ _ _ _ _ d e p q _ (ltB (by go_grown) hp) (ltB (by go_grown) hq) (cellB (by go_grown) hp cp) (cellB (by go_grown) hq cq) hac har hac har hd he).mono ?_;rintro z w1 ⟨rfl,hb⟩;obtain⟨hc,hf,hC,hF,hz,hk,l0,l1⟩:=bk2 (w:=w) (by go_grown) (by go_size) hb;clear hb)
  | (go_at_call 56;refine(impl_AreaOk_is _ _ _ _ false _ HA.out).mono ?_;rintro z w1 ⟨rfl,hb⟩;obtain⟨hc,hf,hC,hF,hz,hk,l0,l1⟩:=bk2 (w:=w) (by go_grown) (by go_size) hb;clear hb)
  | (go_at_call 60;refine(impl_lostNode _).mono ?_;rintro z w1 ⟨rfl,hb⟩;obtain⟨hc,hf,hC,hF,hz,hk,l0,l1⟩:=bk2 (w:=w) (by go_grown) (by go_size) hb;clear hb))
 refine bodyPost_ret (v:= .agg #[.int .i64 1,.int .i64 0,.int .i64 4,.int .i64 3,.string ⟨#[]⟩,.int .i64 0,.int .i64 0,.bool false,.bool false,.int .i64 0,.int .i64 0,.bool false,.bool false,.slice none 0 0]) ?_ rfl ⟨rfl,by go_grown⟩
 simp (maxDischargeDepth:=9) [results,Tryz.results38,go_sem, *]
theorem shiftedNode_Closed_area_yes (o ck cn:Int) (cs:ByteArray) (ac ar:Int) (af ag:Bool) (bc br:Int) (bf bg:Bool) {KA:Option Addr} {kc:Nat} {l:List Int} (d e:Int) (p q:Nat) (w:World) (hp:p<w.heap.size) (hq:q<w.heap.size) (cp:w.cell? ⟨p,0,none⟩=some (.int .i64 d)) (cq:w.cell? ⟨q,0,none⟩=some (.int .i64 e)) (hac: -1000≤ac∧ac≤1000) (har: -1000≤ar∧ar≤1000) (hbc: -1000≤bc∧bc≤1000) (hbr: -1000≤br∧br≤1000) (hd: -1000≤d∧d≤1000) (he: -1000≤e∧e≤1000)
  (hA:areaOkB ac (clI ar d e d) bc (clI br d e (d-1))=true) (h0:KA=none→kc=0) (hi:IntRow w KA l) (hn:l.length≤1048576):
  Calls Tryz.prog 38 #[.agg #[.int .i64 3,.int .i64 o,.int .i64 ck,.int .i64 cn,.string cs,.int .i64 ac,.int .i64 ar,.bool af,.bool ag,.int .i64 bc,.int .i64 br,.bool bf,.bool bg,.slice KA l.length kc],.func (.func 25) #[] #[.pointer (some ⟨p,0,none⟩),.pointer (some ⟨q,0,none⟩)]] w fun z w'=> ∃KB kb,z= .returned (.agg #[.int .i64 3,.int .i64 o,.int .i64 ck,.int .i64 cn,.string cs,.int .i64 ac,.int .i64 (clI ar d e d),.bool af,.bool ag,.int .i64 bc,.int .i64 (clI br d e (d-1)),.bool bf,.bool bg,.slice KB l.length kb])∧w'.ownsRow w.heap.size 2 1 (.slice KB l.length kb) l.length (l.map (Value.int .i64))∧Below w.heap.size w w':=by
 have HA:Hid (areaOkB ac (clI ar d e d) bc (clI br d e (d-1))=true):=hA
 clear hA
 have HI:Hid (IntRow w KA l):=hi
 have HN:Hid (l.length≤1048576):=hn
 have HK:Hid (KA=none→kc=0):=h0
 clear hi hn h0
 go_enter Tryz.func38,Tryz.ntmps38
 go_wp2_with (first
  | (go_at_call 25;refine(impl_Closed_1 _ _ _ _ _ _ _ _ d e p q _ (ltB (by go_grown) hp) (ltB (by go_grown) hq) (cellB (by go_grown) hp cp) (cellB (by go_grown) hq cq) hac har hbc hbr hd he).mono ?_;rintro z w1 ⟨rfl,hb⟩;obtain⟨hc,hf,hC,hF,hz,hk,l0,l1⟩:=bk2 (w:=w) (by go_grown) (by go_size) hb;clear hb)
  | (go_at_call 28;refine(impl_areaOf_area _ _ _ _ _ _ _ _ _ _ _ _ _).mono ?_;rintro z w1 ⟨rfl,hb⟩;obtain⟨hc,hf,hC,hF,hz,hk,l0,l1⟩:=bk2 (w:=w) (by go_grown) (by go_size) hb;clear hb)
  | (go_at_call 56;refine(impl_AreaOk_is _ _ _ _ true _ HA.out).mono ?_;rintro z w1 ⟨rfl,hb⟩;obtain⟨hc,hf,hC,hF,hz,hk,l0,l1⟩:=bk2 (w:=w) (by go_grown) (by go_size) hb;clear hb)
  | (at_builtin;refine app_kids _ rfl _ _ rfl (.slice none 0 0) rfl (w.heap.size+2) ?kb ?kn rfl HK.out ?ki HN.out ?_))
 case kb=>go_size
 case kn=>exact⟨rfl,Or.inl ⟨rfl,rfl⟩⟩
 case ki=>exact HI.out.below (by go_grown)
 intro KB kb w9 hown hgrow
 have HO:Hid (w9.ownsRow (w.heap.size+2) 2 1 (.slice KB l.length kb) l.length (l.map (Value.int .i64))):=hown
 have hb:=(Below.refl _ _).grown hgrow (Nat.le_refl _) (fun k hk=>by cases hk)
 obtain⟨hc9,hf9,hC9,hF9,hz9,hk9,m0,m1⟩:=bk2 (w:=w) (by go_grown) (by go_size) hb
 clear hgrow hb hown
 go_wp2_with fail
 refine bodyPost_ret (v:= .agg #[.int .i64 3,.int .i64 o,.int .i64 ck,.int .i64 cn,.string cs,.int .i64 ac,.int .i64 (clI ar d e d),.bool af,.bool ag,.int .i64 bc,.int .i64 (clI br d e (d-1)),.bool bf,.bool bg,.slice KB l.length kb]) ?_ rfl ⟨_,_,rfl,?_,by go_grown⟩
 ·simp (maxDischargeDepth:=9) [results,Tryz.results38,go_sem, *]
 ·refine own_mono (B:=w.heap.size+2) ?_ (by omega)
  repeat (refine ownsRow_setCell_below ?_ (by simp) _)
  exact HO.out
theorem shiftedNode_Closed_area_no (o ck cn:Int) (cs:ByteArray) (ac ar:Int) (af ag:Bool) (bc br:Int) (bf bg:Bool) {KA:Option Addr} {kc:Nat} {l:List Int} (d e:Int) (p q:Nat) (w:World) (hp:p<w.heap.size) (hq:q<w.heap.size) (cp:w.cell? ⟨p,0,none⟩=some (.int .i64 d)) (cq:w.cell? ⟨q,0,none⟩=some (.int .i64 e)) (hac: -1000≤ac∧ac≤1000) (har: -1000≤ar∧ar≤1000) (hbc: -1000≤bc∧bc≤1000) (hbr: -1000≤br∧br≤1000) (hd: -1000≤d∧d≤1000) (he: -1000≤e∧e≤1000)
  (hA:areaOkB ac (clI ar d e d) bc (clI br d e (d-1))=false) (h0:KA=none→kc=0) (hi:IntRow w KA l) (hn:l.length≤1048576):
  Calls Tryz.prog 38 #[.agg #[.int .i64 3,.int .i64 o,.int .i64 ck,.int .i64 cn,.string cs,.int .i64 ac,.int .i64 ar,.bool af,.bool ag,.int .i64 bc,.int .i64 br,.bool bf,.bool bg,.slice KA l.length kc],.func (.func 25) #[] #[.pointer (some ⟨p,0,none⟩),.pointer (some ⟨q,0,none⟩)]] w fun z w'=>z= .returned (.agg #[.int .i64 1,.int .i64 0,.int .i64 4,.int .i64 3,.string ⟨#[]⟩,.int .i64 0,.int .i64 0,.bool false,.bool false,.int .i64 0,.int .i64 0,.bool false,.bool false,.slice none 0 0])∧Below w.heap.size w w':=by
 have HA:Hid (areaOkB ac (clI ar d e d) bc (clI br d e (d-1))=false):=hA
 clear hA
 have HI:Hid (IntRow w KA l):=hi
 have HN:Hid (l.length≤1048576):=hn
 have HK:Hid (KA=none→kc=0):=h0
 clear hi hn h0
 go_enter Tryz.func38,Tryz.ntmps38
 go_wp2_with (first
  | (go_at_call 25;refine(impl_Closed_1 _ _ _ _ _ _ _ _ d e p q _ (ltB (by go_grown) hp) (ltB (by go_grown) hq) (cellB (by go_grown) hp cp) (cellB (by go_grown) hq cq) hac har hbc hbr hd he).mono ?_;rintro z w1 ⟨rfl,hb⟩;obtain⟨hc,hf,hC,hF,hz,hk,l0,l1⟩:=bk2 (w:=w) (by go_grown) (by go_size) hb;clear hb)
  | (go_at_call 28;refine(impl_areaOf_area _ _ _ _ _ _ _ _ _ _ _ _ _).mono ?_;rintro z w1 ⟨rfl,hb⟩;obtain⟨hc,hf,hC,hF,hz,hk,l0,l1⟩:=bk2 (w:=w) (by go_grown) (by go_size) hb;clear hb)
  | (go_at_call 56;refine(impl_AreaOk_is _ _ _ _ false _ HA.out).mono ?_;rintro z w1 ⟨rfl,hb⟩;obtain⟨hc,hf,hC,hF,hz,hk,l0,l1⟩:=bk2 (w:=w) (by go_grown) (by go_size) hb;clear hb)
  | (go_at_call 60;refine(impl_lostNode _).mono ?_;rintro z w1 ⟨rfl,hb⟩;obtain⟨hc,hf,hC,hF,hz,hk,l0,l1⟩:=bk2 (w:=w) (by go_grown) (by go_size) hb;clear hb))
 refine bodyPost_ret (v:= .agg #[.int .i64 1,.int .i64 0,.int .i64 4,.int .i64 3,.string ⟨#[]⟩,.int .i64 0,.int .i64 0,.bool false,.bool false,.int .i64 0,.int .i64 0,.bool false,.bool false,.slice none 0 0]) ?_ rfl ⟨rfl,by go_grown⟩
 simp (maxDischargeDepth:=9) [results,Tryz.results38,go_sem, *]
def lostFN:FN:=⟨1,0,4,3,⟨#[]⟩,0,0,false,false,0,0,false,false,[]⟩
abbrev Ends:=Int→Int→Bool→Bool→Int × Int
def shFN (f g:Ends) (x:FN):FN:=
 if x.k=2 then(if areaOkB (f x.ac x.ar x.af x.ag).1 (f x.ac x.ar x.af x.ag).2 (g x.ac x.ar x.af x.ag).1 (g x.ac x.ar x.af x.ag).2=true then{x with ac:=(f x.ac x.ar x.af x.ag).1,ar:=(f x.ac x.ar x.af x.ag).2}else lostFN)
 else if x.k=3 then(if areaOkB (f x.ac x.ar x.af x.ag).1 (f x.ac x.ar x.af x.ag).2 (g x.bc x.br x.bf x.bg).1 (g x.bc x.br x.bf x.bg).2=true then{x with ac:=(f x.ac x.ar x.af x.ag).1,ar:=(f x.ac x.ar x.af x.ag).2,bc:=(g x.bc x.br x.bf x.bg).1,br:=(g x.bc x.br x.bf x.bg).2}else lostFN)
 else x
def nodeV (x:FN) (KA:Option Addr) (kc:Nat):Value:= .agg #[.int .i64 x.k,.int .i64 x.o,.int .i64 x.ck,.int .i64 x.cn,.string x.cs,.int .i64 x.ac,.int .i64 x.ar,.bool x.af,.bool x.ag,.int .i64 x.bc,.int .i64 x.br,.bool x.bf,.bool x.bg,.slice KA x.kids.length kc]
def SmallN (x:FN):Prop:=(x.k=2∨x.k=3→(-1000≤x.ac∧x.ac≤1000)∧(-1000≤x.ar∧x.ar≤1000))∧(x.k=3→(-1000≤x.bc∧x.bc≤1000)∧(-1000≤x.br∧x.br≤1000))
theorem own_nil (w:World) (B:Nat):w.ownsRow B 2 1 (.slice none 0 0) 0 []:=⟨rfl,Or.inl ⟨rfl,rfl⟩⟩
def fOpened (d e:Int):Ends:=fun c r _ _=>(c,opI r d e)
def gOpened (d e:Int):Ends:=fun c r _ _=>(c,opI r d e)
theorem impl_shiftedNode_Opened (x:FN) {KA:Option Addr} {kc:Nat} (d e:Int) (p q:Nat) (w:World) (hp:p<w.heap.size) (hq:q<w.heap.size) (cp:w.cell? ⟨p,0,none⟩=some (.int .i64 d)) (cq:w.cell? ⟨q,0,none⟩=some (.int .i64 e)) (hs:SmallN x) (hd: -1000≤d∧d≤1000) (he: -1000≤e∧e≤1000)
  (h0:KA=none→kc=0) (hi:IntRow w KA x.kids) (hn:x.kids.length≤1048576):
  Calls Tryz.prog 38 #[nodeV x KA kc,.func (.func 20) #[] #[.pointer (some ⟨p,0,none⟩),.pointer (some ⟨q,0,none⟩)]] w fun z w'=>
   ∃KB kb,z= .returned (nodeV (shFN (fOpened d e) (gOpened d e) x) KB kb)∧w'.ownsRow w.heap.size 2 1 (.slice KB (shFN (fOpened d e) (gOpened d e) x).kids.length kb) (shFN (fOpened d e) (gOpened d e) x).kids.length ((shFN (fOpened d e) (gOpened d e) x).kids.map (Value.int .i64))∧Below w.heap.size w w':=by
 obtain⟨k,o,ck,cn,cs,ac,ar,af,ag,bc,br,bf,bg,kids⟩:=x
 by_cases h2:k=2
 ·subst h2
  obtain⟨ha,hr⟩:=hs.1 (Or.inl rfl)
  unfold shFN
  rw [if_pos rfl]
  by_cases hA:areaOkB (fOpened d e ac ar af ag).1 (fOpened d e ac ar af ag).2 (gOpened d e ac ar af ag).1 (gOpened d e ac ar af ag).2=true
  ·rw [if_pos hA]
   exact shiftedNode_Opened_cell_yes o ck cn cs ac ar af ag bc br bf bg d e p q w hp hq cp cq ha hr hd he hA h0 hi hn
  ·rw [if_neg hA]
   exact(shiftedNode_Opened_cell_no o ck cn cs ac ar af ag bc br bf bg d e p q w hp hq cp cq ha hr hd he (eq_false_of_ne_true hA) h0 hi hn).mono fun _ _ h=>⟨none,0,h.1,own_nil _ _,h.2⟩
 by_cases h3:k=3
 ·subst h3
  obtain⟨ha,hr⟩:=hs.1 (Or.inr rfl)
  obtain⟨hb,hbr⟩:=hs.2 rfl
  unfold shFN
  rw [if_neg h2,if_pos rfl]
  by_cases hA:areaOkB (fOpened d e ac ar af ag).1 (fOpened d e ac ar af ag).2 (gOpened d e bc br bf bg).1 (gOpened d e bc br bf bg).2=true
  ·rw [if_pos hA]
   exact shiftedNode_Opened_area_yes o ck cn cs ac ar af ag bc br bf bg d e p q w hp hq cp cq ha hr hb hbr hd he hA h0 hi hn
  ·rw [if_neg hA]
   exact(shiftedNode_Opened_area_no o ck cn cs ac ar af ag bc br bf bg d e p q w hp hq cp cq ha hr hb hbr hd he (eq_false_of_ne_true hA) h0 hi hn).mono fun _ _ h=>⟨none,0,h.1,own_nil _ _,h.2⟩
 ·unfold shFN
  rw [if_neg h2,if_neg h3]
  exact shiftedNode_other k o ck cn cs ac ar af ag bc br bf bg _ w h2 h3 h0 hi hn
def fClosed (d e:Int):Ends:=fun c r _ _=>(c,clI r d e d)
def gClosed (d e:Int):Ends:=fun c r _ _=>(c,clI r d e (d-1))
theorem impl_shiftedNode_Closed (x:FN) {KA:Option Addr} {kc:Nat} (d e:Int) (p q:Nat) (w:World) (hp:p<w.heap.size) (hq:q<w.heap.size) (cp:w.cell? ⟨p,0,none⟩=some (.int .i64 d)) (cq:w.cell? ⟨q,0,none⟩=some (.int .i64 e)) (hs:SmallN x) (hd: -1000≤d∧d≤1000) (he: -1000≤e∧e≤1000)
  (h0:KA=none→kc=0) (hi:IntRow w KA x.kids) (hn:x.kids.length≤1048576):
  Calls Tryz.prog 38 #[nodeV x KA kc,.func (.func 25) #[] #[.pointer (some ⟨p,0,none⟩),.pointer (some ⟨q,0,none⟩)]] w fun z w'=>
   ∃KB kb,z= .returned (nodeV (shFN (fClosed d e) (gClosed d e) x) KB kb)∧w'.ownsRow w.heap.size 2 1 (.slice KB (shFN (fClosed d e) (gClosed d e) x).kids.length kb) (shFN (fClosed d e) (gClosed d e) x).kids.length ((shFN (fClosed d e) (gClosed d e) x).kids.map (Value.int .i64))∧Below w.heap.size w w':=by
 obtain⟨k,o,ck,cn,cs,ac,ar,af,ag,bc,br,bf,bg,kids⟩:=x
 by_cases h2:k=2
 ·subst h2
  obtain⟨ha,hr⟩:=hs.1 (Or.inl rfl)
  unfold shFN
  rw [if_pos rfl]
  by_cases hA:areaOkB (fClosed d e ac ar af ag).1 (fClosed d e ac ar af ag).2 (gClosed d e ac ar af ag).1 (gClosed d e ac ar af ag).2=true
  ·rw [if_pos hA]
   exact shiftedNode_Closed_cell_yes o ck cn cs ac ar af ag bc br bf bg d e p q w hp hq cp cq ha hr hd he hA h0 hi hn
  ·rw [if_neg hA]
   exact(shiftedNode_Closed_cell_no o ck cn cs ac ar af ag bc br bf bg d e p q w hp hq cp cq ha hr hd he (eq_false_of_ne_true hA) h0 hi hn).mono fun _ _ h=>⟨none,0,h.1,own_nil _ _,h.2⟩
 by_cases h3:k=3
 ·subst h3
  obtain⟨ha,hr⟩:=hs.1 (Or.inr rfl)
  obtain⟨hb,hbr⟩:=hs.2 rfl
  unfold shFN
  rw [if_neg h2,if_pos rfl]
  by_cases hA:areaOkB (fClosed d e ac ar af ag).1 (fClosed d e ac ar af ag).2 (gClosed d e bc br bf bg).1 (gClosed d e bc br bf bg).2=true
  ·rw [if_pos hA]
   exact shiftedNode_Closed_area_yes o ck cn cs ac ar af ag bc br bf bg d e p q w hp hq cp cq ha hr hb hbr hd he hA h0 hi hn
  ·rw [if_neg hA]
   exact(shiftedNode_Closed_area_no o ck cn cs ac ar af ag bc br bf bg d e p q w hp hq cp cq ha hr hb hbr hd he (eq_false_of_ne_true hA) h0 hi hn).mono fun _ _ h=>⟨none,0,h.1,own_nil _ _,h.2⟩
 ·unfold shFN
  rw [if_neg h2,if_neg h3]
  exact shiftedNode_other k o ck cn cs ac ar af ag bc br bf bg _ w h2 h3 h0 hi hn
end Go.Proofs.YtonhcgkagdpdlaaGreatDoor
