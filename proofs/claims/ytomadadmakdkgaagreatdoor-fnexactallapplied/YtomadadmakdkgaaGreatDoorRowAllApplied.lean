/- FnExactAllApplied: for every row of cells and every row of edits the exact law of AllApplied returns true: impl.AllApplied answers as spec.AllApplied; its answer owns its memory; the arguments read as before. The listed variables read as the program's text lays them: the card ties that to the start. -/
import Derived.Test.YtomadadmakdkgaaGreatDoorQe
import Derived.Test.YtomadadmakdkgaaGreatDoorGbb
import Derived.OpenVars
import Derived.Lay
import Derived.Test.YtomadadmakdkgaaGreatDoorTie
import Derived.Test.YtomadadmakdkgaaGreatDoorCards
namespace Go.Proofs.YtomadadmakdkgaaGreatDoor
open Go.ChangeShapes Go.WideShapes Go.ChangeAt Go.RowKit Go.Joins
open Go.ChangeMaps (open_string shut_string)
set_option linter.unusedVariables false

theorem RowAllApplied.gt {W:World} (h:laidMetH Tryz.prog Rows.fnExactAllAppliedRow.laid W) (hs:W.ShapedOpen Tryz.prog):GI W:=by
 rw [MakeChecks.laidMetH_plain _ _ _ (by kernel_rfl)]at h
 have h2:=h.tail.tail
 have h4:=h2.tail.tail
 have h6:=h4.tail.tail
 have h7:=h6.tail
 obtain⟨f1,f2⟩:=Qu0 h7
 obtain⟨e1,e2⟩:=Qxt h4
 exact⟨⟨f1,f2,ot_of h6,mx_of hs,vt_of h2⟩,fl_of h7,⟨vt_of h2,e1,e2⟩⟩
set_option maxRecDepth 100000 in
theorem RowAllApplied.lifted (os:Os) (started:os.Started) (H:Type) (enc:TypeId × Value→H):
  ReturnsInHanded {} Tryz.checked os 7 .any (fun w args=>(Rows.fnExactAllAppliedSpec.pre enc Tryz.prog Tryz.f7 [] false w args∧laidMetH Tryz.prog Rows.fnExactAllAppliedRow.laid w)∧sizedMet enc Tryz.prog Tryz.f7 (OpenSpec.ofChange Rows.fnExactAllAppliedSpec) false w args) (Rows.fnExactAllAppliedSpec.post enc Tryz.prog Tryz.f7 false true false false):=by
 refine Qdj (C:=Tryz.checked) (X:=fun w _=>laidMetH Tryz.prog Rows.fnExactAllAppliedRow.laid w) (fun _ _ _ hh h=>h.of_heap hh) ownK started (by kernel_rfl) Tryz.func7
  (ChangeSpec.witness_shaped (enc:=enc) (C:=Tryz.checked) (os:=os) (X:=fun w _=>laidMetH Tryz.prog Rows.fnExactAllAppliedRow.laid w) false (World.laidAll Tryz.prog os Rows.fnExactAllAppliedRow.laid) #[.slice none 0 0,.slice none 0 0] 8 (World.laidAll_os _ _ _)
   (World.shaped_of_ZipB (by kernel_rfl) (by kernel_rfl)) (by kernel_rfl) (by kernel_rfl) (by kernel_rfl)
   (by rw [MakeChecks.laidMetH_plain _ _ _ (by kernel_rfl)];exact laidMet_laidAll _ (by kernel_rfl) (by kernel_rfl))) ?_
 intro W base args ds gs before hval0 hW hL hsh
 have hval: ∀(j:Nat) t v,Tryz.f7.params[j]? =some t→args[j]? =some v→Value.okWide Tryz.prog W .any base t v:=hval0
 have hW':=hW
 obtain⟨p,q,hA0,hV,rfl,hfz,hnd⟩:=hW
 have hA:DataW.TrodAll enc Tryz.prog W 0 (fun _=>true) true Tryz.f7.params.toList args.toList ds p:=hA0
 rw [Tryz.params7]at hA hval
 obtain⟨v0,vs0,d0,ds0,p0,q0,hargs,rfl,rfl,h0,r0⟩:=trodAll_cons hA
 obtain⟨v1,vs1,d1,ds1,p1,q1,rfl,rfl,rfl,h1,r1⟩:=trodAll_cons r0
 obtain⟨rfl,rfl,rfl⟩:=trodAll_nil r1
 obtain rfl:args= #[v0,v1]:=by cases args;simp_all
 have hV0:=hV
 obtain⟨_,_,_,_,g1,_,_,_,_,_,g2,_,rfl,_⟩:=trodVars_two hV
 have k0:=h0
 have lt0: ∀x∈p0,x.block<W.heap.size:=by obtain⟨m,hm⟩:=k0;exact DataW.trod_lt m _ _ _ hm
 obtain⟨A0,n0,c0,C0,R0,S0,rfl,wc0⟩:=Qv1 (hval 0 43 v0 rfl rfl) h0
 have k1:=h1
 have lt1: ∀x∈p1,x.block<W.heap.size:=by obtain⟨m,hm⟩:=k1;exact DataW.trod_lt m _ _ _ hm
 obtain⟨A1,n1,c1,D1,rfl,wc1⟩:=Y1w (hval 1 57 v1 rfl rfl) h1
 clear hA0 hval0
 refine(law_FnExactAllApplied W wc0 wc1 (RowAllApplied.gt hL hsh)).mono fun e W' ⟨he,bel⟩=> ?_
 subst he
 exact⟨_,rfl,_,_,_,[],_,_,hW',trodAll_mk1 (shut_bool Tryz.underlying4 _),(trodAll_cons_mk (Below.trod Qq7 (by kernel_rfl) (of_decide_eq_true (by kernel_rfl)) k0 bel lt0) (trodAll_cons_mk (Below.trod Qq7 (by kernel_rfl) (of_decide_eq_true (by kernel_rfl)) k1 bel lt1) trodAll_mk0)),Below.trodVars Qq7 bel (by kernel_rfl) hV0,bel.frame _,fun h=>by cases h⟩

set_option maxHeartbeats 400000000 in
theorem RowAllApplied.closed:joinedFacts Tryz.pinned.checked.prog 7 Tryz.f7 Rows.fnExactAllAppliedSpec Rows.fnExactAllAppliedRow=true:=by
 unfold joinedFacts
 simp only [Bool.and_eq_true]
 repeat' apply And.intro
 all_goals as_aux_lemma=>kernel_rfl

theorem RowAllApplied.over:Rows.fnExactAllAppliedRow.holds Tryz.pinned (OpenSpec.ofChange Rows.fnExactAllAppliedSpec):=
 OpenClaim.holds_of_wide 7 Tryz.f7 rfl rfl rfl rfl rfl rfl rfl ⟨rfl,rfl,rfl,rfl,rfl⟩ rfl rfl rfl rfl rfl (by as_aux_lemma=>kernel_rfl) Tryz.func7 RowAllApplied.closed
  (of_decide_eq_true (by as_aux_lemma=>kernel_rfl)) (by unfold Func.isWrapper;first | (rw [if_pos (by decide+kernel)];kernel_rfl) | (rw [if_neg (by decide+kernel)];exact⟨rfl,rfl⟩))
  (fun os started H enc _=>RowAllApplied.lifted os started H enc)

theorem proved_FnExactAllApplied:Rows.FnExactAllAppliedCardSaid:=
 Claim7.holds_tied_plain_at .later [] [.data,.data,.data,.data,.sentinel,.sentinel,.data,.wider,.pinned] true Rows.fnExactAllAppliedCard.stood.harness true
  RowAllApplied.over (fun _ h=>by cases h) (by as_aux_lemma=>kernel_rfl) (fun _ h=>by cases h) fnExactAllApplied_row_tie rfl ⟨rfl,rfl⟩ (by as_aux_lemma=>kernel_rfl) rfl
  (fun f fn hf hfn=>by
   obtain rfl:f=7:=Option.some.inj ((show Tryz.prog.funcNamed Rows.fnExactAllAppliedRow.func=some 7 by kernel_rfl).symm.trans hf) |>.symm
   obtain rfl:fn=Tryz.f7:=(Option.some.inj (Tryz.func7.symm.trans hfn)).symm
   exact⟨by kernel_rfl,fun j t ht=>by
    rw [Tryz.params7]at ht
    have hm:t∈ [43,57]:=by simpa using Array.mem_of_getElem? ht
    have hall:([43,57].all fun u=> !Tryz.prog.wantsStandIn u)=true:=by kernel_rfl
    exact(show Tryz.prog.wantsStandIn t=false by simpa using List.all_eq_true.1 hall t hm)⟩)
  (by as_aux_lemma=>kernel_rfl)
#print axioms proved_FnExactAllApplied
end Go.Proofs.YtomadadmakdkgaaGreatDoor
