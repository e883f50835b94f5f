import Derived.Test.YtkdhmdllnaogcaaGreatDoorMn
import Derived.Test.YtkdhmdllnaogcaaGreatDoorJd
import Derived.Test.YtkdhmdllnaogcaaGreatDoorJc
import Derived.Test.YtkdhmdllnaogcaaGreatDoorJa
import Derived.Test.YtkdhmdllnaogcaaGreatDoorJb
set_option linter.unusedSimpArgs false
set_option linter.unusedVariables false
set_option maxHeartbeats 8000000
set_option maxRecDepth 100000
namespace Go.Proofs.YtkdhmdllnaogcaaGreatDoor
open Go.RowKit Go.Maps Go.Sort Go.Shelf
theorem side_in (n:Nat) (As:Option Addr) (k cs:Nat) (w:World):
  CallsIn Fence.wide n Tryz.prog 31 #[.slice As k cs] w fun e w'=>e= .returned (.func (.func 40) #[] #[.pointer (some ⟨w.heap.size,0,none⟩)])∧w'=w.alloc (.cells #[.slice As k cs] 70):=by
 refine callsIn_of_wp Tryz.func31 rfl trivial ?_ rfl;simp only [Tryz.ntmps31,List.size_toArray,List.length_cons,List.length_nil,Nat.reduceAdd,Nat.reduceSub,Array.replicate_succ,Array.replicate_zero,List.push_toArray,List.append_toArray,List.nil_append,List.cons_append];gi_wp2
 go_ret;exact⟨rfl,rfl⟩
theorem dc_all {a b M:List CL} (ha:upC a) (hb:upC b) (hM:upC M) (hm: ∀p q,hasP p q M↔hasP p q a∨hasP p q b):dcL a b M=dfL a b:=by
 unfold dcL dfL;rw [dfM_by ha hb hM hm]
theorem diff_in (n0:Nat) (hn0:4≤n0) {A A':Option Addr} {n cap m cap':Nat} {C R C' R':Nat→Int} {S S':Nat→ByteArray} (w:World) (h:ShOk w ⟨A,n,cap,C,R,S⟩) (h':ShOk w ⟨A',m,cap',C',R',S'⟩):
  CallsIn Fence.wide n0 Tryz.prog 25 #[.slice A n cap,.slice A' m cap'] w fun e w'=>DfR w.heap.size w' (dfL (clE C R S n) (clE C' R' S' m)) e∧Below w.heap.size w w':=by
 have h1:1≤n0:=by omega
 obtain⟨DL,hDL⟩: ∃DL,dfL (clE C R S n) (clE C' R' S' m)=DL:=⟨_,rfl⟩;rw [hDL];have hne:=chSlNe;have eg: ∀args w,(callFunc 40 args).run Tryz.prog w= .ok (.enter 40 args) w:=enters_of Tryz.func40 (by kernel_rfl) rfl;refine callsIn_of_wp_marks Tryz.func25 rfl trivial ?_ rfl;simp only [Tryz.ntmps25,List.size_toArray,List.length_cons,List.length_nil,Nat.reduceAdd,Nat.reduceSub,Array.replicate_succ,Array.replicate_zero,List.push_toArray,List.append_toArray,List.nil_append,List.cons_append];gi_wp2
 refine⟨trivial,?_⟩;refine(side_in _ _ _ _ _).mono ?_;rintro e w9 ⟨rfl,rfl⟩;gi_wp2
 refine wpIn_rangeFunc ?_;intro fn hfn;show∃_,_;obtain⟨Wa,hWa⟩: ∃Wa,w.alloc (.cells #[.slice none 0 0] 24)=Wa:=⟨_,rfl⟩;have hsa:Wa.heap.size=w.heap.size+1:=by rw [←hWa];simp
 have hba:Below w.heap.size w Wa:=by rw [←hWa];exact(Below.refl _ w).alloc (Nat.le_refl _) _
 have hva:Wa.heap[w.heap.size]? =some (.cells #[.slice none 0 0] 24 (0,0)):=by rw [←hWa];exact World.alloc_heap_new w _
 rw [hWa];obtain⟨Wb,hWb⟩: ∃Wb,Wa.alloc (.cells #[.slice A n cap,.slice A' m cap'] 26)=Wb:=⟨_,rfl⟩;have hsb:Wb.heap.size=w.heap.size+1+1:=by rw [←hWb];simp [hsa]
 have hbb:Below Wa.heap.size Wa Wb:=by rw [←hWb];exact(Below.refl _ Wa).alloc (Nat.le_refl _) _
 have hnb:Wb.heap[w.heap.size+1]? =some (.cells #[.slice A n cap,.slice A' m cap'] 26 (0,0)):=by rw [←hWb,←hsa];exact World.alloc_heap_new Wa _
 have d0:Wb.cell? ⟨w.heap.size+1,0,none⟩=some (.slice A n cap):=by simp [World.cell?,hnb]
 have d1:Wb.cell? ⟨w.heap.size+1,1,none⟩=some (.slice A' m cap'):=by simp [World.cell?,hnb]
 rw [hWb];obtain⟨W0,hW0⟩: ∃W0,Wb.alloc (.cells #[.slice (some ⟨w.heap.size+1,0,none⟩) 2 2] 70)=W0:=⟨_,rfl⟩;have hs0:W0.heap.size=w.heap.size+1+1+1:=by rw [←hW0];simp [hsb]
 have hb0:Below Wb.heap.size Wb W0:=by rw [←hW0];exact(Below.refl _ Wb).alloc (Nat.le_refl _) _
 have hn0':W0.heap[w.heap.size+1+1]? =some (.cells #[.slice (some ⟨w.heap.size+1,0,none⟩) 2 2] 70 (0,0)):=by rw [←hW0,←hsb];exact World.alloc_heap_new Wb _
 have d2:W0.cell? ⟨w.heap.size+1+1,0,none⟩=some (.slice (some ⟨w.heap.size+1,0,none⟩) 2 2):=by simp [World.cell?,hn0']
 rw [hW0];obtain⟨sv,hsv⟩: ∃sv:Value,.func (.func 40) #[] #[.pointer (some ⟨w.heap.size+1+1,0,none⟩)]=sv:=⟨_,rfl⟩;obtain⟨rc,hrc⟩: ∃rc,dcRec fn (.slice A n cap) (.slice A' m cap') (.slice (some ⟨w.heap.size+1,0,none⟩) 2 2) (.func (.func 40) #[] #[.pointer (some ⟨w.heap.size+1+1,0,none⟩)]) w.heap.size W0.heap.size .ready none=rc:=⟨_,rfl⟩;obtain⟨W1,hW1⟩: ∃W1,(W0.alloc (.deferred (some []))).alloc (.loop rc)=W1:=⟨_,rfl⟩
 have hold: ∀k:Nat,k<W0.heap.size→W1.heap[k]? =W0.heap[k]?:=fun k hk=>by
  rw [←hW1];exact(Below.heap_alloc _ _ k (by simp;omega)).trans (Below.heap_alloc _ _ k hk)
 have hb01:Below W0.heap.size W0 W1:=by rw [←hW1];exact((Below.refl _ W0).alloc (Nat.le_refl _) _).alloc (by simp) _
 have hbw:Below w.heap.size w W1:=Qc (Qc (Qc hba hbb) hb0) hb01;have hs1:W1.heap.size=W0.heap.size+2:=by rw [←hW1];simp
 have hv1:W1.heap[w.heap.size]? =some (.cells #[.slice none 0 0] 24 (0,0)):=(hold _ (by omega)).trans ((hb0.block _ (by omega)).trans ((hbb.block _ (by omega)).trans hva))
 have hL1:W1.heap[W0.heap.size+1]? =some (.loop rc):=by
  rw [←hW1];have:=World.alloc_heap_new (W0.alloc (.deferred (some []))) (.loop rc);rwa [World.size_alloc]at this
 have hK1:W1.heap[W0.heap.size]? =some (.deferred (some [])):=by rw [←hW1];exact(Below.heap_alloc _ _ _ (by simp)).trans (World.alloc_heap_new W0 _)
 have b0:W1.cell? ⟨w.heap.size+1+1,0,none⟩=some (.slice (some ⟨w.heap.size+1,0,none⟩) 2 2):=(World.cell?_of_block (hold (w.heap.size+1+1) (by omega))).trans d2;have b1:W1.cell? ⟨w.heap.size+1,0,none⟩=some (.slice A n cap):=(World.cell?_of_block ((hold (w.heap.size+1) (by omega)).trans (hb0.block (w.heap.size+1) (by omega)))).trans d0;have b2:W1.cell? ⟨w.heap.size+1,1,none⟩=some (.slice A' m cap'):=(World.cell?_of_block ((hold (w.heap.size+1) (by omega)).trans (hb0.block (w.heap.size+1) (by omega)))).trans d1
 have hrow:RowAt 1 shL W1 (some ⟨w.heap.size+1,0,none⟩) [⟨A,n,cap,C,R,S⟩,⟨A',m,cap',C',R',S'⟩]:=⟨by unfold maxLen;simp,fun i x hx=>by
  match i,hx with
  | 0,hx=>cases hx;exact⟨_,_,rfl,by omega,fun j v hv=>by match j,hv with | 0,hv=>cases hv;exact b1⟩
  | 1,hx=>cases hx;exact⟨_,_,rfl,by omega,fun j v hv=>by match j,hv with | 0,hv=>cases hv;exact b2⟩⟩
 have hok: ∀x∈ [(⟨A,n,cap,C,R,S⟩:SH),⟨A',m,cap',C',R',S'⟩],ShOk W1 x:=fun x hx=>by
  simp only [List.mem_cons,List.not_mem_nil,or_false]at hx;rcases hx with rfl | rfl
  ·exact h.below hbw
  ·exact h'.below hbw
 have key:=side1 (n0-1) (by omega) (W0.heap.size+1) (w.heap.size+1+1) (some ⟨w.heap.size+1,0,none⟩) 2 2 [⟨A,n,cap,C,R,S⟩,⟨A',m,cap',C',R',S'⟩]
  (fun H pre W=>W1.heap.size≤H∧DcAt w fn (.slice A n cap) (.slice A' m cap') (.slice (some ⟨w.heap.size+1,0,none⟩) 2 2) (.func (.func 40) #[] #[.pointer (some ⟨w.heap.size+1+1,0,none⟩)]) w.heap.size (W0.heap.size+1) W0.heap.size (clE C R S n) (clE C' R' S' m) H pre W)
  W1 b0 hrow rfl (by omega) hok
  (fun W2 hb2=>⟨hb2.size,⟨⟨_,(hb2.block _ (by omega)).trans hv1,⟨rfl,.inl ⟨rfl,rfl⟩⟩⟩,(hb2.block _ (by omega)).trans (by rw [hrc];exact hL1),(hb2.block _ (by omega)).trans hK1,Qc hbw hb2,Nat.le_refl _⟩⟩)
  (fun H pre Wx Wy hx hy=>⟨hx.1,hx.2.later hy⟩)
  (fun H pre x Ax cx Wx hx hl9 hs9=>by
   obtain⟨fn2,tm2,as2,bo2,e2,r2⟩:=dcYield (n0-1-1) w fn _ _ _ _ w.heap.size (W0.heap.size+1) W0.heap.size (clE C R S n) (clE C' R' S' m) W1.heap.size (by omega) (by omega) (by omega) (by omega) (by omega) (by omega) (Nat.le_refl _) (by omega) H hx.1 pre x Ax cx Wx hx.2 hl9 hs9
   exact⟨fn2,tm2,as2,bo2,e2,r2.mono (fun e Wy hy=>⟨hy.1,⟨hx.1,hy.2.1⟩,hy.2.2.1,hy.2.2.2⟩)⟩)
 refine⟨W0.heap.size+1,[{target:= .collected W0.heap.size,args:= #[]}],W1,{target:= .fn (.func 40) #[.pointer (some ⟨w.heap.size+1+1,0,none⟩)],args:= #[.func (.yield (W0.heap.size+1)) #[] #[]]},W1,40,
  #[.func (.yield (W0.heap.size+1)) #[] #[]]++ #[.pointer (some ⟨w.heap.size+1+1,0,none⟩)],W1,?_,?_,?_,?_,fun _=>h1,?_⟩
 ·rw [←hW1,←hrc];exact run_enterLoop_outer _ _ _ _ _
 ·simp [resolve,go_sem]
 ·intro f' hf';trivial
 ·simp [invoke,go_sem,eg]
 ·refine key.mono ?_;rintro e W2 ⟨⟨v0,rfl⟩,H,M,hup,hhas,hH,h2⟩;obtain⟨v,hv,hrow2⟩:=h2.box;have hend:=run_endLoop (P:=Tryz.prog) h2.L (by simp [dcRec]);obtain⟨W3,hW3⟩: ∃W3,W2.putObj (W0.heap.size+1) (.loop {dcRec fn (.slice A n cap) (.slice A' m cap') (.slice (some ⟨w.heap.size+1,0,none⟩) 2 2) (.func (.func 40) #[] #[.pointer (some ⟨w.heap.size+1+1,0,none⟩)]) w.heap.size W0.heap.size .ready none with state:= .exhausted})=W3:=⟨_,rfl⟩;rw [hW3]at hend;have hg3:W2.grownBy W3 (some (W0.heap.size+1)):=by rw [←hW3];exact grownBy_putObj_a _ _ _
  have hv3:W3.heap[w.heap.size]? =some (.cells #[v] 24 (0,0)):=by rw [←hW3];exact(World.putObj_heap_other (by omega)).trans hv
  have hK3:W3.heap[W0.heap.size]? =some (.deferred (some [])):=by rw [←hW3];exact(World.putObj_heap_other (by omega)).trans h2.K
  have hrow3:=hrow2.kept hg3 (ownsRow_ne_a hrow2 h2.L (fun cur e=>by cases e));have hb3:Below w.heap.size w W3:=h2.below.grown hg3 h2.below.size (fun k e=>by cases e;omega);obtain⟨hc3,hf3⟩:=cell_of_box_a hv3
  have HDL:Hid (dcL (clE C R S n) (clE C' R' S' m) M=dfL (clE C R S n) (clE C' R' S' m)):=dc_all h.rise h'.rise hup (fun p q=>by
   rw [hhas p q];constructor
   ·rintro⟨x,hx,e⟩;simp only [List.mem_cons,List.not_mem_nil,or_false]at hx;rcases hx with rfl | rfl
    ·exact .inl e
    ·exact .inr e
   ·rintro(e | e)
    ·exact⟨⟨A,n,cap,C,R,S⟩,by simp,e⟩
    ·exact⟨⟨A',m,cap',C',R',S'⟩,by simp,e⟩)
  rw [HDL.out]at hrow3;rw [hDL]at hrow3;obtain⟨FF,cF,rfl,_,_⟩:=QP hrow3;clear hW3 key hrow hok;rw [hs0]at hK3;refine⟨none,W3,hend,?_⟩;gi_wp2
  refine⟨by simp,.inl ⟨_,_,rfl,run_takeDeferred hK3,?_⟩⟩;exact⟨_,results_tmp rfl _ _ _,⟨FF,cF,DL.length,rfl,rfl,ownsRow_base_a (hrow3.kept (grownBy_putObj_a _ _ _) (ownsRow_ne_a hrow3 hK3 (fun cur e=>by cases e))) (by omega)⟩,hb3.grown (grownBy_putObj_a _ _ _) hb3.size (fun k e=>by cases e;omega)⟩
theorem df_nil (B:Nat) (w':World):DfR B w' [] (.returned (.slice none 0 0)):=⟨none,0,0,rfl,rfl,rfl,.inl ⟨rfl,rfl⟩⟩
theorem impl_DiffOf {A A':Option Addr} {n cap m cap':Nat} {C R C' R':Nat→Int} {S S':Nat→ByteArray} (w:World) (h:ClRow w A n C R S) (h':ClRow w A' m C' R' S') (hg:GI w):
  Calls Tryz.prog 8 #[.slice A n cap,.slice A' m cap'] w fun e w'=>DfR w.heap.size w' (dfF C R S n C' R' S' m) e∧Below w.heap.size w w':=by
 have HR:Hid (ClRow w A n C R S):=h;have HR':Hid (ClRow w A' m C' R' S'):=h';have HG:Hid (GI w):=hg;clear h h' hg;obtain⟨ck,HCK⟩: ∃ck,Hid (Yg C R S n=ck):=⟨_,rfl⟩;obtain⟨ck',HCK'⟩: ∃ck',Hid (Yg C' R' S' m=ck'):=⟨_,rfl⟩;obtain⟨DL,HDL⟩: ∃DL,Hid (dfF C R S n C' R' S' m=DL):=⟨_,rfl⟩
 rw [HDL.out];go_enter Tryz.func8,Tryz.ntmps8;go_wp2_with fail
 refine(Qdd _ HR.out HG.out).mono ?_;rintro e u1 ⟨rfl,hb⟩;have K1:Hid (Below w.heap.size w u1):=hb;clear hb;rw [HCK.out];cases ck
 ·have HV:Hid (DL= []):=by rw [←HDL.out];exact dfF_no1 HCK.out
  go_wp2_with fail
  go_ret;exact⟨by rw [HV.out];exact df_nil _ _,K1.out⟩
 go_wp2_with fail
 refine(Qdd _ (HR'.out.below K1.out) (HG.out.below K1.out)).mono ?_;rintro e u2 ⟨rfl,hb⟩;have K2:=hd (Qc K1.out hb);clear hb;rw [HCK'.out];cases ck'
 ·have HV:Hid (DL= []):=by rw [←HDL.out];exact dfF_no2 HCK'.out
  go_wp2_with fail
  go_ret;exact⟨by rw [HV.out];exact df_nil _ _,K2.out⟩
 have HV:Hid (DL=dfL (clE C R S n) (clE C' R' S' m)):=by show _=_;rw [←HDL.out];exact dfF_yes HCK.out HCK'.out
 have HS1:Hid (ShOk u2 ⟨A,n,cap,C,R,S⟩):=⟨HR.out.below K2.out,(cl_rise HCK.out).1,(cl_rise HCK.out).2.1,(cl_rise HCK.out).2.2⟩;have HS2:Hid (ShOk u2 ⟨A',m,cap',C',R',S'⟩):=⟨HR'.out.below K2.out,(cl_rise HCK'.out).1,(cl_rise HCK'.out).2.1,(cl_rise HCK'.out).2.2⟩;go_wp2_with fail
 refine(callsIn_wide.1 (diff_in 9 (by omega) u2 HS1.out HS2.out)).mono ?_;rintro e u3 ⟨⟨F,c,k,rfl,hk,ho⟩,hb⟩;rw [←HV.out]at hk ho;have HO:Hid (u3.ownsRow w.heap.size 47 4 (.slice F k c) k (Kc chL DL)):=Go.Proofs.ownsRow_base_a ho K2.out.size;have HK:Hid (DL.length=k):=hk;have K3:=hd (Qc K2.out hb);clear hk ho hb HV
 go_wp2_with fail
 go_ret;exact⟨⟨F,c,k,rfl,HK.out,HO.out⟩,K3.out⟩
end Go.Proofs.YtkdhmdllnaogcaaGreatDoor
namespace Go.Proofs.YtkdhmdllnaogcaaGreatDoor
open Go.RowKit Go.Maps
def chAt (L:List CH) (i:Nat):CH:=(L[i]?).getD ⟨0,0,⟨#[]⟩,⟨#[]⟩⟩
theorem chX_flat (L:List CH): ∀n,n≤L.length→chX (chAt L) n=Kc chL (L.take n)
 | 0,_=>rfl
 | n+1,h=>by
  rw [chX_succ,chX_flat L n (by omega),List.take_add_one,List.getElem?_eq_getElem (by omega:n<L.length)];simp only [Option.toList_some,Qio];rw [chAt,List.getElem?_eq_getElem (by omega:n<L.length)];rfl
theorem ch_of_list {W:World} {B n cap:Nat} {A:Option Addr} {L:List CH} (h:W.ownsRow B 47 4 (.slice A n cap) n (Kc chL L)) (hL:L.length=n) (hs: ∀x∈L,x.f.size≤maxLen∧x.t.size≤maxLen):ChRow W A n (chAt L):=by
 subst hL;refine ch_of_own (B:=B) (cap:=cap) ?_ (fun i hi=> ?_)
 ·rw [chX_flat L _ (Nat.le_refl _),List.take_length];exact h
 ·rw [chAt,List.getElem?_eq_getElem hi];exact hs _ (List.getElem_mem hi)
theorem eqc_of_lists {W:World} {B B' n cap cap':Nat} {A A':Option Addr} {L:List CH} (hL:L.length=n) (hs: ∀x∈L,x.f.size≤maxLen∧x.t.size≤maxLen) (h:W.ownsRow B 47 4 (.slice A n cap) n (Kc chL L)) (h':W.ownsRow B' 47 4 (.slice A' n cap') n (Kc chL L)):
  Calls Tryz.prog 9 #[.slice A n cap,.slice A' n cap'] W fun e w'=>e= .returned (.bool true)∧Below W.heap.size W w':=
 laws_eqChangeS W (ch_of_list h hL hs) (ch_of_list h' hL hs)
theorem atC_sz {p q:Int} {a:List CL} (h: ∀x∈a,x.s.size≤maxLen):(atC p q a).size≤maxLen:=by
 unfold atC;cases hf:a.find? (fun y=>decide (y.c=p∧y.r=q))with
 | none=>exact Nat.zero_le _
 | some x=>exact h x (List.mem_of_find?_eq_some hf)
theorem dfM_len: ∀a b:List CL,(dfM a b).length≤a.length+b.length
 | [],[]=>by rw [dfM];simp
 | x::a,[]=>by rw [dfM];have:=dfM_len a [];simp at this ⊢;omega
 | [],y::b=>by rw [dfM];have:=dfM_len [] b;simp at this ⊢;omega
 | x::a,y::b=>by
  rw [dfM];have h1:=dfM_len a (y::b);have h2:=dfM_len (x::a) b;have h3:=dfM_len a b;simp only [List.length_cons]at h1 h2 h3 ⊢;split
  ·simp only [List.length_cons];omega
  ·split<;>(simp only [List.length_cons];omega)
 termination_by a b=>a.length+b.length
theorem df_len {C R:Nat→Int} {S:Nat→ByteArray} {n:Nat} {C' R':Nat→Int} {S':Nat→ByteArray} {m:Nat}:(dfF C R S n C' R' S' m).length≤240:=by
 unfold dfF;split
 ·rename_i h
  have h1:=(cl_rise h.1).1;have h2:=(cl_rise h.2).1;have h3:=dfM_len (clE C R S n) (clE C' R' S' m);rw [clE_len,clE_len]at h3;have h4:(dfL (clE C R S n) (clE C' R' S' m)).length≤(dfM (clE C R S n) (clE C' R' S' m)).length:=List.length_filter_le _ _;omega
 ·simp
theorem df_sz {C R:Nat→Int} {S:Nat→ByteArray} {n:Nat} {C' R':Nat→Int} {S':Nat→ByteArray} {m:Nat} (hs: ∀i,i<n→(S i).size≤maxLen) (hs': ∀i,i<m→(S' i).size≤maxLen): ∀x∈dfF C R S n C' R' S' m,x.f.size≤maxLen∧x.t.size≤maxLen:=by
 intro x hx;unfold dfF at hx;split at hx
 ·rename_i h
  have h9:=((dfM_all _ _ (cl_rise h.1).2.2 (cl_rise h.2).2.2).1 x).1 (List.mem_filter.1 hx).1;refine⟨?_,?_⟩
  ·rw [h9.2.1];exact atC_sz (fun y hy=>by obtain⟨i,hi,rfl⟩:=List.mem_map.1 hy;exact hs i (List.mem_range.1 hi))
  ·rw [h9.2.2];exact atC_sz (fun y hy=>by obtain⟨i,hi,rfl⟩:=List.mem_map.1 hy;exact hs' i (List.mem_range.1 hi))
 ·cases hx
theorem df_form {B mn:Nat} {w':World} {L:List CH} {xx:List Value} {e:Ending} (h2:L.length=mn) (h3:Kc chL L=xx) (h:DfR B w' L e): ∃A c,e= .returned (.slice A mn c)∧w'.ownsRow B 47 4 (.slice A mn c) mn xx:=by
 obtain⟨A,c,k,rfl,hk,ho⟩:=h;obtain rfl:mn=k:=h2.symm.trans hk;subst h3;exact⟨A,c,rfl,ho⟩
theorem law_FnExactDiffOf {A A':Option Addr} {n cap m cap':Nat} {C R C' R':Nat→Int} {S S':Nat→ByteArray} (w:World) (h:ClRow w A n C R S) (h':ClRow w A' m C' R' S') (hg:GI w):Calls Tryz.prog 3 #[.slice A n cap,.slice A' m cap'] w fun e w'=>
  e= .returned (.bool true)∧Below w.heap.size w w':=by
 have HR:Hid (ClRow w A n C R S):=h;have HD:Hid (ClRow w A' m C' R' S'):=h';have HG:Hid (GI w):=hg;have HSS:Hid (∀i,i<n→(S i).size≤maxLen):=fun i hi=>by obtain⟨_,_,_,_,_,_,_,h9⟩:=h.2 i hi;exact h9
 have HDS:Hid (∀i,i<m→(S' i).size≤maxLen):=fun i hi=>by obtain⟨_,_,_,_,_,_,_,h9⟩:=h'.2 i hi;exact h9
 obtain⟨L,HL⟩: ∃L,Hid (dfF C R S n C' R' S' m=L):=⟨_,rfl⟩;have HLS:Hid (∀x∈L,x.f.size≤maxLen∧x.t.size≤maxLen):=by rw [←HL.out];exact df_sz HSS.out HDS.out
 obtain⟨mn,HMN⟩: ∃mn,Hid (L.length=mn):=⟨_,rfl⟩;obtain⟨xx,HXX⟩: ∃xx,Hid (Kc chL L=xx):=⟨_,rfl⟩;have hmn:mn≤1048576:=by rw [←HMN.out,←HL.out];have:=df_len (C:=C) (R:=R) (S:=S) (n:=n) (C':=C') (R':=R') (S':=S') (m:=m);omega
 clear h h' hg;go_enter Tryz.func3,Tryz.ntmps3;have KX:Hid (Below w.heap.size w w):=Below.refl _ _;go_wp2_with fail
 refine(laws_szCellSL 1048576 _ HR.out (by omega) (by omega)).mono ?_;rintro e u1 ⟨z,rfl,hz1,hz,hb⟩;replace KX:=hd (Qc KX.out hb);clear hb;by_cases hneg:z<0
 ·go_wp2_with fail
  go_ret;exact⟨rfl,KX.out⟩
 have hn:n≤1048576:=hz (by omega);clear hz;go_wp2_with fail
 refine(laws_szCellSL z _ (HD.out.below KX.out) (by omega) hz1).mono ?_;rintro e u2 ⟨y,rfl,hy1,hy,hb⟩;replace KX:=hd (Qc KX.out hb);clear hb;by_cases hneg2:y<0
 ·go_wp2_with fail
  go_ret;exact⟨rfl,KX.out⟩
 have hm:m≤1048576:=hy (by omega);clear hy;go_wp2_with fail
 refine(Qda _ (HR.out.below KX.out) hn).mono ?_;rintro e u3 ⟨v,rfl,ho,hb⟩;obtain⟨Au3,cu3,rfl,_,_⟩:=QP ho;have OS:Hid (u3.ownsRow u2.heap.size 50 3 (.slice Au3 n cu3) n (clX C R S n)):=ho;have Su3:Hid (u2.heap.size≤u3.heap.size):=hb.size;clear ho;replace KX:=hd (Qc KX.out hb)
 clear hb;go_wp2_with fail
 refine(Qda _ (HD.out.below KX.out) hm).mono ?_;rintro e u4 ⟨v,rfl,ho,hb⟩;obtain⟨Au4,cu4,rfl,_,_⟩:=QP ho;have OC:Hid (u4.ownsRow u3.heap.size 50 3 (.slice Au4 m cu4) m (clX C' R' S' m)):=ho;have Su4:Hid (u3.heap.size≤u4.heap.size):=hb.size;clear ho;replace KX:=hd (Qc KX.out hb)
 replace OS:=hd (Qp OS.out hb);clear hb;go_wp2_with fail
 refine(spec_DiffOf _ (Qip OS.out HSS.out) (Qip OC.out HDS.out)).mono ?_;rintro e u5 ⟨her,hb⟩;rw [HL.out]at her;obtain⟨Au5,cu5,rfl,ho⟩:=df_form HMN.out HXX.out her;have OW:Hid (u5.ownsRow u4.heap.size 47 4 (.slice Au5 mn cu5) mn xx):=ho;have Su5:Hid (u4.heap.size≤u5.heap.size):=hb.size;have BW:Hid (∀k,(Value.slice Au5 mn cu5).ownBlock=some k→k<u5.heap.size):=fun k hk=>(OW.out.lt k hk).2
 clear ho her;replace KX:=hd (Qc KX.out hb);replace OS:=hd (Qp OS.out hb);replace OC:=hd (Qp OC.out hb);clear hb;clear OS OC;go_wp2_with fail
 refine(Qda _ (HR.out.below KX.out) hn).mono ?_;rintro e u6 ⟨v,rfl,ho,hb⟩;obtain⟨Au6,cu6,rfl,_,_⟩:=QP ho;have OX:Hid (u6.ownsRow u5.heap.size 50 3 (.slice Au6 n cu6) n (clX C R S n)):=ho;have Su6:Hid (u5.heap.size≤u6.heap.size):=hb.size;have BX:Hid (∀k,(Value.slice Au6 n cu6).ownBlock=some k→u5.heap.size≤k∧k<u6.heap.size):=fun k hk=>OX.out.lt k hk;have W5:Hid (w.heap.size≤u5.heap.size):=KX.out.size
 clear ho;replace KX:=hd (Qc KX.out hb);replace OW:=hd (Qp OW.out hb);clear hb;go_wp2_with fail
 refine(Qda _ (HD.out.below KX.out) hm).mono ?_;rintro e u7 ⟨v,rfl,ho,hb⟩;obtain⟨Au7,cu7,rfl,_,_⟩:=QP ho;have OZ:Hid (u7.ownsRow u6.heap.size 50 3 (.slice Au7 m cu7) m (clX C' R' S' m)):=ho;have Su7:Hid (u6.heap.size≤u7.heap.size):=hb.size;have BZ:Hid (∀k,(Value.slice Au7 m cu7).ownBlock=some k→u6.heap.size≤k∧k<u7.heap.size):=fun k hk=>OZ.out.lt k hk;clear ho
 replace KX:=hd (Qc KX.out hb);replace OW:=hd (Qp OW.out hb);replace OX:=hd (Qp OX.out hb);clear hb;go_wp2_with fail
 refine(impl_DiffOf _ (Qip OX.out HSS.out) (Qip OZ.out HDS.out) (HG.out.below KX.out)).mono ?_;rintro e u8 ⟨her,hb⟩;rw [HL.out]at her;obtain⟨Au8,cu8,rfl,ho⟩:=df_form HMN.out HXX.out her;have OG:Hid (u8.ownsRow u7.heap.size 47 4 (.slice Au8 mn cu8) mn xx):=ho;have Su8:Hid (u7.heap.size≤u8.heap.size):=hb.size;have BG:Hid (∀k,(Value.slice Au8 mn cu8).ownBlock=some k→u7.heap.size≤k):=fun k hk=>(OG.out.lt k hk).1
 clear ho her;replace KX:=hd (Qc KX.out hb);replace OW:=hd (Qp OW.out hb);replace OX:=hd (Qp OX.out hb);replace OZ:=hd (Qp OZ.out hb);clear hb;go_wp2_with fail
 refine(eqc_of_lists HMN.out HLS.out (by rw [HXX.out];exact OG.out) (by rw [HXX.out];exact OW.out)).mono ?_;rintro e u9 ⟨rfl,hb⟩;replace KX:=hd (Qc KX.out hb);replace OW:=hd (Qp OW.out hb);replace OX:=hd (Qp OX.out hb);replace OZ:=hd (Qp OZ.out hb);replace OG:=hd (Qp OG.out hb)
 clear hb;go_wp2_with fail
 refine(Qda _ (HR.out.below KX.out) hn).mono ?_;rintro e u10 ⟨v,rfl,ho,hb⟩;obtain⟨Au10,cu10,rfl,_,_⟩:=QP ho;have OY:Hid (u10.ownsRow u9.heap.size 50 3 (.slice Au10 n cu10) n (clX C R S n)):=ho;have Su10:Hid (u9.heap.size≤u10.heap.size):=hb.size;clear ho;replace KX:=hd (Qc KX.out hb)
 replace OW:=hd (Qp OW.out hb);replace OX:=hd (Qp OX.out hb);replace OZ:=hd (Qp OZ.out hb);replace OG:=hd (Qp OG.out hb);clear hb;go_wp2_with fail
 refine(Qdc _ (Qip OX.out HSS.out) (Qip OY.out HSS.out)).mono ?_;rintro e u11 ⟨rfl,hb⟩;replace KX:=hd (Qc KX.out hb);replace OW:=hd (Qp OW.out hb);replace OX:=hd (Qp OX.out hb);replace OZ:=hd (Qp OZ.out hb);replace OG:=hd (Qp OG.out hb)
 replace OY:=hd (Qp OY.out hb);clear hb;clear OY;go_wp2_with fail
 refine(Qda _ (HD.out.below KX.out) hm).mono ?_;rintro e u12 ⟨v,rfl,ho,hb⟩;obtain⟨Au12,cu12,rfl,_,_⟩:=QP ho;have OY:Hid (u12.ownsRow u11.heap.size 50 3 (.slice Au12 m cu12) m (clX C' R' S' m)):=ho;have Su12:Hid (u11.heap.size≤u12.heap.size):=hb.size;clear ho;replace KX:=hd (Qc KX.out hb)
 replace OW:=hd (Qp OW.out hb);replace OX:=hd (Qp OX.out hb);replace OZ:=hd (Qp OZ.out hb);replace OG:=hd (Qp OG.out hb);clear hb;go_wp2_with fail
 refine(Qdc _ (Qip OZ.out HDS.out) (Qip OY.out HDS.out)).mono ?_;rintro e u13 ⟨rfl,hb⟩;replace KX:=hd (Qc KX.out hb);replace OW:=hd (Qp OW.out hb);replace OX:=hd (Qp OX.out hb);replace OZ:=hd (Qp OZ.out hb);replace OG:=hd (Qp OG.out hb)
 replace OY:=hd (Qp OY.out hb);clear hb;clear OY;go_wp2_with fail
 refine(laws_markCellS 1 _ OX.out hn (by omega) (by omega)).mono ?_;rintro e u14 ⟨rfl,hog,hgr⟩;replace KX:Hid (Below w.heap.size w u14):=KX.out.grown hgr KX.out.size (fun k hk=>by have h1:=(OX.out.lt k hk).1;have h2:=W5.out;have h3:=Su6.out;have h4:=Su7.out;omega);replace OW:Hid (u14.ownsRow u4.heap.size 47 4 (.slice Au5 mn cu5) mn (xx)):=gkeep OX.out hgr OW.out (fun k hk e=>by have h1:=BW.out k hk;have h2:=(BX.out k e).1;have h3:=Su6.out;have h4:=Su7.out;omega);replace OZ:Hid (u14.ownsRow u6.heap.size 50 3 (.slice Au7 m cu7) m (clX C' R' S' m)):=gkeep OX.out hgr OZ.out (fun k hk e=>by have h1:=(BZ.out k hk).1;have h2:=(BX.out k e).2;have h3:=Su6.out;have h4:=Su7.out;omega);replace OG:Hid (u14.ownsRow u7.heap.size 47 4 (.slice Au8 mn cu8) mn (xx)):=gkeep OX.out hgr OG.out (fun k hk e=>by have h1:=BG.out k hk;have h2:=(BX.out k e).2;have h3:=Su6.out;have h4:=Su7.out;omega);clear hog hgr
 obtain⟨mx,HMX⟩: ∃mx:Int,Hid ((1+(n:Int)*3)=mx):=⟨_,rfl⟩;have hmx:0<mx∧mx≤70368744177664:=by have:=HMX.out;omega
 rw [HMX.out];clear OX;go_wp2_with fail
 refine(laws_markCellS mx _ OZ.out hm (by omega) (by omega)).mono ?_;rintro e u15 ⟨rfl,hog,hgr⟩;replace KX:Hid (Below w.heap.size w u15):=KX.out.grown hgr KX.out.size (fun k hk=>by have h1:=(OZ.out.lt k hk).1;have h2:=W5.out;have h3:=Su6.out;have h4:=Su7.out;omega);replace OW:Hid (u15.ownsRow u4.heap.size 47 4 (.slice Au5 mn cu5) mn (xx)):=gkeep OZ.out hgr OW.out (fun k hk e=>by have h1:=BW.out k hk;have h2:=(BZ.out k e).1;have h3:=Su6.out;have h4:=Su7.out;omega);replace OG:Hid (u15.ownsRow u7.heap.size 47 4 (.slice Au8 mn cu8) mn (xx)):=gkeep OZ.out hgr OG.out (fun k hk e=>by have h1:=BG.out k hk;have h2:=(BZ.out k e).2;have h3:=Su6.out;have h4:=Su7.out;omega);clear hog hgr;obtain⟨my,HMY⟩: ∃my:Int,Hid ((mx+(m:Int)*3)=my):=⟨_,rfl⟩
 have hmy: ¬my<0:=by have:=HMY.out;omega
 rw [HMY.out];clear OZ;go_wp2_with fail
 refine(eqc_of_lists HMN.out HLS.out (by rw [HXX.out];exact OG.out) (by rw [HXX.out];exact OW.out)).mono ?_;rintro e u16 ⟨rfl,hb⟩;replace KX:=hd (Qc KX.out hb);replace OW:=hd (Qp OW.out hb);replace OG:=hd (Qp OG.out hb);clear hb;go_wp2_with fail
 refine(laws_markChangeS 1 _ OG.out hmn (by omega) (by omega)).mono ?_;rintro e u17 ⟨rfl,hog,hgr⟩;replace KX:Hid (Below w.heap.size w u17):=KX.out.grown hgr KX.out.size (fun k hk=>by have h1:=(OG.out.lt k hk).1;have h2:=W5.out;have h3:=Su6.out;have h4:=Su7.out;omega);replace OW:Hid (u17.ownsRow u4.heap.size 47 4 (.slice Au5 mn cu5) mn (xx)):=gkeep OG.out hgr OW.out (fun k hk e=>by have h1:=BW.out k hk;have h2:=BG.out k e;have h3:=Su6.out;have h4:=Su7.out;omega);replace OG:Hid (u17.ownsRow u7.heap.size 47 4 (.slice Au8 mn cu8) mn (Kc chL (mkL chMk 4 1 mn))):=hog;clear hog hgr;obtain⟨mv,HMV⟩: ∃mv:Int,Hid ((1+(mn:Int)*4)=mv):=⟨_,rfl⟩
 have hmv0: ¬mv<0:=by have:=HMV.out;omega
 have hmv1:(mv !=mv)=false:=by simp
 rw [HMV.out];go_wp2_with fail
 refine(laws_heldChangeS 1 _ (RowAt.of_own chL_len OG.out (Qj1 _ _ _ _)) hmn (by omega) (by omega)).mono ?_;rintro e u18 ⟨rfl,hb⟩;replace KX:=hd (Qc KX.out hb);replace OW:=hd (Qp OW.out hb);replace OG:=hd (Qp OG.out hb);clear hb;rw [HMV.out]
 go_wp2_with fail
 refine(Qda _ (HR.out.below KX.out) hn).mono ?_;rintro e u19 ⟨v,rfl,ho,hb⟩;obtain⟨Au19,cu19,rfl,_,_⟩:=QP ho;have OS:Hid (u19.ownsRow u18.heap.size 50 3 (.slice Au19 n cu19) n (clX C R S n)):=ho;have Su19:Hid (u18.heap.size≤u19.heap.size):=hb.size;clear ho;replace KX:=hd (Qc KX.out hb)
 replace OW:=hd (Qp OW.out hb);replace OG:=hd (Qp OG.out hb);clear hb;go_wp2_with fail
 refine(Qda _ (HD.out.below KX.out) hm).mono ?_;rintro e u20 ⟨v,rfl,ho,hb⟩;obtain⟨Au20,cu20,rfl,_,_⟩:=QP ho;have OC:Hid (u20.ownsRow u19.heap.size 50 3 (.slice Au20 m cu20) m (clX C' R' S' m)):=ho;have Su20:Hid (u19.heap.size≤u20.heap.size):=hb.size;clear ho;replace KX:=hd (Qc KX.out hb)
 replace OW:=hd (Qp OW.out hb);replace OG:=hd (Qp OG.out hb);replace OS:=hd (Qp OS.out hb);clear hb;go_wp2_with fail
 refine(impl_DiffOf _ (Qip OS.out HSS.out) (Qip OC.out HDS.out) (HG.out.below KX.out)).mono ?_;rintro e u21 ⟨her,hb⟩;rw [HL.out]at her;obtain⟨Au21,cu21,rfl,ho⟩:=df_form HMN.out HXX.out her;have OH:Hid (u21.ownsRow u20.heap.size 47 4 (.slice Au21 mn cu21) mn xx):=ho;have Su21:Hid (u20.heap.size≤u21.heap.size):=hb.size;clear ho her
 replace KX:=hd (Qc KX.out hb);replace OW:=hd (Qp OW.out hb);replace OG:=hd (Qp OG.out hb);replace OS:=hd (Qp OS.out hb);replace OC:=hd (Qp OC.out hb);clear hb;clear OS OC
 go_wp2_with fail
 refine(eqc_of_lists HMN.out HLS.out (by rw [HXX.out];exact OH.out) (by rw [HXX.out];exact OW.out)).mono ?_;rintro e u22 ⟨rfl,hb⟩;replace KX:=hd (Qc KX.out hb);replace OW:=hd (Qp OW.out hb);replace OG:=hd (Qp OG.out hb);replace OH:=hd (Qp OH.out hb);clear hb
 go_wp2_with fail
 refine(laws_heldChangeS 1 _ (RowAt.of_own chL_len OG.out (Qj1 _ _ _ _)) hmn (by omega) (by omega)).mono ?_;rintro e u23 ⟨rfl,hb⟩;replace KX:=hd (Qc KX.out hb);replace OW:=hd (Qp OW.out hb);replace OG:=hd (Qp OG.out hb);replace OH:=hd (Qp OH.out hb);clear hb
 rw [HMV.out];go_wp2_with fail
 go_ret;exact⟨rfl,KX.out⟩
end Go.Proofs.YtkdhmdllnaogcaaGreatDoor
