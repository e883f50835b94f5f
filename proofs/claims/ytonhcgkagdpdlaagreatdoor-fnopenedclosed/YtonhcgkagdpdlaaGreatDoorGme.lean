import Derived.Test.YtonhcgkagdpdlaaGreatDoorGmd
import Derived.Test.YtonhcgkagdpdlaaGreatDoorMvN
import Derived.Test.YtonhcgkagdpdlaaGreatDoorMvM
import Derived.Test.YtonhcgkagdpdlaaGreatDoorMvQ
set_option linter.unusedSimpArgs false
set_option linter.unusedVariables false
set_option maxHeartbeats 8000000
set_option maxRecDepth 100000
namespace Go.Proofs.YtonhcgkagdpdlaaGreatDoor
open Go.RowKit
theorem blk_new {W:World} {g:Nat} {o:Obj} (h:g=W.heap.size):(W.alloc o).heap[g]? =some o:=by
 subst h
 exact heap_alloc_new _ _
theorem spec_l4Each_Opened {A:Option Addr} {n cap:Nat} {F:Nat→FN} (d e:Int) (w:World) (h:FnRowS w A n F) (hkn: ∀i,i<n→(F i).kids.length≤1048576) (hno: ∀i,i<n→nodeX (F i)=true) (hn60:n≤60) (hd:1≤d∧d≤99) (he:1≤e∧e≤99):
  Calls Tryz.prog 24 #[.slice A n cap,.int .i64 d,.int .i64 e,.bool false] w fun z w'=> ∃v ys,z= .returned v∧w'.ownsRow w.heap.size 54 14 v n ys∧FnPart w' w.heap.size ys (fun i=>shFN (fOpened d e) (gOpened d e) (F i)) n∧Below w.heap.size w w':=by
 have HR:Hid (FnRowS w A n F):=h
 have HKN:Hid (∀i,i<n→(F i).kids.length≤1048576):=hkn
 have HNO:Hid (∀i,i<n→nodeX (F i)=true):=hno
 have hd': -1000≤d∧d≤1000:=by omega
 have he': -1000≤e∧e≤1000:=by omega
 have he0:0≤e∧e≤1000:=by omega
 have hw1:IntKind.i64.wrap (d+e)=d+e:=by rw [IntKind.wrap_i64];omega
 have hw2:IntKind.i64.wrap (d+e-1)=d+e-1:=by rw [IntKind.wrap_i64];omega
 have hw3:IntKind.i64.wrap (d-1)=d-1:=by rw [IntKind.wrap_i64];omega
 clear h hkn hno
 go_enter Tryz.func24,Tryz.ntmps24
 go_wp2_with fail
 have HV:Hid ((w.alloc (.cells #[] 54)).ownsRow w.heap.size 54 14 (.slice (some ⟨w.heap.size,0,none⟩) 0 0) 0 []):=own_empty (Nat.le_refl _) rfl
 have HB2:Hid (Below w.heap.size w (w.alloc (.cells #[] 54))):=by show Below _ _ _;go_grown
 go_loopw [9,10] (fun v i wr=> ∃k:Nat,k≤n∧i= .int .i64 k∧(∃ys,wr.ownsRow w.heap.size 54 14 v k ys∧FnPart wr w.heap.size ys (fun i=>shFN (fOpened d e) (gOpened d e) (F i)) k)∧Below w.heap.size w wr) (fun _ i _=>n-(intOf i).toNat)
 case atStart=>exact⟨0,Nat.zero_le _,rfl,⟨[],HV.out,fun i hi=>by omega⟩,HB2.out⟩
 case round=>
  clear HV HB2
  obtain⟨k,hk,rfl,⟨ys,hown,hpt⟩,hbel⟩:=hrel
  have HW:Hid (wr.ownsRow w.heap.size 54 14 u9 k ys):=hown
  have HP:Hid (FnPart wr w.heap.size ys (fun i=>shFN (fOpened d e) (gOpened d e) (F i)) k):=hpt
  have HB:Hid (Below w.heap.size w wr):=hbel
  have HBS:Hid (w.heap.size≤wr.heap.size):=hbel.size
  clear hown hpt
  by_cases hlt:k<n
  ·obtain⟨b,o,KA,kc,rfl,hl,hnd,hki,hs,hk0⟩:=HR.out.2 k hlt
   obtain⟨c0,c1,c2,c3,c4,c5,c6,c7,c8,c9,c10,c11,c12,c13⟩:=hnd.below hl (W':=wr) hbel
   have HNX0:=HNO.out k hlt
   have HKL0:=HKN.out k hlt
   have HKI0:=hki.below (W':=wr) hbel
   have hl2:b<wr.heap.size:=Nat.lt_of_lt_of_le hl HBS.out
   have h0:(0:Int)≤(k:Int):=by omega
   have h1:(k:Int)<(n:Int):=by omega
   obtain⟨x,HX⟩: ∃x,Hid (F k=x):=⟨_,rfl⟩
   have HG:Hid ((fun i=>shFN (fOpened d e) (gOpened d e) (F i)) k=shFN (fOpened d e) (gOpened d e) x):=by show shFN _ _ (F k)=_;rw [HX.out]
   rw [HX.out]at c0 c1 c2 c3 c4 c5 c6 c7 c8 c9 c10 c11 c12 c13 HNX0 HKL0 HKI0 hs
   obtain⟨xk,xo,xck,xcn,xcs,xac,xar,xaf,xag,xbc,xbr,xbf,xbg,xkids⟩:=x
   simp only at c0 c1 c2 c3 c4 c5 c6 c7 c8 c9 c10 c11 c12 c13 HKL0 HKI0 hs
   have HNX:Hid (nodeX ⟨xk,xo,xck,xcn,xcs,xac,xar,xaf,xag,xbc,xbr,xbf,xbg,xkids⟩=true):=HNX0
   have HKL:Hid (xkids.length≤1048576):=HKL0
   have HKI:Hid (IntRow wr KA xkids):=HKI0
   have HK0:Hid (KA=none→kc=0):=hk0
   have HSM:=node_small HNX0
   clear HNX0 HKL0 HKI0 hk0 hnd hki hbel HX
   go_wp2_with (at_builtin;refine app_kids _ rfl _ _ rfl (.slice (some ⟨wr.heap.size+1,0,none⟩) 0 0) rfl (wr.heap.size+1) ?kb ?kn rfl HK0.out ?ki HKL.out ?_)
   case kn=>exact own_empty (by go_size) (by go_size)
   case ki=>exact HKI.out.below (by go_grown)
   intro KB kb w9 hown9 hgrow9
   have hb9:=(Below.refl (wr.heap.size+1) _).grown hgrow9 (by go_size) (fun k hk=>by cases hk;exact Nat.le_refl _)
   have e0:w9.cell? ⟨wr.heap.size,0,none⟩=some (.int .i64 xk):=(hb9.cell (p:=⟨wr.heap.size,0,none⟩) (Nat.lt_succ_self _)).trans (by simp [go_sem])
   have e1:w9.cell? ⟨wr.heap.size,1,none⟩=some (.int .i64 xo):=(hb9.cell (p:=⟨wr.heap.size,1,none⟩) (Nat.lt_succ_self _)).trans (by simp [go_sem])
   have e2:w9.cell? ⟨wr.heap.size,2,none⟩=some (.int .i64 xck):=(hb9.cell (p:=⟨wr.heap.size,2,none⟩) (Nat.lt_succ_self _)).trans (by simp [go_sem])
   have e3:w9.cell? ⟨wr.heap.size,3,none⟩=some (.int .i64 xcn):=(hb9.cell (p:=⟨wr.heap.size,3,none⟩) (Nat.lt_succ_self _)).trans (by simp [go_sem])
   have e4:w9.cell? ⟨wr.heap.size,4,none⟩=some (.string xcs):=(hb9.cell (p:=⟨wr.heap.size,4,none⟩) (Nat.lt_succ_self _)).trans (by simp [go_sem])
   have e5:w9.cell? ⟨wr.heap.size,5,none⟩=some (.int .i64 xac):=(hb9.cell (p:=⟨wr.heap.size,5,none⟩) (Nat.lt_succ_self _)).trans (by simp [go_sem])
   have e6:w9.cell? ⟨wr.heap.size,6,none⟩=some (.int .i64 xar):=(hb9.cell (p:=⟨wr.heap.size,6,none⟩) (Nat.lt_succ_self _)).trans (by simp [go_sem])
   have e7:w9.cell? ⟨wr.heap.size,7,none⟩=some (.bool xaf):=(hb9.cell (p:=⟨wr.heap.size,7,none⟩) (Nat.lt_succ_self _)).trans (by simp [go_sem])
   have e8:w9.cell? ⟨wr.heap.size,8,none⟩=some (.bool xag):=(hb9.cell (p:=⟨wr.heap.size,8,none⟩) (Nat.lt_succ_self _)).trans (by simp [go_sem])
   have e9:w9.cell? ⟨wr.heap.size,9,none⟩=some (.int .i64 xbc):=(hb9.cell (p:=⟨wr.heap.size,9,none⟩) (Nat.lt_succ_self _)).trans (by simp [go_sem])
   have e10:w9.cell? ⟨wr.heap.size,10,none⟩=some (.int .i64 xbr):=(hb9.cell (p:=⟨wr.heap.size,10,none⟩) (Nat.lt_succ_self _)).trans (by simp [go_sem])
   have e11:w9.cell? ⟨wr.heap.size,11,none⟩=some (.bool xbf):=(hb9.cell (p:=⟨wr.heap.size,11,none⟩) (Nat.lt_succ_self _)).trans (by simp [go_sem])
   have e12:w9.cell? ⟨wr.heap.size,12,none⟩=some (.bool xbg):=(hb9.cell (p:=⟨wr.heap.size,12,none⟩) (Nat.lt_succ_self _)).trans (by simp [go_sem])
   have e13:w9.cell? ⟨wr.heap.size,13,none⟩=some (.slice KA xkids.length kc):=(hb9.cell (p:=⟨wr.heap.size,13,none⟩) (Nat.lt_succ_self _)).trans (by simp [go_sem])
   have f9: ∀j,j<14→w9.frozen? ⟨wr.heap.size,j,none⟩=false:=fun j hj=>(hb9.frozen (p:=⟨wr.heap.size,j,none⟩) (Nat.lt_succ_self _)).trans (by simp [go_sem])
   have HX9:Hid (X9 wr.heap.size w9):=fun j hj=>by
    have hj':j=0∨j=1∨j=2∨j=3∨j=4∨j=5∨j=6∨j=7∨j=8∨j=9∨j=10∨j=11∨j=12∨j=13:=by omega
    rcases hj' with rfl | rfl | rfl | rfl | rfl | rfl | rfl | rfl | rfl | rfl | rfl | rfl | rfl | rfl
    ·exact⟨_,e0,f9 _ hj⟩
    ·exact⟨_,e1,f9 _ hj⟩
    ·exact⟨_,e2,f9 _ hj⟩
    ·exact⟨_,e3,f9 _ hj⟩
    ·exact⟨_,e4,f9 _ hj⟩
    ·exact⟨_,e5,f9 _ hj⟩
    ·exact⟨_,e6,f9 _ hj⟩
    ·exact⟨_,e7,f9 _ hj⟩
    ·exact⟨_,e8,f9 _ hj⟩
    ·exact⟨_,e9,f9 _ hj⟩
    ·exact⟨_,e10,f9 _ hj⟩
    ·exact⟨_,e11,f9 _ hj⟩
    ·exact⟨_,e12,f9 _ hj⟩
    ·exact⟨_,e13,f9 _ hj⟩
   have z9:wr.heap.size+1≤w9.heap.size:=Nat.le_trans (by simp) hb9.size
   have l9:wr.heap.size<w9.heap.size:=z9
   have k9:Below wr.heap.size wr w9:=Below.trans (by go_grown) (hb9.mono (Nat.le_succ _))
   have HO9:Hid (w9.ownsRow (wr.heap.size+1) 2 1 (.slice KB xkids.length kb) xkids.length (xkids.map (Value.int .i64))):=hown9
   clear hown9 hgrow9 hb9 c0 c1 c2 c3 c4 c5 c6 c7 c8 c9 c10 c11 c12 c13 HKI HK0
   by_cases h2:xk=2
   ·subst h2
    by_cases hA:areaOkB xac (opI xar d e) xac (opI xar d e)=true
    ·obtain⟨hac,har⟩:=HSM.1 (Or.inl rfl)
     clear HSM
     have HNY:Hid (nodeX (⟨2,xo,xck,xcn,xcs,xac,(opI xar d e),xaf,xag,xbc,xbr,xbf,xbg,xkids⟩:FN)=true):=by
      show _=_
      rw [cell_moved xac (opI xar d e) HNX.out,←area_self];exact hA
     have HGX:Hid ((fun i=>shFN (fOpened d e) (gOpened d e) (F i)) k=(⟨2,xo,xck,xcn,xcs,xac,(opI xar d e),xaf,xag,xbc,xbr,xbf,xbg,xkids⟩:FN)):=by
      refine HG.out.trans ?_
      unfold shFN;rw [if_pos rfl];exact if_pos hA
     clear HG HNX hA
     go_wp2_with (first
      | (go_at_call 43;refine(spec_l4Row_open _ _ _ _ _ (by assumption) he').mono ?_;rintro z w1 ⟨rfl,hb⟩;have HO9:=keep9 HO9 (by repeat (first | exact K9.refl | refine K9.set ?_ _ _)) hb;have HX9:=keepX HX9 (by repeat (first | exact K9.refl | refine K9.set ?_ _ _)) (by go_size) hb;obtain⟨hc,hf,hC,hF,hz,hk,l0⟩:=bk1 (w:=wr) (by go_grown) (by go_size) hb;clear hb)
      | (go_at_call 39;refine(spec_node (⟨2,xo,xck,xcn,xcs,xac,(opI xar d e),xaf,xag,xbc,xbr,xbf,xbg,xkids⟩:FN) _ hs).mono ?_;rintro z w1 ⟨rfl,hb⟩;rw [HNY.out];have HO9:=keep9 HO9 (by repeat (first | exact K9.refl | refine K9.set ?_ _ _)) hb;have HX9:=keepX HX9 (by repeat (first | exact K9.refl | refine K9.set ?_ _ _)) (by go_size) hb;obtain⟨hc,hf,hC,hF,hz,hk,l0⟩:=bk1 (w:=wr) (by go_grown) (by go_size) hb;clear hb)
      | (at_builtin;refine app_node _ rfl _ _ rfl u9 rfl w.heap.size ?hb k ys ?hw (⟨2,xo,xck,xcn,xcs,xac,(opI xar d e),xaf,xag,xbc,xbr,xbf,xbg,xkids⟩:FN) KB kb _ _ rfl (heap_alloc_new _ _) rfl (by omega) ?_))
     case hb=>have hbs:=HBS.out;have hzz:=hz;(try simp only [World.size_alloc,World.size_setCell]);first | omega | go_size
     case hw=>exact own_below HW.out (by go_grown)
     intro v2 w2 hown2 hgrow2
     have HP2:Hid (FnPart w2 w.heap.size (ys++nodeL (⟨2,xo,xck,xcn,xcs,xac,(opI xar d e),xaf,xag,xbc,xbr,xbf,xbg,xkids⟩:FN) KB kb) (fun i=>shFN (fOpened d e) (gOpened d e) (F i)) (k+1)):=row_grow HGX.out (own_below HW.out (by go_grown)) (HP.out.below (by go_grown)) (own_mono (own_below HO9.out (by go_grown)) (by have:=HBS.out;omega)) hgrow2
     have HW2:Hid (w2.ownsRow w.heap.size 54 14 v2 (k+1) (ys++nodeL (⟨2,xo,xck,xcn,xcs,xac,(opI xar d e),xaf,xag,xbc,xbr,xbf,xbg,xkids⟩:FN) KB kb)):=hown2
     have HB2:Hid (Below w.heap.size w w2):=Below.grown (bchain HB.out (by go_grown)) hgrow2 (by have hbs:=HBS.out;have hzz:=hz;first | omega | go_size) (fun q hq=>(HW.out.lt q hq).1)
     clear hown2 hgrow2 HW HP HB
     go_wp2_with fail
     go_roundw
     case rel=>exact⟨k+1,by omega,by go_num,⟨_,HW2.out,HP2.out⟩,HB2.out⟩
     case measure=>simp [intOf];omega
    ·replace hA:=eq_false_of_ne_true hA
     obtain⟨hac,har⟩:=HSM.1 (Or.inl rfl)
     clear HSM
     have HNY:Hid (nodeX (⟨2,xo,xck,xcn,xcs,xac,(opI xar d e),xaf,xag,xbc,xbr,xbf,xbg,xkids⟩:FN)=false):=by
      show _=_
      rw [cell_moved xac (opI xar d e) HNX.out,←area_self];exact hA
     have HGX:Hid ((fun i=>shFN (fOpened d e) (gOpened d e) (F i)) k=lostFN):=by
      refine HG.out.trans ?_
      unfold shFN;rw [if_pos rfl];exact if_neg (fun h8=>by cases (hA.symm.trans h8:false=true))
     clear HG HNX hA
     go_wp2_with (first
      | (go_at_call 43;refine(spec_l4Row_open _ _ _ _ _ (by assumption) he').mono ?_;rintro z w1 ⟨rfl,hb⟩;have HO9:=keep9 HO9 (by repeat (first | exact K9.refl | refine K9.set ?_ _ _)) hb;have HX9:=keepX HX9 (by repeat (first | exact K9.refl | refine K9.set ?_ _ _)) (by go_size) hb;obtain⟨hc,hf,hC,hF,hz,hk,l0⟩:=bk1 (w:=wr) (by go_grown) (by go_size) hb;clear hb)
      | (go_at_call 39;refine(spec_node (⟨2,xo,xck,xcn,xcs,xac,(opI xar d e),xaf,xag,xbc,xbr,xbf,xbg,xkids⟩:FN) _ hs).mono ?_;rintro z w1 ⟨rfl,hb⟩;rw [HNY.out];have HO9:=keep9 HO9 (by repeat (first | exact K9.refl | refine K9.set ?_ _ _)) hb;have HX9:=keepX HX9 (by repeat (first | exact K9.refl | refine K9.set ?_ _ _)) (by go_size) hb;obtain⟨hc,hf,hC,hF,hz,hk,l0⟩:=bk1 (w:=wr) (by go_grown) (by go_size) hb;clear hb))
     refine(spec_l4Lost _).mono ?_
     rintro z w4 ⟨rfl,hb⟩
     have HX4:Hid (X9 wr.heap.size w4):=keepX HX9 (by repeat (first | exact K9.refl | refine K9.set ?_ _ _)) (by go_size) hb
     have k4:Below wr.heap.size wr w4:=bchain (by go_grown) hb
     have z4:wr.heap.size+1≤w4.heap.size:=Nat.le_trans (by go_size) hb.size
     have l4:wr.heap.size<w4.heap.size:=z4
     clear hb hc hf hC hF e0 e1 e2 e3 e4 e5 e6 e7 e8 e9 e10 e11 e12 e13 f9 HO9 HX9
     go_wp2_with (first
      | (refine store9 HX4.out rfl _ _ rfl [.int .i64 1,.int .i64 0,.int .i64 4,.int .i64 3,.string ⟨#[]⟩,.int .i64 0,.int .i64 0,.bool false,.bool false,.int .i64 0,.int .i64 0,.bool false,.bool false,.slice none 0 0] rfl rfl rfl rfl ?_;intro w5 hr5 hb5 hs5;have HR5:Hid (w5.rangeAt wr.heap.size 0 [.int .i64 1,.int .i64 0,.int .i64 4,.int .i64 3,.string ⟨#[]⟩,.int .i64 0,.int .i64 0,.bool false,.bool false,.int .i64 0,.int .i64 0,.bool false,.bool false,.slice none 0 0]):=hr5;have k5:Below wr.heap.size wr w5:=(k4.trans hb5);have z5:wr.heap.size+1≤w5.heap.size:=(by rw [hs5];exact z4);have l5:wr.heap.size<w5.heap.size:=z5;clear hr5 hb5 hs5)
      | (refine load9 HR5.out rfl rfl _ rfl rfl ?_)
      | (at_builtin;refine app_node _ rfl _ _ rfl u9 rfl w.heap.size ?hb k ys ?hw lostFN none 0 _ _ rfl (heap_alloc_new _ _) rfl (by omega) ?_))
     case hb=>have hbs:=HBS.out;have hzz:=z5;(try simp only [World.size_alloc,World.size_setCell]);first | omega | go_size
     case hw=>exact own_below HW.out (by go_grown)
     intro v2 w2 hown2 hgrow2
     have HP2:Hid (FnPart w2 w.heap.size (ys++nodeL lostFN none 0) (fun i=>shFN (fOpened d e) (gOpened d e) (F i)) (k+1)):=row_grow HGX.out (own_below HW.out (by go_grown)) (HP.out.below (by go_grown)) (own_nil _ _) hgrow2
     have HW2:Hid (w2.ownsRow w.heap.size 54 14 v2 (k+1) (ys++nodeL lostFN none 0)):=hown2
     have HB2:Hid (Below w.heap.size w w2):=Below.grown (bchain HB.out (by go_grown)) hgrow2 (by have hbs:=HBS.out;have hzz:=z5;first | omega | go_size) (fun q hq=>(HW.out.lt q hq).1)
     clear hown2 hgrow2 HW HP HB
     go_wp2_with fail
     go_roundw
     case rel=>exact⟨k+1,by omega,by go_num,⟨_,HW2.out,HP2.out⟩,HB2.out⟩
     case measure=>simp [intOf];omega
   by_cases h3:xk=3
   ·subst h3
    clear h2
    by_cases hA:areaOkB xac (opI xar d e) xbc (opI xbr d e)=true
    ·obtain⟨hac,har⟩:=HSM.1 (Or.inr rfl)
     obtain⟨hbc,hbr⟩:=HSM.2 rfl
     clear HSM
     have HNY:Hid (nodeX (⟨3,xo,xck,xcn,xcs,xac,(opI xar d e),xaf,xag,xbc,(opI xbr d e),xbf,xbg,xkids⟩:FN)=true):=by
      show _=_
      rw [area_moved xac (opI xar d e) xbc (opI xbr d e) HNX.out];exact hA
     have HGX:Hid ((fun i=>shFN (fOpened d e) (gOpened d e) (F i)) k=(⟨3,xo,xck,xcn,xcs,xac,(opI xar d e),xaf,xag,xbc,(opI xbr d e),xbf,xbg,xkids⟩:FN)):=by
      refine HG.out.trans ?_
      unfold shFN;rw [if_neg (by show¬(3:Int)=2;decide),if_pos rfl];exact if_pos hA
     clear HG HNX hA
     go_wp2_with (first
      | (go_at_call 43;refine(spec_l4Row_open _ _ _ _ _ (by assumption) he').mono ?_;rintro z w1 ⟨rfl,hb⟩;have HO9:=keep9 HO9 (by repeat (first | exact K9.refl | refine K9.set ?_ _ _)) hb;have HX9:=keepX HX9 (by repeat (first | exact K9.refl | refine K9.set ?_ _ _)) (by go_size) hb;obtain⟨hc,hf,hC,hF,hz,hk,l0⟩:=bk1 (w:=wr) (by go_grown) (by go_size) hb;clear hb)
      | (go_at_call 39;refine(spec_node (⟨3,xo,xck,xcn,xcs,xac,(opI xar d e),xaf,xag,xbc,(opI xbr d e),xbf,xbg,xkids⟩:FN) _ hs).mono ?_;rintro z w1 ⟨rfl,hb⟩;rw [HNY.out];have HO9:=keep9 HO9 (by repeat (first | exact K9.refl | refine K9.set ?_ _ _)) hb;have HX9:=keepX HX9 (by repeat (first | exact K9.refl | refine K9.set ?_ _ _)) (by go_size) hb;obtain⟨hc,hf,hC,hF,hz,hk,l0⟩:=bk1 (w:=wr) (by go_grown) (by go_size) hb;clear hb)
      | (at_builtin;refine app_node _ rfl _ _ rfl u9 rfl w.heap.size ?hb k ys ?hw (⟨3,xo,xck,xcn,xcs,xac,(opI xar d e),xaf,xag,xbc,(opI xbr d e),xbf,xbg,xkids⟩:FN) KB kb _ _ rfl (heap_alloc_new _ _) rfl (by omega) ?_))
     case hb=>have hbs:=HBS.out;have hzz:=hz;(try simp only [World.size_alloc,World.size_setCell]);first | omega | go_size
     case hw=>exact own_below HW.out (by go_grown)
     intro v2 w2 hown2 hgrow2
     have HP2:Hid (FnPart w2 w.heap.size (ys++nodeL (⟨3,xo,xck,xcn,xcs,xac,(opI xar d e),xaf,xag,xbc,(opI xbr d e),xbf,xbg,xkids⟩:FN) KB kb) (fun i=>shFN (fOpened d e) (gOpened d e) (F i)) (k+1)):=row_grow HGX.out (own_below HW.out (by go_grown)) (HP.out.below (by go_grown)) (own_mono (own_below HO9.out (by go_grown)) (by have:=HBS.out;omega)) hgrow2
     have HW2:Hid (w2.ownsRow w.heap.size 54 14 v2 (k+1) (ys++nodeL (⟨3,xo,xck,xcn,xcs,xac,(opI xar d e),xaf,xag,xbc,(opI xbr d e),xbf,xbg,xkids⟩:FN) KB kb)):=hown2
     have HB2:Hid (Below w.heap.size w w2):=Below.grown (bchain HB.out (by go_grown)) hgrow2 (by have hbs:=HBS.out;have hzz:=hz;first | omega | go_size) (fun q hq=>(HW.out.lt q hq).1)
     clear hown2 hgrow2 HW HP HB
     go_wp2_with fail
     go_roundw
     case rel=>exact⟨k+1,by omega,by go_num,⟨_,HW2.out,HP2.out⟩,HB2.out⟩
     case measure=>simp [intOf];omega
    ·replace hA:=eq_false_of_ne_true hA
     obtain⟨hac,har⟩:=HSM.1 (Or.inr rfl)
     obtain⟨hbc,hbr⟩:=HSM.2 rfl
     clear HSM
     have HNY:Hid (nodeX (⟨3,xo,xck,xcn,xcs,xac,(opI xar d e),xaf,xag,xbc,(opI xbr d e),xbf,xbg,xkids⟩:FN)=false):=by
      show _=_
      rw [area_moved xac (opI xar d e) xbc (opI xbr d e) HNX.out];exact hA
     have HGX:Hid ((fun i=>shFN (fOpened d e) (gOpened d e) (F i)) k=lostFN):=by
      refine HG.out.trans ?_
      unfold shFN;rw [if_neg (by show¬(3:Int)=2;decide),if_pos rfl];exact if_neg (fun h8=>by cases (hA.symm.trans h8:false=true))
     clear HG HNX hA
     go_wp2_with (first
      | (go_at_call 43;refine(spec_l4Row_open _ _ _ _ _ (by assumption) he').mono ?_;rintro z w1 ⟨rfl,hb⟩;have HO9:=keep9 HO9 (by repeat (first | exact K9.refl | refine K9.set ?_ _ _)) hb;have HX9:=keepX HX9 (by repeat (first | exact K9.refl | refine K9.set ?_ _ _)) (by go_size) hb;obtain⟨hc,hf,hC,hF,hz,hk,l0⟩:=bk1 (w:=wr) (by go_grown) (by go_size) hb;clear hb)
      | (go_at_call 39;refine(spec_node (⟨3,xo,xck,xcn,xcs,xac,(opI xar d e),xaf,xag,xbc,(opI xbr d e),xbf,xbg,xkids⟩:FN) _ hs).mono ?_;rintro z w1 ⟨rfl,hb⟩;rw [HNY.out];have HO9:=keep9 HO9 (by repeat (first | exact K9.refl | refine K9.set ?_ _ _)) hb;have HX9:=keepX HX9 (by repeat (first | exact K9.refl | refine K9.set ?_ _ _)) (by go_size) hb;obtain⟨hc,hf,hC,hF,hz,hk,l0⟩:=bk1 (w:=wr) (by go_grown) (by go_size) hb;clear hb))
     refine(spec_l4Lost _).mono ?_
     rintro z w4 ⟨rfl,hb⟩
     have HX4:Hid (X9 wr.heap.size w4):=keepX HX9 (by repeat (first | exact K9.refl | refine K9.set ?_ _ _)) (by go_size) hb
     have k4:Below wr.heap.size wr w4:=bchain (by go_grown) hb
     have z4:wr.heap.size+1≤w4.heap.size:=Nat.le_trans (by go_size) hb.size
     have l4:wr.heap.size<w4.heap.size:=z4
     clear hb hc hf hC hF e0 e1 e2 e3 e4 e5 e6 e7 e8 e9 e10 e11 e12 e13 f9 HO9 HX9
     go_wp2_with (first
      | (refine store9 HX4.out rfl _ _ rfl [.int .i64 1,.int .i64 0,.int .i64 4,.int .i64 3,.string ⟨#[]⟩,.int .i64 0,.int .i64 0,.bool false,.bool false,.int .i64 0,.int .i64 0,.bool false,.bool false,.slice none 0 0] rfl rfl rfl rfl ?_;intro w5 hr5 hb5 hs5;have HR5:Hid (w5.rangeAt wr.heap.size 0 [.int .i64 1,.int .i64 0,.int .i64 4,.int .i64 3,.string ⟨#[]⟩,.int .i64 0,.int .i64 0,.bool false,.bool false,.int .i64 0,.int .i64 0,.bool false,.bool false,.slice none 0 0]):=hr5;have k5:Below wr.heap.size wr w5:=(k4.trans hb5);have z5:wr.heap.size+1≤w5.heap.size:=(by rw [hs5];exact z4);have l5:wr.heap.size<w5.heap.size:=z5;clear hr5 hb5 hs5)
      | (refine load9 HR5.out rfl rfl _ rfl rfl ?_)
      | (at_builtin;refine app_node _ rfl _ _ rfl u9 rfl w.heap.size ?hb k ys ?hw lostFN none 0 _ _ rfl (heap_alloc_new _ _) rfl (by omega) ?_))
     case hb=>have hbs:=HBS.out;have hzz:=z5;(try simp only [World.size_alloc,World.size_setCell]);first | omega | go_size
     case hw=>exact own_below HW.out (by go_grown)
     intro v2 w2 hown2 hgrow2
     have HP2:Hid (FnPart w2 w.heap.size (ys++nodeL lostFN none 0) (fun i=>shFN (fOpened d e) (gOpened d e) (F i)) (k+1)):=row_grow HGX.out (own_below HW.out (by go_grown)) (HP.out.below (by go_grown)) (own_nil _ _) hgrow2
     have HW2:Hid (w2.ownsRow w.heap.size 54 14 v2 (k+1) (ys++nodeL lostFN none 0)):=hown2
     have HB2:Hid (Below w.heap.size w w2):=Below.grown (bchain HB.out (by go_grown)) hgrow2 (by have hbs:=HBS.out;have hzz:=z5;first | omega | go_size) (fun q hq=>(HW.out.lt q hq).1)
     clear hown2 hgrow2 HW HP HB
     go_wp2_with fail
     go_roundw
     case rel=>exact⟨k+1,by omega,by go_num,⟨_,HW2.out,HP2.out⟩,HB2.out⟩
     case measure=>simp [intOf];omega
   ·clear HSM
    have HGX:Hid ((fun i=>shFN (fOpened d e) (gOpened d e) (F i)) k=(⟨xk,xo,xck,xcn,xcs,xac,xar,xaf,xag,xbc,xbr,xbf,xbg,xkids⟩:FN)):=by
     refine HG.out.trans ?_
     unfold shFN;rw [if_neg h2,if_neg h3]
    have n2:(xk==2)=false:=by simpa using h2
    have n3:(xk==3)=false:=by simpa using h3
    clear HG HNX h2 h3
    go_wp2_with (first
     | (at_builtin;refine app_node _ rfl _ _ rfl u9 rfl w.heap.size ?hb k ys ?hw (⟨xk,xo,xck,xcn,xcs,xac,xar,xaf,xag,xbc,xbr,xbf,xbg,xkids⟩:FN) KB kb _ _ rfl (blk_new (by simp)) rfl (by omega) ?_))
    case hb=>have hbs:=HBS.out;have hzz:=z9;(try simp only [World.size_alloc,World.size_setCell]);first | omega | go_size
    case hw=>exact own_below HW.out (by go_grown)
    intro v2 w2 hown2 hgrow2
    have HP2:Hid (FnPart w2 w.heap.size (ys++nodeL (⟨xk,xo,xck,xcn,xcs,xac,xar,xaf,xag,xbc,xbr,xbf,xbg,xkids⟩:FN) KB kb) (fun i=>shFN (fOpened d e) (gOpened d e) (F i)) (k+1)):=row_grow HGX.out (own_below HW.out (by go_grown)) (HP.out.below (by go_grown)) (own_mono (own_below (K9.own (W':=w9.setCell ⟨wr.heap.size,13,none⟩ (.slice KB xkids.length kb)) (K9.set K9.refl _ _) HO9.out) (by go_grown)) (by have:=HBS.out;omega)) hgrow2
    have HW2:Hid (w2.ownsRow w.heap.size 54 14 v2 (k+1) (ys++nodeL (⟨xk,xo,xck,xcn,xcs,xac,xar,xaf,xag,xbc,xbr,xbf,xbg,xkids⟩:FN) KB kb)):=hown2
    have HB2:Hid (Below w.heap.size w w2):=Below.grown (bchain HB.out (by go_grown)) hgrow2 (by have hbs:=HBS.out;have hzz:=z9;first | omega | go_size) (fun q hq=>(HW.out.lt q hq).1)
    clear hown2 hgrow2 HW HP HB
    go_wp2_with fail
    go_roundw
    case rel=>exact⟨k+1,by omega,by go_num,⟨_,HW2.out,HP2.out⟩,HB2.out⟩
    case measure=>simp [intOf];omega
  ·have h1: ¬(k:Int)<(n:Int):=by omega
   obtain rfl:k=n:=by omega
   go_wp2_with fail
   go_ret
   first | exact⟨_,rfl,ys,HW.out,HP.out,HB.out⟩ | exact⟨_,ys,rfl,HW.out,HP.out,HB.out⟩ | exact⟨ys,HW.out,HP.out,HB.out⟩
theorem spec_Opened_yes {A:Option Addr} {n cap:Nat} {F:Nat→FN} (d e:Int) (w:World) (h:FnRowS w A n F) (hkn: ∀i,i<n→(F i).kids.length≤1048576) (ho:fOkB F n=true) (hok:okOpened d e=true):
  Calls Tryz.prog 7 #[.slice A n cap,.int .i64 d,.int .i64 e] w fun z w'=> ∃v ys,z= .returned (.tuple #[v,.bool true])∧w'.ownsRow w.heap.size 54 14 v n ys∧FnPart w' w.heap.size ys (fun i=>shFN (fOpened d e) (gOpened d e) (F i)) n∧Below w.heap.size w w':=by
 have HR:Hid (FnRowS w A n F):=h
 have HKN:Hid (∀i,i<n→(F i).kids.length≤1048576):=hkn
 clear h hkn
 have HO:Hid (fOkB F n=true):=ho
 have HNO:Hid (∀i,i<n→nodeX (F i)=true):=fOk_nodes ho
 have hn60:=fOk_n ho
 have HD:Hid (okOpened d e=true):=hok
 have hn:n≤1048576:=by omega
 unfold okOpened at hok
 rw [Bool.and_eq_true]at hok
 have hd:=of_decide_eq_true hok.1
 have he:=of_decide_eq_true hok.2
 clear ho hok
 go_enter Tryz.func7,Tryz.ntmps7
 go_wp2_with (first
  | (go_at_call 22;refine(spec_FormulaOk _ HR.out.row hn HKN.out).mono ?_;rintro z w1 ⟨rfl,hb⟩;rw [HO.out];have HB1:Hid (Below w.heap.size w w1):=hb;clear hb)
  | (go_at_call 23;refine(spec_l4Rows _ _ _).mono ?_;rintro z w3 ⟨rfl,hw⟩;subst w3;rw [HD.out]))
 refine(spec_l4Each_Opened d e _ (HR.out.below HB1.out) HKN.out HNO.out hn60 hd he).mono ?_
 rintro z w5 ⟨v,ys,rfl,h1,h2,hb⟩
 have HQ2:Hid (w5.ownsRow w.heap.size 54 14 v n ys):=own_mono h1 HB1.out.size
 have HQ3:Hid (FnPart w5 w.heap.size ys (fun i=>shFN (fOpened d e) (gOpened d e) (F i)) n):=fun i hi=>by
  obtain⟨KA,kc,a1,a2⟩:=h2 i hi
  exact⟨KA,kc,a1,own_mono a2 HB1.out.size⟩
 have HB5:Hid (Below w.heap.size w w5):=bchain HB1.out hb
 clear h1 h2 hb
 go_wp2_with fail
 refine bodyPost_ret (v:= .tuple #[v,.bool true]) ?_ rfl (by first | exact⟨_,_,rfl,HQ2.out,HQ3.out,HB5.out⟩ | exact⟨_,rfl,_,HQ2.out,HQ3.out,HB5.out⟩)
 simp (maxDischargeDepth:=9) [results,Tryz.results7,go_sem]
end Go.Proofs.YtonhcgkagdpdlaaGreatDoor
