import Derived.Test.YtonhcgkagdpdlaaGreatDoorGzd
set_option linter.unusedSimpArgs false
set_option linter.unusedVariables false
set_option maxHeartbeats 8000000
set_option maxRecDepth 100000
namespace Go.Proofs.YtonhcgkagdpdlaaGreatDoor
open Go.RowKit
theorem laws_sameInts {A A':Option Addr} {cap cap':Nat} {l:List Int} (w:World) (h:IntRow w A l) (h':IntRow w A' l):
  Calls Tryz.prog 27 #[.slice A l.length cap,.slice A' l.length cap'] w fun e w'=>e= .returned (.bool true)∧Below w.heap.size w w':=by
 have HR:Hid (IntRow w A l):=h
 have HR':Hid (IntRow w A' l):=h'
 have hn:=h.1
 unfold maxLen at hn
 clear h h'
 obtain⟨n,HL⟩: ∃n,Hid (l.length=n):=⟨_,rfl⟩
 rw [HL.out]at hn ⊢
 go_enter Tryz.func27,Tryz.ntmps27
 go_wp2_with fail
 go_loopw [5] (fun i wr=> ∃k:Nat,k≤n∧i= .int .i64 k∧Below w.heap.size w wr) (fun i _=>n-(intOf i).toNat)
 case atStart=>exact⟨0,Nat.zero_le _,rfl,Below.refl _ _⟩
 case round=>
  obtain⟨k,hk,rfl,hbel⟩:=hrel
  by_cases hlt:k<n
  ·obtain⟨b,o,rfl,hl,c0⟩:=HR.out.2 k (by rw [HL.out];exact hlt)
   obtain⟨b',o',rfl,hl',c0'⟩:=HR'.out.2 k (by rw [HL.out];exact hlt)
   rw [←hbel.cell (p:=⟨_,_,none⟩) hl]at c0
   rw [←hbel.cell (p:=⟨_,_,none⟩) hl']at c0'
   obtain⟨z,HZ⟩: ∃z,Hid (l.getD k 0=z):=⟨_,rfl⟩
   rw [HZ.out]at c0 c0'
   have h0:(0:Int)≤(k:Int):=by omega
   have h1:(k:Int)<(n:Int):=by omega
   go_wp2_with fail
   go_region
   all_goals go_wp2_with fail
   all_goals
    go_roundw
    case rel=>exact⟨k+1,by omega,by go_num,by go_grown⟩
    case measure=>simp [intOf];omega
  ·have h1: ¬(k:Int)<(n:Int):=by omega
   go_wp2_with fail
   go_ret
   exact⟨rfl,hbel⟩
theorem laws_sameNodes {A A':Option Addr} {n cap cap':Nat} {F:Nat→FN} (w:World) (h:FnRow w A n F) (h':FnRow w A' n F):
  Calls Tryz.prog 10 #[.slice A n cap,.slice A' n cap'] w fun e w'=>e= .returned (.bool true)∧Below w.heap.size w w':=by
 have HR:Hid (FnRow w A n F):=h
 have HR':Hid (FnRow w A' n F):=h'
 have hn:=h.1
 unfold maxLen at hn
 clear h h'
 go_enter Tryz.func10,Tryz.ntmps10
 go_wp2_with fail
 go_loopw [5] (fun i wr=> ∃k:Nat,k≤n∧i= .int .i64 k∧Below w.heap.size w wr) (fun i _=>n-(intOf i).toNat)
 case atStart=>exact⟨0,Nat.zero_le _,rfl,Below.refl _ _⟩
 case round=>
  obtain⟨k,hk,rfl,hbel⟩:=hrel
  by_cases hlt:k<n
  ·obtain⟨b,o,KA,kc,rfl,hl,hnd,hki,hs⟩:=HR.out.2 k hlt
   obtain⟨b',o',KB,kb,rfl,hl',hnd',hki',hs'⟩:=HR'.out.2 k hlt
   obtain⟨c0,c1,c2,c3,c4,c5,c6,c7,c8,c9,c10,c11,c12,c13⟩:=hnd.below hl (W':=wr) hbel
   obtain⟨d0,d1,d2,d3,d4,d5,d6,d7,d8,d9,d10,d11,d12,d13⟩:=hnd'.below hl' (W':=wr) hbel
   have hll:=Nat.lt_of_lt_of_le hl hbel.size
   have hll':=Nat.lt_of_lt_of_le hl' hbel.size
   have HI:Hid (IntRow wr KA (F k).kids):=hki.below hbel
   have HI':Hid (IntRow wr KB (F k).kids):=hki'.below hbel
   have HB:Hid (Below w.heap.size w wr):=hbel
   clear hnd hnd' hki hki' hbel
   have h0:(0:Int)≤(k:Int):=by omega
   have h1:(k:Int)<(n:Int):=by omega
   obtain⟨x,HX⟩: ∃x,Hid (F k=x):=⟨_,rfl⟩
   rw [HX.out]at c0 c1 c2 c3 c4 c5 c6 c7 c8 c9 c10 c11 c12 c13 d0 d1 d2 d3 d4 d5 d6 d7 d8 d9 d10 d11 d12 d13 HI HI'
   obtain⟨xk,xo,xck,xcn,xcs,xac,xar,xaf,xag,xbc,xbr,xbf,xbg,xkids⟩:=x
   simp only at c0 c1 c2 c3 c4 c5 c6 c7 c8 c9 c10 c11 c12 c13 d0 d1 d2 d3 d4 d5 d6 d7 d8 d9 d10 d11 d12 d13 HI HI'
   go_wp2_with fail
   refine(laws_sameInts _ (HI.out.below (by go_grown)) (HI'.out.below (by go_grown))).mono ?_
   rintro e w1 ⟨rfl,hb⟩
   have K1:Hid (Below wr.heap.size wr w1):=Below.trans (by go_grown) (hb.mono (by go_size))
   clear hb
   go_wp2_with fail
   go_roundw
   case rel=>exact⟨k+1,by omega,by go_num,bchain HB.out K1.out⟩
   case measure=>simp [intOf];omega
  ·have h1: ¬(k:Int)<(n:Int):=by omega
   go_wp2_with fail
   go_ret
   exact⟨rfl,hbel⟩
end Go.Proofs.YtonhcgkagdpdlaaGreatDoor
