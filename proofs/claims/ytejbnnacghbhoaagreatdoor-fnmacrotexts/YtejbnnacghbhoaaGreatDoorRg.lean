import Derived.Test.YtejbnnacghbhoaaGreatDoorMn
import Derived.Test.YtejbnnacghbhoaaGreatDoorRd
import Derived.Test.YtejbnnacghbhoaaGreatDoorRf
import Derived.Test.YtejbnnacghbhoaaGreatDoorRa
set_option linter.unusedSimpArgs false
set_option linter.unusedVariables false
namespace Go.Proofs.YtejbnnacghbhoaaGreatDoor
open Go.RowKit
def rmF (s:ByteArray):List SR:=if rmB s then rmI s else []
theorem PostRM.out {s:ByteArray} {B:Nat} {w':World} {e:Ending} (h:PostRM s B w' e): ∃A cap,e= .returned (.tuple #[.slice A (rmF s).length cap,.bool (rmB s)])∧w'.ownsRow B 69 5 (.slice A (rmF s).length cap) (rmF s).length (QC srC (rmF s)):=by
 rcases h with⟨hb,v,he,ho⟩ | ⟨hb,he⟩
 ·have hF:rmF s=rmI s:=by unfold rmF;rw [if_pos hb]
  rw [hF,hb];obtain⟨A,cap,rfl,_,_⟩:=Qu ho;exact⟨A,cap,he,ho⟩
 ·have hF:rmF s= []:=by unfold rmF;rw [if_neg (by rw [hb];simp)]
  rw [hF,hb];exact⟨none,0,he,World.ownsRow_nil _ _ _ _⟩
theorem ms_of_sr {W:World} {B n:Nat} {A:Option Addr} {cap:Nat} {L:List SR} (h:W.ownsRow B 69 5 (.slice A n cap) n (QC srC L)) (hn:L.length=n) (hs: ∀i,i<L.length→(sT L i).size≤maxLen):MsRow W A n (sK L) (sC L) (sR L) (sT L) (sM L):=by
 subst hn;exact ms_of_own (by rw [flat_ms]at h;exact h) hs
end Go.Proofs.YtejbnnacghbhoaaGreatDoor
