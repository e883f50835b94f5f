import Derived.Test.YthjldgbfgapbcaaGreatDoorGzj
import Derived.Test.YthjldgbfgapbcaaGreatDoorGge
set_option linter.unusedSimpArgs false
set_option linter.unusedVariables false
namespace Go.Proofs.YthjldgbfgapbcaaGreatDoor
open Go.RowKit
end Go.Proofs.YthjldgbfgapbcaaGreatDoor
namespace Go.Proofs.YthjldgbfgapbcaaGreatDoor
open Go.RowKit Go.Maps
theorem Qd6 {p q:Int} (h:Qj p q=true): ∃l,keyOf Tryz.prog 38 (.agg #[.int .i64 p,.int .i64 q])=some l:=by
 simp only [Qj,decide_eq_true_eq]at h;exact On p q (Ku (by omega) (by omega)) (Ku (by omega) (by omega))
theorem Qek {C R:Nat→Int} {S:Nat→ByteArray} {n:Nat} (h:(clE C R S n).Pairwise (fun a b=>ltC a b=true)): ∀i j,i<j→j<n→ ¬(C i=C j∧R i=R j):=fun i j hij hj e=>by
 have h9:=List.pairwise_iff_getElem.1 h i j (by rw [YP];omega) (by rw [YP];exact hj) hij;simp only [clE,List.getElem_map,List.getElem_range]at h9;have h8:=of_decide_eq_true h9;simp only at h8;omega
def Ec (L:List CL) (i:Nat):Int:=((L[i]?).map CL.c).getD 0
def Eb (L:List CL) (i:Nat):Int:=((L[i]?).map CL.r).getD 0
def MN (L:List CL) (i:Nat):ByteArray:=((L[i]?).map CL.s).getD ⟨#[]⟩
theorem Qa0 (L:List CL):clE (Ec L) (Eb L) (MN L) L.length=L:=by
 apply List.ext_getElem (YP _ _ _ _);intro i h1 h2;simp only [clE,List.getElem_map,List.getElem_range,Ec,Eb,MN,List.getElem?_eq_getElem h2,Option.map_some,Option.getD_some]
theorem Ml (C R:Nat→Int) (S:Nat→ByteArray): ∀n,clX C R S n=Zb CL.cs (clE C R S n)
 | 0=>rfl
 | n+1=>by rw [Mj,Mm,Ge,Ml C R S n];rfl
theorem UK {W:World} {B n cap:Nat} {A:Option Addr} {L:List CL} (h:W.ownsRow B 49 3 (.slice A n cap) n (Zb CL.cs L)) (hL:L.length=n) (hs: ∀x∈L,x.s.size≤maxLen):ClRow W A n (Ec L) (Eb L) (MN L):=by
 subst hL;refine Qej (B:=B) (cap:=cap) ?_ (fun i hi=> ?_)
 ·rw [Ml,Qa0];exact h
 ·simp only [MN,List.getElem?_eq_getElem hi,Option.map_some,Option.getD_some];exact hs _ (List.getElem_mem hi)
theorem Ql8 {B:Nat} {w':World} {r:Option (List CL)} {e:Ending} (h:EnR B w' r e): ∃A c,e= .returned (.tuple #[.slice A (r.getD []).length c,.bool r.isSome])∧w'.ownsRow B 49 3 (.slice A (r.getD []).length c) (r.getD []).length (Zb CL.cs (r.getD [])):=by
 cases r with
 | none=>exact⟨none,0,h,rfl,.inl ⟨rfl,rfl⟩⟩
 | some L=>
  obtain⟨A,c,m,he,hm,ho⟩:=h;subst hm;exact⟨A,c,he,ho⟩
theorem Qq3 {C R:Nat→Int} {S:Nat→ByteArray} {n:Nat} {p q:Int} {s:ByteArray} (hs: ∀i,i<n→(S i).size≤maxLen): ∀x∈(enF C R S n p q s).getD [],x.s.size≤maxLen:=by
 intro x hx;rw [enF]at hx;split at hx
 ·cases hi:inF s with
  | none=>rw [hi]at hx;cases hx
  | some t=>
   rw [hi]at hx;simp only at hx;split at hx
   ·cases hx
   ·have h9:=(Ve ⟨p,q,t⟩ (clE C R S n)).mem_iff.1 hx
    have hm: ∀y∈clE C R S n,y.s.size≤maxLen:=fun y hy=>by
     obtain⟨i,hi,rfl⟩:=List.mem_map.1 hy;exact hs i (List.mem_range.1 hi)
    split at h9
    ·exact hm x (offP_mem.1 h9).1
    ·rcases List.mem_append.1 h9 with h9 | h9
     ·exact hm x (offP_mem.1 h9).1
     ·rw [List.mem_singleton]at h9;subst h9;have:=Qit hi;unfold maxLen;show t.size≤_;omega
 ·cases hx
theorem Qo0 {C R:Nat→Int} {S:Nat→ByteArray} {n:Nat} {p q:Int} {s:ByteArray}:((enF C R S n p q s).getD []).length≤120:=by
 rw [enF];split
 ·cases hi:inF s with
  | none=>simp
  | some t=>
   simp only;split
   ·simp
   ·simp only [Option.getD_some];omega
 ·simp
theorem Qpu {B mn:Nat} {w':World} {r:Option (List CL)} {L:List CL} {xx:List Value} {ob:Bool} {e:Ending} (h1:r.getD []=L) (h2:L.length=mn) (h3:Zb CL.cs L=xx) (h4:r.isSome=ob) (h:EnR B w' r e): ∃A c,e= .returned (.tuple #[.slice A mn c,.bool ob])∧w'.ownsRow B 49 3 (.slice A mn c) mn xx:=by
 obtain⟨A,c,he,ho⟩:=Ql8 h;rw [h1,h2]at he ho;rw [h3]at ho;rw [h4]at he;exact⟨A,c,he,ho⟩
theorem gcell {W w':World} {b o B n s:Nat} {e:TypeId} {v x:Value} {xs:List Value} (h:W.ownsRow B e s v n xs) (hg:W.grownBy w' v.ownBlock) (hb:b<B) (c:W.cell? ⟨b,o,none⟩=some x):w'.cell? ⟨b,o,none⟩=some x:=
 (World.cell?_of_block (hg.block b (World.block_lt_of_cell? W ⟨b,o,none⟩ c) (fun e=>by have:=(h.lt b e.symm).1;omega))).trans c
theorem gkeep {W w':World} {B B' n n' s s':Nat} {e e':TypeId} {v v':Value} {xs xs':List Value} (h:W.ownsRow B e s v n xs) (hg:W.grownBy w' v.ownBlock) (h':W.ownsRow B' e' s' v' n' xs') (hb: ∀k,v'.ownBlock=some k→v.ownBlock≠some k):w'.ownsRow B' e' s' v' n' xs':=
 h'.kept hg (by
  cases hv:v'.ownBlock with
  | none=>exact Or.inl rfl
  | some q=>exact Or.inr (fun e=>hb q hv e.symm))
end Go.Proofs.YthjldgbfgapbcaaGreatDoor
