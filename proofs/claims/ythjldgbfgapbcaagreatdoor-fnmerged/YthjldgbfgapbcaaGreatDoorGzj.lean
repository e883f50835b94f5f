import Derived.Test.YthjldgbfgapbcaaGreatDoorGaa
import Derived.Test.YthjldgbfgapbcaaGreatDoorGad
import Derived.Deep.RegionHeld3
import Derived.Deep.RegionWith
import Derived.Deep.DeepCutAuto
import Derived.Deep.AppendLies
import Derived.Deep.QuietTactic
import Derived.BigQuiet
import Derived.Laws.BytesString
set_option linter.unusedSimpArgs false
set_option linter.unusedVariables false
set_option maxHeartbeats 1000000
namespace Go.Proofs.YthjldgbfgapbcaaGreatDoor
open Go.RowKit
def or2 (x y:Int):Int:=if x=0 then y else x
theorem Qel (x y:Int) (b:Nat) (w:World) (c0:w.cell? ⟨b,0,none⟩=some (.int .i64 x)) (c1:w.cell? ⟨b,1,none⟩=some (.int .i64 y)):
  Calls Tryz.prog 77 #[.slice (some ⟨b,0,none⟩) 2 2] w fun e w'=>e= .returned (.int .i64 (or2 x y))∧w'=w:=by
 by_cases hx:x=0
 ·subst hx;by_cases hy:y=0
  ·subst hy;go_enter Tryz.func77,Tryz.ntmps77;go_wp2
   refine wp_loop_rounds 3 ?_;rw [rounds_succ];go_wp2
   rw [rounds_succ];go_wp2
   rw [rounds_succ];go_wp2
   go_ret;exact⟨rfl,rfl⟩
  ·have hq:(y !=0)=true:=by simpa using hy
   go_enter Tryz.func77,Tryz.ntmps77;go_wp2
   refine wp_loop_rounds 3 ?_;rw [rounds_succ];go_wp2
   rw [rounds_succ];go_wp2
   go_ret;exact⟨rfl,rfl⟩
 ·have hq:(x !=0)=true:=by simpa using hx
  go_enter Tryz.func77,Tryz.ntmps77;go_wp2
  refine wp_loop_rounds 3 ?_;rw [rounds_succ];go_wp2
  go_ret;exact⟨Zd (by simp [or2,hx]),rfl⟩
def Qck (c r c' r':Int):Int:=or2 (sgn r r') (sgn c c')
theorem KP (c r c' r':Int):(0≤Qck c r c' r')↔QF c r c' r'=false:=by
 unfold Qck or2 QF;have:=ER r;by_cases h:r=r'
 ·subst h;rw [if_pos (ER r)];unfold sgn;by_cases h1:c<c'
  ·simp [h1]
  ·by_cases h2:c'<c
   ·simp [h1,h2]
   ·simp [h1,h2]
 ·rw [if_neg (Qqc h).2];unfold sgn;by_cases h1:r<r'
  ·simp [h1]
  ·have h2:r'<r:=by omega
   simp [h1,h2,h]
theorem XV (c r c' r':Int) (w:World):Calls Tryz.prog 58 #[.agg #[.int .i64 c,.int .i64 r],.agg #[.int .i64 c',.int .i64 r']] w fun e w'=>
  e= .returned (.int .i64 (Qck c r c' r'))∧Below w.heap.size w w':=by
 go_enter Tryz.func58,Tryz.ntmps58;go_wp2_with fail
 go_region_held3 (fun w'=>(∀bq oq,bq<w.heap.size+2→w'.cell? ⟨bq,oq,none⟩=((w.alloc (.cells #[.int .i64 c,.int .i64 r] 38)).alloc (.cells #[.int .i64 c',.int .i64 r'] 38)).cell? ⟨bq,oq,none⟩)∧w.heap.size+2≤w'.heap.size∧Below (w.heap.size+2) ((w.alloc (.cells #[.int .i64 c,.int .i64 r] 38)).alloc (.cells #[.int .i64 c',.int .i64 r'] 38)) w')
  (exact Qk (by go_size) (by go_grown))
  (first
  | (go_at_call 78;refine(Qem _ _ _).mono ?_;rintro e w1 ⟨rfl,rfl⟩)
  | (go_at_call 77;refine(Qel (sgn r r') (sgn c c') _ _ ?_ ?_).mono ?_;(focus (go_simp;done));(focus (go_simp;done));rintro e w1 ⟨rfl,rfl⟩))
 all_goals go_wp2_with fail
 all_goals
  go_ret;exact⟨rfl,Yq (n:=2) (X:=((w.alloc (.cells #[.int .i64 c,.int .i64 r] 38)).alloc (.cells #[.int .i64 c',.int .i64 r'] 38))) (by go_grown) (by go_grown)⟩
def Qu {α:Type} (f:α→List Value) (L:List α):List Value:=L.flatMap f
theorem Ye {α:Type} (f:α→List Value) (L:List α) (x:α):Qu f (L++ [x])=Qu f L++f x:=by simp [Qu]
theorem Jy {α:Type} {f:α→List Value} {k:Nat} (hk: ∀x,(f x).length=k): ∀L:List α,(Qu f L).length=L.length*k
 | []=>by simp [Qu]
 | x::L=>by
  have h:=Jy hk L;simp only [Qu,List.flatMap_cons,List.length_append,List.length_cons]at h ⊢;rw [h,hk,Nat.add_mul];omega
theorem Jb {α:Type} {f:α→List Value} {k:Nat} (hk: ∀x,(f x).length=k) (j:Nat) (hj:j<k): ∀(L:List α) (i:Nat),(Qu f L)[i*k+j]? =(L[i]?).bind (fun x=>(f x)[j]?)
 | [],i=>by simp [Qu]
 | x::L,0=>by
  simp only [Qu,List.flatMap_cons,Nat.zero_mul,Nat.zero_add,List.getElem?_cons_zero,Option.bind_some];rw [List.getElem?_append_left (by rw [hk];exact hj)]
 | x::L,i+1=>by
  have h:=Jb hk j hj L i;simp only [Qu,List.flatMap_cons,List.getElem?_cons_succ]at h ⊢;rw [List.getElem?_append_right (by rw [hk,Nat.add_mul];omega),hk,←h];congr 1
  rw [Nat.add_mul];omega
def RowAt {α:Type} (k:Nat) (f:α→List Value) (W:World) (A:Option Addr) (L:List α):Prop:=
 L.length≤maxLen∧ ∀i x,L[i]? =some x→ ∃b o,A=some ⟨b,o,none⟩∧b<W.heap.size∧ ∀j v,(f x)[j]? =some v→W.cell? ⟨b,o+i*k+j,none⟩=some v
theorem RowAt.below {α:Type} {k:Nat} {f:α→List Value} {W W':World} {A:Option Addr} {L:List α} (h:RowAt k f W A L) (hb:Below W.heap.size W W'):RowAt k f W' A L:=
 ⟨h.1,fun i x hx=>by
  obtain⟨b,o,e,hl,hc⟩:=h.2 i x hx
  exact⟨b,o,e,Nat.lt_of_lt_of_le hl hb.size,fun j v hv=>(hb.cell (p:=⟨b,_,none⟩) hl).trans (hc j v hv)⟩⟩
theorem RowAt.of_own {α:Type} {k:Nat} {f:α→List Value} (hk: ∀x,(f x).length=k) {W:World} {B n:Nat} {e:TypeId} {A:Option Addr} {cap:Nat} {L:List α} (h:W.ownsRow B e k (.slice A n cap) n (Qu f L)) (hn:L.length=n):RowAt k f W A L:=by
 subst hn;obtain⟨A',cap',e,hn,hc⟩:=Qh h;cases e
 refine⟨hn,fun i x hx=> ?_⟩;have hi:i<L.length:=(List.getElem?_eq_some_iff.1 hx).1;by_cases h0:k=0
 ·subst h0;have:L.length*0=0:=by omega
  rcases h.2 with⟨e1,e2⟩ | ⟨g,cap2,cur,e1,hb,hg,_⟩
  ·rw [e2]at hi;omega
  ·cases e1
   exact⟨g,0,rfl,(Array.getElem?_eq_some_iff.1 hg).1,fun j v hv=>by have:=(List.getElem?_eq_some_iff.1 hv).1;have:=hk x;omega⟩
 have hm:i*k+0<L.length*k:=by
  have:(i+1)*k≤L.length*k:=Nat.mul_le_mul_right _ hi;rw [Nat.add_mul]at this;omega
 obtain⟨g,rfl,_,hl,_,_⟩:=hc _ hm;refine⟨g,0,rfl,hl,fun j v hv=> ?_⟩;have hj:j<k:=by rw [←hk x];exact(List.getElem?_eq_some_iff.1 hv).1
 have hm:i*k+j<L.length*k:=by
  have:(i+1)*k≤L.length*k:=Nat.mul_le_mul_right _ hi;rw [Nat.add_mul]at this;omega
 obtain⟨g1,e1,_,_,c1,_⟩:=hc _ hm;cases e1
 rw [Nat.zero_add,c1,Jb hk j hj,hx];exact hv
theorem Ji {W:World} {B B':Nat} {e e':TypeId} {s s' n n':Nat} {v v':Value} {xs xs':List Value} (h:W.ownsRow B e s v n xs) (h':W.ownsRow B' e' s' v' n' xs') (hne:e≠e'):v.ownBlock=none∨v.ownBlock≠v'.ownBlock:=by
 rcases h.2 with⟨rfl,_⟩ | ⟨g,cap,cur,rfl,_,hg,_⟩
 ·exact Or.inl rfl
 ·rcases h'.2 with⟨rfl,_⟩ | ⟨g',cap',cur',rfl,_,hg',_⟩
  ·right;simp [Value.ownBlock]
  ·right
   intro e1;simp only [Value.ownBlock,Option.some.injEq]at e1;subst e1;rw [hg]at hg';simp only [Option.some.injEq,Obj.cells.injEq]at hg';exact hne hg'.2.1
theorem Jj {W:World} {B g:Nat} {e:TypeId} {size:Nat} (hB:B≤W.heap.size) (hg:g=W.heap.size):(W.alloc (.cells #[] e)).ownsRow B e size (.slice (some ⟨g,0,none⟩) 0 0) 0 []:=by
 subst hg;exact World.ownsRow_made W #[] 0 hB (Nat.zero_le _) (by simp)
end Go.Proofs.YthjldgbfgapbcaaGreatDoor
