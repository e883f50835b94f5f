import Derived.Test.YtbdhinckiccniaaGreatDoorGaa
import Derived.Test.YtbdhinckiccniaaGreatDoorGad
import Derived.Deep.RegionHeld3
import Derived.Deep.RegionWith
import Derived.Deep.DeepCutAuto
import Derived.Deep.AppendLies
import Derived.Deep.QuietTactic
import Derived.BigQuiet
import Derived.Laws.BytesString
set_option linter.unusedSimpArgs false
set_option linter.unusedVariables false
set_option maxHeartbeats 2000000
set_option maxRecDepth 100000
namespace Go.Proofs.YtbdhinckiccniaaGreatDoor
open Go.RowKit
def or2 (x y:Int):Int:=if x=0 then y else x
theorem Qgt (x y:Int) (b:Nat) (w:World) (c0:w.cell? ⟨b,0,none⟩=some (.int .i64 x)) (c1:w.cell? ⟨b,1,none⟩=some (.int .i64 y)):
  Calls Tryz.prog 150 #[.slice (some ⟨b,0,none⟩) 2 2] w fun e w'=>e= .returned (.int .i64 (or2 x y))∧w'=w:=by
 by_cases hx:x=0
 ·subst hx;by_cases hy:y=0
  ·subst hy;go_enter Tryz.func150,Tryz.ntmps150;go_wp2
   refine wp_loop_rounds 3 ?_;rw [rounds_succ];go_wp2
   rw [rounds_succ];go_wp2
   rw [rounds_succ];go_wp2
   go_ret;exact⟨rfl,rfl⟩
  ·have hq:(y !=0)=true:=by simpa using hy
   go_enter Tryz.func150,Tryz.ntmps150;go_wp2
   refine wp_loop_rounds 3 ?_;rw [rounds_succ];go_wp2
   rw [rounds_succ];go_wp2
   go_ret;exact⟨rfl,rfl⟩
 ·have hq:(x !=0)=true:=by simpa using hx
  go_enter Tryz.func150,Tryz.ntmps150;go_wp2
  refine wp_loop_rounds 3 ?_;rw [rounds_succ];go_wp2
  go_ret;exact⟨QY (by simp [or2,hx]),rfl⟩
def Qed (c r c' r':Int):Int:=or2 (sgn r r') (sgn c c')
theorem Kv (c r c' r':Int):(0≤Qed c r c' r')↔Yi c r c' r'=false:=by
 unfold Qed or2 Yi;have:=Qbl r;by_cases h:r=r'
 ·subst h;rw [if_pos (Qbl r)];unfold sgn;by_cases h1:c<c'
  ·simp [h1]
  ·by_cases h2:c'<c
   ·simp [h1,h2]
   ·simp [h1,h2]
 ·rw [if_neg (Qr7 h).2];unfold sgn;by_cases h1:r<r'
  ·simp [h1]
  ·have h2:r'<r:=by omega
   simp [h1,h2,h]
theorem XJ (c r c' r':Int) (w:World):Calls Tryz.prog 96 #[.agg #[.int .i64 c,.int .i64 r],.agg #[.int .i64 c',.int .i64 r']] w fun e w'=>
  e= .returned (.int .i64 (Qed c r c' r'))∧Below w.heap.size w w':=by
 go_enter Tryz.func96,Tryz.ntmps96;go_wp2_with fail
 go_region_held3 (fun w'=>(∀bq oq,bq<w.heap.size+2→w'.cell? ⟨bq,oq,none⟩=((w.alloc (.cells #[.int .i64 c,.int .i64 r] 27)).alloc (.cells #[.int .i64 c',.int .i64 r'] 27)).cell? ⟨bq,oq,none⟩)∧w.heap.size+2≤w'.heap.size∧Below (w.heap.size+2) ((w.alloc (.cells #[.int .i64 c,.int .i64 r] 27)).alloc (.cells #[.int .i64 c',.int .i64 r'] 27)) w')
  (exact Qp (by go_size) (by go_grown))
  (first
  | (go_at_call 151;refine(Qgu _ _ _).mono ?_;rintro e w1 ⟨rfl,rfl⟩)
  | (go_at_call 150;refine(Qgt (sgn r r') (sgn c c') _ _ ?_ ?_).mono ?_;(focus (go_simp;done));(focus (go_simp;done));rintro e w1 ⟨rfl,rfl⟩))
 all_goals go_wp2_with fail
 all_goals
  go_ret;exact⟨rfl,ZT (n:=2) (X:=((w.alloc (.cells #[.int .i64 c,.int .i64 r] 27)).alloc (.cells #[.int .i64 c',.int .i64 r'] 27))) (by go_grown) (by go_grown)⟩
def Za {α:Type} (f:α→List Value) (L:List α):List Value:=L.flatMap f
theorem Dx {α:Type} (f:α→List Value) (L:List α) (x:α):Za f (L++ [x])=Za f L++f x:=by simp [Za]
theorem Je {α:Type} {f:α→List Value} {k:Nat} (hk: ∀x,(f x).length=k): ∀L:List α,(Za f L).length=L.length*k
 | []=>by simp [Za]
 | x::L=>by
  have h:=Je hk L;simp only [Za,List.flatMap_cons,List.length_append,List.length_cons]at h ⊢;rw [h,hk,Nat.add_mul];omega
theorem MP {α:Type} {f:α→List Value} {k:Nat} (hk: ∀x,(f x).length=k) (j:Nat) (hj:j<k): ∀(L:List α) (i:Nat),(Za f L)[i*k+j]? =(L[i]?).bind (fun x=>(f x)[j]?)
 | [],i=>by simp [Za]
 | x::L,0=>by
  simp only [Za,List.flatMap_cons,Nat.zero_mul,Nat.zero_add,List.getElem?_cons_zero,Option.bind_some];rw [List.getElem?_append_left (by rw [hk];exact hj)]
 | x::L,i+1=>by
  have h:=MP hk j hj L i;simp only [Za,List.flatMap_cons,List.getElem?_cons_succ]at h ⊢;rw [List.getElem?_append_right (by rw [hk,Nat.add_mul];omega),hk,←h];congr 1
  rw [Nat.add_mul];omega
def RowAt {α:Type} (k:Nat) (f:α→List Value) (W:World) (A:Option Addr) (L:List α):Prop:=
 L.length≤maxLen∧ ∀i x,L[i]? =some x→ ∃b o,A=some ⟨b,o,none⟩∧b<W.heap.size∧ ∀j v,(f x)[j]? =some v→W.cell? ⟨b,o+i*k+j,none⟩=some v
theorem RowAt.below {α:Type} {k:Nat} {f:α→List Value} {W W':World} {A:Option Addr} {L:List α} (h:RowAt k f W A L) (hb:Below W.heap.size W W'):RowAt k f W' A L:=
 ⟨h.1,fun i x hx=>by
  obtain⟨b,o,e,hl,hc⟩:=h.2 i x hx
  exact⟨b,o,e,Nat.lt_of_lt_of_le hl hb.size,fun j v hv=>(hb.cell (p:=⟨b,_,none⟩) hl).trans (hc j v hv)⟩⟩
theorem RowAt.of_own {α:Type} {k:Nat} {f:α→List Value} (hk: ∀x,(f x).length=k) {W:World} {B n:Nat} {e:TypeId} {A:Option Addr} {cap:Nat} {L:List α} (h:W.ownsRow B e k (.slice A n cap) n (Za f L)) (hn:L.length=n):RowAt k f W A L:=by
 subst hn;obtain⟨A',cap',e,hn,hc⟩:=Qo h;cases e
 refine⟨hn,fun i x hx=> ?_⟩;have hi:i<L.length:=(List.getElem?_eq_some_iff.1 hx).1;by_cases h0:k=0
 ·subst h0;have:L.length*0=0:=by omega
  rcases h.2 with⟨e1,e2⟩ | ⟨g,cap2,cur,e1,hb,hg,_⟩
  ·rw [e2]at hi;omega
  ·cases e1
   exact⟨g,0,rfl,(Array.getElem?_eq_some_iff.1 hg).1,fun j v hv=>by have:=(List.getElem?_eq_some_iff.1 hv).1;have:=hk x;omega⟩
 have hm:i*k+0<L.length*k:=by
  have:(i+1)*k≤L.length*k:=Nat.mul_le_mul_right _ hi;rw [Nat.add_mul]at this;omega
 obtain⟨g,rfl,_,hl,_,_⟩:=hc _ hm;refine⟨g,0,rfl,hl,fun j v hv=> ?_⟩;have hj:j<k:=by rw [←hk x];exact(List.getElem?_eq_some_iff.1 hv).1
 have hm:i*k+j<L.length*k:=by
  have:(i+1)*k≤L.length*k:=Nat.mul_le_mul_right _ hi;rw [Nat.add_mul]at this;omega
 obtain⟨g1,e1,_,_,c1,_⟩:=hc _ hm;cases e1
 rw [Nat.zero_add,c1,MP hk j hj,hx];exact hv
theorem Qvo {α:Type} {k:Nat} {f:α→List Value} (hk: ∀x,(f x).length=k) {W:World} {B g n cap t:Nat} {e:TypeId} {ys:List Value} {L:List α} {x:α} (h:W.ownsRow B e k (.slice (some ⟨g,0,none⟩) n cap) n ys) (hL:L.length=n) (hx:L[t]? =some x)
  (hy: ∀j,j<t*k→ys[j]? =(Za f L)[j]?):
  ∃zs,(NU W g (t*k) (f x)).ownsRow B e k (.slice (some ⟨g,0,none⟩) n cap) n zs∧(∀j,j<(t+1)*k→zs[j]? =(Za f L)[j]?)∧W.grownBy (NU W g (t*k) (f x)) (some g):=by
 obtain⟨o1,g1⟩:=Ei (f x) W (t*k) ys h;refine⟨_,o1,fun j hj=> ?_,g1⟩;by_cases hlt:j<t*k
 ·rw [Ja _ _ _ _ hlt];exact hy j hlt
 ·obtain⟨i,rfl⟩: ∃i,j=t*k+i:=⟨j-t*k,by omega⟩;have hi:i<k:=by rw [Nat.add_mul]at hj;omega
  have ht:t<L.length:=(List.getElem?_eq_some_iff.1 hx).1;have hl:=h.1;have hm:(t+1)*k≤n*k:=Nat.mul_le_mul_right _ (by omega);rw [Nat.add_mul]at hm;rw [Vc _ _ _ _ (by rw [hk];exact hi) (by rw [hk,hl];omega),MP hk i hi,hx];rfl
theorem Qvs {α:Type} {k:Nat} {f:α→List Value} (hk: ∀x,(f x).length=k) {L:List α} {n:Nat} {ys:List Value} (hl:ys.length=n*k) (hL:L.length=n) (hy: ∀j,j<n*k→ys[j]? =(Za f L)[j]?):ys=Za f L:=
 Qp1 (n:=n*k) hl (by rw [Je hk,hL]) hy
theorem Zw {α:Type} {L:List α} {n t:Nat} (hL:L.length=n) (ht:t<n): ∃x,L[t]? =some x:=⟨_,List.getElem?_eq_getElem (by omega)⟩
theorem Qt8 {α:Type} {k:Nat} {f:α→List Value} {W:World} {A:Option Addr} {L:List α} (h:RowAt k f W A L) {i:Nat} {x:α} (hx:L[i]? =some x):x∈L:=List.mem_of_getElem? hx
theorem Qvh (W:World) (b:Nat) (v:Int) (hv:W.cell? ⟨b,0,none⟩=some (.int .u8 v)):
  (convert 22 9 (.slice (some ⟨b,0,none⟩) 1 1)).run Tryz.prog W= .ok (.string ⟨#[UInt8.ofNat v.toNat]⟩) W:=by
 rw [run_convert_bytes_string W 22 9 5 (some ⟨b,0,none⟩) 1 1 Tryz.underlying22 Tryz.underlying5 Tryz.underlying9]
 have hl:=run_loadCells_list (P:=Tryz.prog) W ⟨b,0,none⟩ [.int .u8 v] (fun j x hj=>by
  match j,hj with
  | 0,hj=>simp at hj;simpa [Addr.add,←hj]using hv)
 rw [run_bytesToString W ⟨b,0,none⟩ 1 1 [v] (by simpa using hl)];rfl
theorem Qvg (W:World) (v:Int):(convert 22 9 (.slice (some ⟨W.heap.size,0,none⟩) 1 1)).run Tryz.prog (W.alloc (.cells #[.int .u8 v] 5))=
  .ok (.string ⟨#[UInt8.ofNat v.toNat]⟩) (W.alloc (.cells #[.int .u8 v] 5)):=Qvh _ _ v (by simp)
def MA (m:Nat) (s:ByteArray):ByteArray:=if h:m=0 then s else MA (m/10) ((⟨#[48+UInt8.ofNat (m%10)]⟩:ByteArray)++s)
 termination_by m
 decreasing_by omega
def mtx (k:Int):ByteArray:=(⟨#[109]⟩:ByteArray)++MA k.toNat ⟨#[]⟩
theorem Dp (s:ByteArray):MA 0 s=s:=by rw [MA];rfl
theorem Dq {m:Nat} (h:m≠0) (s:ByteArray):MA m s=MA (m/10) ((⟨#[48+UInt8.ofNat (m%10)]⟩:ByteArray)++s):=by
 rw [MA,dif_neg h]
theorem Qja (k:Int) (w:World) (h0:0<k) (h1:k≤1099511627776000):Calls Tryz.prog 88 #[.int .i64 k] w fun e w'=>e= .returned (.string (mtx k))∧Below w.heap.size w w':=by
 have hz: ¬k≤0:=by omega
 go_enter Tryz.func88,Tryz.ntmps88;go_wp2_with fail
 go_loopw [0,3] (fun q o wr=> ∃(m:Nat) (s:ByteArray),q= .int .i64 m∧o= .string s∧(s.size:Int)+m≤k∧MA m s=MA k.toNat ⟨#[]⟩∧Below w.heap.size w wr) (fun q _ _=>(intOf q).toNat)
 case atStart=>exact⟨k.toNat,⟨#[]⟩,by congr 1;omega,rfl,by show(0:Int)+_≤_;omega,rfl,Below.refl _ _⟩
 case round=>
  obtain⟨m,s,rfl,rfl,hsm,hgo,hbel⟩:=hrel;have HG:Hid (MA m s=MA k.toNat ⟨#[]⟩):=hgo;clear hgo;have hcv:= @Qvg;by_cases hm:(m:Int)≤0
  ·have hs1: ¬9223372036854775807<1+s.size:=by omega
   have hm0:m=0:=by omega
   have HF:Hid ((⟨#[109]⟩:ByteArray)++s=mtx k):=by
    show _=_;rw [mtx,←HG.out,hm0,Dp]
   clear hm0;go_wp2_with fail
   go_ret;exact⟨by rw [←HF.out];rfl,hbel⟩
  ·have hp:0<(m:Int):=by omega
   have hs1: ¬9223372036854775807<1+s.size:=by omega
   have hm0:m≠0:=by omega
   have HS:=HG.out;rw [Dq hm0]at HS;have HT:Hid (MA (m/10) ((⟨#[48+UInt8.ofNat (m%10)]⟩:ByteArray)++s)=MA k.toNat ⟨#[]⟩):=HS;clear HS HG hm0;go_wp2_with fail
   all_goals
    go_roundw
    case rel=>exact⟨m/10,_,by congr 1,rfl,by rw [ByteArray.size_append];show((1+s.size:Nat):Int)+((m/10:Nat):Int)≤k;omega,HT.out,by have hbs:=hbel.size;go_grown⟩
    case measure=>simp [intOf];omega
theorem Qh2 (m:Nat): ∀s:ByteArray,(MA m s).size≤s.size+m:=by
 induction m using Nat.strongRecOn with
 | ind m ih=>
  intro s;by_cases h:m=0
  ·subst h;rw [Dp];omega
  ·rw [Dq h];have h1:=ih (m/10) (by omega) ((⟨#[48+UInt8.ofNat (m%10)]⟩:ByteArray)++s);rw [ByteArray.size_append]at h1;have h2:(⟨#[48+UInt8.ofNat (m%10)]⟩:ByteArray).size=1:=rfl;omega
theorem Qt9 {k:Int} (h:k≤1099511627776000):(mtx k).size≤maxLen:=by
 unfold mtx;rw [ByteArray.size_append];have h1:=Qh2 k.toNat ⟨#[]⟩;have h2:(⟨#[109]⟩:ByteArray).size=1:=rfl;have h3:(⟨#[]⟩:ByteArray).size=0:=rfl;unfold maxLen;omega
def mkL {α:Type} (mk:Int→α) (k:Nat) (k0:Int) (n:Nat):List α:=(List.range n).map fun(i:Nat)=>mk (k0+(i:Int)*(k:Int))
theorem Qvq {α:Type} (mk:Int→α) (k:Nat) (k0:Int) (n:Nat):(mkL mk k k0 n).length=n:=by simp [mkL]
theorem mkL_at {α:Type} (mk:Int→α) (k:Nat) (k0:Int) (n t:Nat) (h:t<n):(mkL mk k k0 n)[t]? =some (mk (k0+(t:Int)*k)):=by simp [mkL,h]
theorem own_ne {W W':World} {B B':Nat} {e e':TypeId} {s s' n n':Nat} {v v':Value} {xs xs':List Value} (h:W.ownsRow B e s v n xs) (h':W'.ownsRow B' e' s' v' n' xs') (hb:W.heap.size≤B'):v.ownBlock=none∨v.ownBlock≠v'.ownBlock:=by
 cases hv:v.ownBlock with
 | none=>exact Or.inl rfl
 | some g=>
  right
  intro e;have h1:=(h.lt g hv).2;have h2:=(h'.lt g e.symm).1;omega
theorem Qvp {W W':World} {B B':Nat} {e e':TypeId} {s s' n n':Nat} {v v':Value} {xs xs':List Value} (h:W.ownsRow B e s v n xs) (h':W'.ownsRow B' e' s' v' n' xs') (hb:W'.heap.size≤B):v.ownBlock=none∨v.ownBlock≠v'.ownBlock:=by
 cases hv:v.ownBlock with
 | none=>exact Or.inl rfl
 | some g=>
  right
  intro e;have h1:=(h.lt g hv).1;have h2:=(h'.lt g e.symm).2;omega
theorem Qht {W:World} {B B':Nat} {e e':TypeId} {s s' n n':Nat} {v v':Value} {xs xs':List Value} (h:W.ownsRow B e s v n xs) (h':W.ownsRow B' e' s' v' n' xs') (hne:e≠e'):v.ownBlock=none∨v.ownBlock≠v'.ownBlock:=by
 rcases h.2 with⟨rfl,_⟩ | ⟨g,cap,cur,rfl,_,hg,_⟩
 ·exact Or.inl rfl
 ·rcases h'.2 with⟨rfl,_⟩ | ⟨g',cap',cur',rfl,_,hg',_⟩
  ·right;simp [Value.ownBlock]
  ·right
   intro e1;simp only [Value.ownBlock,Option.some.injEq]at e1;subst e1;rw [hg]at hg';simp only [Option.some.injEq,Obj.cells.injEq]at hg';exact hne hg'.2.1
theorem GJ {W:World} {B g:Nat} {e:TypeId} {size:Nat} (hB:B≤W.heap.size) (hg:g=W.heap.size):(W.alloc (.cells #[] e)).ownsRow B e size (.slice (some ⟨g,0,none⟩) 0 0) 0 []:=by
 subst hg;exact World.ownsRow_made W #[] 0 hB (Nat.zero_le _) (by simp)
theorem Qrc {a b:World} (row:Option Nat) (hb:Below a.heap.size a b):a.grownBy b row:=⟨hb.os,hb.tape,hb.output,hb.size,fun q hq _=>hb.block q hq⟩
end Go.Proofs.YtbdhinckiccniaaGreatDoor
