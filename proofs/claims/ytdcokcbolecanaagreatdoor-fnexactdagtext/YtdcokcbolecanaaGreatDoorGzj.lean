import Derived.Test.YtdcokcbolecanaaGreatDoorMn
import Derived.Test.YtdcokcbolecanaaGreatDoorGaa
import Derived.Deep.RegionHeld3
import Derived.Deep.RegionWith
import Derived.Deep.DeepCutAuto
import Derived.Deep.AppendLies
import Derived.Deep.QuietTactic
import Derived.BigQuiet
import Derived.Laws.BytesString
import Derived.Test.YtdcokcbolecanaaGreatDoorGze
set_option linter.unusedSimpArgs false
set_option linter.unusedVariables false
set_option maxHeartbeats 4000000
set_option maxRecDepth 100000
namespace Go.Proofs.YtdcokcbolecanaaGreatDoor
open Go.RowKit
def Jk {α:Type} (f:α→List Value) (L:List α):List Value:=L.flatMap f
theorem Qlg {α:Type} (f:α→List Value) (L:List α) (x:α):Jk f (L++ [x])=Jk f L++f x:=by simp [Jk]
theorem Dl {α:Type} {f:α→List Value} {k:Nat} (hk: ∀x,(f x).length=k): ∀L:List α,(Jk f L).length=L.length*k
 | []=>by simp [Jk]
 | x::L=>by
  have h:=Dl hk L;simp only [Jk,List.flatMap_cons,List.length_append,List.length_cons]at h ⊢;rw [h,hk,Nat.add_mul];omega
theorem Nj {α:Type} {f:α→List Value} {k:Nat} (hk: ∀x,(f x).length=k) (j:Nat) (hj:j<k): ∀(L:List α) (i:Nat),(Jk f L)[i*k+j]? =(L[i]?).bind (fun x=>(f x)[j]?)
 | [],i=>by simp [Jk]
 | x::L,0=>by
  simp only [Jk,List.flatMap_cons,Nat.zero_mul,Nat.zero_add,List.getElem?_cons_zero,Option.bind_some];rw [List.getElem?_append_left (by rw [hk];exact hj)]
 | x::L,i+1=>by
  have h:=Nj hk j hj L i;simp only [Jk,List.flatMap_cons,List.getElem?_cons_succ]at h ⊢;rw [List.getElem?_append_right (by rw [hk,Nat.add_mul];omega),hk,←h];congr 1
  rw [Nat.add_mul];omega
def RowAt {α:Type} (k:Nat) (f:α→List Value) (W:World) (A:Option Addr) (L:List α):Prop:=
 L.length≤maxLen∧ ∀i x,L[i]? =some x→ ∃b o,A=some ⟨b,o,none⟩∧b<W.heap.size∧ ∀j v,(f x)[j]? =some v→W.cell? ⟨b,o+i*k+j,none⟩=some v
theorem RowAt.below {α:Type} {k:Nat} {f:α→List Value} {W W':World} {A:Option Addr} {L:List α} (h:RowAt k f W A L) (hb:Below W.heap.size W W'):RowAt k f W' A L:=
 ⟨h.1,fun i x hx=>by
  obtain⟨b,o,e,hl,hc⟩:=h.2 i x hx
  exact⟨b,o,e,Nat.lt_of_lt_of_le hl hb.size,fun j v hv=>(hb.cell (p:=⟨b,_,none⟩) hl).trans (hc j v hv)⟩⟩
theorem RowAt.of_own {α:Type} {k:Nat} {f:α→List Value} (hk: ∀x,(f x).length=k) {W:World} {B n:Nat} {e:TypeId} {A:Option Addr} {cap:Nat} {L:List α} (h:W.ownsRow B e k (.slice A n cap) n (Jk f L)) (hn:L.length=n):RowAt k f W A L:=by
 subst hn;obtain⟨A',cap',e,hn,hc⟩:=Qo h;cases e
 refine⟨hn,fun i x hx=> ?_⟩;have hi:i<L.length:=(List.getElem?_eq_some_iff.1 hx).1;by_cases h0:k=0
 ·subst h0;have:L.length*0=0:=by omega
  rcases h.2 with⟨e1,e2⟩ | ⟨g,cap2,cur,e1,hb,hg,_⟩
  ·rw [e2]at hi;omega
  ·cases e1
   exact⟨g,0,rfl,(Array.getElem?_eq_some_iff.1 hg).1,fun j v hv=>by have:=(List.getElem?_eq_some_iff.1 hv).1;have:=hk x;omega⟩
 have hm:i*k+0<L.length*k:=by
  have:(i+1)*k≤L.length*k:=Nat.mul_le_mul_right _ hi;rw [Nat.add_mul]at this;omega
 obtain⟨g,rfl,_,hl,_,_⟩:=hc _ hm;refine⟨g,0,rfl,hl,fun j v hv=> ?_⟩;have hj:j<k:=by rw [←hk x];exact(List.getElem?_eq_some_iff.1 hv).1
 have hm:i*k+j<L.length*k:=by
  have:(i+1)*k≤L.length*k:=Nat.mul_le_mul_right _ hi;rw [Nat.add_mul]at this;omega
 obtain⟨g1,e1,_,_,c1,_⟩:=hc _ hm;cases e1
 rw [Nat.zero_add,c1,Nj hk j hj,hx];exact hv
theorem Qg5 {α:Type} {k:Nat} {f:α→List Value} (hk: ∀x,(f x).length=k) {W:World} {B g n cap t:Nat} {e:TypeId} {ys:List Value} {L:List α} {x:α} (h:W.ownsRow B e k (.slice (some ⟨g,0,none⟩) n cap) n ys) (hL:L.length=n) (hx:L[t]? =some x)
  (hy: ∀j,j<t*k→ys[j]? =(Jk f L)[j]?):
  ∃zs,(Ui W g (t*k) (f x)).ownsRow B e k (.slice (some ⟨g,0,none⟩) n cap) n zs∧(∀j,j<(t+1)*k→zs[j]? =(Jk f L)[j]?)∧W.grownBy (Ui W g (t*k) (f x)) (some g):=by
 obtain⟨o1,g1⟩:=MZ (f x) W (t*k) ys h;refine⟨_,o1,fun j hj=> ?_,g1⟩;by_cases hlt:j<t*k
 ·rw [Xj _ _ _ _ hlt];exact hy j hlt
 ·obtain⟨i,rfl⟩: ∃i,j=t*k+i:=⟨j-t*k,by omega⟩;have hi:i<k:=by rw [Nat.add_mul]at hj;omega
  have ht:t<L.length:=(List.getElem?_eq_some_iff.1 hx).1;have hl:=h.1;have hm:(t+1)*k≤n*k:=Nat.mul_le_mul_right _ (by omega);rw [Nat.add_mul]at hm;rw [Jd _ _ _ _ (by rw [hk];exact hi) (by rw [hk,hl];omega),Nj hk i hi,hx];rfl
theorem Qh8 {α:Type} {k:Nat} {f:α→List Value} (hk: ∀x,(f x).length=k) {L:List α} {n:Nat} {ys:List Value} (hl:ys.length=n*k) (hL:L.length=n) (hy: ∀j,j<n*k→ys[j]? =(Jk f L)[j]?):ys=Jk f L:=
 EA (n:=n*k) hl (by rw [Dl hk,hL]) hy
theorem ZF {α:Type} {L:List α} {n t:Nat} (hL:L.length=n) (ht:t<n): ∃x,L[t]? =some x:=⟨_,List.getElem?_eq_getElem (by omega)⟩
theorem Qli {α:Type} {k:Nat} {f:α→List Value} {W:World} {A:Option Addr} {L:List α} (h:RowAt k f W A L) {i:Nat} {x:α} (hx:L[i]? =some x):x∈L:=List.mem_of_getElem? hx
theorem Qmp (W:World) (b:Nat) (v:Int) (hv:W.cell? ⟨b,0,none⟩=some (.int .u8 v)):
  (convert 69 9 (.slice (some ⟨b,0,none⟩) 1 1)).run Tryz.prog W= .ok (.string ⟨#[UInt8.ofNat v.toNat]⟩) W:=by
 rw [run_convert_bytes_string W 69 9 5 (some ⟨b,0,none⟩) 1 1 Tryz.underlying69 Tryz.underlying5 Tryz.underlying9]
 have hl:=run_loadCells_list (P:=Tryz.prog) W ⟨b,0,none⟩ [.int .u8 v] (fun j x hj=>by
  match j,hj with
  | 0,hj=>simp at hj;simpa [Addr.add,←hj]using hv)
 rw [run_bytesToString W ⟨b,0,none⟩ 1 1 [v] (by simpa using hl)];rfl
theorem conv1 (W:World) (v:Int):(convert 69 9 (.slice (some ⟨W.heap.size,0,none⟩) 1 1)).run Tryz.prog (W.alloc (.cells #[.int .u8 v] 5))=
  .ok (.string ⟨#[UInt8.ofNat v.toNat]⟩) (W.alloc (.cells #[.int .u8 v] 5)):=Qmp _ _ v (by simp)
def Ex (m:Nat) (s:ByteArray):ByteArray:=if h:m=0 then s else Ex (m/10) ((⟨#[48+UInt8.ofNat (m%10)]⟩:ByteArray)++s)
 termination_by m
 decreasing_by omega
def mtx (k:Int):ByteArray:=(⟨#[109]⟩:ByteArray)++Ex k.toNat ⟨#[]⟩
theorem Qa4 (s:ByteArray):Ex 0 s=s:=by rw [Ex];rfl
theorem Qa5 {m:Nat} (h:m≠0) (s:ByteArray):Ex m s=Ex (m/10) ((⟨#[48+UInt8.ofNat (m%10)]⟩:ByteArray)++s):=by
 rw [Ex,dif_neg h]
theorem Qa6 (m:Nat): ∀s:ByteArray,(Ex m s).size≤s.size+m:=by
 induction m using Nat.strongRecOn with
 | ind m ih=>
  intro s;by_cases h:m=0
  ·subst h;rw [Qa4];omega
  ·rw [Qa5 h];have h1:=ih (m/10) (by omega) ((⟨#[48+UInt8.ofNat (m%10)]⟩:ByteArray)++s);rw [ByteArray.size_append]at h1;have h2:(⟨#[48+UInt8.ofNat (m%10)]⟩:ByteArray).size=1:=rfl;omega
theorem Qln {k:Int} (h:k≤1099511627776000):(mtx k).size≤maxLen:=by
 unfold mtx;rw [ByteArray.size_append];have h1:=Qa6 k.toNat ⟨#[]⟩;have h2:(⟨#[109]⟩:ByteArray).size=1:=rfl;have h3:(⟨#[]⟩:ByteArray).size=0:=rfl;unfold maxLen;omega
def mkL {α:Type} (mk:Int→α) (k:Nat) (k0:Int) (n:Nat):List α:=(List.range n).map fun(i:Nat)=>mk (k0+(i:Int)*(k:Int))
theorem Qmu {α:Type} (mk:Int→α) (k:Nat) (k0:Int) (n:Nat):(mkL mk k k0 n).length=n:=by simp [mkL]
theorem mkL_at {α:Type} (mk:Int→α) (k:Nat) (k0:Int) (n t:Nat) (h:t<n):(mkL mk k k0 n)[t]? =some (mk (k0+(t:Int)*k)):=by simp [mkL,h]
theorem own_ne {W W':World} {B B':Nat} {e e':TypeId} {s s' n n':Nat} {v v':Value} {xs xs':List Value} (h:W.ownsRow B e s v n xs) (h':W'.ownsRow B' e' s' v' n' xs') (hb:W.heap.size≤B'):v.ownBlock=none∨v.ownBlock≠v'.ownBlock:=by
 cases hv:v.ownBlock with
 | none=>exact Or.inl rfl
 | some g=>
  right
  intro e;have h1:=(h.lt g hv).2;have h2:=(h'.lt g e.symm).1;omega
theorem Qmt {W W':World} {B B':Nat} {e e':TypeId} {s s' n n':Nat} {v v':Value} {xs xs':List Value} (h:W.ownsRow B e s v n xs) (h':W'.ownsRow B' e' s' v' n' xs') (hb:W'.heap.size≤B):v.ownBlock=none∨v.ownBlock≠v'.ownBlock:=by
 cases hv:v.ownBlock with
 | none=>exact Or.inl rfl
 | some g=>
  right
  intro e;have h1:=(h.lt g hv).1;have h2:=(h'.lt g e.symm).2;omega
theorem Qle {W:World} {B B':Nat} {e e':TypeId} {s s' n n':Nat} {v v':Value} {xs xs':List Value} (h:W.ownsRow B e s v n xs) (h':W.ownsRow B' e' s' v' n' xs') (hne:e≠e'):v.ownBlock=none∨v.ownBlock≠v'.ownBlock:=by
 rcases h.2 with⟨rfl,_⟩ | ⟨g,cap,cur,rfl,_,hg,_⟩
 ·exact Or.inl rfl
 ·rcases h'.2 with⟨rfl,_⟩ | ⟨g',cap',cur',rfl,_,hg',_⟩
  ·right;simp [Value.ownBlock]
  ·right
   intro e1;simp only [Value.ownBlock,Option.some.injEq]at e1;subst e1;rw [hg]at hg';simp only [Option.some.injEq,Obj.cells.injEq]at hg';exact hne hg'.2.1
theorem Qlf {W:World} {B g:Nat} {e:TypeId} {size:Nat} (hB:B≤W.heap.size) (hg:g=W.heap.size):(W.alloc (.cells #[] e)).ownsRow B e size (.slice (some ⟨g,0,none⟩) 0 0) 0 []:=by
 subst hg;exact World.ownsRow_made W #[] 0 hB (Nat.zero_le _) (by simp)
theorem Qiq {a b:World} (row:Option Nat) (hb:Below a.heap.size a b):a.grownBy b row:=⟨hb.os,hb.tape,hb.output,hb.size,fun q hq _=>hb.block q hq⟩
structure BR where
 n:ByteArray
 h:Int
def brL (x:BR):List Value:= [.string x.n,.int .i64 x.h]
theorem Nq (x:BR):(brL x).length=2:=rfl
abbrev ZT (W:World) (A:Option Addr) (L:List BR):Prop:=RowAt 2 brL W A L
def UF (x:BR):Prop:=x.n.size≤maxLen
def VF (x:BR):Prop:=x.n.size≤1048576
theorem Qm0 {x:BR} (h:VF x):UF x:=by
 unfold VF at h;unfold UF maxLen;omega
theorem Qko:(Tryz.prog.info? 40).map (fun i=>(i.zero,i.size,i.bytes))=some (some (.agg #[.string ⟨#[]⟩,.int .i64 0]),2,24):=by kernel_rfl
theorem Ut (x:BR) (l:Int) (w:World) (hx:UF x) (h0:0≤l) (h1:l≤1048576):Calls Tryz.prog 24 #[.agg #[.string x.n,.int .i64 x.h],.int .i64 l] w fun e w'=>
  ∃z:Int,e= .returned (.int .i64 z)∧z≤l∧(0≤z→VF x)∧Below w.heap.size w w':=by
 unfold UF maxLen at hx;unfold VF;by_cases hz0:l-(x.n.size:Int)<0
 ·go_enter Tryz.func24,Tryz.ntmps24;go_wp2_with fail
  go_ret;exact⟨_,rfl,by omega,fun h=>by omega,by go_grown⟩
 ·go_enter Tryz.func24,Tryz.ntmps24;go_wp2_with fail
  go_ret;exact⟨_,rfl,by omega,fun h=>by omega,by go_grown⟩
theorem Ur (x:BR) (w:World):Calls Tryz.prog 32 #[.agg #[.string x.n,.int .i64 x.h]] w fun e w'=>
  e= .returned (.agg #[.string x.n,.int .i64 x.h])∧Below w.heap.size w w':=by
 go_enter Tryz.func32,Tryz.ntmps32;go_wp2_with fail
 refine bodyPost_ret (v:= .agg #[.string x.n,.int .i64 x.h]) ?_ rfl ⟨rfl,by go_grown⟩;simp (maxDischargeDepth:=9) [results,Tryz.results32,go_sem, *]
theorem Uv (x:BR) (w:World):Calls Tryz.prog 43 #[.agg #[.string x.n,.int .i64 x.h],.agg #[.string x.n,.int .i64 x.h]] w fun e w'=>
  e= .returned (.bool true)∧Below w.heap.size w w':=by
 go_enter Tryz.func43,Tryz.ntmps43;go_wp2_with fail
 go_ret;exact⟨rfl,by go_grown⟩
theorem Hm {A:Option Addr} {n cap:Nat} {L:List BR} (l:Int) (w:World) (h:ZT w A L) (hL:L.length=n) (hx: ∀x∈L,UF x) (h0:0≤l) (h1:l≤1048576):
  Calls Tryz.prog 10 #[.slice A n cap,.int .i64 l] w fun e w'=> ∃z:Int,e= .returned (.int .i64 z)∧z≤l∧(0≤z→n≤1048576∧ ∀x∈L,VF x)∧Below w.heap.size w w':=by
 have HR:Hid (ZT w A L):=h;have HX:Hid (∀x∈L,UF x):=hx;have HL:Hid (L.length=n):=hL;have hm:=h.1;rw [hL]at hm;unfold maxLen at hm;clear h hx hL
 by_cases hbig:l-(n:Int)<0
 ·go_enter Tryz.func10,Tryz.ntmps10;go_wp2_with fail
  go_ret;exact⟨-1,rfl,by omega,fun h=>by omega,by go_grown⟩
 ·go_enter Tryz.func10,Tryz.ntmps10;go_wp2_with fail
  go_loopw [1,5] (fun q i wr=> ∃(t:Nat) (z:Int),t≤n∧i= .int .i64 t∧q= .int .i64 z∧0≤z∧z≤l∧(∀j x,j<t→L[j]? =some x→VF x)∧Below w.heap.size w wr) (fun _ i _=>n-(intOf i).toNat)
  case atStart=>exact⟨0,_,Nat.zero_le _,rfl,rfl,by omega,by omega,fun j x hj=>by omega,Below.refl _ _⟩
  case round=>
   obtain⟨t,z,ht,rfl,rfl,z0,z1,hsm,hbel⟩:=hrel;have HS:Hid (∀j x,j<t→L[j]? =some x→VF x):=hsm;clear hsm;by_cases hlt:t<n
   ·obtain⟨x,hx⟩:=ZF HL.out hlt;have HXT:Hid (L[t]? =some x):=hx;obtain⟨b,o,rfl,hl,hc⟩:=HR.out.2 t x hx;clear hx;have c0:w.cell? ⟨b,o+t*2,none⟩=some (.string x.n):=hc 0 _ rfl;have c1:w.cell? ⟨b,o+t*2+1,none⟩=some (.int .i64 x.h):=hc 1 _ rfl;clear hc
    rw [←hbel.cell (p:=⟨_,_,none⟩) hl]at c0 c1;have q0:(0:Int)≤(t:Int):=by omega
    have q1:(t:Int)<(n:Int):=by omega
    have HB:Hid (Below w.heap.size w wr):=hbel;clear hbel;go_wp2_with fail
    refine(Ut x _ _ (HX.out x (List.mem_of_getElem? HXT.out)) z0 (by omega)).mono ?_;rintro e w2 ⟨y,rfl,hy,hlil,hb⟩;have HB2:=hd (Qb HB.out hb);have HLI:Hid (0≤y→VF x):=hlil;clear hb c0 c1 hlil;by_cases hz:y<0
    ·go_wp2_with fail
     go_ret;exact⟨_,rfl,by omega,fun h=>by omega,HB2.out⟩
    ·go_wp2_with fail
     go_roundw
     case rel=>exact⟨t+1,_,by omega,by go_num,rfl,by omega,by omega,fun j u hj hu=>by
      by_cases e:j=t
      ·subst e;rw [HXT.out]at hu;cases hu;exact HLI.out (by omega)
      ·exact HS.out j u (by omega) hu,HB2.out⟩
     case measure=>simp [intOf];omega
   ·have q1: ¬(t:Int)<(n:Int):=by omega
    obtain rfl:t=n:=by omega
    go_wp2_with fail
    go_ret
    exact⟨_,rfl,by omega,fun h=>⟨by omega,fun x hx=>by
     obtain⟨j,hj,e⟩:=List.getElem_of_mem hx
     exact HS.out j x (by rw [←HL.out];exact hj) (by rw [List.getElem?_eq_getElem hj,e])⟩,hbel⟩
theorem Ho {A A':Option Addr} {n n' cap cap':Nat} {L:List BR} (w:World) (h:ZT w A L) (h':ZT w A' L) (hL:L.length=n) (hL':L.length=n'):
  Calls Tryz.prog 22 #[.slice A n cap,.slice A' n' cap'] w fun e w'=>e= .returned (.bool true)∧Below w.heap.size w w':=by
 obtain rfl:n=n':=hL.symm.trans hL';clear hL';have HR:Hid (ZT w A L):=h;have HR':Hid (ZT w A' L):=h';have HL:Hid (L.length=n):=hL;have hn:=h.1;rw [hL]at hn
 unfold maxLen at hn;clear h h' hL;go_enter Tryz.func22,Tryz.ntmps22;go_wp2_with fail
 go_loopw [5] (fun i wr=> ∃k:Nat,k≤n∧i= .int .i64 k∧Below w.heap.size w wr) (fun i _=>n-(intOf i).toNat)
 case atStart=>exact⟨0,Nat.zero_le _,rfl,Below.refl _ _⟩
 case round=>
  obtain⟨t,hk,rfl,hbel⟩:=hrel;by_cases hlt:t<n
  ·obtain⟨x,hx⟩:=ZF HL.out hlt;obtain⟨b',o',rfl,hl',hc⟩:=HR'.out.2 t x hx;have d0:w.cell? ⟨b',o'+t*2,none⟩=some (.string x.n):=hc 0 _ rfl;have d1:w.cell? ⟨b',o'+t*2+1,none⟩=some (.int .i64 x.h):=hc 1 _ rfl;clear hc;obtain⟨b,o,rfl,hl,hc⟩:=HR.out.2 t x hx;have c0:w.cell? ⟨b,o+t*2,none⟩=some (.string x.n):=hc 0 _ rfl
   have c1:w.cell? ⟨b,o+t*2+1,none⟩=some (.int .i64 x.h):=hc 1 _ rfl;clear hc hx;have hs:=hbel.size;have hW:=fun b o h=>hbel.cell (p:=⟨b,o,none⟩) h;have h0:(0:Int)≤(t:Int):=by omega
   have h1:(t:Int)<(n:Int):=by omega
   go_wp2_with fail
   go_region_held3 (fun w'=>(∀bq oq,bq<w.heap.size→w'.cell? ⟨bq,oq,none⟩=w.cell? ⟨bq,oq,none⟩)∧w.heap.size≤w'.heap.size∧Below w.heap.size w w')
    (exact Qk (Nat.le_refl _) (by go_grown))
    (first
    | (go_at_call 43;refine(Uv x _).mono ?_;rintro e w1 ⟨rfl,hb⟩;obtain⟨hk1,hz1⟩:=Qe (B:=w.heap.size) (X:=w) (by go_grown) (by go_size) hb;clear hb))
   all_goals go_wp2_with fail
   all_goals
    go_roundw
    case rel=>exact⟨t+1,by omega,by go_num,by go_grown⟩
    case measure=>simp [intOf];omega
  ·have h1: ¬(t:Int)<(n:Int):=by omega
   go_wp2_with fail
   go_ret;exact⟨rfl,hbel⟩
theorem Hk {A:Option Addr} {n cap:Nat} {L:List BR} (w:World) (h:ZT w A L) (hL:L.length=n) (hn:n≤1048576):
  Calls Tryz.prog 15 #[.slice A n cap] w fun e w'=> ∃v,e= .returned v∧w'.ownsRow w.heap.size 40 2 v n (Jk brL L)∧Below w.heap.size w w':=by
 have HR:Hid (ZT w A L):=h;have HL:Hid (L.length=n):=hL;clear h hL;obtain⟨i0,hi,hz0,hz1,hz2⟩:=info_parts Qko;go_enter Tryz.func15,Tryz.ntmps15;go_wp2_with (refine wpList_make_full _ rfl _ _ 29 rfl w.heap.size 40 i0 _ 2 Tryz.underlying29 hi hz0 hz1 _ _ _ _ n rfl rfl rfl rfl ?m1 ?m2 ?m3 ?_)
 case m1=>rw [hz2];omega
 case m2=>unfold maxLen;omega
 case m3=>exact Nat.le_refl _
 intro w1 hown hgrow;have hg1:Below w.heap.size w w1:=(Below.refl _ _).grown hgrow (Nat.le_refl _) (fun k hk=>by cases hk);obtain⟨ys,hown⟩: ∃ys,w1.ownsRow w.heap.size 40 2 (.slice (some ⟨w.heap.size,0,none⟩) n n) n ys:=⟨_,hown⟩;clear hgrow;have HO:Hid (w1.ownsRow w.heap.size 40 2 (.slice (some ⟨w.heap.size,0,none⟩) n n) n ys):=hown;clear hown;go_wp2_with fail
 go_loopw [4] (fun i wr=> ∃t:Nat,t≤n∧i= .int .i64 t∧(∃ys,wr.ownsRow w.heap.size 40 2 (.slice (some ⟨w.heap.size,0,none⟩) n n) n ys∧ ∀j,j<t*2→ys[j]? =(Jk brL L)[j]?)∧Below w.heap.size w wr) (fun i _=>n-(intOf i).toNat)
 case atStart=>exact⟨0,Nat.zero_le _,rfl,⟨ys,HO.out,fun j hj=>by omega⟩,hg1⟩
 case round=>
  clear HO hg1;obtain⟨t,ht,rfl,⟨ys,hown,hys⟩,hbel⟩:=hrel;by_cases hlt:t<n
  ·obtain⟨x,hx⟩:=ZF HL.out hlt;have HXT:Hid (L[t]? =some x):=hx;obtain⟨b,o,rfl,hl,hc⟩:=HR.out.2 t x hx;clear hx;have c0:w.cell? ⟨b,o+t*2,none⟩=some (.string x.n):=hc 0 _ rfl;have c1:w.cell? ⟨b,o+t*2+1,none⟩=some (.int .i64 x.h):=hc 1 _ rfl;clear hc
   rw [←hbel.cell (p:=⟨_,_,none⟩) hl]at c0 c1;have q0:(0:Int)≤(t:Int):=by omega
   have q1:(t:Int)<(n:Int):=by omega
   have HO:Hid (wr.ownsRow w.heap.size 40 2 (.slice (some ⟨w.heap.size,0,none⟩) n n) n ys):=hown;have HY:Hid (∀j,j<t*2→ys[j]? =(Jk brL L)[j]?):=hys;have HB:Hid (Below w.heap.size w wr):=hbel;clear hown hys hbel;go_wp2_with fail
   refine(Ur x _).mono ?_;rintro e w2 ⟨rfl,hb⟩;have HO2:=hd (Ql HO.out hb);have HB2:=hd (Qb HB.out hb);obtain⟨A',cap',e,_,hc⟩:=Qo HO2.out;cases e
   obtain⟨g0,e0,_,hg,d0,f0⟩:=hc (t*2) (by omega);cases e0
   obtain⟨g1,e1,_,_,d1,f1⟩:=hc (t*2+1) (by omega);cases e1
   clear hc hb c0 c1 HO HB;have hl4:=HO2.out.1;obtain⟨x0,y0⟩: ∃x,ys[t*2]? =some x:=⟨_,List.getElem?_eq_getElem (by omega)⟩;rw [y0]at d0;obtain⟨x1,y1⟩: ∃x,ys[t*2+1]? =some x:=⟨_,List.getElem?_eq_getElem (by omega)⟩;rw [y1]at d1;clear y0 y1 hl4
   have HT:Hid (∃zs,(((w2.setCell ⟨w.heap.size,t*2,none⟩ (.string x.n)).setCell ⟨w.heap.size,t*2+1,none⟩ (.int .i64 x.h))).ownsRow w.heap.size 40 2 (.slice (some ⟨w.heap.size,0,none⟩) n n) n zs∧
    (∀j,j<(t+1)*2→zs[j]? =(Jk brL L)[j]?)∧w2.grownBy (((w2.setCell ⟨w.heap.size,t*2,none⟩ (.string x.n)).setCell ⟨w.heap.size,t*2+1,none⟩ (.int .i64 x.h))) (some w.heap.size)):=Qg5 Nq HO2.out HL.out HXT.out HY.out
   clear HO2 HY;go_wp2_with fail
   all_goals
    go_roundw
    case rel=>
     obtain⟨zs,z1,z2,z3⟩:=HT.out;exact⟨t+1,by omega,by simp,⟨zs,z1,fun j hj=>z2 j (by omega)⟩,HB2.out.grown z3 HB2.out.size (fun k hk=>by cases hk;exact Nat.le_refl _)⟩
    case measure=>simp [intOf];omega
  ·have q1: ¬(t:Int)<(n:Int):=by omega
   obtain rfl:t=n:=by omega
   go_wp2_with fail
   go_ret;exact⟨_,rfl,by rw [Qh8 Nq hown.1 HL.out hys]at hown;exact hown,hbel⟩
structure VR where
 id:Int
 ups:List Int
 m:Nat
 C:Nat→Int
 R:Nat→Int
 S:Nat→ByteArray
def VrRow (W:World) (A:Option Addr) (L:List VR):Prop:=
 L.length≤maxLen∧ ∀(i:Nat) x,L[i]? =some x→ ∃b o u uc s sc,A=some ⟨b,o,none⟩∧b<W.heap.size∧W.cell? ⟨b,o+i*3,none⟩=some (.int .i64 x.id)∧W.cell? ⟨b,o+i*3+1,none⟩=some (.slice u x.ups.length uc)∧
  W.cell? ⟨b,o+i*3+2,none⟩=some (.slice s x.m sc)∧IntRow W u x.ups∧ClRow W s x.m x.C x.R x.S
theorem VrRow.below {W W':World} {A:Option Addr} {L:List VR} (h:VrRow W A L) (hb:Below W.heap.size W W'):VrRow W' A L:=
 ⟨h.1,fun i x hx=>by
  obtain⟨b,o,u,uc,s,sc,e,hl,c0,c1,c2,h1,h2⟩:=h.2 i x hx
  exact⟨b,o,u,uc,s,sc,e,Nat.lt_of_lt_of_le hl hb.size,(hb.cell (p:=⟨b,_,none⟩) hl).trans c0,(hb.cell (p:=⟨b,_,none⟩) hl).trans c1,(hb.cell (p:=⟨b,_,none⟩) hl).trans c2,h1.below hb,h2.below hb⟩⟩
def JU (x:VR):Prop:=x.ups.length≤1048576∧x.m≤1048576
def Qb2 (x:VR):Prop:=(∀i,i<x.m→(x.S i).size≤maxLen)∧ ∀u∈x.ups,(Lit.int .i64 u).wf=true
theorem Qkm:(Tryz.prog.info? 44).map (fun i=>(i.zero,i.size,i.bytes))=some (some (.agg #[.int .i64 0,.slice none 0 0,.slice none 0 0]),3,56):=by kernel_rfl
theorem Us {A:Option Addr} {n cap:Nat} {C R:Nat→Int} {S:Nat→ByteArray} (lf:Int) (w:World) (h:ClRow w A n C R S) (hl0:0≤lf) (hl1:lf≤1048576):
  Calls Tryz.prog 45 #[.slice A n cap,.int .i64 lf] w fun e w'=> ∃z:Int,e= .returned (.int .i64 z)∧z≤1048576∧(0≤z→n≤1048576)∧Below w.heap.size w w':=by
 have HR:Hid (ClRow w A n C R S):=h;have hm:=h.1;clear h;unfold maxLen at hm;by_cases hbig:lf-(n:Int)<0
 ·go_enter Tryz.func45,Tryz.ntmps45;go_wp2_with fail
  go_ret;exact⟨-1,rfl,by omega,fun h=>by omega,by go_grown⟩
 ·go_enter Tryz.func45,Tryz.ntmps45;go_wp2_with fail
  go_loopw [1,5] (fun l i wr=> ∃(t:Nat) (z:Int),t≤n∧i= .int .i64 t∧l= .int .i64 z∧0≤z∧z≤1048576∧Below w.heap.size w wr) (fun _ i _=>n-(intOf i).toNat)
  case atStart=>exact⟨0,_,Nat.zero_le _,rfl,rfl,by omega,by omega,Below.refl _ _⟩
  case round=>
   obtain⟨t,z,ht,rfl,rfl,z0,z1,hbel⟩:=hrel;by_cases hlt:t<n
   ·obtain⟨b,o,rfl,hl,c0,c1,c2,hs⟩:=HR.out.2 t hlt;rw [←hbel.cell (p:=⟨_,_,none⟩) hl]at c0 c1 c2;have q0:(0:Int)≤(t:Int):=by omega
    have q1:(t:Int)<(n:Int):=by omega
    have HB:Hid (Below w.heap.size w wr):=hbel;clear hbel;go_wp2_with fail
    refine(Km _ _ _ _ _ hs z0 z1).mono ?_;rintro e w2 ⟨rfl,hb⟩;have HB2:=hd (Qb HB.out hb);clear hb c0 c1 c2;have HZ:Hid (szv z (S t).size≤1048576):=by show _≤_;unfold szv;split<;>omega
    by_cases hz:szv z (S t).size<0
    ·go_wp2_with fail
     go_ret;exact⟨_,rfl,by omega,fun h=>by omega,HB2.out⟩
    ·go_wp2_with fail
     go_roundw
     case rel=>exact⟨t+1,_,by omega,by go_num,rfl,by omega,HZ.out,HB2.out⟩
     case measure=>simp [intOf];omega
   ·have q1: ¬(t:Int)<(n:Int):=by omega
    go_wp2_with fail
    go_ret;exact⟨_,rfl,z1,fun h=>by omega,hbel⟩
theorem Hl (d:Int) {u:Option Addr} {n uc:Nat} {s:Option Addr} {m sc:Nat} {C R:Nat→Int} {S:Nat→ByteArray} (l:Int) (w:World) (hn:n≤maxLen) (h:ClRow w s m C R S) (h0:0≤l) (h1:l≤1048576):
  Calls Tryz.prog 23 #[.agg #[.int .i64 d,.slice u n uc,.slice s m sc],.int .i64 l] w fun e w'=> ∃z:Int,e= .returned (.int .i64 z)∧z≤1048576∧(0≤z→n≤1048576∧m≤1048576)∧Below w.heap.size w w':=by
 have HC:Hid (ClRow w s m C R S):=h;have HN:Hid (n≤maxLen):=hn;unfold maxLen at hn;clear h;by_cases hq:l-(n:Int)<0
 ·have hz:szn l n= -1:=by unfold szn;rw [if_pos hq]
  go_enter Tryz.func23,Tryz.ntmps23;go_wp2_with (first | (go_at_call 44;refine(JF _ _ HN.out h0 h1).mono ?_;rintro e w1 ⟨rfl,hw⟩;subst w1;rw [hz]))
  go_ret;exact⟨_,rfl,by omega,fun h=>by omega,by go_grown⟩
 ·have hz:szn l n=l-n:=by unfold szn;rw [if_neg hq]
  go_enter Tryz.func23,Tryz.ntmps23;go_wp2_with (first | (go_at_call 44;refine(JF _ _ HN.out h0 h1).mono ?_;rintro e w1 ⟨rfl,hw⟩;subst w1;rw [hz]))
  refine(Us _ _ (HC.out.below (by go_grown)) (by omega) (by omega)).mono ?_;rintro e w2 ⟨z,rfl,hzl,hzm,hb⟩;have K2:Hid (Below w.heap.size w w2):=Below.trans (by go_grown) (hb.mono (by simp));clear hb;by_cases hneg:z<0
  ·go_wp2_with fail
   go_ret;exact⟨_,rfl,by omega,fun h=>by omega,K2.out⟩
  ·have HM:Hid (m≤1048576):=hzm (by omega);clear hzm;go_wp2_with fail
   go_ret;exact⟨_,rfl,hzl,fun h=>⟨by omega,HM.out⟩,K2.out⟩
theorem Kx {A:Option Addr} {n cap:Nat} {L:List VR} (w:World) (h:VrRow w A L) (hL:L.length=n):
  Calls Tryz.prog 9 #[.slice A n cap,.int .i64 1048576] w fun e w'=> ∃z:Int,e= .returned (.int .i64 z)∧z≤1048576∧(0≤z→n≤1048576∧ ∀x∈L,JU x)∧Below w.heap.size w w':=by
 have HR:Hid (VrRow w A L):=h;have HL:Hid (L.length=n):=hL;have hm:=h.1;rw [hL]at hm;unfold maxLen at hm;clear h hL;by_cases hbig:(1048576:Int)-(n:Int)<0
 ·go_enter Tryz.func9,Tryz.ntmps9;go_wp2_with fail
  go_ret;exact⟨-1,rfl,by omega,fun h=>by omega,by go_grown⟩
 ·go_enter Tryz.func9,Tryz.ntmps9;go_wp2_with fail
  go_loopw [1,5] (fun l i wr=> ∃(t:Nat) (z:Int),t≤n∧i= .int .i64 t∧l= .int .i64 z∧0≤z∧z≤1048576∧(∀(j:Nat) x,j<t→L[j]? =some x→JU x)∧Below w.heap.size w wr) (fun _ i _=>n-(intOf i).toNat)
  case atStart=>exact⟨0,_,Nat.zero_le _,rfl,rfl,by omega,by omega,fun j x hj=>by omega,Below.refl _ _⟩
  case round=>
   obtain⟨t,z,ht,rfl,rfl,z0,z1,hall,hbel⟩:=hrel;have HALL:Hid (∀(j:Nat) x,j<t→L[j]? =some x→JU x):=hall;clear hall;by_cases hlt:t<n
   ·obtain⟨x,hx⟩:=ZF HL.out hlt;have HX:Hid (L[t]? =some x):=hx;obtain⟨b,o,u,uc,s,sc,rfl,hl,c0,c1,c2,r1,r2⟩:=HR.out.2 t x hx;have HU:Hid (x.ups.length≤maxLen):=r1.1;have HC:Hid (ClRow wr s x.m x.C x.R x.S):=(r2.below (hbel.mono (Nat.le_refl _)));clear hx r1 r2;rw [←hbel.cell (p:=⟨_,_,none⟩) hl]at c0 c1 c2
    have q0:(0:Int)≤(t:Int):=by omega
    have q1:(t:Int)<(n:Int):=by omega
    have HB:Hid (Below w.heap.size w wr):=hbel;clear hbel;go_wp2_with fail
    refine(Hl _ _ _ HU.out HC.out z0 z1).mono ?_;rintro e w2 ⟨z',rfl,hz1,hz2,hb⟩;have HB2:=hd (Qb HB.out hb);clear hb c0 c1 c2;by_cases hz:z'<0
    ·go_wp2_with fail
     go_ret;exact⟨_,rfl,by omega,fun h=>by omega,HB2.out⟩
    ·have HY:Hid (JU x):=hz2 (by omega);clear hz2;go_wp2_with fail
     go_roundw
     case rel=>exact⟨t+1,_,by omega,by go_num,rfl,by omega,hz1,fun j y hj hy=>by
      by_cases e:j=t
      ·subst e;rw [HX.out]at hy;cases hy;exact HY.out
      ·exact HALL.out j y (by omega) hy,HB2.out⟩
     case measure=>simp [intOf];omega
   ·have q1: ¬(t:Int)<(n:Int):=by omega
    go_wp2_with fail
    go_ret
    exact⟨_,rfl,z1,fun h=>⟨by omega,fun x hx=>by
     obtain⟨j,hj,rfl⟩:=List.mem_iff_getElem.1 hx
     exact HALL.out j _ (by have:=HL.out;omega) (List.getElem?_eq_getElem hj)⟩,hbel⟩
theorem Jo {W W':World} {B g k s:Nat} {e:TypeId} {v:Value} {xs:List Value} (h:W.ownsRow B e s v k xs) (hg:W.grownBy W' (some g)) (hB:g<B):W'.ownsRow B e s v k xs:=
 h.kept hg (by
  cases hv:v.ownBlock with
  | none=>exact Or.inl rfl
  | some q=>exact Or.inr (fun e9=>by have:=(h.lt q hv).1;cases e9;omega))
def VrPart (W:World) (B:Nat) (ys:List Value) (L:List VR) (t:Nat):Prop:=
 ∀(i:Nat) x,i<t→L[i]? =some x→ ∃u uc s sc,ys[i*3]? =some (.int .i64 x.id)∧ys[i*3+1]? =some (.slice u x.ups.length uc)∧ys[i*3+2]? =some (.slice s x.m sc)∧
  W.ownsRow B 2 1 (.slice u x.ups.length uc) x.ups.length (x.ups.map (Value.int .i64))∧W.ownsRow B 49 3 (.slice s x.m sc) x.m (clX x.C x.R x.S x.m)
theorem VrPart.below {W W':World} {B:Nat} {ys:List Value} {L:List VR} {t:Nat} (h:VrPart W B ys L t) (hb:Below W.heap.size W W'):VrPart W' B ys L t:=fun i x hi hx=>by
 obtain⟨u,uc,s,sc,y0,y1,y2,h1,h2⟩:=h i x hi hx;exact⟨u,uc,s,sc,y0,y1,y2,Ql h1 hb,Ql h2 hb⟩
theorem VrPart.next {W:World} {B g n cap t:Nat} {ys:List Value} {L:List VR} {x:VR} {u s:Option Addr} {uc sc:Nat} (ho:W.ownsRow g 44 3 (.slice (some ⟨g,0,none⟩) n cap) n ys) (ht:t<n) (hB:g<B) (hx:L[t]? =some x) (h:VrPart W B ys L t)
  (h1:W.ownsRow B 2 1 (.slice u x.ups.length uc) x.ups.length (x.ups.map (Value.int .i64))) (h2:W.ownsRow B 49 3 (.slice s x.m sc) x.m (clX x.C x.R x.S x.m)):
  ∃zs,(((W.setCell ⟨g,t*3,none⟩ (.int .i64 x.id)).setCell ⟨g,t*3+1,none⟩ (.slice u x.ups.length uc)).setCell ⟨g,t*3+2,none⟩ (.slice s x.m sc)).ownsRow g 44 3 (.slice (some ⟨g,0,none⟩) n cap) n zs∧
   VrPart (((W.setCell ⟨g,t*3,none⟩ (.int .i64 x.id)).setCell ⟨g,t*3+1,none⟩ (.slice u x.ups.length uc)).setCell ⟨g,t*3+2,none⟩ (.slice s x.m sc)) B zs L (t+1)∧
   W.grownBy (((W.setCell ⟨g,t*3,none⟩ (.int .i64 x.id)).setCell ⟨g,t*3+1,none⟩ (.slice u x.ups.length uc)).setCell ⟨g,t*3+2,none⟩ (.slice s x.m sc)) (some g):=by
 have hl:=ho.1;obtain⟨o1,g1⟩:=MZ [.int .i64 x.id,.slice u x.ups.length uc,.slice s x.m sc] W (t*3) ys ho;refine⟨_,o1,fun i y hi hy=> ?_,g1⟩;by_cases e:i=t
 ·subst e;rw [hx]at hy;cases hy;refine⟨u,uc,s,sc,?_,?_,?_,Jo h1 g1 hB,Jo h2 g1 hB⟩
  ·exact Jd [.int .i64 x.id,.slice u x.ups.length uc,.slice s x.m sc] ys (i*3) 0 (by simp) (by simp;omega)
  ·exact Jd [.int .i64 x.id,.slice u x.ups.length uc,.slice s x.m sc] ys (i*3) 1 (by simp) (by simp;omega)
  ·exact Jd [.int .i64 x.id,.slice u x.ups.length uc,.slice s x.m sc] ys (i*3) 2 (by simp) (by simp;omega)
 ·obtain⟨u',uc',s',sc',y0,y1,y2,k1,k2⟩:=h i y (by omega) hy;exact⟨u',uc',s',sc',(Xj _ _ _ _ (by omega)).trans y0,(Xj _ _ _ _ (by omega)).trans y1,(Xj _ _ _ _ (by omega)).trans y2,Jo k1 g1 hB,Jo k2 g1 hB⟩
theorem Qab {W:World} {g B n cap:Nat} {A:Option Addr} {ys:List Value} {L:List VR} (h:W.ownsRow g 44 3 (.slice A n cap) n ys) (hL:L.length=n) (hp:VrPart W B ys L n) (hok: ∀x∈L,Qb2 x):VrRow W A L:=by
 obtain⟨A',cap',e,hn,hc⟩:=Qo h;cases e
 refine⟨by rw [hL];exact hn,fun i x hx=> ?_⟩;have hi:i<n:=by rw [←hL];exact(List.getElem?_eq_some_iff.1 hx).1
 obtain⟨u,uc,s,sc,y0,y1,y2,h1,h2⟩:=hp i x hi hx;obtain⟨b,e0,_,hl,d0,_⟩:=hc (i*3) (by omega);obtain⟨b1,e1,_,_,d1,_⟩:=hc (i*3+1) (by omega);obtain⟨b2,e2,_,_,d2,_⟩:=hc (i*3+2) (by omega);rw [e0]at e1 e2;cases e1;cases e2
 refine⟨b,0,u,uc,s,sc,e0,hl,?_,?_,?_,Xv h1,Qbo h2 (hok x (List.mem_of_getElem? hx)).1⟩
 ·rw [Nat.zero_add];exact d0.trans y0
 ·rw [Nat.zero_add];exact d1.trans y1
 ·rw [Nat.zero_add];exact d2.trans y2
theorem Hj (x:VR) {u s:Option Addr} {uc sc:Nat} (w:World) (hu:IntRow w u x.ups) (hs:ClRow w s x.m x.C x.R x.S) (hl:JU x):
  Calls Tryz.prog 31 #[.agg #[.int .i64 x.id,.slice u x.ups.length uc,.slice s x.m sc]] w fun e w'=> ∃u' uc' s' sc',e= .returned (.agg #[.int .i64 x.id,.slice u' x.ups.length uc',.slice s' x.m sc'])∧
   w'.ownsRow w.heap.size 2 1 (.slice u' x.ups.length uc') x.ups.length (x.ups.map (Value.int .i64))∧w'.ownsRow w.heap.size 49 3 (.slice s' x.m sc') x.m (clX x.C x.R x.S x.m)∧Below w.heap.size w w':=by
 have HU:Hid (IntRow w u x.ups):=hu;have HS:Hid (ClRow w s x.m x.C x.R x.S):=hs;have HL:Hid (JU x):=hl;clear hu hs hl;go_enter Tryz.func31,Tryz.ntmps31;go_wp2_with fail
 refine(Uq _ (HU.out.below (by go_grown)) HL.out.1).mono ?_;rintro e w8 ⟨v,rfl,ho,hb⟩;obtain⟨KB,kb,rfl,_,_⟩:=Qo ho;have HO:Hid (w8.ownsRow (w.heap.size+3) 2 1 (.slice KB x.ups.length kb) x.ups.length (x.ups.map (Value.int .i64))):=Zd ho (by go_size);obtain⟨hc8,hf8,hC8,hF8,hz8,hk8,l0,l1,l2⟩:=bk3 (w:=w) (by go_grown) (by go_size) hb;clear hb ho;go_wp2_with fail
 refine(ME _ (HS.out.below (by go_grown)) HL.out.2).mono ?_;rintro e w9 ⟨v,rfl,ho,hb⟩;obtain⟨SB,sb,rfl,_,_⟩:=Qo ho;have HO2:Hid (w9.ownsRow (w.heap.size+3) 49 3 (.slice SB x.m sb) x.m (clX x.C x.R x.S x.m)):=Zd ho (by go_size);have HO1:Hid (w9.ownsRow (w.heap.size+3) 2 1 (.slice KB x.ups.length kb) x.ups.length (x.ups.map (Value.int .i64))):=Ql (ownsRow_setCell_below HO.out (by simp) _) hb;obtain⟨hc9,hf9,hC9,hF9,hz9,hk9,m0,m1,m2⟩:=bk3 (w:=w) (by go_grown) (by go_size) hb;clear hb ho HO
 go_wp2_with fail
 refine bodyPost_ret (v:= .agg #[.int .i64 x.id,.slice KB x.ups.length kb,.slice SB x.m sb]) ?_ rfl ⟨KB,kb,SB,sb,rfl,?_,?_,by go_grown⟩
 ·simp (maxDischargeDepth:=9) [results,Tryz.results31,go_sem, *]
 ·refine Zd (B:=w.heap.size+3) ?_ (by omega);repeat (refine ownsRow_setCell_below ?_ (by simp) _)
  exact HO1.out
 ·refine Zd (B:=w.heap.size+3) ?_ (by omega);repeat (refine ownsRow_setCell_below ?_ (by simp) _)
  exact HO2.out
theorem Kw {A:Option Addr} {n cap:Nat} {L:List VR} (w:World) (h:VrRow w A L) (hL:L.length=n) (hn:n≤1048576) (hx: ∀x∈L,JU x):
  Calls Tryz.prog 14 #[.slice A n cap] w fun e w'=> ∃v ys,e= .returned v∧w'.ownsRow w.heap.size 44 3 v n ys∧VrPart w' (w.heap.size+1) ys L n∧Below w.heap.size w w':=by
 have HR:Hid (VrRow w A L):=h;have HL:Hid (L.length=n):=hL;have HX:Hid (∀x∈L,JU x):=hx;clear h hL hx;obtain⟨i0,hi,hz0,hz1,hz2⟩:=info_parts Qkm;go_enter Tryz.func14,Tryz.ntmps14;go_wp2_with (refine wpList_make_full _ rfl _ _ 28 rfl w.heap.size 44 i0 _ 3 Tryz.underlying28 hi hz0 hz1 _ _ _ _ n rfl rfl rfl rfl ?m1 ?m2 ?m3 ?_)
 case m1=>rw [hz2];omega
 case m2=>unfold maxLen;omega
 case m3=>exact Nat.le_refl _
 intro w1 hown hgrow;have hg1:Below w.heap.size w w1:=(Below.refl _ _).grown hgrow (Nat.le_refl _) (fun k hk=>by cases hk);obtain⟨ys,hown⟩: ∃ys,w1.ownsRow w.heap.size 44 3 (.slice (some ⟨w.heap.size,0,none⟩) n n) n ys:=⟨_,hown⟩;have hsz:w.heap.size<w1.heap.size:=(hown.lt _ rfl).2;clear hgrow;have HO:Hid (w1.ownsRow w.heap.size 44 3 (.slice (some ⟨w.heap.size,0,none⟩) n n) n ys):=hown;clear hown
 go_wp2_with fail
 go_loopw [4] (fun i wr=> ∃t:Nat,t≤n∧i= .int .i64 t∧(∃ys,wr.ownsRow w.heap.size 44 3 (.slice (some ⟨w.heap.size,0,none⟩) n n) n ys∧VrPart wr (w.heap.size+1) ys L t)∧w.heap.size<wr.heap.size∧Below w.heap.size w wr) (fun i _=>n-(intOf i).toNat)
 case atStart=>exact⟨0,Nat.zero_le _,rfl,⟨ys,HO.out,fun i x hi=>by omega⟩,hsz,hg1⟩
 case round=>
  clear HO hg1 hsz;obtain⟨t,ht,rfl,⟨ys,hown,hys⟩,hsw,hbel⟩:=hrel;by_cases hlt:t<n
  ·obtain⟨x,hx⟩:=ZF HL.out hlt;have HXT:Hid (L[t]? =some x):=hx;have HXL:Hid (JU x):=HX.out x (List.mem_of_getElem? hx);obtain⟨b,o,u,uc,s,sc,rfl,hl,c0,c1,c2,r1,r2⟩:=HR.out.2 t x hx;have R1:Hid (IntRow wr u x.ups):=r1.below hbel;have R2:Hid (ClRow wr s x.m x.C x.R x.S):=r2.below hbel;clear hx r1 r2
   rw [←hbel.cell (p:=⟨_,_,none⟩) hl]at c0 c1 c2;have q0:(0:Int)≤(t:Int):=by omega
   have q1:(t:Int)<(n:Int):=by omega
   have HO:Hid (wr.ownsRow w.heap.size 44 3 (.slice (some ⟨w.heap.size,0,none⟩) n n) n ys):=hown;have HY:Hid (VrPart wr (w.heap.size+1) ys L t):=hys;have HB:Hid (Below w.heap.size w wr):=hbel;have HSW:Hid (w.heap.size<wr.heap.size):=hsw;clear hown hys hbel hsw;go_wp2_with fail
   refine(Hj x _ R1.out R2.out HXL.out).mono ?_;rintro e w2 ⟨u2,uc2,s2,sc2,rfl,k1,k2,hb⟩;have HSW2:Hid (w.heap.size<w2.heap.size):=Nat.lt_of_lt_of_le HSW.out hb.size;have HO2:=hd (Ql HO.out hb);have HB2:=hd (Qb HB.out hb);have HY2:=hd (HY.out.below hb);have HK1:=hd (Zd k1 HSW.out)
   have HK2:=hd (Zd k2 HSW.out);obtain⟨A',cap',e,_,hc⟩:=Qo HO2.out;cases e
   obtain⟨g0,e0,_,hg,d0,f0⟩:=hc (t*3) (by omega);cases e0
   obtain⟨g1,e1,_,_,d1,f1⟩:=hc (t*3+1) (by omega);cases e1
   obtain⟨g2,e2,_,_,d2,f2⟩:=hc (t*3+2) (by omega);cases e2
   clear hc hb c0 c1 c2 HO HB HY k1 k2;have hl4:=HO2.out.1;obtain⟨x0,y0⟩: ∃x,ys[t*3]? =some x:=⟨_,List.getElem?_eq_getElem (by omega)⟩;rw [y0]at d0;obtain⟨x1,y1⟩: ∃x,ys[t*3+1]? =some x:=⟨_,List.getElem?_eq_getElem (by omega)⟩;rw [y1]at d1;obtain⟨x2,y2⟩: ∃x,ys[t*3+2]? =some x:=⟨_,List.getElem?_eq_getElem (by omega)⟩
   rw [y2]at d2;clear y0 y1 y2 hl4;have HT:=VrPart.next HO2.out hlt (Nat.lt_succ_self _) HXT.out HY2.out HK1.out HK2.out
   have HTT:Hid (∃zs,(((w2.setCell ⟨w.heap.size,t*3,none⟩ (.int .i64 x.id)).setCell ⟨w.heap.size,t*3+1,none⟩ (.slice u2 x.ups.length uc2)).setCell ⟨w.heap.size,t*3+2,none⟩ (.slice s2 x.m sc2)).ownsRow w.heap.size 44 3 (.slice (some ⟨w.heap.size,0,none⟩) n n) n zs∧
    VrPart (((w2.setCell ⟨w.heap.size,t*3,none⟩ (.int .i64 x.id)).setCell ⟨w.heap.size,t*3+1,none⟩ (.slice u2 x.ups.length uc2)).setCell ⟨w.heap.size,t*3+2,none⟩ (.slice s2 x.m sc2)) (w.heap.size+1) zs L (t+1)∧
    w2.grownBy (((w2.setCell ⟨w.heap.size,t*3,none⟩ (.int .i64 x.id)).setCell ⟨w.heap.size,t*3+1,none⟩ (.slice u2 x.ups.length uc2)).setCell ⟨w.heap.size,t*3+2,none⟩ (.slice s2 x.m sc2)) (some w.heap.size)):=HT
   clear HT HO2 HY2 HK1 HK2;go_wp2_with fail
   all_goals
    go_roundw
    case rel=>
     obtain⟨zs,z1,z2,z3⟩:=HTT.out;exact⟨t+1,by omega,by simp,⟨zs,z1,z2⟩,by simpa using HSW2.out,HB2.out.grown z3 HB2.out.size (fun k hk=>by cases hk;exact Nat.le_refl _)⟩
    case measure=>simp [intOf];omega
  ·have q1: ¬(t:Int)<(n:Int):=by omega
   obtain rfl:t=n:=by omega
   go_wp2_with fail
   go_ret;exact⟨_,rfl,_,hown,hys,hbel⟩
end Go.Proofs.YtdcokcbolecanaaGreatDoor
