import Derived.Test.YtojadpoabbhphaaGreatDoorKb
import Derived.Test.YtojadpoabbhphaaGreatDoorGze
import Derived.Laws.AppendOwnNone
import Derived.WideShapes
import Derived.Deep.QuietTactic
import Derived.BigQuiet
import Derived.Test.YtojadpoabbhphaaGreatDoorMn
set_option linter.unusedSimpArgs false
set_option linter.unusedVariables false
set_option maxHeartbeats 8000000
set_option maxRecDepth 100000
namespace Go.Proofs.YtojadpoabbhphaaGreatDoor
open Go.RowKit Go.Maps
def atC (p q:Int) (E:List CL):ByteArray:=((E.find? (fun y=>decide (y.c=p∧y.r=q))).map CL.s).getD ⟨#[]⟩
theorem CmD.perm {D:DataW Value} {E L:List CL} (h:CmD D E) (hp:E.Perm L):CmD D L where
 nd:=(hp.pairwise_iff (fun{x y} (h:x.key≠y.key) e=>h e.symm)).1 h.nd
 into x hx:=h.into x (hp.mem_iff.2 hx)
 back kl hk:=by
  obtain⟨x,hx,e⟩:=h.back kl hk;exact⟨x,hp.mem_iff.1 hx,e⟩
theorem CmD.look {D:DataW Value} {E:List CL} (h:CmD D E) {p q:Int} {kl:Lit} (hk:keyOf Tryz.prog 30 (.agg #[.int .i64 p,.int .i64 q])=some kl):
  ∃c r,D.atKey kl (.held (.agg #[.int .i64 0,.int .i64 0,.string ⟨#[]⟩]))= .held (.agg #[.int .i64 c,.int .i64 r,.string (atC p q E)]):=by
 unfold atC;cases hf:E.find? (fun y=>decide (y.c=p∧y.r=q))with
 | none=>
  refine⟨0,0,?_⟩
  have hno:Maps.has D kl=false:=by
   cases hh:Maps.has D kl with
   | false=>rfl
   | true=>
    obtain⟨x,hx,hkx⟩:=h.back kl hh;have e:=keyedRef.inj hkx hk;have h9:=List.find?_eq_none.1 hf x hx;exact absurd (decide_eq_true (by simpa [CL.key]using e)) h9
  rw [atKey_of_not_has hno];rfl
 | some x=>
  have hx:=List.mem_of_find?_eq_some hf;have hm9:=List.find?_some hf;have hm:x.c=p∧x.r=q:=of_decide_eq_true hm9;obtain⟨k2,hk2,hat⟩:=h.into x hx;have h2:x.key= .agg #[.int .i64 p,.int .i64 q]:=by simp [CL.key,hm.1,hm.2]
  rw [h2,hk]at hk2;cases hk2
  exact⟨x.c,x.r,hat _⟩
def paSt (E:List CL) (x:CH):Option (List CL):=if(Qj x.c x.r&&Qf5 x.t&&((atC x.c x.r E).toList==x.f.toList))=true then some (setC ⟨x.c,x.r,x.t⟩ E)else none
def paRun (D:Nat→CH) (E:List CL):Nat→Option (List CL)
 | 0=>some E
 | k+1=>(paRun D E k).bind (fun L=>paSt L (D k))
theorem paRun_no {D : Nat → CH} {E : List CL} {t : Nat} (h : paRun D E t = none) : ∀ m, t ≤ m → paRun D E m = none
  | 0, hm => by obtain rfl : t = 0 := by omega
                exact h
  | m + 1, hm => by
    by_cases e : t = m + 1
    · subst e; exact h
    · rw [paRun, paRun_no h m (by omega)]; rfl
theorem paRun_yes {D:Nat→CH} {E L:List CL} {t:Nat} (h:paRun D E t=some L):paRun D E (t+1)=paSt L (D t):=by rw [paRun,h];rfl
def paF (C R:Nat→Int) (S:Nat→ByteArray) (n:Nat) (D:Nat→CH) (m:Nat):Option (List CL):=if YO C R S n=true∧m≤360 then(match paRun D (clE C R S n) m with
 | some L=>if 120<L.length then none else some L
 | none=>none)else none
theorem paF_no1 {C R:Nat→Int} {S:Nat→ByteArray} {n m:Nat} {D:Nat→CH} (h:YO C R S n=false):paF C R S n D m=none:=by rw [paF,if_neg (fun e=>by rw [h]at e;cases e.1)]
theorem paF_no2 {C R:Nat→Int} {S:Nat→ByteArray} {n m:Nat} {D:Nat→CH} (h:360<m):paF C R S n D m=none:=by rw [paF,if_neg (fun e=>by have:=e.2;omega)]
theorem paF_no3 {C R:Nat→Int} {S:Nat→ByteArray} {n m t:Nat} {D:Nat→CH} {L:List CL} (h:paRun D (clE C R S n) t=some L) (h2:paSt L (D t)=none) (ht:t<m):paF C R S n D m=none:=by
 rw [paF,paRun_no (t:=t+1) (by rw [paRun_yes h];exact h2) m (by omega)];split<;>rfl
theorem paF_end {C R:Nat→Int} {S:Nat→ByteArray} {n m:Nat} {D:Nat→CH} {L:List CL} (h1:YO C R S n=true) (h2:m≤360) (h:paRun D (clE C R S n) m=some L):paF C R S n D m=if 120<L.length then none else some L:=by
 rw [paF,if_pos ⟨h1,h2⟩,h]
theorem paSt_no1 {E:List CL} {x:CH} (h:Qj x.c x.r=false):paSt E x=none:=by simp [paSt,h]
theorem paSt_no2 {E:List CL} {x:CH} (h:Qf5 x.t=false):paSt E x=none:=by simp [paSt,h]
theorem paSt_no3 {E:List CL} {x:CH} (h:((atC x.c x.r E).toList==x.f.toList)=false):paSt E x=none:=by simp only [paSt,h,Bool.and_false];rfl
theorem paSt_yes {E:List CL} {x:CH} (h1:Qj x.c x.r=true) (h2:Qf5 x.t=true) (h3:((atC x.c x.r E).toList==x.f.toList)=true):paSt E x=some (setC ⟨x.c,x.r,x.t⟩ E):=by simp only [paSt,h1,h2,h3];rfl
theorem own_lim {s:ByteArray} (h:Qf5 s=true):inF s=some s∧s.size≤200:=by
 unfold Qf5 at h;cases hi:inF s with
 | none=>rw [hi]at h;cases h
 | some t=>
  rw [hi]at h;obtain rfl:t=s:=Qgn h;exact⟨rfl,in_lim hi⟩
structure PaI (n t:Nat) (L:List CL):Prop where
 rise:L.Pairwise (fun a b=>ltC a b=true)
 len:L.length≤n+t
 sz: ∀x∈L,x.s.size≤maxLen
theorem setC_mem {x:CL} {E:List CL} {y:CL} (h:y∈setC x E):y∈E∨y=x:=by
 have h9:=(setC_perm x E).mem_iff.1 h;split at h9
 ·exact .inl (offP_mem.1 h9).1
 ·rcases List.mem_append.1 h9 with h9 | h9
  ·exact .inl (offP_mem.1 h9).1
  ·exact .inr (List.mem_singleton.1 h9)
theorem setC_len (x:CL) (E:List CL):(setC x E).length≤E.length+1:=by
 rw [(setC_perm x E).length_eq];have h9:(offP x.c x.r E).length≤E.length:=List.length_filter_le _ _;split
 ·omega
 ·simp;omega
theorem PaI.step {n t:Nat} {L L':List CL} {x:CH} (h:PaI n t L) (hs:paSt L x=some L'):PaI n (t+1) L':=by
 unfold paSt at hs;split at hs
 ·rename_i h9
  cases hs
  simp only [Bool.and_eq_true]at h9;refine⟨setC_rise h.rise,?_,fun y hy=> ?_⟩
  ·have:=setC_len ⟨x.c,x.r,x.t⟩ L;have:=h.len;omega
  ·rcases setC_mem hy with hy | rfl
   ·exact h.sz y hy
   ·have:=(own_lim h9.1.2).2;unfold maxLen;show x.t.size≤_;omega
 ·cases hs
theorem PaI.start {C R : Nat → Int} {S : Nat → ByteArray} {n : Nat} (h : YO C R S n = true) (hs : ∀ i, i < n → (S i).size ≤ maxLen) : PaI n 0 (clE C R S n) :=
  ⟨(cl_rise h).2.2, by rw [clE_len]; omega, fun y hy => by
    obtain ⟨i, hi, rfl⟩ := List.mem_map.1 hy
    exact hs i (List.mem_range.1 hi)⟩
theorem PaI.run {D:Nat→CH} {n:Nat} {E:List CL} (h0:PaI n 0 E): ∀(t:Nat) {L:List CL},paRun D E t=some L→PaI n t L
 | 0,L,h=>by cases h;exact h0
 | t+1,L,h=>by
  cases hp:paRun D E t with
  | none=>rw [paRun,hp]at h;cases h
  | some L0=>
   rw [paRun_yes hp]at h;exact(PaI.run h0 t hp).step h
theorem pa_sz {C R:Nat→Int} {S:Nat→ByteArray} {n m:Nat} {D:Nat→CH} (hs: ∀i,i<n→(S i).size≤maxLen): ∀x∈(paF C R S n D m).getD [],x.s.size≤maxLen:=by
 intro x hx;rw [paF]at hx;split at hx
 ·rename_i hc
  cases hp:paRun D (clE C R S n) m with
  | none=>rw [hp]at hx;cases hx
  | some L=>
   rw [hp]at hx;simp only at hx;split at hx
   ·cases hx
   ·exact((PaI.start hc.1 hs).run m hp).sz x hx
 ·cases hx
theorem pa_len {C R:Nat→Int} {S:Nat→ByteArray} {n m:Nat} {D:Nat→CH}:((paF C R S n D m).getD []).length≤120:=by
 rw [paF];split
 ·cases hp:paRun D (clE C R S n) m with
  | none=>simp
  | some L=>
   simp only;split
   ·simp
   ·simp only [Option.getD_some];omega
 ·simp
end Go.Proofs.YtojadpoabbhphaaGreatDoor
namespace Go.Proofs.YtojadpoabbhphaaGreatDoor
open Go.RowKit
theorem run_append_nilC {P:Program} {w:World} (base:Nat) (t ty e:TypeId) (i:TypeInfo) (size c:Nat) (ht:P.underlying t=some (.slice e)) (hi:P.info? e=some i)
  (v:Value) (n:Nat) (xs:List Value) (hown:w.ownsRow base e size v n xs):(Builtin.append_ #[t,t] ty #[v,.slice none 0 c]).run P w= .ok v w:=by
 rcases hown.2 with⟨rfl,rfl⟩ | ⟨g,cap,cur,rfl,_,_,hnc,_⟩
 ·simp [Builtin.append_,run_underlying ht,sizeOf,typeInfo,hi,Builtin.lenOf,Builtin.firstCells]
 ·simp [Builtin.append_,run_underlying ht,sizeOf,typeInfo,hi,Builtin.lenOf,Builtin.firstCells,hnc,storeCells]
section
variable {P:Program} {ops:Array Oper} {rest:List Oper} {o:Oper} {a:Act} {Q:Exit→Act→World→Prop}
theorem wpList_append_nilC {w:World} (hgd:o.guard=none) (s x:Operand) (t:TypeId)
  (ho:o.op= .call {callee:= .builtin .append,args:= #[s,x],argTypes:= #[t,t]})
  (base:Nat) (e:TypeId) (i:TypeInfo) (size c:Nat) (ht:P.underlying t=some (.slice e)) (hi:P.info? e=some i)
  (v:Value) (n:Nat) (xs:List Value) (hs:a.eval s=v) (hown:w.ownsRow base e size v n xs) (hx:a.eval x= .slice none 0 c)
  (h:wpList P ops Q rest (a.put o.dst v) w):wpList P ops Q (o::rest) a w:=by
 refine wpList_plain hgd fun K hK=> ?_;have hrun:=run_append_nilC (P:=P) (w:=w) base t o.type e i size c ht hi v n xs hown;unfold Oper.wp;simp [execOp,ho,resolve,invoke,builtin,hs,hx,hrun,Result.andThen];exact hK _ _ h
theorem wpList_copyG {W:World} (t e:TypeId) (i:TypeInfo) (z:Value) (size bytes:Nat) (ht:P.underlying t=some (.slice e)) (hi:P.info? e=some i) (hz:i.zero=some z) (hsize:i.size=size) (hby:i.bytes=bytes) (hzs:z.cells.size=size) (hsz:0<size)
  (hgd:o.guard=none) (s x:Operand) (ho:o.op= .call {callee:= .builtin .append,args:= #[s,x],argTypes:= #[t,t]}) (B:Nat) (hB:B≤W.heap.size) (v:Value) (hs:a.eval s=v) (hown:W.ownsRow B e size v 0 [])
  (A:Option Addr) (n c:Nat) (xs:List Value) (hx:a.eval x= .slice A n c) (hl:xs.length=n*size) (hA:A=none→n=0) (hc: ∀ad,A=some ad→ ∀j u,xs[j]? =some u→W.cell? (ad.add j)=some u) (h1: ∀u∈xs,u.oneCell'=true) (hn:n≤maxLen) (hb:n*bytes≤140737488355328)
  (h: ∀A' c' w',w'.ownsRow B e size (.slice A' n c') n xs→W.grownBy w' v.ownBlock→wpList P ops Q rest (a.put o.dst (.slice A' n c')) w'):wpList P ops Q (o::rest) a W:=by
 cases A with
 | none=>
  have hn0:=hA rfl;subst hn0;have hxs:xs= []:=by cases xs with | nil=>rfl | cons y ys=>simp at hl
  subst hxs;obtain⟨A',cap',rfl,_,_⟩:=QP hown;exact wpList_append_nilC hgd s x t ho B e i size c ht hi _ 0 [] hs hown hx (h _ _ W hown (World.grownBy.refl _ _))
 | some ad=>
  refine wpList_append_own W hgd s x t ho B e i z size bytes ht hi hz hsize hby hzs hsz v 0 [] hs hown ad n c xs hx hl (hc ad rfl) h1 (by omega) (by rw [Nat.zero_add];exact hb) hB ?_;intro v' w' ho' hg' _;rw [Nat.zero_add,List.nil_append]at ho';obtain⟨A',cap',rfl,_,_⟩:=QP ho';exact h A' cap' w' ho' hg'
end
theorem cl_cells {W:World} {A:Option Addr} {n:Nat} {C R:Nat→Int} {S:Nat→ByteArray} (h:ClRow W A n C R S): ∀ad,A=some ad→ ∀j u,(clX C R S n)[j]? =some u→W.cell? (ad.add j)=some u:=by
 intro ad hA j u hu;have hj:j<n*3:=by rw [←DU C R S n];exact(List.getElem?_eq_some_iff.1 hu).1
 obtain⟨b,o,e,_,c0,c1,c2,_⟩:=h.2 (j/3) (by omega);rw [hA]at e;cases e
 have e1:j=(j/3)*3+j%3:=by omega
 have hm:j%3<3:=by omega
 rw [e1,VP C R S n (j/3) (j%3) (by omega) hm]at hu
 have e2:(⟨b,o,none⟩:Addr).add j=⟨b,o+j/3*3+j%3,none⟩:=by
  rw [Go.WideShapes.add_plain];congr 1
  omega
 rw [e2];rcases(show j%3=0∨j%3=1∨j%3=2 by omega)with h9 | h9 | h9
 ·rw [h9]at hu ⊢;cases hu;exact c0
 ·rw [h9]at hu ⊢;cases hu;exact c1
 ·rw [h9]at hu ⊢;cases hu;exact c2
theorem cl_none {W:World} {A:Option Addr} {n:Nat} {C R:Nat→Int} {S:Nat→ByteArray} (h:ClRow W A n C R S) (hA:A=none):n=0:=by
 cases n with
 | zero=>rfl
 | succ m=>obtain⟨b,o,e,_⟩:=h.2 0 (by omega);rw [hA]at e;cases e
theorem clX_one (C R:Nat→Int) (S:Nat→ByteArray) (n:Nat): ∀u∈clX C R S n,u.oneCell'=true:=by
 intro u hu;obtain⟨i,_,hi⟩:=List.mem_flatMap.1 hu;simp only [List.mem_cons,List.not_mem_nil,or_false]at hi;rcases hi with rfl | rfl | rfl<;>rfl
theorem bdrN {n:Nat} {w W:World} (h:Below n w W) (k:Nat):Below n w (W.drewN k):=by
 induction k with
 | zero=>exact h
 | succ k ih=>first | exact ih.drew | (rw [World.drewN_succ];exact ih.drew)
theorem atC_at {C R:Nat→Int} {S:Nat→ByteArray} {n k:Nat} {p q:Int} (hk:k<n) (hn: ∀j,j<k→ ¬(C j=p∧R j=q)) (hy:C k=p∧R k=q):atC p q (clE C R S n)=S k:=by
 have hf:(clE C R S n).find? (fun y=>decide (y.c=p∧y.r=q))=some ⟨C k,R k,S k⟩:=by
  rw [List.find?_eq_some_iff_getElem];refine⟨decide_eq_true hy,k,by rw [clE_len];exact hk,by simp [clE],fun j hj=> ?_⟩;simp only [clE,List.getElem_map,List.getElem_range,Bool.not_eq_true',decide_eq_false_iff_not];exact hn j hj
 rw [atC,hf];rfl
theorem atC_no {C R:Nat→Int} {S:Nat→ByteArray} {n:Nat} {p q:Int} (hn: ∀j,j<n→ ¬(C j=p∧R j=q)):atC p q (clE C R S n)=⟨#[]⟩:=by
 have hf:(clE C R S n).find? (fun y=>decide (y.c=p∧y.r=q))=none:=by
  rw [List.find?_eq_none];intro y hy;obtain⟨i,hi,rfl⟩:=List.mem_map.1 hy;simp only [decide_eq_true_eq];exact hn i (List.mem_range.1 hi)
 rw [atC,hf];rfl
theorem spec_l5At {A:Option Addr} {n cap:Nat} {C R:Nat→Int} {S:Nat→ByteArray} (p q:Int) (w:World) (h:ClRow w A n C R S):
  Calls Tryz.prog 34 #[.slice A n cap,.agg #[.int .i64 p,.int .i64 q]] w fun e w'=>e= .returned (.string (atC p q (clE C R S n)))∧Below w.heap.size w w':=by
 have HR:Hid (ClRow w A n C R S):=h;have hn:=h.1;unfold maxLen at hn;clear h;go_enter Tryz.func34,Tryz.ntmps34;go_wp2_with fail
 go_loopw [5] (fun i wr=> ∃k:Nat,k≤n∧i= .int .i64 k∧(∀j,j<k→ ¬(C j=p∧R j=q))∧Below w.heap.size w wr∧Below (w.heap.size+1) (w.alloc (.cells #[.int .i64 p,.int .i64 q] 30)) wr) (fun i _=>n-(intOf i).toNat)
 case atStart=>exact⟨0,Nat.zero_le _,rfl,fun i hi=>by omega,by go_grown,Below.refl _ _⟩
 case round=>
  obtain⟨k,hk,rfl,hr,hbel,hbx⟩:=hrel;have HI:Hid (∀j,j<k→ ¬(C j=p∧R j=q)):=hr;clear hr;have hs:=hbel.size;have hsx:w.heap.size+1≤wr.heap.size:=Nat.le_trans (by go_size) hbx.size;have e0:wr.cell? ⟨w.heap.size,0,none⟩=some (.int .i64 p):=(hbx.cell (p:=⟨_,_,none⟩) (by simp)).trans (by simp);have e1:wr.cell? ⟨w.heap.size,1,none⟩=some (.int .i64 q):=(hbx.cell (p:=⟨_,_,none⟩) (by simp)).trans (by simp)
  have l0:w.heap.size<wr.heap.size:=by omega
  have HB:Hid (Below w.heap.size w wr):=hbel;have HX:Hid (Below (w.heap.size+1) (w.alloc (.cells #[.int .i64 p,.int .i64 q] 30)) wr):=hbx;by_cases hlt:k<n
  ·obtain⟨b,o,rfl,hl,c0,c1,c2,_⟩:=HR.out.2 k hlt;rw [←hbel.cell (p:=⟨_,_,none⟩) hl]at c0 c1 c2;clear hbel hbx;have hl2:b<wr.heap.size:=Nat.lt_of_lt_of_le hl hs;have h0:(0:Int)≤(k:Int):=by omega
   have h1:(k:Int)<(n:Int):=by omega
   by_cases hc:C k=p
   ·by_cases hd:R k=q
    ·have HF:Hid (atC p q (clE C R S n)=S k):=atC_at hlt HI.out ⟨hc,hd⟩;have t1:(C k==p)=true:=by simpa using hc
     have t2:(R k==q)=true:=by simpa using hd
     clear hc hd;go_wp2_with fail
     go_quiet (fail)
     all_goals go_wp2_with fail
     all_goals go_ret
     all_goals exact⟨Qk HF.out.symm,bdrN HB.out _⟩
    ·have HI':Hid (∀j,j<k+1→ ¬(C j=p∧R j=q)):=fun j hj=>by
      by_cases e:j=k
      ·subst e;exact fun h=>hd h.2
      ·exact HI.out j (by omega)
     have t1:(C k==p)=true:=by simpa using hc
     have t2:(R k==q)=false:=by simpa using hd
     clear hc hd;go_wp2_with fail
     go_quiet (fail)
     all_goals go_wp2_with fail
     all_goals
      go_roundw
      case rel=>exact⟨k+1,by omega,by go_num,HI'.out,bdrN HB.out _,bdrN HX.out _⟩
      case measure=>simp [intOf];omega
   ·have HI':Hid (∀j,j<k+1→ ¬(C j=p∧R j=q)):=fun j hj=>by
     by_cases e:j=k
     ·subst e;exact fun h=>hc h.1
     ·exact HI.out j (by omega)
    have t1:(C k==p)=false:=by simpa using hc
    go_wp2_with fail
    go_quiet (fail)
    all_goals go_wp2_with fail
    all_goals
     go_roundw
     case rel=>exact⟨k+1,by omega,by go_num,HI'.out,bdrN HB.out _,bdrN HX.out _⟩
     case measure=>simp [intOf];omega
  ·have h1: ¬(k:Int)<(n:Int):=by omega
   obtain rfl:k=n:=by omega
   go_wp2_with fail
   go_ret;exact⟨Qk (atC_no HI.out).symm,HB.out⟩
end Go.Proofs.YtojadpoabbhphaaGreatDoor
namespace Go.Proofs.YtojadpoabbhphaaGreatDoor
open Go.RowKit Go.Maps
theorem ch_apart {W:World} {A:Option Addr} {n:Nat} {D:Nat→CH} (h:ChRow W A n D) {i:Nat} (hi:i<n):(D i).f.size≤maxLen∧(D i).t.size≤maxLen:=by
 obtain⟨_,_,_,_,_,_,_,_,h1,h2⟩:=h.2 i hi;exact⟨h1,h2⟩
theorem spec_Patched {A A':Option Addr} {n cap m cap':Nat} {C R:Nat→Int} {S:Nat→ByteArray} {D:Nat→CH} (w:World) (h:ClRow w A n C R S) (h':ChRow w A' m D):
  Calls Tryz.prog 14 #[.slice A n cap,.slice A' m cap'] w fun e w'=>EnR w.heap.size w' (paF C R S n D m) e∧Below w.heap.size w w':=by
 have HR:Hid (ClRow w A n C R S):=h;have HD:Hid (ChRow w A' m D):=h';have HSS:Hid (∀i,i<n→(S i).size≤maxLen):=fun i hi=>by obtain⟨_,_,_,_,_,_,_,h9⟩:=h.2 i hi;exact h9
 obtain⟨i0,hi,iz0,iz1,iz2⟩:=info_parts Qhp;have HI:Hid (_=_):=hi;clear h h' hi;obtain⟨ck,HCK⟩: ∃ck,Hid (YO C R S n=ck):=⟨_,rfl⟩;go_enter Tryz.func14,Tryz.ntmps14;go_wp2_with fail
 refine(Qc1 _ HR.out).mono ?_;rintro e u1 ⟨rfl,hb⟩;have K1:Hid (Below w.heap.size w u1):=hb;clear hb;rw [HCK.out];cases ck
 ·have HV:Hid (paF C R S n D m=none):=paF_no1 HCK.out;go_wp2_with fail
  refine bodyPost_ret (v:= .tuple #[.slice none 0 0,.bool false]) ?_ rfl ⟨?_,K1.out⟩
  ·simp (maxDischargeDepth:=9) [results,Tryz.results14,go_sem, *]
  ·rw [HV.out];exact rfl
 by_cases hm:360<m
 ·have HV:Hid (paF C R S n D m=none):=paF_no2 hm;have q1:(360:Int)<((m:Nat):Int):=by omega
  go_wp2_with fail
  refine bodyPost_ret (v:= .tuple #[.slice none 0 0,.bool false]) ?_ rfl ⟨?_,K1.out⟩
  ·simp (maxDischargeDepth:=9) [results,Tryz.results14,go_sem, *]
  ·rw [HV.out];exact rfl
 have q1: ¬(360:Int)<((m:Nat):Int):=by omega
 have hn:n≤120:=(cl_rise HCK.out).1;have HP0:Hid (PaI n 0 (clE C R S n)):=PaI.start HCK.out HSS.out;have HR1:=hd (HR.out.below K1.out);have HE0:Hid ((u1.alloc (.cells #[] 52)).ownsRow u1.heap.size 52 3 (.slice (some ⟨u1.heap.size,0,none⟩) 0 0) 0 []):=Qig (Nat.le_refl _) rfl;have HR2:Hid (ClRow (u1.alloc (.cells #[] 52)) A n C R S):=by exact HR1.out.below ((Below.refl _ _).alloc (Nat.le_refl _) _)
 go_wp2_with (first
  | (at_builtin;refine wpList_copyG 26 52 i0 (.agg #[.int .i64 0,.int .i64 0,.string ⟨#[]⟩]) 3 32 Tryz.underlying26 HI.out iz0 iz1 iz2 rfl (by decide) rfl _ _ rfl u1.heap.size (by simp) _ rfl HE0.out A n cap (clX C R S n) rfl (DU C R S n) (cl_none HR2.out) (cl_cells HR2.out) (clX_one C R S n) HR2.out.1 (by omega) ?_)
  | fail)
 intro A2 c2 u2 ho hg;have HO2:Hid (u2.ownsRow u1.heap.size 52 3 (.slice A2 n c2) n (VU CL.cs (clE C R S n))):=by rw [←clX_flat];exact ho
 have K2:Hid (Below u1.heap.size u1 u2):=((Below.refl _ _).alloc (Nat.le_refl _) _).grown hg (by simp) (fun j hj=>(HE0.out.lt j hj).1);clear ho hg HE0 HR2 HR1 HI;go_wp2_with fail
 go_loopw [6,7] (fun v i wr=> ∃(t:Nat) (L:List CL) (F:Option Addr) (k c:Nat),t≤m∧v= .slice F k c∧i= .int .i64 t∧paRun D (clE C R S n) t=some L∧L.length=k∧wr.ownsRow u1.heap.size 52 3 (.slice F k c) k (VU CL.cs L)∧Below u1.heap.size u1 wr) (fun _ i _=>m-(intOf i).toNat)
 case atStart=>exact⟨0,_,A2,n,c2,Nat.zero_le _,rfl,rfl,rfl,clE_len _ _ _ _,HO2.out,K2.out⟩
 case round=>
  clear HO2 K2;obtain⟨t,L,F,k,c,ht,rfl,rfl,hrun,hkl,hown,hbel⟩:=hrel;have HRUN:Hid (paRun D (clE C R S n) t=some L):=hrun;have HPI:Hid (PaI n t L):=HP0.out.run t hrun;have HKL:Hid (L.length=k):=hkl;have hk480:k≤10000:=by rw [←hkl];have:=HPI.out.len;omega
  have HOW:Hid (wr.ownsRow u1.heap.size 52 3 (.slice F k c) k (VU CL.cs L)):=hown;have KV:Hid (Below u1.heap.size u1 wr):=hbel;have KA:Hid (Below w.heap.size w wr):=K1.out.trans (hbel.mono K1.out.size);clear hrun hkl hown hbel;by_cases hlt:t<m
  ·obtain⟨b,o,rfl,hl,c0,c1,c2,c3,hsf,hst⟩:=HD.out.2 t hlt;obtain⟨X,HX⟩: ∃X:CH,Hid (D t=X):=⟨_,rfl⟩;rw [HX.out]at c0 c1 c2 c3 hsf hst;rw [←KA.out.cell (p:=⟨_,_,none⟩) hl]at c0 c1 c2 c3;have hl2:b<wr.heap.size:=Nat.lt_of_lt_of_le hl KA.out.size;have HST:Hid (X.t.size≤maxLen):=hst;have HNX:Hid (∀v,paSt L X=v→paRun D (clE C R S n) (t+1)=v):=fun v hv=>by rw [paRun_yes HRUN.out,HX.out,hv]
   have HNO:Hid (paSt L X=none→paF C R S n D m=none):=fun hv=>paF_no3 HRUN.out (by rw [HX.out];exact hv) hlt;have q0:(0:Int)≤(t:Int):=by omega
   have q2:(t:Int)<(m:Int):=by omega
   clear hl hsf hst;obtain⟨xc,HXC⟩: ∃xc:Int,Hid (X.c=xc):=⟨_,rfl⟩;obtain⟨xr,HXR⟩: ∃xr:Int,Hid (X.r=xr):=⟨_,rfl⟩;obtain⟨xf,HXF⟩: ∃xf:ByteArray,Hid (X.f=xf):=⟨_,rfl⟩;obtain⟨xt,HXT⟩: ∃xt:ByteArray,Hid (X.t=xt):=⟨_,rfl⟩;rw [HXC.out]at c0;rw [HXR.out]at c1
   rw [HXF.out]at c2;rw [HXT.out]at c3;have HSZ:Hid (xt.size≤maxLen):=by show _≤_;rw [←HXT.out];exact HST.out
   clear HST;obtain⟨io,HIO⟩: ∃io,Hid (inF xt=io):=⟨_,rfl⟩;obtain⟨rk,HRK⟩: ∃rk,Hid (Qj xc xr=rk):=⟨_,rfl⟩;obtain⟨sa,HAT⟩: ∃sa,Hid (atC xc xr (clE (cofC L) (cofR L) (cofS L) k)=sa):=⟨_,rfl⟩;have HAL:Hid (atC xc xr L=sa):=by show _=_;rw [←HAT.out,←HKL.out,clE_of]
   go_wp2_with fail
   refine(Zi xt _ HSZ.out).mono ?_;rintro e u3 ⟨hop,hb⟩;rw [←hb.cell (p:=⟨_,_,none⟩) hl2]at c0 c1 c2 c3;have hl3:b<u3.heap.size:=Nat.lt_of_lt_of_le hl2 hb.size;have K3:=hd (Qd KA.out hb);have KV3:=hd (Qd KV.out hb);have HO3:=hd (Qp HOW.out hb)
   have HR3:Hid (ClRow u3 F k (cofC L) (cofR L) (cofS L)):=cl_of_list HO3.out HKL.out HPI.out.sz;have z13:u1.heap.size≤u3.heap.size:=KV3.out.size;rw [HIO.out]at hop;have HOP:Hid (opA io e):=hop;clear hop hb hl2 HOW KV KA
   obtain⟨tx,ok,HE,HTX⟩: ∃(tx:ByteArray) (ok:Bool),Hid (e= .returned (.tuple #[.string tx,.bool ok]))∧Hid (io=if ok=true then some tx else none):=by
    cases io with
    | none=>exact⟨⟨#[]⟩,false,HOP.out,rfl⟩
    | some t=>exact⟨t,true,HOP.out,rfl⟩
   rw [HE.out];clear HE HOP
   have HOB:Hid (Qf5 xt=(ok&&(tx.toList==xt.toList))):=by
    show _=_;unfold Qf5;rw [HIO.out,HTX.out];cases ok<;>rfl
   go_upto_region 8 with fail
   cases rk
   ·have HV:Hid (paF C R S n D m=none):=HNO.out (paSt_no1 (by rw [HXC.out,HXR.out];exact HRK.out));refine wp_region_held_drew (S:=(fun w'=>(∀bq oq,bq<u3.heap.size→w'.cell? ⟨bq,oq,none⟩=u3.cell? ⟨bq,oq,none⟩)∧u3.heap.size≤w'.heap.size∧Below u3.heap.size u3 w')) (by kernel_rfl) (Qo (by go_size) (by go_grown)) (fun hHeld=> ?_);refine tkA 0 ?_;refine tkB 1 ?_;refine tkA 2 ?_;refine tkB 3 ?_;refine tkB 4 ?_
    refine rqA 5 (fun Kq hKq=> ?_);go_simp
    (refine(QC _ _ _).mono ?_;rintro e w1 ⟨rfl,hb⟩;rw [HRK.out];obtain⟨hk1,hz1⟩:=Qf (B:=u3.heap.size) (X:=u3) (by go_grown) (by go_size) hb;have hC:=fun b o h=>hk1.cell (p:=⟨b,o,none⟩) h;clear hb)
    refine hkB hKq (Qo (by go_size) (by go_grown)) fun hHeld=> ?_;clear hKq Kq;refine tkA 6 ?_;refine tkB 7 ?_;refine tnA 8 ?_;refine tnB 9 ?_;refine tkA 10 ?_
    refine tkB 11 ?_;refine tnA 12 ?_;refine tnB 13 ?_;refine tnA 14 ?_;refine tnB 15 ?_;refine tnA 16 ?_;refine tnB 17 ?_
    refine tnA 18 ?_;refine tkB 19 ?_;refine tkA 20 ?_;refine tnB 21 ?_;refine tnA 22 ?_;refine tnB 23 ?_;refine tnA 24 ?_
    refine tnB 25 ?_;refine tnA 26 ?_;refine tnB 27 ?_;refine tnA 28 ?_;refine tnB 29 ?_;refine tnA 30 ?_;refine tnB 31 ?_
    refine tnA 32 ?_;refine tnB 33 ?_;refine tkB 34 ?_;refine wpAnyH_done (by kernel_rfl) ?_ _;go_wp2_with fail
    refine bodyPost_ret (v:= .tuple #[.slice none 0 0,.bool false]) ?_ rfl ⟨?_,Qd K3.out (by go_grown)⟩
    ·simp (maxDischargeDepth:=9) [results,Tryz.results14,go_sem, *]
    ·rw [HV.out];exact rfl
   cases ok
   ·have HV:Hid (paF C R S n D m=none):=HNO.out (paSt_no2 (by rw [HXT.out,HOB.out];rfl));refine wp_region_held_drew (S:=(fun w'=>(∀bq oq,bq<u3.heap.size→w'.cell? ⟨bq,oq,none⟩=u3.cell? ⟨bq,oq,none⟩)∧u3.heap.size≤w'.heap.size∧Below u3.heap.size u3 w')) (by kernel_rfl) (Qo (by go_size) (by go_grown)) (fun hHeld=> ?_);refine tkA 0 ?_;refine tkB 1 ?_;refine tkA 2 ?_;refine tkB 3 ?_;refine tkB 4 ?_
    refine rqA 5 (fun Kq hKq=> ?_);go_simp
    (refine(QC _ _ _).mono ?_;rintro e w1 ⟨rfl,hb⟩;rw [HRK.out];obtain⟨hk1,hz1⟩:=Qf (B:=u3.heap.size) (X:=u3) (by go_grown) (by go_size) hb;have hC:=fun b o h=>hk1.cell (p:=⟨b,o,none⟩) h;clear hb)
    refine hkB hKq (Qo (by go_size) (by go_grown)) fun hHeld=> ?_;clear hKq Kq;refine tkA 6 ?_;refine tkB 7 ?_;refine tkA 8 ?_;refine tkB 9 ?_;refine tkA 10 ?_
    refine tkB 11 ?_;refine tnA 12 ?_;refine tnB 13 ?_;refine tnA 14 ?_;refine tnB 15 ?_;refine tnA 16 ?_;refine tnB 17 ?_
    refine tnA 18 ?_;refine tkB 19 ?_;refine tkA 20 ?_;refine tnB 21 ?_;refine tnA 22 ?_;refine tnB 23 ?_;refine tnA 24 ?_
    refine tnB 25 ?_;refine tnA 26 ?_;refine tnB 27 ?_;refine tnA 28 ?_;refine tnB 29 ?_;refine tnA 30 ?_;refine tnB 31 ?_
    refine tnA 32 ?_;refine tnB 33 ?_;refine tkB 34 ?_;refine wpAnyH_done (by kernel_rfl) ?_ _;go_wp2_with fail
    refine bodyPost_ret (v:= .tuple #[.slice none 0 0,.bool false]) ?_ rfl ⟨?_,Qd K3.out (by go_grown)⟩
    ·simp (maxDischargeDepth:=9) [results,Tryz.results14,go_sem, *]
    ·rw [HV.out];exact rfl
   obtain⟨ow,HOWN⟩: ∃ow,Hid ((tx.toList==xt.toList)=ow):=⟨_,rfl⟩;have how:=HOWN.out;cases ow
   ·have HV:Hid (paF C R S n D m=none):=HNO.out (paSt_no2 (by rw [HXT.out,HOB.out,HOWN.out];rfl));refine wp_region_held_drew (S:=(fun w'=>(∀bq oq,bq<u3.heap.size→w'.cell? ⟨bq,oq,none⟩=u3.cell? ⟨bq,oq,none⟩)∧u3.heap.size≤w'.heap.size∧Below u3.heap.size u3 w')) (by kernel_rfl) (Qo (by go_size) (by go_grown)) (fun hHeld=> ?_);refine tkA 0 ?_;refine tkB 1 ?_;refine tkA 2 ?_;refine tkB 3 ?_;refine tkB 4 ?_
    refine rqA 5 (fun Kq hKq=> ?_);go_simp
    (refine(QC _ _ _).mono ?_;rintro e w1 ⟨rfl,hb⟩;rw [HRK.out];obtain⟨hk1,hz1⟩:=Qf (B:=u3.heap.size) (X:=u3) (by go_grown) (by go_size) hb;have hC:=fun b o h=>hk1.cell (p:=⟨b,o,none⟩) h;clear hb)
    refine hkB hKq (Qo (by go_size) (by go_grown)) fun hHeld=> ?_;clear hKq Kq;refine tkA 6 ?_;refine tkB 7 ?_;refine tkA 8 ?_;refine tkB 9 ?_;refine tkA 10 ?_
    refine tkB 11 ?_;refine tkA 12 ?_;refine tkB 13 ?_;refine tkA 14 ?_;refine tkB 15 ?_;refine tkA 16 ?_;refine tkB 17 ?_
    refine tkA 18 ?_;refine tkB 19 ?_;refine tkA 20 ?_;refine tnB 21 ?_;refine tnA 22 ?_;refine tnB 23 ?_;refine tnA 24 ?_
    refine tnB 25 ?_;refine tnA 26 ?_;refine tnB 27 ?_;refine tnA 28 ?_;refine tnB 29 ?_;refine tnA 30 ?_;refine tnB 31 ?_
    refine tnA 32 ?_;refine tnB 33 ?_;refine tkB 34 ?_;refine wpAnyH_done (by kernel_rfl) ?_ _;go_wp2_with fail
    refine bodyPost_ret (v:= .tuple #[.slice none 0 0,.bool false]) ?_ rfl ⟨?_,Qd K3.out (by go_grown)⟩
    ·simp (maxDischargeDepth:=9) [results,Tryz.results14,go_sem, *]
    ·rw [HV.out];exact rfl
   have HOK:Hid (Qf5 xt=true):=by show _=_;rw [HOB.out,HOWN.out];rfl
   obtain⟨sm,HSM⟩: ∃sm,Hid ((sa.toList==xf.toList)=sm):=⟨_,rfl⟩;have hsm:=HSM.out;cases sm
   ·have HV:Hid (paF C R S n D m=none):=HNO.out (paSt_no3 (by rw [HXC.out,HXR.out,HXF.out,HAL.out];exact HSM.out));refine wp_region_held_drew (S:=(fun w'=>(∀bq oq,bq<u3.heap.size→w'.cell? ⟨bq,oq,none⟩=u3.cell? ⟨bq,oq,none⟩)∧u3.heap.size≤w'.heap.size∧Below u3.heap.size u3 w')) (by kernel_rfl) (Qo (by go_size) (by go_grown)) (fun hHeld=> ?_);refine tkA 0 ?_;refine tkB 1 ?_;refine tkA 2 ?_;refine tkB 3 ?_;refine tkB 4 ?_
    refine rqA 5 (fun Kq hKq=> ?_);go_simp
    (refine(QC _ _ _).mono ?_;rintro e w1 ⟨rfl,hb⟩;rw [HRK.out];obtain⟨hk1,hz1⟩:=Qf (B:=u3.heap.size) (X:=u3) (by go_grown) (by go_size) hb;have hC:=fun b o h=>hk1.cell (p:=⟨b,o,none⟩) h;clear hb)
    refine hkB hKq (Qo (by go_size) (by go_grown)) fun hHeld=> ?_;clear hKq Kq;refine tkA 6 ?_;refine tkB 7 ?_;refine tkA 8 ?_;refine tkB 9 ?_;refine tkA 10 ?_
    refine tkB 11 ?_;refine tkA 12 ?_;refine tkB 13 ?_;refine tkA 14 ?_;refine tkB 15 ?_;refine tkA 16 ?_;refine tkB 17 ?_
    refine tkA 18 ?_;refine tkB 19 ?_;refine tkA 20 ?_;refine tkB 21 ?_;refine tkA 22 ?_;refine tkB 23 ?_;refine tkA 24 ?_
    refine tkB 25 ?_;refine tkA 26 ?_;refine tkB 28 ?_;refine tkA 29 ?_;refine tkB 30 ?_;refine tkA 31 ?_;refine tkB 32 ?_
    refine rqA 27 (fun Kq hKq=> ?_);go_simp
    (refine(spec_l5At _ _ _ (HR3.out.below (by go_grown))).mono ?_;rintro e w2 ⟨rfl,hb⟩;rw [HAT.out];obtain⟨hk2,hz2⟩:=Qf (B:=u3.heap.size) (X:=u3) (by go_grown) (by go_size) hb;have hC2:=fun b o h=>hk2.cell (p:=⟨b,o,none⟩) h;clear hb)
    refine hkB hKq (Qo (by go_size) (by go_grown)) fun hHeld=> ?_;clear hKq Kq;refine tkA 33 ?_;refine tkB 34 ?_;refine wpAnyH_done (by kernel_rfl) ?_ _;go_wp2_with fail
    refine bodyPost_ret (v:= .tuple #[.slice none 0 0,.bool false]) ?_ rfl ⟨?_,Qd K3.out (by go_grown)⟩
    ·simp (maxDischargeDepth:=9) [results,Tryz.results14,go_sem, *]
    ·rw [HV.out];exact rfl
   have HST:Hid (paSt L X=some (setC ⟨xc,xr,xt⟩ L)):=by
    show _=_;rw [paSt_yes (by rw [HXC.out,HXR.out];exact HRK.out) (by rw [HXT.out];exact HOK.out) (by rw [HXC.out,HXR.out,HXF.out,HAL.out];exact HSM.out),HXC.out,HXR.out,HXT.out]
   have HNR:Hid (paRun D (clE C R S n) (t+1)=some (setC ⟨xc,xr,xt⟩ L)):=HNX.out _ HST.out;have HEQ:Hid (endC ⟨xc,xr,xt⟩ (clE (cofC L) (cofR L) (cofS L) k)=setC ⟨xc,xr,xt⟩ L):=by show _=_;rw [←HKL.out,clE_of];exact(setC_run HPI.out.rise).symm
   refine wp_region_held_drew (S:=(fun w'=>(∀bq oq,bq<u3.heap.size→w'.cell? ⟨bq,oq,none⟩=u3.cell? ⟨bq,oq,none⟩)∧u3.heap.size≤w'.heap.size∧Below u3.heap.size u3 w')) (by kernel_rfl) (Qo (by go_size) (by go_grown)) (fun hHeld=> ?_);refine tkA 0 ?_;refine tkB 1 ?_;refine tkA 2 ?_;refine tkB 3 ?_;refine tkB 4 ?_;refine rqA 5 (fun Kq hKq=> ?_)
   go_simp
   (refine(QC _ _ _).mono ?_;rintro e w1 ⟨rfl,hb⟩;rw [HRK.out];obtain⟨hk1,hz1⟩:=Qf (B:=u3.heap.size) (X:=u3) (by go_grown) (by go_size) hb;have hC:=fun b o h=>hk1.cell (p:=⟨b,o,none⟩) h;clear hb)
   refine hkB hKq (Qo (by go_size) (by go_grown)) fun hHeld=> ?_;clear hKq Kq;refine tkA 6 ?_;refine tkB 7 ?_;refine tkA 8 ?_;refine tkB 9 ?_;refine tkA 10 ?_
   refine tkB 11 ?_;refine tkA 12 ?_;refine tkB 13 ?_;refine tkA 14 ?_;refine tkB 15 ?_;refine tkA 16 ?_;refine tkB 17 ?_
   refine tkA 18 ?_;refine tkB 19 ?_;refine tkA 20 ?_;refine tkB 21 ?_;refine tkA 22 ?_;refine tkB 23 ?_;refine tkA 24 ?_
   refine tkB 25 ?_;refine tkA 26 ?_;refine tkB 28 ?_;refine tkA 29 ?_;refine tkB 30 ?_;refine tkA 31 ?_;refine tkB 32 ?_
   refine rqA 27 (fun Kq hKq=> ?_);go_simp
   (refine(spec_l5At _ _ _ (HR3.out.below (by go_grown))).mono ?_;rintro e w2 ⟨rfl,hb⟩;rw [HAT.out];obtain⟨hk2,hz2⟩:=Qf (B:=u3.heap.size) (X:=u3) (by go_grown) (by go_size) hb;have hC2:=fun b o h=>hk2.cell (p:=⟨b,o,none⟩) h;clear hb)
   refine hkB hKq (Qo (by go_size) (by go_grown)) fun hHeld=> ?_;clear hKq Kq;refine tkA 33 ?_;refine tkB 34 ?_;refine wpAnyH_done (by kernel_rfl) ?_ _;go_upto_region 10 with fail
   refine wp_region_held_drew (S:=(fun w'=>(∀bq oq,bq<u3.heap.size→w'.cell? ⟨bq,oq,none⟩=u3.cell? ⟨bq,oq,none⟩)∧u3.heap.size≤w'.heap.size∧Below u3.heap.size u3 w')) (by kernel_rfl) (Qo (by go_size) (by go_grown)) (fun hHeld=> ?_);refine tkA 0 ?_;refine tkB 1 ?_;refine tkA 2 ?_;refine tkB 3 ?_;refine tkA 4 ?_;refine tkB 5 ?_
   refine tkA 6 ?_;refine tkB 7 ?_;refine tkA 8 ?_;refine tkB 9 ?_;refine tkB 10 ?_;refine rqA 11 (fun Kq hKq=> ?_);go_simp
   (refine(spec_l5Set _ (HR3.out.below (by go_grown)) hk480).mono ?_;rintro e w5 ⟨A5,c5,m5,rfl,hl5,ho5,hb⟩;rw [HEQ.out]at hl5 ho5;have HL5:Hid ((setC ⟨xc,xr,xt⟩ L).length=m5):=hl5;have HO5:Hid (w5.ownsRow u1.heap.size 52 3 (.slice A5 m5 c5) m5 (VU CL.cs (setC ⟨xc,xr,xt⟩ L))):=Go.Proofs.ownsRow_base_a ho5 (by go_size);obtain⟨hk5,hz5⟩:=Qf (B:=u3.heap.size) (X:=u3) (by go_grown) (by go_size) hb;have hC5:=fun b o h=>hk5.cell (p:=⟨b,o,none⟩) h;clear hb;clear hl5 ho5)
   refine hkB hKq (Qo (by go_size) (by go_grown)) fun hHeld=> ?_;clear hKq Kq;refine tkB 12 ?_;refine wpAnyH_done (by kernel_rfl) ?_ _;go_wp2_with fail
   go_roundw
   case rel=>exact⟨t+1,_,A5,m5,c5,by omega,rfl,by go_num,HNR.out,HL5.out,Qp HO5.out (by go_grown),Qd KV3.out (by go_grown)⟩
   case measure=>simp [intOf];omega
  ·have h1: ¬(t:Int)<(m:Int):=by omega
   obtain rfl:m=t:=by omega
   have HV:Hid (paF C R S n D m=if 120<L.length then none else some L):=paF_end HCK.out (by omega) HRUN.out;by_cases h120:120<k
   ·have q3:(120:Int)<((k:Nat):Int):=by omega
    go_wp2_with fail
    refine bodyPost_ret (v:= .tuple #[.slice none 0 0,.bool false]) ?_ rfl ⟨?_,KA.out⟩
    ·simp (maxDischargeDepth:=9) [results,Tryz.results14,go_sem, *]
    ·rw [HV.out,HKL.out,if_pos h120];exact rfl
   ·have q3: ¬(120:Int)<((k:Nat):Int):=by omega
    go_wp2_with fail
    refine bodyPost_ret (v:= .tuple #[.slice F k c,.bool true]) ?_ rfl ⟨?_,KA.out⟩
    ·simp (maxDischargeDepth:=9) [results,Tryz.results14,go_sem, *]
    ·rw [HV.out,HKL.out,if_neg h120];exact⟨F,c,k,rfl,HKL.out,Go.Proofs.ownsRow_base_a HOW.out K1.out.size⟩
end Go.Proofs.YtojadpoabbhphaaGreatDoor
