import Derived.Test.YthjldgbfgapbcaaGreatDoorGzj
import Derived.Test.YthjldgbfgapbcaaGreatDoorGaa
import Derived.Test.YthjldgbfgapbcaaGreatDoorGgf
import Derived.Test.YthjldgbfgapbcaaGreatDoorGze
import Derived.Laws.AppendOwnNone
import Derived.WideShapes
import Derived.Deep.QuietTactic
import Derived.BigQuiet
import Derived.Test.YthjldgbfgapbcaaGreatDoorMn
set_option linter.unusedSimpArgs false
set_option linter.unusedVariables false
set_option maxHeartbeats 8000000
set_option maxRecDepth 100000
namespace Go.Proofs.YthjldgbfgapbcaaGreatDoor
open Go.RowKit
structure CH where
 c:Int
 r:Int
 f:ByteArray
 t:ByteArray
def chL (x:CH):List Value:= [.int .i64 x.c,.int .i64 x.r,.string x.f,.string x.t]
def ChRow (W:World) (A:Option Addr) (n:Nat) (D:Nat→CH):Prop:=
 n≤maxLen∧ ∀i,i<n→ ∃b o,A=some ⟨b,o,none⟩∧b<W.heap.size∧W.cell? ⟨b,o+i*4,none⟩=some (.int .i64 (D i).c)∧W.cell? ⟨b,o+i*4+1,none⟩=some (.int .i64 (D i).r)∧
  W.cell? ⟨b,o+i*4+2,none⟩=some (.string (D i).f)∧W.cell? ⟨b,o+i*4+3,none⟩=some (.string (D i).t)∧(D i).f.size≤maxLen∧(D i).t.size≤maxLen
theorem ChRow.below {W W':World} {A:Option Addr} {n:Nat} {D:Nat→CH} (h:ChRow W A n D) (hb:Below W.heap.size W W'):ChRow W' A n D:=
 ⟨h.1,fun i hi=>by
  obtain⟨b,o,e,hl,c0,c1,c2,c3,hs,ht⟩:=h.2 i hi
  exact⟨b,o,e,Nat.lt_of_lt_of_le hl hb.size,(hb.cell (p:=⟨b,_,none⟩) hl).trans c0,(hb.cell (p:=⟨b,_,none⟩) hl).trans c1,(hb.cell (p:=⟨b,_,none⟩) hl).trans c2,(hb.cell (p:=⟨b,_,none⟩) hl).trans c3,hs,ht⟩⟩
theorem Qos:(Tryz.prog.info? 40).map (fun i=>(i.zero,i.size,i.bytes))=some (some (.agg #[.int .i64 0,.int .i64 0,.string ⟨#[]⟩,.string ⟨#[]⟩]),4,48):=by kernel_rfl
end Go.Proofs.YthjldgbfgapbcaaGreatDoor
namespace Go.Proofs.YthjldgbfgapbcaaGreatDoor
open Go.RowKit Go.Maps
def atC (p q:Int) (E:List CL):ByteArray:=((E.find? (fun y=>decide (y.c=p∧y.r=q))).map CL.s).getD ⟨#[]⟩
theorem CmD.perm {D:DataW Value} {E L:List CL} (h:CmD D E) (hp:E.Perm L):CmD D L where
 nd:=(hp.pairwise_iff (fun{x y} (h:x.key≠y.key) e=>h e.symm)).1 h.nd
 into x hx:=h.into x (hp.mem_iff.2 hx)
 back kl hk:=by
  obtain⟨x,hx,e⟩:=h.back kl hk;exact⟨x,hp.mem_iff.1 hx,e⟩
theorem CmD.look {D:DataW Value} {E:List CL} (h:CmD D E) {p q:Int} {kl:Lit} (hk:keyOf Tryz.prog 38 (.agg #[.int .i64 p,.int .i64 q])=some kl):
  ∃c r,D.atKey kl (.held (.agg #[.int .i64 0,.int .i64 0,.string ⟨#[]⟩]))= .held (.agg #[.int .i64 c,.int .i64 r,.string (atC p q E)]):=by
 unfold atC;cases hf:E.find? (fun y=>decide (y.c=p∧y.r=q))with
 | none=>
  refine⟨0,0,?_⟩
  have hno:Maps.has D kl=false:=by
   cases hh:Maps.has D kl with
   | false=>rfl
   | true=>
    obtain⟨x,hx,hkx⟩:=h.back kl hh;have e:=keyedRef.inj hkx hk;have h9:=List.find?_eq_none.1 hf x hx;exact absurd (decide_eq_true (by simpa [CL.key]using e)) h9
  rw [atKey_of_not_has hno];rfl
 | some x=>
  have hx:=List.mem_of_find?_eq_some hf;have hm9:=List.find?_some hf;have hm:x.c=p∧x.r=q:=of_decide_eq_true hm9;obtain⟨k2,hk2,hat⟩:=h.into x hx;have h2:x.key= .agg #[.int .i64 p,.int .i64 q]:=by simp [CL.key,hm.1,hm.2]
  rw [h2,hk]at hk2;cases hk2
  exact⟨x.c,x.r,hat _⟩
def VZ (E:List CL) (x:CH):Option (List CL):=if(Qj x.c x.r&&JQ x.t&&((atC x.c x.r E).toList==x.f.toList))=true then some (Xs ⟨x.c,x.r,x.t⟩ E)else none
def Yt (D:Nat→CH) (E:List CL):Nat→Option (List CL)
 | 0=>some E
 | k+1=>(Yt D E k).bind (fun L=>VZ L (D k))
theorem BH {D : Nat → CH} {E : List CL} {t : Nat} (h : Yt D E t = none) : ∀ m, t ≤ m → Yt D E m = none
  | 0, hm => by obtain rfl : t = 0 := by omega
                exact h
  | m + 1, hm => by
    by_cases e : t = m + 1
    · subst e; exact h
    · rw [Yt, BH h m (by omega)]; rfl
theorem Vj {D:Nat→CH} {E L:List CL} {t:Nat} (h:Yt D E t=some L):Yt D E (t+1)=VZ L (D t):=by rw [Yt,h];rfl
def paF (C R:Nat→Int) (S:Nat→ByteArray) (n:Nat) (D:Nat→CH) (m:Nat):Option (List CL):=if QC C R S n=true∧m≤360 then(match Yt D (clE C R S n) m with
 | some L=>if 120<L.length then none else some L
 | none=>none)else none
theorem Qbv {C R:Nat→Int} {S:Nat→ByteArray} {n m:Nat} {D:Nat→CH} (h:QC C R S n=false):paF C R S n D m=none:=by rw [paF,if_neg (fun e=>by rw [h]at e;cases e.1)]
theorem Qbu {C R:Nat→Int} {S:Nat→ByteArray} {n m:Nat} {D:Nat→CH} (h:360<m):paF C R S n D m=none:=by rw [paF,if_neg (fun e=>by have:=e.2;omega)]
theorem Qbt {C R:Nat→Int} {S:Nat→ByteArray} {n m t:Nat} {D:Nat→CH} {L:List CL} (h:Yt D (clE C R S n) t=some L) (h2:VZ L (D t)=none) (ht:t<m):paF C R S n D m=none:=by
 rw [paF,BH (t:=t+1) (by rw [Vj h];exact h2) m (by omega)];split<;>rfl
theorem Qbw {C R:Nat→Int} {S:Nat→ByteArray} {n m:Nat} {D:Nat→CH} {L:List CL} (h1:QC C R S n=true) (h2:m≤360) (h:Yt D (clE C R S n) m=some L):paF C R S n D m=if 120<L.length then none else some L:=by
 rw [paF,if_pos ⟨h1,h2⟩,h]
theorem BF {E:List CL} {x:CH} (h:Qj x.c x.r=false):VZ E x=none:=by simp [VZ,h]
theorem Mb {E:List CL} {x:CH} (h:JQ x.t=false):VZ E x=none:=by simp [VZ,h]
theorem BD {E:List CL} {x:CH} (h:((atC x.c x.r E).toList==x.f.toList)=false):VZ E x=none:=by simp only [VZ,h,Bool.and_false];rfl
theorem BC {E:List CL} {x:CH} (h1:Qj x.c x.r=true) (h2:JQ x.t=true) (h3:((atC x.c x.r E).toList==x.f.toList)=true):VZ E x=some (Xs ⟨x.c,x.r,x.t⟩ E):=by simp only [VZ,h1,h2,h3];rfl
theorem Qk0 {s:ByteArray} (h:JQ s=true):inF s=some s∧s.size≤200:=by
 unfold JQ at h;cases hi:inF s with
 | none=>rw [hi]at h;cases h
 | some t=>
  rw [hi]at h;obtain rfl:t=s:=Qh5 h;exact⟨rfl,Qit hi⟩
structure PaI (n t:Nat) (L:List CL):Prop where
 rise:L.Pairwise (fun a b=>ltC a b=true)
 len:L.length≤n+t
 sz: ∀x∈L,x.s.size≤maxLen
theorem Qfo {x:CL} {E:List CL} {y:CL} (h:y∈Xs x E):y∈E∨y=x:=by
 have h9:=(Ve x E).mem_iff.1 h;split at h9
 ·exact .inl (offP_mem.1 h9).1
 ·rcases List.mem_append.1 h9 with h9 | h9
  ·exact .inl (offP_mem.1 h9).1
  ·exact .inr (List.mem_singleton.1 h9)
theorem Qfp (x:CL) (E:List CL):(Xs x E).length≤E.length+1:=by
 rw [(Ve x E).length_eq];have h9:(Gj x.c x.r E).length≤E.length:=List.length_filter_le _ _;split
 ·omega
 ·simp;omega
theorem PaI.step {n t:Nat} {L L':List CL} {x:CH} (h:PaI n t L) (hs:VZ L x=some L'):PaI n (t+1) L':=by
 unfold VZ at hs;split at hs
 ·rename_i h9
  cases hs
  simp only [Bool.and_eq_true]at h9;refine⟨Qde h.rise,?_,fun y hy=> ?_⟩
  ·have:=Qfp ⟨x.c,x.r,x.t⟩ L;have:=h.len;omega
  ·rcases Qfo hy with hy | rfl
   ·exact h.sz y hy
   ·have:=(Qk0 h9.1.2).2;unfold maxLen;show x.t.size≤_;omega
 ·cases hs
theorem PaI.start {C R : Nat → Int} {S : Nat → ByteArray} {n : Nat} (h : QC C R S n = true) (hs : ∀ i, i < n → (S i).size ≤ maxLen) : PaI n 0 (clE C R S n) :=
  ⟨(VG h).2.2, by rw [YP]; omega, fun y hy => by
    obtain ⟨i, hi, rfl⟩ := List.mem_map.1 hy
    exact hs i (List.mem_range.1 hi)⟩
theorem PaI.run {D:Nat→CH} {n:Nat} {E:List CL} (h0:PaI n 0 E): ∀(t:Nat) {L:List CL},Yt D E t=some L→PaI n t L
 | 0,L,h=>by cases h;exact h0
 | t+1,L,h=>by
  cases hp:Yt D E t with
  | none=>rw [Yt,hp]at h;cases h
  | some L0=>
   rw [Vj hp]at h;exact(PaI.run h0 t hp).step h
end Go.Proofs.YthjldgbfgapbcaaGreatDoor
namespace Go.Proofs.YthjldgbfgapbcaaGreatDoor
open Go.RowKit
theorem Gp {P:Program} {w:World} (base:Nat) (t ty e:TypeId) (i:TypeInfo) (size c:Nat) (ht:P.underlying t=some (.slice e)) (hi:P.info? e=some i)
  (v:Value) (n:Nat) (xs:List Value) (hown:w.ownsRow base e size v n xs):(Builtin.append_ #[t,t] ty #[v,.slice none 0 c]).run P w= .ok v w:=by
 rcases hown.2 with⟨rfl,rfl⟩ | ⟨g,cap,cur,rfl,_,_,hnc,_⟩
 ·simp [Builtin.append_,run_underlying ht,sizeOf,typeInfo,hi,Builtin.lenOf,Builtin.firstCells]
 ·simp [Builtin.append_,run_underlying ht,sizeOf,typeInfo,hi,Builtin.lenOf,Builtin.firstCells,hnc,storeCells]
section
variable {P:Program} {ops:Array Oper} {rest:List Oper} {o:Oper} {a:Act} {Q:Exit→Act→World→Prop}
theorem VJ {w:World} (hgd:o.guard=none) (s x:Operand) (t:TypeId)
  (ho:o.op= .call {callee:= .builtin .append,args:= #[s,x],argTypes:= #[t,t]})
  (base:Nat) (e:TypeId) (i:TypeInfo) (size c:Nat) (ht:P.underlying t=some (.slice e)) (hi:P.info? e=some i)
  (v:Value) (n:Nat) (xs:List Value) (hs:a.eval s=v) (hown:w.ownsRow base e size v n xs) (hx:a.eval x= .slice none 0 c)
  (h:wpList P ops Q rest (a.put o.dst v) w):wpList P ops Q (o::rest) a w:=by
 refine wpList_plain hgd fun K hK=> ?_;have hrun:=Gp (P:=P) (w:=w) base t o.type e i size c ht hi v n xs hown;unfold Oper.wp;simp [execOp,ho,resolve,invoke,builtin,hs,hx,hrun,Result.andThen];exact hK _ _ h
theorem ND {W:World} (t e:TypeId) (i:TypeInfo) (z:Value) (size bytes:Nat) (ht:P.underlying t=some (.slice e)) (hi:P.info? e=some i) (hz:i.zero=some z) (hsize:i.size=size) (hby:i.bytes=bytes) (hzs:z.cells.size=size) (hsz:0<size)
  (hgd:o.guard=none) (s x:Operand) (ho:o.op= .call {callee:= .builtin .append,args:= #[s,x],argTypes:= #[t,t]}) (B:Nat) (hB:B≤W.heap.size) (v:Value) (hs:a.eval s=v) (hown:W.ownsRow B e size v 0 [])
  (A:Option Addr) (n c:Nat) (xs:List Value) (hx:a.eval x= .slice A n c) (hl:xs.length=n*size) (hA:A=none→n=0) (hc: ∀ad,A=some ad→ ∀j u,xs[j]? =some u→W.cell? (ad.add j)=some u) (h1: ∀u∈xs,u.oneCell'=true) (hn:n≤maxLen) (hb:n*bytes≤140737488355328)
  (h: ∀A' c' w',w'.ownsRow B e size (.slice A' n c') n xs→W.grownBy w' v.ownBlock→wpList P ops Q rest (a.put o.dst (.slice A' n c')) w'):wpList P ops Q (o::rest) a W:=by
 cases A with
 | none=>
  have hn0:=hA rfl;subst hn0;have hxs:xs= []:=by cases xs with | nil=>rfl | cons y ys=>simp at hl
  subst hxs;obtain⟨A',cap',rfl,_,_⟩:=Qr hown;exact VJ hgd s x t ho B e i size c ht hi _ 0 [] hs hown hx (h _ _ W hown (World.grownBy.refl _ _))
 | some ad=>
  refine wpList_append_own W hgd s x t ho B e i z size bytes ht hi hz hsize hby hzs hsz v 0 [] hs hown ad n c xs hx hl (hc ad rfl) h1 (by omega) (by rw [Nat.zero_add];exact hb) hB ?_;intro v' w' ho' hg' _;rw [Nat.zero_add,List.nil_append]at ho';obtain⟨A',cap',rfl,_,_⟩:=Qr ho';exact h A' cap' w' ho' hg'
end
theorem Qhr {W:World} {A:Option Addr} {n:Nat} {C R:Nat→Int} {S:Nat→ByteArray} (h:ClRow W A n C R S): ∀ad,A=some ad→ ∀j u,(clX C R S n)[j]? =some u→W.cell? (ad.add j)=some u:=by
 intro ad hA j u hu;have hj:j<n*3:=by rw [←Oy C R S n];exact(List.getElem?_eq_some_iff.1 hu).1
 obtain⟨b,o,e,_,c0,c1,c2,_⟩:=h.2 (j/3) (by omega);rw [hA]at e;cases e
 have e1:j=(j/3)*3+j%3:=by omega
 have hm:j%3<3:=by omega
 rw [e1,Dw C R S n (j/3) (j%3) (by omega) hm]at hu
 have e2:(⟨b,o,none⟩:Addr).add j=⟨b,o+j/3*3+j%3,none⟩:=by
  rw [Go.WideShapes.add_plain];congr 1
  omega
 rw [e2];rcases(show j%3=0∨j%3=1∨j%3=2 by omega)with h9 | h9 | h9
 ·rw [h9]at hu ⊢;cases hu;exact c0
 ·rw [h9]at hu ⊢;cases hu;exact c1
 ·rw [h9]at hu ⊢;cases hu;exact c2
theorem Qml {W:World} {A:Option Addr} {n:Nat} {C R:Nat→Int} {S:Nat→ByteArray} (h:ClRow W A n C R S) (hA:A=none):n=0:=by
 cases n with
 | zero=>rfl
 | succ m=>obtain⟨b,o,e,_⟩:=h.2 0 (by omega);rw [hA]at e;cases e
theorem Qmm (C R:Nat→Int) (S:Nat→ByteArray) (n:Nat): ∀u∈clX C R S n,u.oneCell'=true:=by
 intro u hu;obtain⟨i,_,hi⟩:=List.mem_flatMap.1 hu;simp only [List.mem_cons,List.not_mem_nil,or_false]at hi;rcases hi with rfl | rfl | rfl<;>rfl
theorem Qmr {n:Nat} {w W:World} (h:Below n w W) (k:Nat):Below n w (W.drewN k):=by
 induction k with
 | zero=>exact h
 | succ k ih=>first | exact ih.drew | (rw [World.drewN_succ];exact ih.drew)
theorem Qpd {C R:Nat→Int} {S:Nat→ByteArray} {n k:Nat} {p q:Int} (hk:k<n) (hn: ∀j,j<k→ ¬(C j=p∧R j=q)) (hy:C k=p∧R k=q):atC p q (clE C R S n)=S k:=by
 have hf:(clE C R S n).find? (fun y=>decide (y.c=p∧y.r=q))=some ⟨C k,R k,S k⟩:=by
  rw [List.find?_eq_some_iff_getElem];refine⟨decide_eq_true hy,k,by rw [YP];exact hk,by simp [clE],fun j hj=> ?_⟩;simp only [clE,List.getElem_map,List.getElem_range,Bool.not_eq_true',decide_eq_false_iff_not];exact hn j hj
 rw [atC,hf];rfl
theorem Qpc {C R:Nat→Int} {S:Nat→ByteArray} {n:Nat} {p q:Int} (hn: ∀j,j<n→ ¬(C j=p∧R j=q)):atC p q (clE C R S n)=⟨#[]⟩:=by
 have hf:(clE C R S n).find? (fun y=>decide (y.c=p∧y.r=q))=none:=by
  rw [List.find?_eq_none];intro y hy;obtain⟨i,hi,rfl⟩:=List.mem_map.1 hy;simp only [decide_eq_true_eq];exact hn i (List.mem_range.1 hi)
 rw [atC,hf];rfl
theorem Na {A:Option Addr} {n cap:Nat} {C R:Nat→Int} {S:Nat→ByteArray} (p q:Int) (w:World) (h:ClRow w A n C R S):
  Calls Tryz.prog 39 #[.slice A n cap,.agg #[.int .i64 p,.int .i64 q]] w fun e w'=>e= .returned (.string (atC p q (clE C R S n)))∧Below w.heap.size w w':=by
 have HR:Hid (ClRow w A n C R S):=h;have hn:=h.1;unfold maxLen at hn;clear h;go_enter Tryz.func39,Tryz.ntmps39;go_wp2_with fail
 go_loopw [5] (fun i wr=> ∃k:Nat,k≤n∧i= .int .i64 k∧(∀j,j<k→ ¬(C j=p∧R j=q))∧Below w.heap.size w wr∧Below (w.heap.size+1) (w.alloc (.cells #[.int .i64 p,.int .i64 q] 38)) wr) (fun i _=>n-(intOf i).toNat)
 case atStart=>exact⟨0,Nat.zero_le _,rfl,fun i hi=>by omega,by go_grown,Below.refl _ _⟩
 case round=>
  obtain⟨k,hk,rfl,hr,hbel,hbx⟩:=hrel;have HI:Hid (∀j,j<k→ ¬(C j=p∧R j=q)):=hr;clear hr;have hs:=hbel.size;have hsx:w.heap.size+1≤wr.heap.size:=Nat.le_trans (by go_size) hbx.size;have e0:wr.cell? ⟨w.heap.size,0,none⟩=some (.int .i64 p):=(hbx.cell (p:=⟨_,_,none⟩) (by simp)).trans (by simp);have e1:wr.cell? ⟨w.heap.size,1,none⟩=some (.int .i64 q):=(hbx.cell (p:=⟨_,_,none⟩) (by simp)).trans (by simp)
  have l0:w.heap.size<wr.heap.size:=by omega
  have HB:Hid (Below w.heap.size w wr):=hbel;have HX:Hid (Below (w.heap.size+1) (w.alloc (.cells #[.int .i64 p,.int .i64 q] 38)) wr):=hbx;by_cases hlt:k<n
  ·obtain⟨b,o,rfl,hl,c0,c1,c2,_⟩:=HR.out.2 k hlt;rw [←hbel.cell (p:=⟨_,_,none⟩) hl]at c0 c1 c2;clear hbel hbx;have hl2:b<wr.heap.size:=Nat.lt_of_lt_of_le hl hs;have h0:(0:Int)≤(k:Int):=by omega
   have h1:(k:Int)<(n:Int):=by omega
   by_cases hc:C k=p
   ·by_cases hd:R k=q
    ·have HF:Hid (atC p q (clE C R S n)=S k):=Qpd hlt HI.out ⟨hc,hd⟩;have t1:(C k==p)=true:=by simpa using hc
     have t2:(R k==q)=true:=by simpa using hd
     clear hc hd;go_wp2_with fail
     go_quiet (fail)
     all_goals go_wp2_with fail
     all_goals go_ret
     all_goals exact⟨Qt HF.out.symm,Qmr HB.out _⟩
    ·have HI':Hid (∀j,j<k+1→ ¬(C j=p∧R j=q)):=fun j hj=>by
      by_cases e:j=k
      ·subst e;exact fun h=>hd h.2
      ·exact HI.out j (by omega)
     have t1:(C k==p)=true:=by simpa using hc
     have t2:(R k==q)=false:=by simpa using hd
     clear hc hd;go_wp2_with fail
     go_quiet (fail)
     all_goals go_wp2_with fail
     all_goals
      go_roundw
      case rel=>exact⟨k+1,by omega,by go_num,HI'.out,Qmr HB.out _,Qmr HX.out _⟩
      case measure=>simp [intOf];omega
   ·have HI':Hid (∀j,j<k+1→ ¬(C j=p∧R j=q)):=fun j hj=>by
     by_cases e:j=k
     ·subst e;exact fun h=>hc h.1
     ·exact HI.out j (by omega)
    have t1:(C k==p)=false:=by simpa using hc
    go_wp2_with fail
    go_quiet (fail)
    all_goals go_wp2_with fail
    all_goals
     go_roundw
     case rel=>exact⟨k+1,by omega,by go_num,HI'.out,Qmr HB.out _,Qmr HX.out _⟩
     case measure=>simp [intOf];omega
  ·have h1: ¬(k:Int)<(n:Int):=by omega
   obtain rfl:k=n:=by omega
   go_wp2_with fail
   go_ret;exact⟨Qt (Qpc HI.out).symm,HB.out⟩
end Go.Proofs.YthjldgbfgapbcaaGreatDoor
namespace Go.Proofs.YthjldgbfgapbcaaGreatDoor
open Go.RowKit Go.Maps
theorem Qpv {W:World} {A:Option Addr} {n:Nat} {D:Nat→CH} (h:ChRow W A n D) {i:Nat} (hi:i<n):(D i).f.size≤maxLen∧(D i).t.size≤maxLen:=by
 obtain⟨_,_,_,_,_,_,_,_,h1,h2⟩:=h.2 i hi;exact⟨h1,h2⟩
theorem Qjm {A A':Option Addr} {n cap m cap':Nat} {C R:Nat→Int} {S:Nat→ByteArray} {D:Nat→CH} (w:World) (h:ClRow w A n C R S) (h':ChRow w A' m D):
  Calls Tryz.prog 16 #[.slice A n cap,.slice A' m cap'] w fun e w'=>EnR w.heap.size w' (paF C R S n D m) e∧Below w.heap.size w w':=by
 have HR:Hid (ClRow w A n C R S):=h;have HD:Hid (ChRow w A' m D):=h';have HSS:Hid (∀i,i<n→(S i).size≤maxLen):=fun i hi=>by obtain⟨_,_,_,_,_,_,_,h9⟩:=h.2 i hi;exact h9
 obtain⟨i0,hi,iz0,iz1,iz2⟩:=info_parts Qax;have HI:Hid (_=_):=hi;clear h h' hi;obtain⟨ck,HCK⟩: ∃ck,Hid (QC C R S n=ck):=⟨_,rfl⟩;go_enter Tryz.func16,Tryz.ntmps16;go_wp2_with fail
 refine(YX _ HR.out).mono ?_;rintro e u1 ⟨rfl,hb⟩;have K1:Hid (Below w.heap.size w u1):=hb;clear hb;rw [HCK.out];cases ck
 ·have HV:Hid (paF C R S n D m=none):=Qbv HCK.out;go_wp2_with fail
  refine bodyPost_ret (v:= .tuple #[.slice none 0 0,.bool false]) ?_ rfl ⟨?_,K1.out⟩
  ·simp (maxDischargeDepth:=9) [results,Tryz.results16,go_sem, *]
  ·rw [HV.out];exact rfl
 by_cases hm:360<m
 ·have HV:Hid (paF C R S n D m=none):=Qbu hm;have q1:(360:Int)<((m:Nat):Int):=by omega
  go_wp2_with fail
  refine bodyPost_ret (v:= .tuple #[.slice none 0 0,.bool false]) ?_ rfl ⟨?_,K1.out⟩
  ·simp (maxDischargeDepth:=9) [results,Tryz.results16,go_sem, *]
  ·rw [HV.out];exact rfl
 have q1: ¬(360:Int)<((m:Nat):Int):=by omega
 have hn:n≤120:=(VG HCK.out).1;have HP0:Hid (PaI n 0 (clE C R S n)):=PaI.start HCK.out HSS.out;have HR1:=hd (HR.out.below K1.out);have HE0:Hid ((u1.alloc (.cells #[] 49)).ownsRow u1.heap.size 49 3 (.slice (some ⟨u1.heap.size,0,none⟩) 0 0) 0 []):=Vk (Nat.le_refl _) rfl;have HR2:Hid (ClRow (u1.alloc (.cells #[] 49)) A n C R S):=by exact HR1.out.below ((Below.refl _ _).alloc (Nat.le_refl _) _)
 go_wp2_with (first
  | (at_builtin;refine ND 24 49 i0 (.agg #[.int .i64 0,.int .i64 0,.string ⟨#[]⟩]) 3 32 Tryz.underlying24 HI.out iz0 iz1 iz2 rfl (by decide) rfl _ _ rfl u1.heap.size (by simp) _ rfl HE0.out A n cap (clX C R S n) rfl (Oy C R S n) (Qml HR2.out) (Qhr HR2.out) (Qmm C R S n) HR2.out.1 (by omega) ?_)
  | fail)
 intro A2 c2 u2 ho hg;have HO2:Hid (u2.ownsRow u1.heap.size 49 3 (.slice A2 n c2) n (Zb CL.cs (clE C R S n))):=by rw [←Ml];exact ho
 have K2:Hid (Below u1.heap.size u1 u2):=((Below.refl _ _).alloc (Nat.le_refl _) _).grown hg (by simp) (fun j hj=>(HE0.out.lt j hj).1);clear ho hg HE0 HR2 HR1 HI;go_wp2_with fail
 go_loopw [6,7] (fun v i wr=> ∃(t:Nat) (L:List CL) (F:Option Addr) (k c:Nat),t≤m∧v= .slice F k c∧i= .int .i64 t∧Yt D (clE C R S n) t=some L∧L.length=k∧wr.ownsRow u1.heap.size 49 3 (.slice F k c) k (Zb CL.cs L)∧Below u1.heap.size u1 wr) (fun _ i _=>m-(intOf i).toNat)
 case atStart=>exact⟨0,_,A2,n,c2,Nat.zero_le _,rfl,rfl,rfl,YP _ _ _ _,HO2.out,K2.out⟩
 case round=>
  clear HO2 K2;obtain⟨t,L,F,k,c,ht,rfl,rfl,hrun,hkl,hown,hbel⟩:=hrel;have HRUN:Hid (Yt D (clE C R S n) t=some L):=hrun;have HPI:Hid (PaI n t L):=HP0.out.run t hrun;have HKL:Hid (L.length=k):=hkl;have hk480:k≤10000:=by rw [←hkl];have:=HPI.out.len;omega
  have HOW:Hid (wr.ownsRow u1.heap.size 49 3 (.slice F k c) k (Zb CL.cs L)):=hown;have KV:Hid (Below u1.heap.size u1 wr):=hbel;have KA:Hid (Below w.heap.size w wr):=K1.out.trans (hbel.mono K1.out.size);clear hrun hkl hown hbel;by_cases hlt:t<m
  ·obtain⟨b,o,rfl,hl,c0,c1,c2,c3,hsf,hst⟩:=HD.out.2 t hlt;obtain⟨X,HX⟩: ∃X:CH,Hid (D t=X):=⟨_,rfl⟩;rw [HX.out]at c0 c1 c2 c3 hsf hst;rw [←KA.out.cell (p:=⟨_,_,none⟩) hl]at c0 c1 c2 c3;have hl2:b<wr.heap.size:=Nat.lt_of_lt_of_le hl KA.out.size;have HST:Hid (X.t.size≤maxLen):=hst;have HNX:Hid (∀v,VZ L X=v→Yt D (clE C R S n) (t+1)=v):=fun v hv=>by rw [Vj HRUN.out,HX.out,hv]
   have HNO:Hid (VZ L X=none→paF C R S n D m=none):=fun hv=>Qbt HRUN.out (by rw [HX.out];exact hv) hlt;have q0:(0:Int)≤(t:Int):=by omega
   have q2:(t:Int)<(m:Int):=by omega
   clear hl hsf hst;obtain⟨xc,HXC⟩: ∃xc:Int,Hid (X.c=xc):=⟨_,rfl⟩;obtain⟨xr,HXR⟩: ∃xr:Int,Hid (X.r=xr):=⟨_,rfl⟩;obtain⟨xf,HXF⟩: ∃xf:ByteArray,Hid (X.f=xf):=⟨_,rfl⟩;obtain⟨xt,HXT⟩: ∃xt:ByteArray,Hid (X.t=xt):=⟨_,rfl⟩;rw [HXC.out]at c0;rw [HXR.out]at c1
   rw [HXF.out]at c2;rw [HXT.out]at c3;have HSZ:Hid (xt.size≤maxLen):=by show _≤_;rw [←HXT.out];exact HST.out
   clear HST;obtain⟨io,HIO⟩: ∃io,Hid (inF xt=io):=⟨_,rfl⟩;obtain⟨rk,HRK⟩: ∃rk,Hid (Qj xc xr=rk):=⟨_,rfl⟩;obtain⟨sa,HAT⟩: ∃sa,Hid (atC xc xr (clE (Ec L) (Eb L) (MN L) k)=sa):=⟨_,rfl⟩;have HAL:Hid (atC xc xr L=sa):=by show _=_;rw [←HAT.out,←HKL.out,Qa0]
   go_wp2_with fail
   refine(Zg xt _ HSZ.out).mono ?_;rintro e u3 ⟨hop,hb⟩;rw [←hb.cell (p:=⟨_,_,none⟩) hl2]at c0 c1 c2 c3;have hl3:b<u3.heap.size:=Nat.lt_of_lt_of_le hl2 hb.size;have K3:=hd (Qe KA.out hb);have KV3:=hd (Qe KV.out hb);have HO3:=hd (Ql HOW.out hb)
   have HR3:Hid (ClRow u3 F k (Ec L) (Eb L) (MN L)):=UK HO3.out HKL.out HPI.out.sz;have z13:u1.heap.size≤u3.heap.size:=KV3.out.size;rw [HIO.out]at hop;have HOP:Hid (opA io e):=hop;clear hop hb hl2 HOW KV KA
   obtain⟨tx,ok,HE,HTX⟩: ∃(tx:ByteArray) (ok:Bool),Hid (e= .returned (.tuple #[.string tx,.bool ok]))∧Hid (io=if ok=true then some tx else none):=by
    cases io with
    | none=>exact⟨⟨#[]⟩,false,HOP.out,rfl⟩
    | some t=>exact⟨t,true,HOP.out,rfl⟩
   rw [HE.out];clear HE HOP
   have HOB:Hid (JQ xt=(ok&&(tx.toList==xt.toList))):=by
    show _=_;unfold JQ;rw [HIO.out,HTX.out];cases ok<;>rfl
   go_upto_region 8 with fail
   cases rk
   ·have HV:Hid (paF C R S n D m=none):=HNO.out (BF (by rw [HXC.out,HXR.out];exact HRK.out));refine wp_region_held_drew (S:=(fun w'=>(∀bq oq,bq<u3.heap.size→w'.cell? ⟨bq,oq,none⟩=u3.cell? ⟨bq,oq,none⟩)∧u3.heap.size≤w'.heap.size∧Below u3.heap.size u3 w')) (by kernel_rfl) (Qm (by go_size) (by go_grown)) (fun hHeld=> ?_);refine tkA 0 ?_;refine tkB 1 ?_;refine tkA 2 ?_;refine tkB 3 ?_;refine tkB 4 ?_
    refine rqA 5 (fun Kq hKq=> ?_);go_simp
    (refine(Qu _ _ _).mono ?_;rintro e w1 ⟨rfl,hb⟩;rw [HRK.out];obtain⟨hk1,hz1⟩:=Qi (B:=u3.heap.size) (X:=u3) (by go_grown) (by go_size) hb;have hC:=fun b o h=>hk1.cell (p:=⟨b,o,none⟩) h;clear hb)
    refine hkB hKq (Qm (by go_size) (by go_grown)) fun hHeld=> ?_;clear hKq Kq;refine tkA 6 ?_;refine tkB 7 ?_;refine tnA 8 ?_;refine tnB 9 ?_;refine tkA 10 ?_
    refine tkB 11 ?_;refine tnA 12 ?_;refine tnB 13 ?_;refine tnA 14 ?_;refine tnB 15 ?_;refine tnA 16 ?_;refine tnB 17 ?_
    refine tnA 18 ?_;refine tkB 19 ?_;refine tkA 20 ?_;refine tnB 21 ?_;refine tnA 22 ?_;refine tnB 23 ?_;refine tnA 24 ?_
    refine tnB 25 ?_;refine tnA 26 ?_;refine tnB 27 ?_;refine tnA 28 ?_;refine tnB 29 ?_;refine tnA 30 ?_;refine tnB 31 ?_
    refine tnA 32 ?_;refine tnB 33 ?_;refine tkB 34 ?_;refine wpAnyH_done (by kernel_rfl) ?_ _;go_wp2_with fail
    refine bodyPost_ret (v:= .tuple #[.slice none 0 0,.bool false]) ?_ rfl ⟨?_,Qe K3.out (by go_grown)⟩
    ·simp (maxDischargeDepth:=9) [results,Tryz.results16,go_sem, *]
    ·rw [HV.out];exact rfl
   cases ok
   ·have HV:Hid (paF C R S n D m=none):=HNO.out (Mb (by rw [HXT.out,HOB.out];rfl));refine wp_region_held_drew (S:=(fun w'=>(∀bq oq,bq<u3.heap.size→w'.cell? ⟨bq,oq,none⟩=u3.cell? ⟨bq,oq,none⟩)∧u3.heap.size≤w'.heap.size∧Below u3.heap.size u3 w')) (by kernel_rfl) (Qm (by go_size) (by go_grown)) (fun hHeld=> ?_);refine tkA 0 ?_;refine tkB 1 ?_;refine tkA 2 ?_;refine tkB 3 ?_;refine tkB 4 ?_
    refine rqA 5 (fun Kq hKq=> ?_);go_simp
    (refine(Qu _ _ _).mono ?_;rintro e w1 ⟨rfl,hb⟩;rw [HRK.out];obtain⟨hk1,hz1⟩:=Qi (B:=u3.heap.size) (X:=u3) (by go_grown) (by go_size) hb;have hC:=fun b o h=>hk1.cell (p:=⟨b,o,none⟩) h;clear hb)
    refine hkB hKq (Qm (by go_size) (by go_grown)) fun hHeld=> ?_;clear hKq Kq;refine tkA 6 ?_;refine tkB 7 ?_;refine tkA 8 ?_;refine tkB 9 ?_;refine tkA 10 ?_
    refine tkB 11 ?_;refine tnA 12 ?_;refine tnB 13 ?_;refine tnA 14 ?_;refine tnB 15 ?_;refine tnA 16 ?_;refine tnB 17 ?_
    refine tnA 18 ?_;refine tkB 19 ?_;refine tkA 20 ?_;refine tnB 21 ?_;refine tnA 22 ?_;refine tnB 23 ?_;refine tnA 24 ?_
    refine tnB 25 ?_;refine tnA 26 ?_;refine tnB 27 ?_;refine tnA 28 ?_;refine tnB 29 ?_;refine tnA 30 ?_;refine tnB 31 ?_
    refine tnA 32 ?_;refine tnB 33 ?_;refine tkB 34 ?_;refine wpAnyH_done (by kernel_rfl) ?_ _;go_wp2_with fail
    refine bodyPost_ret (v:= .tuple #[.slice none 0 0,.bool false]) ?_ rfl ⟨?_,Qe K3.out (by go_grown)⟩
    ·simp (maxDischargeDepth:=9) [results,Tryz.results16,go_sem, *]
    ·rw [HV.out];exact rfl
   obtain⟨ow,HOWN⟩: ∃ow,Hid ((tx.toList==xt.toList)=ow):=⟨_,rfl⟩;have how:=HOWN.out;cases ow
   ·have HV:Hid (paF C R S n D m=none):=HNO.out (Mb (by rw [HXT.out,HOB.out,HOWN.out];rfl));refine wp_region_held_drew (S:=(fun w'=>(∀bq oq,bq<u3.heap.size→w'.cell? ⟨bq,oq,none⟩=u3.cell? ⟨bq,oq,none⟩)∧u3.heap.size≤w'.heap.size∧Below u3.heap.size u3 w')) (by kernel_rfl) (Qm (by go_size) (by go_grown)) (fun hHeld=> ?_);refine tkA 0 ?_;refine tkB 1 ?_;refine tkA 2 ?_;refine tkB 3 ?_;refine tkB 4 ?_
    refine rqA 5 (fun Kq hKq=> ?_);go_simp
    (refine(Qu _ _ _).mono ?_;rintro e w1 ⟨rfl,hb⟩;rw [HRK.out];obtain⟨hk1,hz1⟩:=Qi (B:=u3.heap.size) (X:=u3) (by go_grown) (by go_size) hb;have hC:=fun b o h=>hk1.cell (p:=⟨b,o,none⟩) h;clear hb)
    refine hkB hKq (Qm (by go_size) (by go_grown)) fun hHeld=> ?_;clear hKq Kq;refine tkA 6 ?_;refine tkB 7 ?_;refine tkA 8 ?_;refine tkB 9 ?_;refine tkA 10 ?_
    refine tkB 11 ?_;refine tkA 12 ?_;refine tkB 13 ?_;refine tkA 14 ?_;refine tkB 15 ?_;refine tkA 16 ?_;refine tkB 17 ?_
    refine tkA 18 ?_;refine tkB 19 ?_;refine tkA 20 ?_;refine tnB 21 ?_;refine tnA 22 ?_;refine tnB 23 ?_;refine tnA 24 ?_
    refine tnB 25 ?_;refine tnA 26 ?_;refine tnB 27 ?_;refine tnA 28 ?_;refine tnB 29 ?_;refine tnA 30 ?_;refine tnB 31 ?_
    refine tnA 32 ?_;refine tnB 33 ?_;refine tkB 34 ?_;refine wpAnyH_done (by kernel_rfl) ?_ _;go_wp2_with fail
    refine bodyPost_ret (v:= .tuple #[.slice none 0 0,.bool false]) ?_ rfl ⟨?_,Qe K3.out (by go_grown)⟩
    ·simp (maxDischargeDepth:=9) [results,Tryz.results16,go_sem, *]
    ·rw [HV.out];exact rfl
   have HOK:Hid (JQ xt=true):=by show _=_;rw [HOB.out,HOWN.out];rfl
   obtain⟨sm,HSM⟩: ∃sm,Hid ((sa.toList==xf.toList)=sm):=⟨_,rfl⟩;have hsm:=HSM.out;cases sm
   ·have HV:Hid (paF C R S n D m=none):=HNO.out (BD (by rw [HXC.out,HXR.out,HXF.out,HAL.out];exact HSM.out));refine wp_region_held_drew (S:=(fun w'=>(∀bq oq,bq<u3.heap.size→w'.cell? ⟨bq,oq,none⟩=u3.cell? ⟨bq,oq,none⟩)∧u3.heap.size≤w'.heap.size∧Below u3.heap.size u3 w')) (by kernel_rfl) (Qm (by go_size) (by go_grown)) (fun hHeld=> ?_);refine tkA 0 ?_;refine tkB 1 ?_;refine tkA 2 ?_;refine tkB 3 ?_;refine tkB 4 ?_
    refine rqA 5 (fun Kq hKq=> ?_);go_simp
    (refine(Qu _ _ _).mono ?_;rintro e w1 ⟨rfl,hb⟩;rw [HRK.out];obtain⟨hk1,hz1⟩:=Qi (B:=u3.heap.size) (X:=u3) (by go_grown) (by go_size) hb;have hC:=fun b o h=>hk1.cell (p:=⟨b,o,none⟩) h;clear hb)
    refine hkB hKq (Qm (by go_size) (by go_grown)) fun hHeld=> ?_;clear hKq Kq;refine tkA 6 ?_;refine tkB 7 ?_;refine tkA 8 ?_;refine tkB 9 ?_;refine tkA 10 ?_
    refine tkB 11 ?_;refine tkA 12 ?_;refine tkB 13 ?_;refine tkA 14 ?_;refine tkB 15 ?_;refine tkA 16 ?_;refine tkB 17 ?_
    refine tkA 18 ?_;refine tkB 19 ?_;refine tkA 20 ?_;refine tkB 21 ?_;refine tkA 22 ?_;refine tkB 23 ?_;refine tkA 24 ?_
    refine tkB 25 ?_;refine tkA 26 ?_;refine tkB 28 ?_;refine tkA 29 ?_;refine tkB 30 ?_;refine tkA 31 ?_;refine tkB 32 ?_
    refine rqA 27 (fun Kq hKq=> ?_);go_simp
    (refine(Na _ _ _ (HR3.out.below (by go_grown))).mono ?_;rintro e w2 ⟨rfl,hb⟩;rw [HAT.out];obtain⟨hk2,hz2⟩:=Qi (B:=u3.heap.size) (X:=u3) (by go_grown) (by go_size) hb;have hC2:=fun b o h=>hk2.cell (p:=⟨b,o,none⟩) h;clear hb)
    refine hkB hKq (Qm (by go_size) (by go_grown)) fun hHeld=> ?_;clear hKq Kq;refine tkA 33 ?_;refine tkB 34 ?_;refine wpAnyH_done (by kernel_rfl) ?_ _;go_wp2_with fail
    refine bodyPost_ret (v:= .tuple #[.slice none 0 0,.bool false]) ?_ rfl ⟨?_,Qe K3.out (by go_grown)⟩
    ·simp (maxDischargeDepth:=9) [results,Tryz.results16,go_sem, *]
    ·rw [HV.out];exact rfl
   have HST:Hid (VZ L X=some (Xs ⟨xc,xr,xt⟩ L)):=by
    show _=_;rw [BC (by rw [HXC.out,HXR.out];exact HRK.out) (by rw [HXT.out];exact HOK.out) (by rw [HXC.out,HXR.out,HXF.out,HAL.out];exact HSM.out),HXC.out,HXR.out,HXT.out]
   have HNR:Hid (Yt D (clE C R S n) (t+1)=some (Xs ⟨xc,xr,xt⟩ L)):=HNX.out _ HST.out;have HEQ:Hid (Qcm ⟨xc,xr,xt⟩ (clE (Ec L) (Eb L) (MN L) k)=Xs ⟨xc,xr,xt⟩ L):=by show _=_;rw [←HKL.out,Qa0];exact(Bn HPI.out.rise).symm
   refine wp_region_held_drew (S:=(fun w'=>(∀bq oq,bq<u3.heap.size→w'.cell? ⟨bq,oq,none⟩=u3.cell? ⟨bq,oq,none⟩)∧u3.heap.size≤w'.heap.size∧Below u3.heap.size u3 w')) (by kernel_rfl) (Qm (by go_size) (by go_grown)) (fun hHeld=> ?_);refine tkA 0 ?_;refine tkB 1 ?_;refine tkA 2 ?_;refine tkB 3 ?_;refine tkB 4 ?_;refine rqA 5 (fun Kq hKq=> ?_)
   go_simp
   (refine(Qu _ _ _).mono ?_;rintro e w1 ⟨rfl,hb⟩;rw [HRK.out];obtain⟨hk1,hz1⟩:=Qi (B:=u3.heap.size) (X:=u3) (by go_grown) (by go_size) hb;have hC:=fun b o h=>hk1.cell (p:=⟨b,o,none⟩) h;clear hb)
   refine hkB hKq (Qm (by go_size) (by go_grown)) fun hHeld=> ?_;clear hKq Kq;refine tkA 6 ?_;refine tkB 7 ?_;refine tkA 8 ?_;refine tkB 9 ?_;refine tkA 10 ?_
   refine tkB 11 ?_;refine tkA 12 ?_;refine tkB 13 ?_;refine tkA 14 ?_;refine tkB 15 ?_;refine tkA 16 ?_;refine tkB 17 ?_
   refine tkA 18 ?_;refine tkB 19 ?_;refine tkA 20 ?_;refine tkB 21 ?_;refine tkA 22 ?_;refine tkB 23 ?_;refine tkA 24 ?_
   refine tkB 25 ?_;refine tkA 26 ?_;refine tkB 28 ?_;refine tkA 29 ?_;refine tkB 30 ?_;refine tkA 31 ?_;refine tkB 32 ?_
   refine rqA 27 (fun Kq hKq=> ?_);go_simp
   (refine(Na _ _ _ (HR3.out.below (by go_grown))).mono ?_;rintro e w2 ⟨rfl,hb⟩;rw [HAT.out];obtain⟨hk2,hz2⟩:=Qi (B:=u3.heap.size) (X:=u3) (by go_grown) (by go_size) hb;have hC2:=fun b o h=>hk2.cell (p:=⟨b,o,none⟩) h;clear hb)
   refine hkB hKq (Qm (by go_size) (by go_grown)) fun hHeld=> ?_;clear hKq Kq;refine tkA 33 ?_;refine tkB 34 ?_;refine wpAnyH_done (by kernel_rfl) ?_ _;go_upto_region 10 with fail
   refine wp_region_held_drew (S:=(fun w'=>(∀bq oq,bq<u3.heap.size→w'.cell? ⟨bq,oq,none⟩=u3.cell? ⟨bq,oq,none⟩)∧u3.heap.size≤w'.heap.size∧Below u3.heap.size u3 w')) (by kernel_rfl) (Qm (by go_size) (by go_grown)) (fun hHeld=> ?_);refine tkA 0 ?_;refine tkB 1 ?_;refine tkA 2 ?_;refine tkB 3 ?_;refine tkA 4 ?_;refine tkB 5 ?_
   refine tkA 6 ?_;refine tkB 7 ?_;refine tkA 8 ?_;refine tkB 9 ?_;refine tkB 10 ?_;refine rqA 11 (fun Kq hKq=> ?_);go_simp
   (refine(Ue _ (HR3.out.below (by go_grown)) hk480).mono ?_;rintro e w5 ⟨A5,c5,m5,rfl,hl5,ho5,hb⟩;rw [HEQ.out]at hl5 ho5;have HL5:Hid ((Xs ⟨xc,xr,xt⟩ L).length=m5):=hl5;have HO5:Hid (w5.ownsRow u1.heap.size 49 3 (.slice A5 m5 c5) m5 (Zb CL.cs (Xs ⟨xc,xr,xt⟩ L))):=Go.Proofs.ownsRow_base_a ho5 (by go_size);obtain⟨hk5,hz5⟩:=Qi (B:=u3.heap.size) (X:=u3) (by go_grown) (by go_size) hb;have hC5:=fun b o h=>hk5.cell (p:=⟨b,o,none⟩) h;clear hb;clear hl5 ho5)
   refine hkB hKq (Qm (by go_size) (by go_grown)) fun hHeld=> ?_;clear hKq Kq;refine tkB 12 ?_;refine wpAnyH_done (by kernel_rfl) ?_ _;go_wp2_with fail
   go_roundw
   case rel=>exact⟨t+1,_,A5,m5,c5,by omega,rfl,by go_num,HNR.out,HL5.out,Ql HO5.out (by go_grown),Qe KV3.out (by go_grown)⟩
   case measure=>simp [intOf];omega
  ·have h1: ¬(t:Int)<(m:Int):=by omega
   obtain rfl:m=t:=by omega
   have HV:Hid (paF C R S n D m=if 120<L.length then none else some L):=Qbw HCK.out (by omega) HRUN.out;by_cases h120:120<k
   ·have q3:(120:Int)<((k:Nat):Int):=by omega
    go_wp2_with fail
    refine bodyPost_ret (v:= .tuple #[.slice none 0 0,.bool false]) ?_ rfl ⟨?_,KA.out⟩
    ·simp (maxDischargeDepth:=9) [results,Tryz.results16,go_sem, *]
    ·rw [HV.out,HKL.out,if_pos h120];exact rfl
   ·have q3: ¬(120:Int)<((k:Nat):Int):=by omega
    go_wp2_with fail
    refine bodyPost_ret (v:= .tuple #[.slice F k c,.bool true]) ?_ rfl ⟨?_,KA.out⟩
    ·simp (maxDischargeDepth:=9) [results,Tryz.results16,go_sem, *]
    ·rw [HV.out,HKL.out,if_neg h120];exact⟨F,c,k,rfl,HKL.out,Go.Proofs.ownsRow_base_a HOW.out K1.out.size⟩
theorem Qc3 (w:World):(zeroValue 49).run Tryz.prog w= .ok (.agg #[.int .i64 0,.int .i64 0,.string ⟨#[]⟩]) w:=by kernel_rfl
theorem Qem (c r:Int) (s:ByteArray) (w:World):(Instr.field 49 (.agg #[.int .i64 c,.int .i64 r,.string s]) 1).run Tryz.prog w= .ok (.string s) w:=by kernel_rfl
theorem EN {W:World} {b n:Nat} {D:DataW Value} {p q:Int} {l:Lit} {v:Value} (hown:W.ownsMap Tryz.prog 38 YU b n D) (hl:keyOf Tryz.prog 38 (.agg #[.int .i64 p,.int .i64 q])=some l)
  (hv:D.atKey l (.held (.agg #[.int .i64 0,.int .i64 0,.string ⟨#[]⟩]))= .held v):(Instr.lookup 61 (.map (some b)) (.agg #[.int .i64 p,.int .i64 q]) false).run Tryz.prog W= .ok v W:=by
 obtain⟨u,ps,h1,h2⟩:=hown.lookup keyedRef Tryz.underlying61 (Qc3 W) (rfl:YU _=some (.held _,[])) hl;rw [hv]at h2;unfold YU at h2;simp at h2;rw [h1,h2.1]
theorem Ga {W W':World} {b n:Nat} {D:DataW Value} (ho:W.ownsMap Tryz.prog 38 YU b n D) (hb:Below W.heap.size W W'):W'.ownsMap Tryz.prog 38 YU b n D:=by
 have hl:=ho.lt;obtain⟨es,clock,h1,Ft,hs,hD⟩:=ho;exact⟨es,clock,(hb.block b hl).trans h1,Ft,hs,hD⟩
theorem Vv {B:Nat} {X W:World} {p:World→Prop} (h:SC B X W) (hp: ∀w',Below B X w'→p w'):((∀bq oq,bq<B→W.cell? ⟨bq,oq,none⟩=X.cell? ⟨bq,oq,none⟩)∧B≤W.heap.size∧Below B X W)∧p W:=⟨h,hp W h.2.2⟩
theorem Qjn {A A':Option Addr} {n cap m cap':Nat} {C R:Nat→Int} {S:Nat→ByteArray} {D:Nat→CH} (w:World) (h:ClRow w A n C R S) (h':ChRow w A' m D) (hg:GI w):
  Calls Tryz.prog 12 #[.slice A n cap,.slice A' m cap'] w fun e w'=>EnR w.heap.size w' (paF C R S n D m) e∧Below w.heap.size w w':=by
 have HR:Hid (ClRow w A n C R S):=h;have HD:Hid (ChRow w A' m D):=h';have HG:Hid (GI w):=hg;have HSS:Hid (∀i,i<n→(S i).size≤maxLen):=fun i hi=>by obtain⟨_,_,_,_,_,_,_,h9⟩:=h.2 i hi;exact h9
 clear h h' hg;obtain⟨ck,HCK⟩: ∃ck,Hid (QC C R S n=ck):=⟨_,rfl⟩;go_enter Tryz.func12,Tryz.ntmps12;go_wp2_with fail
 refine(Jb _ HR.out HG.out).mono ?_;rintro e u1 ⟨rfl,hb⟩;have K1:Hid (Below w.heap.size w u1):=hb;clear hb;rw [HCK.out];cases ck
 ·have HV:Hid (paF C R S n D m=none):=Qbv HCK.out;go_wp2_with fail
  refine bodyPost_ret (v:= .tuple #[.slice none 0 0,.bool false]) ?_ rfl ⟨?_,K1.out⟩
  ·simp (maxDischargeDepth:=9) [results,Tryz.results12,go_sem, *]
  ·rw [HV.out];exact rfl
 by_cases hm:360<m
 ·have HV:Hid (paF C R S n D m=none):=Qbu hm;have q1:(360:Int)<((m:Nat):Int):=by omega
  go_wp2_with fail
  refine bodyPost_ret (v:= .tuple #[.slice none 0 0,.bool false]) ?_ rfl ⟨?_,K1.out⟩
  ·simp (maxDischargeDepth:=9) [results,Tryz.results12,go_sem, *]
  ·rw [HV.out];exact rfl
 have q1: ¬(360:Int)<((m:Nat):Int):=by omega
 obtain⟨hn,hrf,hri⟩:=VG HCK.out;have HRF:Hid (∀i,i<n→Qj (C i) (R i)=true):=hrf;have HRI:Hid ((clE C R S n).Pairwise (fun a b=>ltC a b=true)):=hri;clear hrf hri;have HP0:Hid (PaI n 0 (clE C R S n)):=PaI.start HCK.out HSS.out;obtain⟨kl,hkl⟩:=Qbk (n:=n) HRF.out;have HKL:Hid (∀i,i<n→keyOf Tryz.prog 38 (.agg #[.int .i64 (C i),.int .i64 (R i)])=some (kl i)):=hkl
 clear hkl;go_wp2_with fail
 refine(JE _ (HR.out.below K1.out) hn HKL.out).mono ?_;rintro e u2 ⟨rfl,ho,hb⟩;obtain⟨g,HGG⟩: ∃g,Hid (u1.heap.size=g):=⟨_,rfl⟩;rw [HGG.out]at ho;rw [HGG.out];have HM:Hid (u2.ownsMap Tryz.prog 38 YU g n (clD kl C R S n)):=ho;have HCD:Hid (CmD (clD kl C R S n) (clE C R S n)):=Qi6 n HKL.out (Qek HRI.out)
 have HWG:Hid (w.heap.size≤g):=by show _≤_;rw [←HGG.out];exact K1.out.size
 have K2:=hd (Qe K1.out hb);clear ho hb HGG;go_wp2_with fail
 go_loopw [21] (fun i wr=> ∃(t:Nat) (L:List CL) (cnt:Nat) (Dm:DataW Value),t≤m∧i= .int .i64 t∧Yt D (clE C R S n) t=some L∧wr.ownsMap Tryz.prog 38 YU g cnt Dm∧CmD Dm L∧cnt≤n+t∧Below w.heap.size w wr) (fun i _=>m-(intOf i).toNat)
 case atStart=>exact⟨0,_,n,_,Nat.zero_le _,rfl,rfl,HM.out,HCD.out,by omega,K2.out⟩
 case round=>
  clear HM HCD K2;obtain⟨t,L,cnt,Dm,ht,rfl,hrun,hmap,hcm,hcnt,hbel⟩:=hrel;have HRUN:Hid (Yt D (clE C R S n) t=some L):=hrun;have HPI:Hid (PaI n t L):=HP0.out.run t hrun;have HMP:Hid (wr.ownsMap Tryz.prog 38 YU g cnt Dm):=hmap;have HCM:Hid (CmD Dm L):=hcm;have KA:Hid (Below w.heap.size w wr):=hbel
  clear hrun hmap hcm hbel;by_cases hlt:t<m
  ·obtain⟨b,o,rfl,hl,c0,c1,c2,c3,hsf,hst⟩:=HD.out.2 t hlt;obtain⟨Y,HY⟩: ∃Y:CH,Hid (D t=Y):=⟨_,rfl⟩;rw [HY.out]at c0 c1 c2 c3 hsf hst;rw [←KA.out.cell (p:=⟨_,_,none⟩) hl]at c0 c1 c2 c3;have hl2:b<wr.heap.size:=Nat.lt_of_lt_of_le hl KA.out.size;have HST:Hid (Y.t.size≤maxLen):=hst;have HNX:Hid (∀v,VZ L Y=v→Yt D (clE C R S n) (t+1)=v):=fun v hv=>by rw [Vj HRUN.out,HY.out,hv]
   have HNO:Hid (VZ L Y=none→paF C R S n D m=none):=fun hv=>Qbt HRUN.out (by rw [HY.out];exact hv) hlt;have q0:(0:Int)≤(t:Int):=by omega
   have q2:(t:Int)<(m:Int):=by omega
   clear hl hsf hst;obtain⟨xc,HXC⟩: ∃xc:Int,Hid (Y.c=xc):=⟨_,rfl⟩;obtain⟨xr,HXR⟩: ∃xr:Int,Hid (Y.r=xr):=⟨_,rfl⟩;obtain⟨xf,HXF⟩: ∃xf:ByteArray,Hid (Y.f=xf):=⟨_,rfl⟩;obtain⟨xt,HXT⟩: ∃xt:ByteArray,Hid (Y.t=xt):=⟨_,rfl⟩;rw [HXC.out]at c0;rw [HXR.out]at c1
   rw [HXF.out]at c2;rw [HXT.out]at c3;have HSZ:Hid (xt.size≤maxLen):=by show _≤_;rw [←HXT.out];exact HST.out
   clear HST;obtain⟨rk,HRK⟩: ∃rk,Hid (Qj xc xr=rk):=⟨_,rfl⟩;obtain⟨ob,HOB⟩: ∃ob,Hid (JQ xt=ob):=⟨_,rfl⟩;obtain⟨sa,HAT⟩: ∃sa,Hid (atC xc xr L=sa):=⟨_,rfl⟩;go_upto_region 7 with fail
   obtain⟨X,HX⟩: ∃X,Hid (wr.alloc (.cells #[.int .i64 xc,.int .i64 xr,.string xf,.string xt] 40)=X):=⟨_,rfl⟩;rw [HX.out];have x0:X.cell? ⟨wr.heap.size,0,none⟩=some (.int .i64 xc):=by rw [←HX.out];go_simp
   have x1:X.cell? ⟨wr.heap.size,1,none⟩=some (.int .i64 xr):=by rw [←HX.out];go_simp
   have x2:X.cell? ⟨wr.heap.size,2,none⟩=some (.string xf):=by rw [←HX.out];go_simp
   have x3:X.cell? ⟨wr.heap.size,3,none⟩=some (.string xt):=by rw [←HX.out];go_simp
   have zX:wr.heap.size<X.heap.size:=by rw [←HX.out];simp
   have KW:Hid (Below wr.heap.size wr X):=by rw [←HX.out];show Below _ _ _;go_grown
   have KX:=hd (Qe KA.out KW.out);have HGX:=hd (HG.out.below KX.out);have HMX:Hid (X.ownsMap Tryz.prog 38 YU g cnt Dm):=Ga HMP.out KW.out;clear HX c0 c1 c2 c3 hl2 KW KA HMP;cases rk
   ·have HV:Hid (paF C R S n D m=none):=HNO.out (BF (by rw [HXC.out,HXR.out];exact HRK.out));refine wp_region_held_drew (S:=(fun w'=>(∀bq oq,bq<X.heap.size→w'.cell? ⟨bq,oq,none⟩=X.cell? ⟨bq,oq,none⟩)∧X.heap.size≤w'.heap.size∧Below X.heap.size X w')) (by kernel_rfl) (Qm (by go_size) (by go_grown)) (fun hHeld=> ?_);refine tkA 0 ?_;refine tkB 1 ?_;refine rqA 2 (fun Kq hKq=> ?_);go_simp
    (refine(QN _ _ _).mono ?_;rintro e w1 ⟨rfl,hb⟩;rw [HRK.out];obtain⟨hk1,hz1⟩:=Qi (B:=X.heap.size) (X:=X) (by go_grown) (by go_size) hb;have hC:=fun b o h=>hk1.cell (p:=⟨b,o,none⟩) h;clear hb)
    refine hkB hKq (Qm (by go_size) (by go_grown)) fun hHeld=> ?_;clear hKq Kq;refine tkA 3 ?_;refine tkB 4 ?_;refine tnA 5 ?_;refine tnB 6 ?_;refine tnA 7 ?_
    refine tnB 8 ?_;refine tkA 9 ?_;refine tkB 10 ?_;refine tnA 11 ?_;refine tnB 12 ?_;refine tnA 13 ?_;refine tnB 14 ?_
    refine tnA 15 ?_;refine tnB 16 ?_;refine tnA 17 ?_;refine tnB 18 ?_;refine tkB 19 ?_;refine wpAnyH_done (by kernel_rfl) ?_ _;go_wp2_with fail
    refine bodyPost_ret (v:= .tuple #[.slice none 0 0,.bool false]) ?_ rfl ⟨?_,Qe KX.out (by go_grown)⟩
    ·simp (maxDischargeDepth:=9) [results,Tryz.results12,go_sem, *]
    ·rw [HV.out];exact rfl
   cases ob
   ·have HV:Hid (paF C R S n D m=none):=HNO.out (Mb (by rw [HXT.out];exact HOB.out));refine wp_region_held_drew (S:=(fun w'=>(∀bq oq,bq<X.heap.size→w'.cell? ⟨bq,oq,none⟩=X.cell? ⟨bq,oq,none⟩)∧X.heap.size≤w'.heap.size∧Below X.heap.size X w')) (by kernel_rfl) (Qm (by go_size) (by go_grown)) (fun hHeld=> ?_);refine tkA 0 ?_;refine tkB 1 ?_;refine rqA 2 (fun Kq hKq=> ?_);go_simp
    (refine(QN _ _ _).mono ?_;rintro e w1 ⟨rfl,hb⟩;rw [HRK.out];obtain⟨hk1,hz1⟩:=Qi (B:=X.heap.size) (X:=X) (by go_grown) (by go_size) hb;have hC:=fun b o h=>hk1.cell (p:=⟨b,o,none⟩) h;clear hb)
    refine hkB hKq (Qm (by go_size) (by go_grown)) fun hHeld=> ?_;clear hKq Kq;refine tkA 3 ?_;refine tkB 4 ?_;refine tkA 5 ?_;refine tkB 6 ?_;refine rqA 7 (fun Kq hKq=> ?_)
    go_simp
    (refine(Zk _ _ HSZ.out (HGX.out.below (by go_grown))).mono ?_;rintro e w2 ⟨rfl,hb⟩;rw [HOB.out];obtain⟨hk2,hz2⟩:=Qi (B:=X.heap.size) (X:=X) (by go_grown) (by go_size) hb;have hC2:=fun b o h=>hk2.cell (p:=⟨b,o,none⟩) h;clear hb)
    refine hkB hKq (Qm (by go_size) (by go_grown)) fun hHeld=> ?_;clear hKq Kq;refine tkA 8 ?_;refine tkB 9 ?_;refine tkA 10 ?_;refine tnB 11 ?_;refine tnA 12 ?_
    refine tnB 13 ?_;refine tnA 14 ?_;refine tnB 15 ?_;refine tnA 16 ?_;refine tnB 17 ?_;refine tnA 18 ?_;refine tkB 19 ?_
    refine wpAnyH_done (by kernel_rfl) ?_ _;go_wp2_with fail
    refine bodyPost_ret (v:= .tuple #[.slice none 0 0,.bool false]) ?_ rfl ⟨?_,Qe KX.out (by go_grown)⟩
    ·simp (maxDischargeDepth:=9) [results,Tryz.results12,go_sem, *]
    ·rw [HV.out];exact rfl
   obtain⟨k0,hk0⟩:=Qd6 HRK.out;have HK0:Hid (keyOf Tryz.prog 38 (.agg #[.int .i64 xc,.int .i64 xr])=some k0):=hk0;obtain⟨lc,lr,hlk⟩:=HCM.out.look hk0;rw [HAT.out]at hlk;have HLK:Hid (∀w',Below X.heap.size X w'→(Instr.lookup 61 (.map (some g)) (.agg #[.int .i64 xc,.int .i64 xr]) false).run Tryz.prog w'= .ok (.agg #[.int .i64 lc,.int .i64 lr,.string sa]) w'):=fun w' hb=>EN (Ga HMX.out hb) HK0.out hlk;have hfl:=Qem lc lr sa;obtain⟨sm,HSM⟩: ∃sm,Hid ((sa.toList==xf.toList)=sm):=⟨_,rfl⟩
   have hsm:=HSM.out;clear hk0 hlk;cases sm
   ·have HV:Hid (paF C R S n D m=none):=HNO.out (BD (by rw [HXC.out,HXR.out,HXF.out,HAT.out];exact HSM.out));refine wp_region_held_drew (S:=(fun w'=>((∀bq oq,bq<X.heap.size→w'.cell? ⟨bq,oq,none⟩=X.cell? ⟨bq,oq,none⟩)∧X.heap.size≤w'.heap.size∧Below X.heap.size X w')∧(Instr.lookup 61 (.map (some g)) (.agg #[.int .i64 xc,.int .i64 xr]) false).run Tryz.prog w'= .ok (.agg #[.int .i64 lc,.int .i64 lr,.string sa]) w')) (by kernel_rfl) (Vv (Qm (by go_size) (by go_grown)) HLK.out) (fun hHeld=> ?_);refine tkA 0 ?_;refine tkB 1 ?_;refine rqA 2 (fun Kq hKq=> ?_);go_simp
    (refine(QN _ _ _).mono ?_;rintro e w1 ⟨rfl,hb⟩;rw [HRK.out];obtain⟨hk1,hz1⟩:=Qi (B:=X.heap.size) (X:=X) (by go_grown) (by go_size) hb;have hC:=fun b o h=>hk1.cell (p:=⟨b,o,none⟩) h;clear hb)
    refine hkB hKq (Vv (Qm (by go_size) (by go_grown)) HLK.out) fun hHeld=> ?_;clear hKq Kq;refine tkA 3 ?_;refine tkB 4 ?_;refine tkA 5 ?_;refine tkB 6 ?_;refine rqA 7 (fun Kq hKq=> ?_)
    go_simp
    (refine(Zk _ _ HSZ.out (HGX.out.below (by go_grown))).mono ?_;rintro e w2 ⟨rfl,hb⟩;rw [HOB.out];obtain⟨hk2,hz2⟩:=Qi (B:=X.heap.size) (X:=X) (by go_grown) (by go_size) hb;have hC2:=fun b o h=>hk2.cell (p:=⟨b,o,none⟩) h;clear hb)
    refine hkB hKq (Vv (Qm (by go_size) (by go_grown)) HLK.out) fun hHeld=> ?_;clear hKq Kq;refine tkA 8 ?_;refine tkB 9 ?_;refine tkA 10 ?_;refine tkB 11 ?_;refine tkA 12 ?_
    refine tkB 13 ?_;refine tkA 14 ?_;refine tkB 15 ?_;refine tkA 16 ?_;refine tkB 17 ?_;refine tkA 18 ?_;refine tkB 19 ?_
    refine wpAnyH_done (by kernel_rfl) ?_ _;go_wp2_with fail
    refine bodyPost_ret (v:= .tuple #[.slice none 0 0,.bool false]) ?_ rfl ⟨?_,Qe KX.out (by go_grown)⟩
    ·simp (maxDischargeDepth:=9) [results,Tryz.results12,go_sem, *]
    ·rw [HV.out];exact rfl
   have HST:Hid (VZ L Y=some (Xs ⟨xc,xr,xt⟩ L)):=by
    show _=_;rw [BC (by rw [HXC.out,HXR.out];exact HRK.out) (by rw [HXT.out];exact HOB.out) (by rw [HXC.out,HXR.out,HXF.out,HAT.out];exact HSM.out),HXC.out,HXR.out,HXT.out]
   have HNR:Hid (Yt D (clE C R S n) (t+1)=some (Xs ⟨xc,xr,xt⟩ L)):=HNX.out _ HST.out;refine wp_region_held_drew (S:=(fun w'=>((∀bq oq,bq<X.heap.size→w'.cell? ⟨bq,oq,none⟩=X.cell? ⟨bq,oq,none⟩)∧X.heap.size≤w'.heap.size∧Below X.heap.size X w')∧(Instr.lookup 61 (.map (some g)) (.agg #[.int .i64 xc,.int .i64 xr]) false).run Tryz.prog w'= .ok (.agg #[.int .i64 lc,.int .i64 lr,.string sa]) w')) (by kernel_rfl) (Vv (Qm (by go_size) (by go_grown)) HLK.out) (fun hHeld=> ?_);refine tkA 0 ?_;refine tkB 1 ?_;refine rqA 2 (fun Kq hKq=> ?_);go_simp
   (refine(QN _ _ _).mono ?_;rintro e w1 ⟨rfl,hb⟩;rw [HRK.out];obtain⟨hk1,hz1⟩:=Qi (B:=X.heap.size) (X:=X) (by go_grown) (by go_size) hb;have hC:=fun b o h=>hk1.cell (p:=⟨b,o,none⟩) h;clear hb)
   refine hkB hKq (Vv (Qm (by go_size) (by go_grown)) HLK.out) fun hHeld=> ?_;clear hKq Kq;refine tkA 3 ?_;refine tkB 4 ?_;refine tkA 5 ?_;refine tkB 6 ?_;refine rqA 7 (fun Kq hKq=> ?_)
   go_simp
   (refine(Zk _ _ HSZ.out (HGX.out.below (by go_grown))).mono ?_;rintro e w2 ⟨rfl,hb⟩;rw [HOB.out];obtain⟨hk2,hz2⟩:=Qi (B:=X.heap.size) (X:=X) (by go_grown) (by go_size) hb;have hC2:=fun b o h=>hk2.cell (p:=⟨b,o,none⟩) h;clear hb)
   refine hkB hKq (Vv (Qm (by go_size) (by go_grown)) HLK.out) fun hHeld=> ?_;clear hKq Kq;refine tkA 8 ?_;refine tkB 9 ?_;refine tkA 10 ?_;refine tkB 11 ?_;refine tkA 12 ?_
   refine tkB 13 ?_;refine tkA 14 ?_;refine tkB 15 ?_;refine tkA 16 ?_;refine tkB 17 ?_;refine tkA 18 ?_;refine tkB 19 ?_
   refine wpAnyH_done (by kernel_rfl) ?_ _;go_wp2_with fail
   refine(Qgw (B:=w.heap.size) (s:=xt) _ (Ga HMX.out (by go_grown)) HWG.out (by omega) HK0.out).mono ?_;rintro e u4 ⟨rfl,⟨m4,hm4,ho⟩,hb⟩;have K4:Hid (Below w.heap.size w u4):=(Qe KX.out (by go_grown)).trans hb;obtain⟨D4,HD4⟩: ∃D4,Hid ((if xt.toList.isEmpty=true then Dm.del k0 else Dm.put k0 (.held (.agg #[.int .i64 xc,.int .i64 xr,.string xt])))=D4):=⟨_,rfl⟩;rw [HD4.out]at ho;have HM4:Hid (u4.ownsMap Tryz.prog 38 YU g m4 D4):=ho
   have HC4:Hid (CmD D4 (Xs ⟨xc,xr,xt⟩ L)):=by
    show CmD D4 _;refine CmD.perm ?_ (Ve ⟨xc,xr,xt⟩ L).symm;rw [←HD4.out];by_cases he:xt.toList.isEmpty=true
    ·rw [if_pos he,if_pos he];exact HCM.out.off HK0.out
    ·rw [if_neg he,if_neg he];exact HCM.out.on HMX.out.isMap (x:=⟨xc,xr,xt⟩) HK0.out
   clear ho hb HD4;go_wp2_with fail
   go_roundw
   case rel=>exact⟨t+1,_,m4,D4,by omega,by go_num,HNR.out,HM4.out,HC4.out,by omega,K4.out⟩
   case measure=>simp [intOf];omega
  ·have h1: ¬(t:Int)<(m:Int):=by omega
   obtain rfl:m=t:=by omega
   have HV:Hid (paF C R S n D m=if 120<L.length then none else some L):=Qbw HCK.out (by omega) HRUN.out;obtain⟨k,HKN⟩: ∃k,Hid (L.length=k):=⟨_,rfl⟩;have hk480:k≤10000:=by rw [←HKN.out];have:=HPI.out.len;omega
   have hsz:Maps.size Dm=k:=by rw [HCM.out.size HMP.out,HKN.out]
   by_cases h120:120<k
   ·have q3:(120:Int)<((k:Nat):Int):=by omega
    go_wp2_with (first
     | (at_len;refine wpList_len_own _ rfl _ 61 rfl 38 49 Tryz.underlying61 _ g cnt Dm rfl HMP.out ?_;rw [hsz])
     | fail)
    go_wp2_with fail
    refine bodyPost_ret (v:= .tuple #[.slice none 0 0,.bool false]) ?_ rfl ⟨?_,KA.out⟩
    ·simp (maxDischargeDepth:=9) [results,Tryz.results12,go_sem, *]
    ·rw [HV.out,HKN.out,if_pos h120];exact rfl
   ·have q3: ¬(120:Int)<((k:Nat):Int):=by omega
    go_wp2_with (first
     | (at_len;refine wpList_len_own _ rfl _ 61 rfl 38 49 Tryz.underlying61 _ g cnt Dm rfl HMP.out ?_;rw [hsz])
     | fail)
    go_wp2_with fail
    refine(NQ _ HMP.out HCM.out (by rw [HKN.out];omega)).mono ?_;rintro e u5 ⟨A5,c5,M,rfl,hp,hpw,ho,hb⟩;have HMS:Hid (M=L):=Qld hpw HPI.out.rise hp;rw [HMS.out,HKN.out]at ho;rw [HKN.out];have HO:Hid (u5.ownsRow w.heap.size 49 3 (.slice A5 k c5) k (Zb CL.cs L)):=Go.Proofs.ownsRow_base_a ho KA.out.size;have K5:=hd (Qe KA.out hb)
    clear ho hb hp hpw;go_wp2_with fail
    refine bodyPost_ret (v:= .tuple #[.slice A5 k c5,.bool true]) ?_ rfl ⟨?_,K5.out⟩
    ·simp (maxDischargeDepth:=9) [results,Tryz.results12,go_sem, *]
    ·rw [HV.out,HKN.out,if_neg h120];exact⟨A5,c5,k,rfl,HKN.out,HO.out⟩
end Go.Proofs.YthjldgbfgapbcaaGreatDoor
