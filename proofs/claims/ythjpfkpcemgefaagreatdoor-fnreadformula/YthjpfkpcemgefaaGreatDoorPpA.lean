import Derived.Test.YthjpfkpcemgefaaGreatDoorGas
import Derived.Test.YthjpfkpcemgefaaGreatDoorGan
set_option linter.unusedSimpArgs false
set_option linter.unusedVariables false
namespace Go.Proofs.YthjpfkpcemgefaaGreatDoor
open Go.RowKit
def Chain (T:Int→Int):Int→List Int→Int→Prop
 | a,[],e=>a=e
 | a,k::ks,e=>T k=a∧a≤k∧Chain T (k+1) ks e
theorem chain_snoc {T:Int→Int}: ∀(ks:List Int) (a k e:Int),Chain T a ks (T k)→T k≤k→k+1=e→Chain T a (ks++ [k]) e
 | [],a,k,e,h,hk,he=>by
  rw [Chain]at h
  subst h
  exact⟨rfl,hk,he⟩
 | q::ks,a,k,e,h,hk,he=>⟨h.1,h.2.1,chain_snoc ks (q+1) k e h.2.2 hk he⟩
theorem loop_chain {T:Int→Int} (hT: ∀x,0≤x→T x≤x) (ks:List Int): ∀(e a:Int),loopT T (e-1) ks=a→0≤a→Chain T a ks.reverse e:=by
 induction ks with
 | nil=>
  intro e a h ha
  simp only [loopT]at h
  show a=e
  omega
 | cons k ks ih=>
  intro e a h ha
  rw [loopT]at h
  split at h
  ·omega
  ·rename_i hc
   split at h
   ·omega
   ·rename_i hd
    have h0:0≤e-1:=by omega
    have hk:k=e-1:=by omega
    rw [List.reverse_cons]
    rw [←hk]at h
    refine chain_snoc ks.reverse a k e (ih (T k) a h ha) (hT k (by omega)) (by omega)
theorem tree_chain {G:Nat→List Int} {i a:Int} (hi:0≤i) (h:tree G i=a) (ha:0≤a):Chain (tree G) a (G i.toNat) i:=by
 rw [tree_eq G i hi]at h
 have:=loop_chain (T:=tree G) (fun x hx=>tree_le' G x hx) _ i a h ha
 rwa [List.reverse_reverse]at this
def seg (F:Nat→FN) (a:Nat):Nat→List FN
 | 0=> []
 | m+1=>seg F a m++ [F (a+m)]
theorem seg_len (F:Nat→FN) (a:Nat): ∀m,(seg F a m).length=m
 | 0=>rfl
 | m+1=>by rw [seg,List.length_append,seg_len F a m];rfl
theorem seg_app (F:Nat→FN) (a:Nat): ∀(p m:Nat),seg F a p++seg F (a+p) m=seg F a (p+m)
 | p,0=>by simp [seg]
 | p,m+1=>by
  rw [seg,←List.append_assoc,seg_app F a p m,←Nat.add_assoc,seg,Nat.add_assoc]
def upto (F:Nat→FN) (out:List FN) (i:Nat):List FN:=out++seg F out.length (i+1-out.length)
theorem upto_len {F:Nat→FN} {out:List FN} {i:Nat} (h:out.length≤i+1):(upto F out i).length=i+1:=by
 unfold upto
 rw [List.length_append,seg_len]
 omega
theorem upto_upto {F:Nat→FN} {out:List FN} {i j:Nat} (h:out.length≤i+1) (hij:i≤j):upto F (upto F out i) j=upto F out j:=by
 have h1:=upto_len (F:=F) h
 unfold upto at*
 rw [h1,List.append_assoc]
 congr 1
 have h2:=seg_app F out.length (i+1-out.length) (j+1-(i+1))
 rw [show out.length+(i+1-out.length)=i+1 by omega,show i+1-out.length+(j+1-(i+1))=j+1-out.length by omega]at h2
 exact h2
theorem upto_one {F:Nat→FN} {out:List FN} {i:Nat} (h:out.length=i):upto F out i=out++ [F i]:=by
 unfold upto
 rw [h,show i+1-i=1 by omega]
 rfl
theorem upto_snoc {F:Nat→FN} {out:List FN} {i:Nat} (h:out.length≤i+1):upto F out i++ [F (i+1)]=upto F out (i+1):=by
 rw [←upto_upto h (Nat.le_succ i),upto_one (upto_len h)]
def Sep (l:List UInt8):Prop:= ∀b,l.head? =some b→isW b=false∧b≠34∧b≠58∧b≠32
def stopAt (lv:Int) (l:List UInt8):Prop:=opOf (pk l)=0∨lvl (opOf (pk l))<lv
theorem stop_mono {lv lv':Int} {l:List UInt8} (h:stopAt lv l) (hl:lv≤lv'):stopAt lv' l:=by
 rcases h with h | h
 ·exact Or.inl h
 ·exact Or.inr (by omega)
theorem stop5 (l:List UInt8):stopAt 5 l:=Or.inr (by have:=(lvl_pos (opOf (pk l))).2;omega)
theorem PB2_stop {lv:Int} {a:Int} {l:List UInt8} {out:List FN} (h1:1≤lv) (h4:lv≤4) (hn:l.length≤1000) (h:stopAt lv l):PB RF 2 lv a [] l out=some (a,sb l,out):=by
 rw [PB2 h1 h4 hn,if_pos]
 rcases h with h | h
 ·exact Or.inl h
 ·exact Or.inr (by omega)
theorem climb1 {lv:Int} {t l:List UInt8} {x:Int} {out o1:List FN} (h1:1≤lv) (h4:lv≤4) (ht:t.length≤1000) (h:PB RF 1 (lv+1) 0 [] t out=some (x,sb l,o1)):PB RF 1 lv 0 [] t out=PB RF 2 lv x [] l o1:=by
 rw [PB1 h1 h4 ht,h]
 exact PB_sb (sb_sb _)
end Go.Proofs.YthjpfkpcemgefaaGreatDoor
