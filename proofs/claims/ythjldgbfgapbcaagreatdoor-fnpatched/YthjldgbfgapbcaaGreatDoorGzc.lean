import Derived.Test.YthjldgbfgapbcaaGreatDoorGaj
import Derived.Test.YthjldgbfgapbcaaGreatDoorPlaceJK
import Derived.Test.YthjldgbfgapbcaaGreatDoorGas
import Derived.Test.YthjldgbfgapbcaaGreatDoorGan
import Derived.Test.YthjldgbfgapbcaaGreatDoorGbd
import Derived.Test.YthjldgbfgapbcaaGreatDoorGat
import Derived.Test.YthjldgbfgapbcaaGreatDoorGao
import Derived.Test.YthjldgbfgapbcaaGreatDoorGbf
set_option linter.unusedSimpArgs false
set_option linter.unusedVariables false
namespace Go.Proofs.YthjldgbfgapbcaaGreatDoor
open Go.RowKit
def seg (F:Nat→FN) (a:Nat):Nat→List FN
 | 0=> []
 | m+1=>seg F a m++ [F (a+m)]
def upto (F:Nat→FN) (out:List FN) (i:Nat):List FN:=out++seg F out.length (i+1-out.length)
def Sep (l:List UInt8):Prop:= ∀b,l.head? =some b→isW b=false∧b≠34∧b≠58∧b≠32
def Hp (lv:Int) (l:List UInt8):Prop:=QJ (pk l)=0∨lvl (QJ (pk l))<lv
theorem GY {lv lv':Int} {l:List UInt8} (h:Hp lv l) (hl:lv≤lv'):Hp lv' l:=by
 rcases h with h | h
 ·exact Or.inl h
 ·exact Or.inr (by omega)
theorem Qa9 {lv:Int} {a:Int} {l:List UInt8} {out:List FN} (h1:1≤lv) (h4:lv≤4) (hn:l.length≤1000) (h:Hp lv l):PB RF 2 lv a [] l out=some (a,sb l,out):=by
 rw [PB2 h1 h4 hn,if_pos];rcases h with h | h
 ·exact Or.inl h
 ·exact Or.inr (by omega)
theorem Qlj {lv:Int} {t l:List UInt8} {x:Int} {out o1:List FN} (h1:1≤lv) (h4:lv≤4) (ht:t.length≤1000) (h:PB RF 1 (lv+1) 0 [] t out=some (x,sb l,o1)):PB RF 1 lv 0 [] t out=PB RF 2 lv x [] l o1:=by
 rw [PB1 h1 h4 ht,h];exact VG (Zi _)
theorem Sep.w {l:List UInt8} (h:Sep l): ∀b,l.head? =some b→isW b=false:=fun b hb=>(h b hb).1
theorem Sep.q {l:List UInt8} (h:Sep l):l.head?≠some 34:=fun e=>(h 34 e).2.1 rfl
theorem Qli {t l:List UInt8} {x:Int} {out o1:List FN} {hi:Int} (h4:hi≤5) (ht:t.length≤1000) (hl:l.length≤1000) (h:PB RF 1 hi 0 [] t out=some (x,sb l,o1)): ∀(d:Nat) (lv:Int),lv=hi-(d:Int)→1≤lv→Hp lv l→PB RF 1 lv 0 [] t out=some (x,sb l,o1):=by
 intro d;induction d with
 | zero=>
  intro lv e _ _;obtain rfl:lv=hi:=by omega
  exact h
 | succ d ih=>
  intro lv e h1 hs;have h9:=ih (lv+1) (by omega) (by omega) (GY hs (by omega));rw [Qlj (by omega) (by omega) ht h9,Qa9 (by omega) (by omega) hl hs]
structure RdP (F:Nat→FN) (i:Nat):Prop where
 one:(F i).k≠5→(F i).k≠3→ ∀(l:List UInt8) (out:List FN),ZQ (fG F) i=(out.length:Int)→Sep l→(TX F i++l).length≤1000→PB RF 3 0 0 [] (TX F i++l) out=some ((i:Int),sb l,upto F out i)
 two:(F i).k=5→ ∀(l:List UInt8) (out:List FN),ZQ (fG F) i=(out.length:Int)→Sep l→Hp (lvl (F i).o+1) l→(TX F i++l).length≤1000→PB RF 1 (lvl (F i).o) 0 [] (TX F i++l) out=PB RF 2 (lvl (F i).o) i [] l (upto F out i)
theorem RdP.row {F:Nat→FN} {i:Nat} (H:RdP F i) (h3:(F i).k≠3) {lv:Int} (h1:1≤lv) (h5:lv≤5) (ho:(F i).k=5→lv≤lvl (F i).o) {l:List UInt8} {out:List FN} (ht:ZQ (fG F) i=(out.length:Int)) (hs:Sep l) (hst:Hp lv l) (hn:(TX F i++l).length≤1000):
  PB RF 1 lv 0 [] (TX F i++l) out=some ((i:Int),sb l,upto F out i):=by
 have hl:l.length≤1000:=by rw [List.length_append]at hn;omega
 by_cases hk:(F i).k=5
 ·have hb:=MD (F i).o;have hlv:=ho hk;have h9:=H.two hk l out ht hs (GY hst (by omega)) hn;rw [Qa9 hb.1 hb.2 hl (GY hst hlv)]at h9;exact Qli (by omega) hn hl h9 (lvl (F i).o-lv).toNat lv (by omega) h1 hst
 ·have h9:=H.one hk h3 l out ht hs hn;rw [←Qlu hn]at h9;exact Qli (by omega) hn hl h9 (5-lv).toNat lv (by omega) h1 hst
theorem RdP.go {F:Nat→FN} {i:Nat} (H:RdP F i) (h3:(F i).k≠3) {lv:Int} (h1:1≤lv) (h4:lv≤4) (ho:(F i).k=5→lv≤lvl (F i).o) {l:List UInt8} {out:List FN} (ht:ZQ (fG F) i=(out.length:Int)) (hs:Sep l) (hst:Hp (lv+1) l) (hn:(TX F i++l).length≤1000):
  PB RF 1 lv 0 [] (TX F i++l) out=PB RF 2 lv i [] l (upto F out i):=by
 by_cases hk:(F i).k=5∧lvl (F i).o=lv
 ·rw [←hk.2];exact H.two hk.1 l out ht hs (by rw [hk.2];exact hst) hn
 ·exact Qlj h1 h4 hn (H.row h3 (by omega) (by omega) (fun e=>by have:=ho e;have:lvl (F i).o≠lv:=fun e'=>hk ⟨e,e'⟩;omega) ht hs hst hn)
end Go.Proofs.YthjldgbfgapbcaaGreatDoor
