import Derived.Test.YtdcokcbolecanaaGreatDoorGaa
import Derived.Test.YtdcokcbolecanaaGreatDoorShelf
import Derived.Lib.Join
import Derived.Test.YtdcokcbolecanaaGreatDoorGar
import Derived.Test.YtdcokcbolecanaaGreatDoorGas
set_option linter.unusedSimpArgs false
set_option linter.unusedVariables false
namespace Go.Proofs.YtdcokcbolecanaaGreatDoor
open Go.RowKit
def UC (ps:List ByteArray):List UInt8:=ps.flatMap fun p=>p.data.toList++ [10]
theorem Qlp (a b:List ByteArray):UC (a++b)=UC a++UC b:=by simp [UC]
theorem Qlo (p:ByteArray):UC [p]=p.data.toList++ [10]:=by simp [UC]
theorem De: ∀ps:List ByteArray,ps≠ []→Lib.join (ps.map (·.data.toList)) [10]++ [10]=UC ps
 | [],h=>absurd rfl h
 | [p],_=>by simp [Lib.join,UC,List.intercalate]
 | p::q::r,_=>by
  have ih:=De (q::r) (by simp);show List.intercalate [10] ((p::q::r).map (·.data.toList))++ [10]=_;rw [List.map_cons,List.map_cons,List.intercalate_cons_cons];have e:UC (p::q::r)=p.data.toList++ [10]++UC (q::r):=by simp [UC]
  rw [e,←ih];simp [Lib.join]
theorem Qc9 (ps:List ByteArray) (h:ps≠ []):(Lib.join (ps.map (·.data.toList)) [10]).length+1=(UC ps).length:=by
 rw [←De ps h,List.length_append];rfl
theorem Qeo {B n:Nat} {v:Value} {ps:List ByteArray} (w:World) (h:w.ownsRow B 9 1 v n (ps.map Value.string)) (hn:ps.length=n) (h0:ps≠ []) (hz:(UC ps).length≤1099511627776) (hN:n≤1099511627776):
  Calls Tryz.prog 20 #[v,.string ⟨#[10]⟩] w fun e w'=>e= .returned (.string ⟨(Lib.join (ps.map (·.data.toList)) [10]).toArray⟩)∧Below w.heap.size w w':=by
 subst hn;have hs:=h;rcases h.2 with⟨rfl,h9⟩ | ⟨g,cap,cur,rfl,hb,hg,h1,h2,h3,h4⟩
 ·exact absurd (List.eq_nil_of_length_eq_zero h9) h0
 ·refine(Tryz.strings_Join g 0 cap ps ⟨#[10]⟩ w ?_ (Array.getElem?_eq_some_iff.1 hg).1 (by omega) h1 ?_).mono ?_
  ·intro j x hx;have hj:j<ps.length:=(List.getElem?_eq_some_iff.1 hx).1;have:=hs.cellAt j (by omega);rw [Nat.zero_add,this,List.getElem?_map,hx];rfl
  ·have:=Qc9 ps h0;show(Lib.join (ps.map (·.data.toList)) [10]).length≤_;omega
  ·rintro e w' ⟨rfl,hb⟩;exact⟨rfl,hb⟩
theorem Qfb (n:Int) (w:World) (h0: -9223372036854775808≤n) (h1:n≤9223372036854775807) (hv:VarT w):Calls Tryz.prog 17 #[.int .i64 n] w fun e w'=>e= .returned (.string (itB n))∧Below w.heap.size w w':=by
 have HV:Hid (VarT w):=hv;clear hv;go_enter Tryz.func17,Tryz.ntmps17;go_wp2_with fail
 refine(Tryz.strconv_FormatInt_10 n h0 h1 _ HV.out).mono ?_;rintro e w2 ⟨rfl,k,os,rfl⟩;have hb2:=Lib.below_grow w.heap.size w (Nat.le_refl _) k os;go_wp2_with fail
 go_ret;exact⟨rfl,hb2⟩
theorem itB_sz {b:Int} (h:0≤b) (h1:b≤1000000000):(itB b).size≤16:=by
 obtain⟨m,rfl⟩: ∃m:Nat,b=(m:Int):=⟨b.toNat,by omega⟩;exact GM (by omega)
theorem spec_l1DecN (n:Int) (w:World) (h0:0≤n) (h1:n≤1000000000):Calls Tryz.prog 12 #[.int .i64 n] w fun e w'=>e= .returned (.string (itB n))∧Below w.heap.size w w':=
 NY n w (decide_eq_true ⟨by omega,by omega⟩)
def plB (a b:Int):ByteArray:=if Qi a b then QK a b.toNat false false else⟨#[]⟩
theorem Qlj (a b:Int):(plB a b).size≤6:=by
 unfold plB;split
 ·unfold QK;rw [ByteArray.size_append,ByteArray.size_append,ByteArray.size_append];have:=XE false;have:=Xf a;have:=Xd b.toNat;omega
 ·exact Nat.zero_le _
theorem OO {a b:Int} (h:Qi a b=true): ∃i:Nat,b=(i:Int)∧1≤i∧i≤99:=by
 unfold Qi at h;have h':=of_decide_eq_true h;exact⟨b.toNat,by omega,by omega,by omega⟩
theorem Qbw (a b:Int) (w:World):Calls Tryz.prog 13 #[.agg #[.int .i64 a,.int .i64 b,.bool false,.bool false]] w fun e w'=>
  e= .returned (.string (plB a b))∧Below w.heap.size w w':=by
 cases h:Qi a b
 ·unfold plB;rw [h];exact Vc a b false false w h
 ·obtain⟨i,rfl,h1,h2⟩:=OO h;unfold plB;rw [h];exact Zi a i false false w (by omega) h
theorem Qby (a b:Int) (w:World):Calls Tryz.prog 19 #[.agg #[.int .i64 a,.int .i64 b,.bool false,.bool false]] w fun e w'=>
  e= .returned (.string (plB a b))∧Below w.heap.size w w':=by
 cases h:Qi a b
 ·unfold plB;rw [h];exact Vg a b false false w h
 ·obtain⟨i,rfl,h1,h2⟩:=OO h;unfold plB;rw [h];exact Zj a i false false w (by omega) h
end Go.Proofs.YtdcokcbolecanaaGreatDoor
