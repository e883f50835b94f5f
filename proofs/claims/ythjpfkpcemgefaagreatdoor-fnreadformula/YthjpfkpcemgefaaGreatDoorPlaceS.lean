import Derived.Test.YthjpfkpcemgefaaGreatDoorGaj
import Derived.Test.YthjpfkpcemgefaaGreatDoorPlaceJK
import Derived.Test.YthjpfkpcemgefaaGreatDoorGas
set_option linter.unusedSimpArgs false
set_option linter.unusedVariables false
namespace Go.Proofs.YthjpfkpcemgefaaGreatDoor
open Go.RowKit
def hasDL:List UInt8→Bool
 | b::_=>b==36
 | []=>false
theorem hasD_L (s:ByteArray):hasD s=hasDL s.data.toList:=by
 obtain⟨⟨l⟩⟩:=s
 cases l with
 | nil=>rfl
 | cons b t=>rfl
theorem ext_L (s:ByteArray) (a b:Nat):(s.extract a b).data.toList=(s.data.toList.drop a).take (b-a):=by
 simp [ByteArray.data_extract,Array.toList_extract,List.extract_eq_take_drop]
theorem cutD_L (s:ByteArray):(cutD s).data.toList=if hasDL s.data.toList then s.data.toList.drop 1 else s.data.toList:=by
 unfold cutD
 rw [hasD_L]
 split
 ·rw [ext_L]
  apply List.take_of_length_le
  simp
 ·rfl
theorem take_lets: ∀l:List UInt8,l.take (l.takeWhile isL).length=l.takeWhile isL
 | []=>rfl
 | b::t=>by
  cases h:isL b
  ·rw [List.takeWhile_cons,h];rfl
  ·rw [List.takeWhile_cons,h]
   show b::t.take (t.takeWhile isL).length=_
   rw [take_lets t];rfl
theorem drop_lets: ∀l:List UInt8,l.drop (l.takeWhile isL).length=l.dropWhile isL
 | []=>rfl
 | b::t=>by
  cases h:isL b
  ·rw [List.takeWhile_cons,List.dropWhile_cons,h];rfl
  ·rw [List.takeWhile_cons,List.dropWhile_cons,h]
   show t.drop (t.takeWhile isL).length=_
   rw [drop_lets t];rfl
theorem rpC_L (s:ByteArray):rpC s=rdc ((cutD s).data.toList.takeWhile isL) 0:=by
 unfold rpC lets
 rw [ext_L,List.drop_zero,Nat.sub_zero,take_lets]
theorem rp2_L (s:ByteArray):(rp2 s).data.toList=(cutD s).data.toList.dropWhile isL:=by
 unfold rp2 lets
 rw [ext_L,drop_lets]
 apply List.take_of_length_le
 have h:=congrArg List.length (List.takeWhile_append_dropWhile (p:=isL) (l:=(cutD s).data.toList))
 rw [List.length_append]at h
 have e:(cutD s).size=(cutD s).data.toList.length:=by simp
 omega
theorem rp3_L (s:ByteArray):(rp3 s).data.toList=if hasDL (rp2 s).data.toList then(rp2 s).data.toList.drop 1 else(rp2 s).data.toList:=cutD_L _
def fxL (b:Bool):List UInt8:=if b then [36]else []
theorem fx_L (b:Bool):(fx b).data.toList=fxL b:=by cases b<;>rfl
theorem placeT_L (c:Int) (i:Nat) (x y:Bool):(placeT c i x y).data.toList=fxL x++(colT c).data.toList++fxL y++(decS i).data.toList:=by
 unfold placeT
 simp [fx_L]
theorem col_letters (c:Int) (h1:1≤c) (h2:c≤52):(∀b∈(colT c).data.toList,isL b=true)∧(colT c).data.toList≠ []:=by
 by_cases h:c≤26
 ·rw [colT_one h1 h]
  have e:(UInt8.ofNat (65+(c-1)).toNat).toNat=(65+(c-1)).toNat:=by simp;omega
  refine⟨fun b hb=> ?_,by simp⟩
  simp only [List.mem_singleton]at hb
  subst hb
  unfold isL
  rw [e]
  exact decide_eq_true (by omega)
 ·rw [colT_two (by omega) h2]
  have e:(UInt8.ofNat (65+(c-27)).toNat).toNat=(65+(c-27)).toNat:=by simp;omega
  refine⟨fun b hb=> ?_,by simp⟩
  simp only [List.mem_cons,List.not_mem_nil,or_false]at hb
  rcases hb with rfl | rfl
  ·rfl
  ·unfold isL
   rw [e]
   exact decide_eq_true (by omega)
theorem dec_headP: ∀i,i<100→(match (decS i).data.toList with | d::_=> !isL d&& !(d==36) | []=>false)=true:=by decide+kernel
theorem dec_read: ∀i,i<100→l1L (decS i).data.toList=some (i:Int):=by decide+kernel
theorem hasDL_fx (x:Bool) (l:List UInt8) (h:hasDL l=false):hasDL (fxL x++l)=x∧(if hasDL (fxL x++l)then(fxL x++l).drop 1 else fxL x++l)=l:=by
 cases x
 ·show hasDL l=false∧(if hasDL l then l.drop 1 else l)=l
  rw [h];exact⟨rfl,rfl⟩
 ·exact⟨rfl,rfl⟩
theorem letter_ne (b:UInt8) (h:isL b=true):(b==36)=false:=by
 cases hb:(b==36)
 ·rfl
 ·rw [beq_iff_eq]at hb
  subst hb
  cases h
theorem rt_fwd (c:Int) (i:Nat) (x y:Bool) (hc:1≤c∧c≤52) (hi:1≤i∧i≤99):hasD (placeT c i x y)=x∧rpC (placeT c i x y)=c∧hasD (rp2 (placeT c i x y))=y∧l1I (rp3 (placeT c i x y))=some (i:Int):=by
 obtain⟨hl,hne⟩:=col_letters c hc.1 hc.2
 have hd:=dec_headP i (by omega)
 have e0:(placeT c i x y).data.toList=fxL x++((colT c).data.toList++(fxL y++(decS i).data.toList)):=by rw [placeT_L];simp only [List.append_assoc]
 have h1:hasDL ((colT c).data.toList++(fxL y++(decS i).data.toList))=false:=by
  cases hq:(colT c).data.toList with
  | nil=>exact absurd hq hne
  | cons b t=>exact letter_ne b (hl b (by rw [hq];simp))
 obtain⟨a1,a2⟩:=hasDL_fx x _ h1
 have h2:hasDL (decS i).data.toList=false:=by
  revert hd
  cases (decS i).data.toList with
  | nil=>intro h;cases h
  | cons b t=>
   intro h
   have h9:(!isL b&& !(b==36))=true:=h
   rw [Bool.and_eq_true]at h9
   show(b==36)=false
   simpa using h9.2
 obtain⟨b1,b2⟩:=hasDL_fx y _ h2
 have ecut:(cutD (placeT c i x y)).data.toList=(colT c).data.toList++(fxL y++(decS i).data.toList):=by rw [cutD_L,e0];exact a2
 have hnl:(fxL y++(decS i).data.toList).takeWhile isL= []:=by
  cases y
  ·show((decS i).data.toList).takeWhile isL= []
   revert hd
   cases (decS i).data.toList with
   | nil=>intro h;cases h
   | cons b t=>
    intro h
    have h9:(!isL b&& !(b==36))=true:=h
    rw [Bool.and_eq_true]at h9
    rw [List.takeWhile_cons,show isL b=false by simpa using h9.1];rfl
  ·rfl
 have hdw:(fxL y++(decS i).data.toList).dropWhile isL=fxL y++(decS i).data.toList:=by
  have h:=List.takeWhile_append_dropWhile (p:=isL) (l:=fxL y++(decS i).data.toList)
  rw [hnl]at h
  exact h
 have e2:(rp2 (placeT c i x y)).data.toList=fxL y++(decS i).data.toList:=by
  rw [rp2_L,ecut,List.dropWhile_append_of_pos hl,hdw]
 refine⟨by rw [hasD_L,e0];exact a1,?_,by rw [hasD_L,e2];exact b1,?_⟩
 ·rw [rpC_L,ecut,List.takeWhile_append_of_pos hl,hnl,List.append_nil]
  exact rdc_col c hc.1 hc.2
 ·rw [l1I_L,rp3_L,e2,b2]
  exact dec_read i (by omega)
end Go.Proofs.YthjpfkpcemgefaaGreatDoor
