import Derived.Test.YthpmmfmanaefgaaGreatDoorGaj
import Derived.Test.YthpmmfmanaefgaaGreatDoorPlaceJK
import Derived.Test.YthpmmfmanaefgaaGreatDoorGas
import Derived.Test.YthpmmfmanaefgaaGreatDoorGan
import Derived.Test.YthpmmfmanaefgaaGreatDoorGbd
import Derived.Test.YthpmmfmanaefgaaGreatDoorGat
import Derived.Test.YthpmmfmanaefgaaGreatDoorGao
import Derived.Test.YthpmmfmanaefgaaGreatDoorGbf
set_option linter.unusedSimpArgs false
set_option linter.unusedVariables false
namespace Go.Proofs.YthpmmfmanaefgaaGreatDoor
open Go.RowKit
def hasDL:List UInt8→Bool
 | b::_=>b==36
 | []=>false
theorem hasD_L (s:ByteArray):hasD s=hasDL s.data.toList:=by
 obtain⟨⟨l⟩⟩:=s
 cases l with
 | nil=>rfl
 | cons b t=>rfl
theorem ext_L (s:ByteArray) (a b:Nat):(s.extract a b).data.toList=(s.data.toList.drop a).take (b-a):=by
 simp [ByteArray.data_extract,Array.toList_extract,List.extract_eq_take_drop]
theorem cutD_L (s:ByteArray):(cutD s).data.toList=if hasDL s.data.toList then s.data.toList.drop 1 else s.data.toList:=by
 unfold cutD
 rw [hasD_L]
 split
 ·rw [ext_L]
  apply List.take_of_length_le
  simp
 ·rfl
theorem take_lets: ∀l:List UInt8,l.take (l.takeWhile isL).length=l.takeWhile isL
 | []=>rfl
 | b::t=>by
  cases h:isL b
  ·rw [List.takeWhile_cons,h];rfl
  ·rw [List.takeWhile_cons,h]
   show b::t.take (t.takeWhile isL).length=_
   rw [take_lets t];rfl
theorem drop_lets: ∀l:List UInt8,l.drop (l.takeWhile isL).length=l.dropWhile isL
 | []=>rfl
 | b::t=>by
  cases h:isL b
  ·rw [List.takeWhile_cons,List.dropWhile_cons,h];rfl
  ·rw [List.takeWhile_cons,List.dropWhile_cons,h]
   show t.drop (t.takeWhile isL).length=_
   rw [drop_lets t];rfl
theorem rpC_L (s:ByteArray):rpC s=rdc ((cutD s).data.toList.takeWhile isL) 0:=by
 unfold rpC lets
 rw [ext_L,List.drop_zero,Nat.sub_zero,take_lets]
theorem rp2_L (s:ByteArray):(rp2 s).data.toList=(cutD s).data.toList.dropWhile isL:=by
 unfold rp2 lets
 rw [ext_L,drop_lets]
 apply List.take_of_length_le
 have h:=congrArg List.length (List.takeWhile_append_dropWhile (p:=isL) (l:=(cutD s).data.toList))
 rw [List.length_append]at h
 have e:(cutD s).size=(cutD s).data.toList.length:=by simp
 omega
theorem rp3_L (s:ByteArray):(rp3 s).data.toList=if hasDL (rp2 s).data.toList then(rp2 s).data.toList.drop 1 else(rp2 s).data.toList:=cutD_L _
def fxL (b:Bool):List UInt8:=if b then [36]else []
theorem fx_L (b:Bool):(fx b).data.toList=fxL b:=by cases b<;>rfl
theorem placeT_L (c:Int) (i:Nat) (x y:Bool):(placeT c i x y).data.toList=fxL x++(colT c).data.toList++fxL y++(decS i).data.toList:=by
 unfold placeT
 simp [fx_L]
theorem col_letters (c:Int) (h1:1≤c) (h2:c≤52):(∀b∈(colT c).data.toList,isL b=true)∧(colT c).data.toList≠ []:=by
 by_cases h:c≤26
 ·rw [colT_one h1 h]
  have e:(UInt8.ofNat (65+(c-1)).toNat).toNat=(65+(c-1)).toNat:=by simp;omega
  refine⟨fun b hb=> ?_,by simp⟩
  simp only [List.mem_singleton]at hb
  subst hb
  unfold isL
  rw [e]
  exact decide_eq_true (by omega)
 ·rw [colT_two (by omega) h2]
  have e:(UInt8.ofNat (65+(c-27)).toNat).toNat=(65+(c-27)).toNat:=by simp;omega
  refine⟨fun b hb=> ?_,by simp⟩
  simp only [List.mem_cons,List.not_mem_nil,or_false]at hb
  rcases hb with rfl | rfl
  ·rfl
  ·unfold isL
   rw [e]
   exact decide_eq_true (by omega)
theorem dec_headP: ∀i,i<100→(match (decS i).data.toList with | d::_=> !isL d&& !(d==36) | []=>false)=true:=by decide+kernel
theorem dec_read: ∀i,i<100→l1L (decS i).data.toList=some (i:Int):=by decide+kernel
theorem hasDL_fx (x:Bool) (l:List UInt8) (h:hasDL l=false):hasDL (fxL x++l)=x∧(if hasDL (fxL x++l)then(fxL x++l).drop 1 else fxL x++l)=l:=by
 cases x
 ·show hasDL l=false∧(if hasDL l then l.drop 1 else l)=l
  rw [h];exact⟨rfl,rfl⟩
 ·exact⟨rfl,rfl⟩
theorem letter_ne (b:UInt8) (h:isL b=true):(b==36)=false:=by
 cases hb:(b==36)
 ·rfl
 ·rw [beq_iff_eq]at hb
  subst hb
  cases h
theorem rt_fwd (c:Int) (i:Nat) (x y:Bool) (hc:1≤c∧c≤52) (hi:1≤i∧i≤99):hasD (placeT c i x y)=x∧rpC (placeT c i x y)=c∧hasD (rp2 (placeT c i x y))=y∧l1I (rp3 (placeT c i x y))=some (i:Int):=by
 obtain⟨hl,hne⟩:=col_letters c hc.1 hc.2
 have hd:=dec_headP i (by omega)
 have e0:(placeT c i x y).data.toList=fxL x++((colT c).data.toList++(fxL y++(decS i).data.toList)):=by rw [placeT_L];simp only [List.append_assoc]
 have h1:hasDL ((colT c).data.toList++(fxL y++(decS i).data.toList))=false:=by
  cases hq:(colT c).data.toList with
  | nil=>exact absurd hq hne
  | cons b t=>exact letter_ne b (hl b (by rw [hq];simp))
 obtain⟨a1,a2⟩:=hasDL_fx x _ h1
 have h2:hasDL (decS i).data.toList=false:=by
  revert hd
  cases (decS i).data.toList with
  | nil=>intro h;cases h
  | cons b t=>
   intro h
   have h9:(!isL b&& !(b==36))=true:=h
   rw [Bool.and_eq_true]at h9
   show(b==36)=false
   simpa using h9.2
 obtain⟨b1,b2⟩:=hasDL_fx y _ h2
 have ecut:(cutD (placeT c i x y)).data.toList=(colT c).data.toList++(fxL y++(decS i).data.toList):=by rw [cutD_L,e0];exact a2
 have hnl:(fxL y++(decS i).data.toList).takeWhile isL= []:=by
  cases y
  ·show((decS i).data.toList).takeWhile isL= []
   revert hd
   cases (decS i).data.toList with
   | nil=>intro h;cases h
   | cons b t=>
    intro h
    have h9:(!isL b&& !(b==36))=true:=h
    rw [Bool.and_eq_true]at h9
    rw [List.takeWhile_cons,show isL b=false by simpa using h9.1];rfl
  ·rfl
 have hdw:(fxL y++(decS i).data.toList).dropWhile isL=fxL y++(decS i).data.toList:=by
  have h:=List.takeWhile_append_dropWhile (p:=isL) (l:=fxL y++(decS i).data.toList)
  rw [hnl]at h
  exact h
 have e2:(rp2 (placeT c i x y)).data.toList=fxL y++(decS i).data.toList:=by
  rw [rp2_L,ecut,List.dropWhile_append_of_pos hl,hdw]
 refine⟨by rw [hasD_L,e0];exact a1,?_,by rw [hasD_L,e2];exact b1,?_⟩
 ·rw [rpC_L,ecut,List.takeWhile_append_of_pos hl,hnl,List.append_nil]
  exact rdc_col c hc.1 hc.2
 ·rw [l1I_L,rp3_L,e2,b2]
  exact dec_read i (by omega)
def Chain (T:Int→Int):Int→List Int→Int→Prop
 | a,[],e=>a=e
 | a,k::ks,e=>T k=a∧a≤k∧Chain T (k+1) ks e
theorem chain_snoc {T:Int→Int}: ∀(ks:List Int) (a k e:Int),Chain T a ks (T k)→T k≤k→k+1=e→Chain T a (ks++ [k]) e
 | [],a,k,e,h,hk,he=>by
  rw [Chain]at h
  subst h
  exact⟨rfl,hk,he⟩
 | q::ks,a,k,e,h,hk,he=>⟨h.1,h.2.1,chain_snoc ks (q+1) k e h.2.2 hk he⟩
theorem loop_chain {T:Int→Int} (hT: ∀x,0≤x→T x≤x) (ks:List Int): ∀(e a:Int),loopT T (e-1) ks=a→0≤a→Chain T a ks.reverse e:=by
 induction ks with
 | nil=>
  intro e a h ha
  simp only [loopT]at h
  show a=e
  omega
 | cons k ks ih=>
  intro e a h ha
  rw [loopT]at h
  split at h
  ·omega
  ·rename_i hc
   split at h
   ·omega
   ·rename_i hd
    have h0:0≤e-1:=by omega
    have hk:k=e-1:=by omega
    rw [List.reverse_cons]
    rw [←hk]at h
    refine chain_snoc ks.reverse a k e (ih (T k) a h ha) (hT k (by omega)) (by omega)
theorem tree_chain {G:Nat→List Int} {i a:Int} (hi:0≤i) (h:tree G i=a) (ha:0≤a):Chain (tree G) a (G i.toNat) i:=by
 rw [tree_eq G i hi]at h
 have:=loop_chain (T:=tree G) (fun x hx=>tree_le' G x hx) _ i a h ha
 rwa [List.reverse_reverse]at this
def seg (F:Nat→FN) (a:Nat):Nat→List FN
 | 0=> []
 | m+1=>seg F a m++ [F (a+m)]
theorem seg_len (F:Nat→FN) (a:Nat): ∀m,(seg F a m).length=m
 | 0=>rfl
 | m+1=>by rw [seg,List.length_append,seg_len F a m];rfl
theorem seg_app (F:Nat→FN) (a:Nat): ∀(p m:Nat),seg F a p++seg F (a+p) m=seg F a (p+m)
 | p,0=>by simp [seg]
 | p,m+1=>by
  rw [seg,←List.append_assoc,seg_app F a p m,←Nat.add_assoc,seg,Nat.add_assoc]
def upto (F:Nat→FN) (out:List FN) (i:Nat):List FN:=out++seg F out.length (i+1-out.length)
theorem upto_len {F:Nat→FN} {out:List FN} {i:Nat} (h:out.length≤i+1):(upto F out i).length=i+1:=by
 unfold upto
 rw [List.length_append,seg_len]
 omega
theorem upto_upto {F:Nat→FN} {out:List FN} {i j:Nat} (h:out.length≤i+1) (hij:i≤j):upto F (upto F out i) j=upto F out j:=by
 have h1:=upto_len (F:=F) h
 unfold upto at*
 rw [h1,List.append_assoc]
 congr 1
 have h2:=seg_app F out.length (i+1-out.length) (j+1-(i+1))
 rw [show out.length+(i+1-out.length)=i+1 by omega,show i+1-out.length+(j+1-(i+1))=j+1-out.length by omega]at h2
 exact h2
theorem upto_one {F:Nat→FN} {out:List FN} {i:Nat} (h:out.length=i):upto F out i=out++ [F i]:=by
 unfold upto
 rw [h,show i+1-i=1 by omega]
 rfl
theorem upto_snoc {F:Nat→FN} {out:List FN} {i:Nat} (h:out.length≤i+1):upto F out i++ [F (i+1)]=upto F out (i+1):=by
 rw [←upto_upto h (Nat.le_succ i),upto_one (upto_len h)]
def Sep (l:List UInt8):Prop:= ∀b,l.head? =some b→isW b=false∧b≠34∧b≠58∧b≠32
def stopAt (lv:Int) (l:List UInt8):Prop:=opOf (pk l)=0∨lvl (opOf (pk l))<lv
theorem stop_mono {lv lv':Int} {l:List UInt8} (h:stopAt lv l) (hl:lv≤lv'):stopAt lv' l:=by
 rcases h with h | h
 ·exact Or.inl h
 ·exact Or.inr (by omega)
theorem stop5 (l:List UInt8):stopAt 5 l:=Or.inr (by have:=(lvl_pos (opOf (pk l))).2;omega)
theorem PB2_stop {lv:Int} {a:Int} {l:List UInt8} {out:List FN} (h1:1≤lv) (h4:lv≤4) (hn:l.length≤1000) (h:stopAt lv l):PB RF 2 lv a [] l out=some (a,sb l,out):=by
 rw [PB2 h1 h4 hn,if_pos]
 rcases h with h | h
 ·exact Or.inl h
 ·exact Or.inr (by omega)
theorem climb1 {lv:Int} {t l:List UInt8} {x:Int} {out o1:List FN} (h1:1≤lv) (h4:lv≤4) (ht:t.length≤1000) (h:PB RF 1 (lv+1) 0 [] t out=some (x,sb l,o1)):PB RF 1 lv 0 [] t out=PB RF 2 lv x [] l o1:=by
 rw [PB1 h1 h4 ht,h]
 exact PB_sb (sb_sb _)
theorem sb_at {b:UInt8} {l:List UInt8} (h:b≠32):sb (b::l)=b::l:=by
 unfold sb
 rw [List.dropWhile_cons,if_neg (by simpa using h)]
theorem isW_32 {b:UInt8} (h:isW b=true):b≠32:=fun e=>by subst e;revert h;decide
theorem tw_all {w l:List UInt8} (ha: ∀b∈w,isW b=true) (hs: ∀b,l.head? =some b→isW b=false):(w++l).takeWhile isW=w∧(w++l).dropWhile isW=l:=by
 induction w with
 | nil=>
  cases l with
  | nil=>exact⟨rfl,rfl⟩
  | cons b t=>
   have:=hs b rfl
   simp [List.takeWhile,List.dropWhile,this]
 | cons a w ih=>
  have h1:=ha a (by simp)
  obtain⟨i1,i2⟩:=ih (fun b hb=>ha b (by simp [hb]))
  rw [List.cons_append,List.takeWhile_cons,if_pos h1,List.dropWhile_cons,if_pos h1,i1,i2]
  exact⟨rfl,rfl⟩
theorem pk_wd {w l:List UInt8} (hw:w≠ []) (ha: ∀b∈w,isW b=true) (hs: ∀b,l.head? =some b→isW b=false):pk (w++l)=w∧nx (w++l)=l:=by
 cases w with
 | nil=>exact absurd rfl hw
 | cons a w=>
  have h1:=ha a (by simp)
  have hsb:sb (a::w++l)=a::w++l:=sb_at (isW_32 h1)
  obtain⟨e1,e2,_⟩:=pk_word (l:=a::w++l) (t:=w++l) (c:=a) hsb h1
  obtain⟨t1,t2⟩:=tw_all (w:=a::w) ha hs
  rw [e1,e2,hsb,t1,t2]
  exact⟨rfl,rfl⟩
theorem pk_sign {c:UInt8} {l:List UInt8} (hc:c=40∨c=41∨c=44∨c=58∨c=45):pk (c::l)= [c]∧nx (c::l)=l:=pk_one (sb_at (by rcases hc with e | e | e | e | e<;>(rw [e];decide))) hc
def Beg (b:UInt8):Prop:=isW b=true∨b=40∨b=45∨b=34∨b=35
theorem beg_ne {b:UInt8} (h:Beg b):b≠32∧b≠61∧b≠62∧b≠58∧b≠41∧b≠44:=by
 rcases h with h | h | h | h | h
 ·refine⟨?_,?_,?_,?_,?_,?_⟩<;>(intro e;subst e;revert h;decide)
 all_goals (subst h;decide)
theorem op_begins (o:Int) (h1:1≤o) (h2:o≤11) {b:UInt8} {r:List UInt8} (hb:Beg b):opAt (sgT o++b::r)=o∧sb (sgT o++b::r)=sgT o++b::r:=by
 obtain⟨_,n1,n2,_⟩:=beg_ne hb
 have hn:o=1∨o=2∨o=3∨o=4∨o=5∨o=6∨o=7∨o=8∨o=9∨o=10∨o=11:=by omega
 rcases hn with rfl | rfl | rfl | rfl | rfl | rfl | rfl | rfl | rfl | rfl | rfl
 all_goals
  refine⟨?_,?_⟩
  ·simp [sgT,opAt,n1,n2]
  ·simp only [sgT]
   exact sb_at (by decide)
theorem pk_op (o:Int) (h1:1≤o) (h2:o≤11) {b:UInt8} {r:List UInt8} (hb:Beg b):pk (sgT o++b::r)=sgT o∧nx (sgT o++b::r)=b::r:=by
 obtain⟨e1,e2⟩:=op_begins o h1 h2 hb (r:=r)
 obtain⟨p1,p2⟩:=op_pk (l:=sgT o++b::r) (by rw [e2,e1];omega)
 rw [e2,e1]at p1 p2
 exact⟨p1,(List.append_cancel_left p2).symm⟩
theorem sep_op (o:Int) (h1:1≤o) (h2:o≤11) (r:List UInt8):Sep (sgT o++r):=by
 have hn:o=1∨o=2∨o=3∨o=4∨o=5∨o=6∨o=7∨o=8∨o=9∨o=10∨o=11:=by omega
 intro b hb
 rcases hn with rfl | rfl | rfl | rfl | rfl | rfl | rfl | rfl | rfl | rfl | rfl
 all_goals
  simp only [sgT]at hb
  have e:=Option.some.inj hb
  rw [←e]
  decide
theorem sep_sign {c:UInt8} (hc:c=41∨c=44) (l:List UInt8):Sep (c::l):=by
 intro b hb
 have e:=Option.some.inj hb
 rw [←e]
 rcases hc with rfl | rfl<;>decide
theorem sep_nil:Sep []:=fun b hb=>by cases hb
theorem Sep.w {l:List UInt8} (h:Sep l): ∀b,l.head? =some b→isW b=false:=fun b hb=>(h b hb).1
theorem Sep.q {l:List UInt8} (h:Sep l):l.head?≠some 34:=fun e=>(h 34 e).2.1 rfl
theorem letter_W {b:UInt8} (h:isL b=true):isW b=true:=by
 unfold isW
 unfold isL at h
 rw [h]
 rfl
theorem ref_bc {c v:Int} (h:refOkB c v=true):1≤c∧c≤52:=by
 simp only [refOkB,decide_eq_true_eq]at h
 omega
theorem plOk_ref {c r:Int} (h:refOkB c r=true):plOk c (some r)=true:=by
 unfold plOk
 simpa using h
theorem dec_W: ∀i,i<100→(decS i).data.toList.all isW=true:=by decide+kernel
theorem plT_W {c r:Int} {x y:Bool} (h:refOkB c r=true):(∀b∈plT c r x y,isW b=true)∧plT c r x y≠ []:=by
 have hb:=ref_bd h
 have hc:=ref_bc h
 unfold plT
 rw [placeT_L]
 obtain⟨l1,l2⟩:=col_letters c hc.1 hc.2
 have hf: ∀x:Bool,∀b∈fxL x,isW b=true:=by decide
 refine⟨fun b hb2=> ?_,?_⟩
 ·rcases List.mem_append.1 hb2 with hb2 | hb2
  ·rcases List.mem_append.1 hb2 with hb2 | hb2
   ·rcases List.mem_append.1 hb2 with hb2 | hb2
    ·exact hf x b hb2
    ·exact letter_W (l1 b hb2)
   ·exact hf y b hb2
  ·exact List.all_eq_true.1 (dec_W r.toNat (by omega)) b hb2
 ·intro e
  rw [List.append_eq_nil_iff,List.append_eq_nil_iff,List.append_eq_nil_iff]at e
  exact l2 e.1.1.2
theorem plT_rp {c r:Int} {x y:Bool} (h:refOkB c r=true):rpL (plT c r x y)=some (c,r,x,y):=by
 have hb:=ref_bd h
 have hc:=ref_bc h
 obtain⟨h1,h2,h3,h4⟩:=rt_fwd c r.toNat x y hc (by omega)
 have e:bs (plT c r x y)=placeT c r.toNat x y:=rfl
 have er:((r.toNat:Nat):Int)=r:=by omega
 unfold rpL
 rw [e,h1,h2,h3,h4,er]
 have ho:plOk c (some r)=true:=plOk_ref h
 rw [if_pos ho]
 rfl
theorem fn_none {w:List UInt8} (h:rpL w≠none∨rvL w≠none):fnOf w=0:=by
 by_cases hf:fnOf w=0
 ·exact hf
 ·exfalso
  obtain⟨n,h1,h2,e⟩:=fnOf_back hf
  have h9:=one_fns ⟨n-1,by omega⟩
  simp only [show((n-1:Nat):Int)+1=(n:Int) by omega]at h9
  rw [←e]at h
  rcases h with h | h
  ·exact h h9.2
  ·exact h h9.1
theorem zP_of {c r:Int} {f g:Bool} (h:zP c r f g=true):c=0∧r=0∧f=false∧g=false:=by
 simp only [zP,Bool.and_eq_true,decide_eq_true_eq,Bool.not_eq_true']at h
 exact⟨h.1.1.1,h.1.1.2,h.1.2,h.2⟩
theorem zV_of {k n:Int} {s:ByteArray} (h:zV k n s=true):k=0∧n=0∧s=⟨#[]⟩:=by
 simp only [zV,Bool.and_eq_true,decide_eq_true_eq]at h
 exact⟨h.1.1,h.1.2,emp_of h.2⟩
theorem node_cst {x:FN} (h:nodeX x=true) (hk:x.k=1):x=RF.cst x.ck x.cn x.cs.data.toList:=by
 obtain⟨k,o,ck,cn,cs,ac,ar,af,ag,bc,br,bf,bg,kids⟩:=x
 simp only at hk
 subst hk
 unfold nodeX nodeB at h
 rw [if_pos rfl]at h
 simp only [Bool.and_eq_true,decide_eq_true_eq]at h
 obtain⟨⟨⟨⟨_,ho⟩,ha⟩,hb⟩,hl⟩:=h
 obtain⟨rfl,rfl,rfl,rfl⟩:=zP_of ha
 obtain⟨rfl,rfl,rfl,rfl⟩:=zP_of hb
 obtain rfl:=ho
 obtain rfl:=List.length_eq_zero_iff.1 hl
 rfl
theorem node_cel {x:FN} (h:nodeX x=true) (hk:x.k=2):x=RF.cel (x.ac,x.ar,x.af,x.ag):=by
 obtain⟨k,o,ck,cn,cs,ac,ar,af,ag,bc,br,bf,bg,kids⟩:=x
 simp only at hk
 subst hk
 unfold nodeX nodeB at h
 rw [if_neg (by simp),if_pos rfl]at h
 simp only [Bool.and_eq_true,decide_eq_true_eq]at h
 obtain⟨⟨⟨⟨_,ho⟩,ha⟩,hb⟩,hl⟩:=h
 obtain⟨rfl,rfl,rfl⟩:=zV_of ha
 obtain⟨rfl,rfl,rfl,rfl⟩:=zP_of hb
 obtain rfl:=ho
 obtain rfl:=List.length_eq_zero_iff.1 hl
 rfl
theorem node_are {x:FN} (h:nodeX x=true) (hk:x.k=3):x=RF.are (x.ac,x.ar,x.af,x.ag) (x.bc,x.br,x.bf,x.bg):=by
 obtain⟨k,o,ck,cn,cs,ac,ar,af,ag,bc,br,bf,bg,kids⟩:=x
 simp only at hk
 subst hk
 unfold nodeX nodeB at h
 rw [if_neg (by simp),if_neg (by simp),if_pos rfl]at h
 simp only [Bool.and_eq_true,decide_eq_true_eq]at h
 obtain⟨⟨⟨_,ho⟩,ha⟩,hl⟩:=h
 obtain⟨rfl,rfl,rfl⟩:=zV_of ha
 obtain rfl:=ho
 obtain rfl:=List.length_eq_zero_iff.1 hl
 rfl
theorem node_neg {x:FN} {c:Int} (h:nodeX x=true) (hk:x.k=4) (hg:x.kids= [c]):x=RF.neg c:=by
 obtain⟨k,o,ck,cn,cs,ac,ar,af,ag,bc,br,bf,bg,kids⟩:=x
 simp only at hk hg
 subst hk hg
 unfold nodeX nodeB at h
 rw [if_neg (by simp),if_neg (by simp),if_neg (by simp),if_pos rfl]at h
 simp only [Bool.and_eq_true,decide_eq_true_eq]at h
 obtain⟨⟨_,ho⟩,⟨hv,ha⟩,hb⟩:=h
 obtain⟨rfl,rfl,rfl⟩:=zV_of hv
 obtain⟨rfl,rfl,rfl,rfl⟩:=zP_of ha
 obtain⟨rfl,rfl,rfl,rfl⟩:=zP_of hb
 obtain rfl:=ho
 rfl
theorem node_bin {x:FN} {a b:Int} (h:nodeX x=true) (hk:x.k=5) (hg:x.kids= [a,b]):x=RF.bin x.o a b:=by
 obtain⟨k,o,ck,cn,cs,ac,ar,af,ag,bc,br,bf,bg,kids⟩:=x
 simp only at hk hg
 subst hk hg
 unfold nodeX nodeB at h
 rw [if_neg (by simp),if_neg (by simp),if_neg (by simp),if_neg (by simp),if_pos rfl]at h
 simp only [Bool.and_eq_true,decide_eq_true_eq]at h
 obtain⟨⟨_,ho⟩,⟨hv,ha⟩,hb⟩:=h
 obtain⟨rfl,rfl,rfl⟩:=zV_of hv
 obtain⟨rfl,rfl,rfl,rfl⟩:=zP_of ha
 obtain⟨rfl,rfl,rfl,rfl⟩:=zP_of hb
 rfl
theorem node_cal {x:FN} (h:nodeX x=true) (hk:x.k=6):x=RF.cal x.o x.kids:=by
 obtain⟨k,o,ck,cn,cs,ac,ar,af,ag,bc,br,bf,bg,kids⟩:=x
 simp only at hk
 subst hk
 unfold nodeX nodeB at h
 rw [if_neg (by simp),if_neg (by simp),if_neg (by simp),if_neg (by simp),if_neg (by simp),if_pos rfl]at h
 simp only [Bool.and_eq_true,decide_eq_true_eq]at h
 obtain⟨_,⟨hv,ha⟩,hb⟩:=h
 obtain⟨rfl,rfl,rfl⟩:=zV_of hv
 obtain⟨rfl,rfl,rfl,rfl⟩:=zP_of ha
 obtain⟨rfl,rfl,rfl,rfl⟩:=zP_of hb
 rfl
theorem rv_tx {k n:Int} {s:ByteArray} (h:okV k n s=true):rvL (txV k n s).data.toList=some (k,n,s.data.toList):=by
 have hg:=guess_okV (txV k n s)
 rw [guess_back h]at hg
 unfold rvL
 rw [bs_of,←rv_same,guess_back h,rvT,if_pos (hg.trans h)]
 rfl
theorem dig_all (m:Nat): ∀b∈Lib.decDigits m,48≤b.toNat∧b.toNat≤57:=by
 induction m using Nat.strongRecOn with
 | ind m ih=>
  intro b hb
  rw [Lib.decDigits]at hb
  split at hb
  ·rw [List.mem_singleton]at hb
   rw [hb]
   simp
   omega
  ·rcases List.mem_append.1 hb with hb | hb
   ·exact ih (m/10) (by omega) b hb
   ·rw [List.mem_singleton]at hb
    rw [hb]
    simp
    omega
theorem dig_W {b:UInt8} (h:48≤b.toNat∧b.toNat≤57):isW b=true∧b≠36∧isL b=false:=by
 refine⟨?_,fun e=>by subst e;revert h;decide,?_⟩
 ·unfold isW
  simp [h]
 ·unfold isL
  simp
  omega
theorem num_read {n:Int} {l:List UInt8} {out:List FN} (h0:0≤n) (h:okV 1 n ⟨#[]⟩=true) (hl:((itB n).data.toList++l).length≤1000) (hs:Sep l):PB RF 3 0 0 [] ((itB n).data.toList++l) out=some ((out.length:Int),sb l,out++ [RF.cst 1 n []]):=by
 have e1:(itB n).data.toList=Lib.decDigits n.toNat:=by
  have:=Lib.itoa_nonneg n.toNat
  rw [show((n.toNat:Nat):Int)=n by omega]at this
  rw [←this]
  rfl
 have hx:=rv_tx h
 have e2:txV 1 n ⟨#[]⟩=itB n:=by rw [txV,h,if_pos rfl,txB,if_pos rfl]
 rw [e2,e1]at hx
 rw [e1]at hl ⊢
 have hd:=dig_all n.toNat
 have hne:Lib.decDigits n.toNat≠ []:=by
  rw [Lib.decDigits]
  split
  ·simp
  ·simp
 obtain⟨p1,p2⟩:=pk_wd (l:=l) hne (fun b hb=>(dig_W (hd b hb)).1) hs.w
 have hf:fnOf (Lib.decDigits n.toNat)=0:=fn_none (Or.inr (by rw [hx];simp))
 rw [one_els (x:=some (1,n,[])) (y:=none) hl (by rw [p1];exact hne) ?_ ?_ ?_ (by rw [p1];exact hf) (by rw [p1];exact hx) ?_,p2]
 ·rfl
 all_goals
  rw [p1]
  cases hq:Lib.decDigits n.toNat with
  | nil=>exact absurd hq hne
  | cons b t=>
   have hb:=hd b (by rw [hq];simp)
   obtain⟨hw,h36,hL⟩:=dig_W hb
   obtain⟨n1,n2,n3,n4⟩:=isW_ne hw
   first
   | exact rp_none h36 hL
   | (intro e;exact n2 (List.cons.inj e).1)
   | (intro e;exact n3 (List.cons.inj e).1)
   | (intro e;exact n1 (Option.some.inj e))
theorem tr_read {n:Int} {l:List UInt8} {out:List FN} (hn:n=0∨n=1) (hl:((trT n).data.toList++l).length≤1000) (hs:Sep l):PB RF 3 0 0 [] ((trT n).data.toList++l) out=some ((out.length:Int),sb l,out++ [RF.cst 3 n []]):=by
 have hx:okV 3 n ⟨#[]⟩=true:=by rcases hn with rfl | rfl<;>decide+kernel
 have hv:=rv_tx hx
 have e2:txV 3 n ⟨#[]⟩=trT n:=by rw [txV,hx,if_pos rfl,txB,if_neg (by omega),if_neg (by omega),if_pos rfl]
 rw [e2]at hv
 have ha:(trT n).data.toList.all isW=true∧(trT n).data.toList≠ []∧(trT n).data.toList≠ [40]∧(trT n).data.toList≠ [45]∧(trT n).data.toList.head?≠some 34:=by rcases hn with rfl | rfl<;>decide
 obtain⟨a1,a2,a3,a4,a5⟩:=ha
 obtain⟨p1,p2⟩:=pk_wd (l:=l) a2 (fun b hb=>List.all_eq_true.1 a1 b hb) hs.w
 have hf:fnOf (trT n).data.toList=0:=fn_none (Or.inr (by rw [hv];simp))
 rw [one_els (x:=some (3,n,[])) (y:=rpL (trT n).data.toList) hl (by rw [p1];exact a2) (by rw [p1];exact a3) (by rw [p1];exact a4) (by rw [p1];exact a5) (by rw [p1];exact hf) (by rw [p1];exact hv) (by rw [p1]),p2]
 rfl
theorem er_list (n:Int) (h1:1≤n) (h5:n≤5):(erT n).data.toList=erL n.toNat:=by
 have hn:n=1∨n=2∨n=3∨n=4∨n=5:=by omega
 rcases hn with rfl | rfl | rfl | rfl | rfl<;>rfl
theorem er_at (k:Nat) (h1:1≤k) (h5:k≤5) (l:List UInt8):erAt (erL k++l)=k∧ ∃t,erL k++l=35::t:=by
 have hn:k=1∨k=2∨k=3∨k=4∨k=5:=by omega
 rcases hn with rfl | rfl | rfl | rfl | rfl
 all_goals exact⟨by simp [erAt,erL,List.isPrefixOf],_,rfl⟩
theorem er_read {n:Int} {l:List UInt8} {out:List FN} (h1:1≤n) (h5:n≤5) (hl:((erT n).data.toList++l).length≤1000):PB RF 3 0 0 [] ((erT n).data.toList++l) out=some ((out.length:Int),sb l,out++ [RF.cst 4 n []]):=by
 rw [er_list n h1 h5]at hl ⊢
 obtain⟨e1,t,e2⟩:=er_at n.toNat (by omega) (by omega) l
 have hsb:sb (erL n.toNat++l)=erL n.toNat++l:=by rw [e2];exact sb_at (by decide)
 rw [one_err (t:=t) (k:=n.toNat) hl (by rw [hsb];exact e2) (by rw [hsb];exact e1) (by omega),hsb,List.drop_left,show((n.toNat:Nat):Int)=n by omega]
theorem quo_read {s:List UInt8} {l:List UInt8} {out:List FN} (hl:([34]++qt s++ [34]++l).length≤1000) (hs:Sep l):PB RF 3 0 0 [] ([34]++qt s++ [34]++l) out=some ((out.length:Int),sb l,out++ [RF.cst 2 0 s]):=by
 have e: [34]++qt s++ [34]++l=34::(qt s++ [34]++l):=by simp
 rw [e]at hl ⊢
 exact one_quo hl (sb_at (by decide)) (qEnd_of s l hs.q)
theorem cst_read {k n:Int} {s:ByteArray} {l:List UInt8} {out:List FN} (hc:cOk k n s=true) (hl:(cstT k n s++l).length≤1000) (hs:Sep l):PB RF 3 0 0 [] (cstT k n s++l) out=some ((out.length:Int),sb l,out++ [RF.cst k n s.data.toList]):=by
 obtain⟨h,h0,hn⟩:=cOk_parts hc
 unfold cstT at hl ⊢
 rcases okV_kinds h with⟨rfl,rfl,rfl⟩ | ⟨rfl,hr,rfl⟩ | ⟨rfl,rfl,hr⟩ | ⟨rfl,hr,rfl⟩ | ⟨rfl,h1,h5,rfl⟩
 ·exact absurd rfl h0
 ·have e2:txV 1 n ⟨#[]⟩=itB n:=by rw [txV,h,if_pos rfl,txB,if_pos rfl]
  rw [if_neg (by omega),e2]at hl ⊢
  exact num_read (hn rfl) h hl hs
 ·rw [if_pos rfl]at hl ⊢
  exact quo_read hl hs
 ·have e2:txV 3 n ⟨#[]⟩=trT n:=by rw [txV,h,if_pos rfl,txB,if_neg (by omega),if_neg (by omega),if_pos rfl]
  rw [if_neg (by omega),e2]at hl ⊢
  exact tr_read (by revert hr;simp [rTruth]) hl hs
 ·have e2:txV 4 n ⟨#[]⟩=erT n:=by rw [txV,h,if_pos rfl,txB,if_neg (by omega),if_neg (by omega),if_neg (by omega),if_pos rfl]
  rw [if_neg (by omega),e2]at hl ⊢
  exact er_read h1 h5 hl
theorem plT_head {c r:Int} {x y:Bool} (h:refOkB c r=true): ∃b t,plT c r x y=b::t∧(b=36∨isL b=true):=by
 have hc:=ref_bc h
 obtain⟨l1,l2⟩:=col_letters c hc.1 hc.2
 unfold plT
 rw [placeT_L]
 cases x with
 | true=>exact⟨36,_,rfl,Or.inl rfl⟩
 | false=>
  cases hq:(colT c).data.toList with
  | nil=>exact absurd hq l2
  | cons b t=>exact⟨b,_,rfl,Or.inr (l1 b (by rw [hq];simp))⟩
theorem tr_rp:rpL (trT 0).data.toList=none∧rpL (trT 1).data.toList=none:=by decide+kernel
theorem pl_sgn {b:UInt8} {t:List UInt8} (h:b=36∨isL b=true):sgnl (b::t)=none:=by
 cases hq:sgnl (b::t)with
 | none=>rfl
 | some v=>
  exfalso
  obtain⟨e,_⟩:=sgnl_itoa hq
  obtain⟨h0,h1⟩:=it_first v
  have e2:itB v=bs (b::t):=by rw [←e];rfl
  have e3: ∀s:ByteArray,s=bs (b::t)→ ∀h:0<s.size,s[0]=b:=fun s hs h=>by subst hs;rfl
  rw [e3 _ e2 h0]at h1
  rcases h with h | h
  ·rw [h]at h1
   revert h1
   decide
  ·have:=of_decide_eq_true (show decide (65≤b.toNat∧b.toNat≤90)=true from h)
   omega
theorem pl_rv {c r:Int} {x y:Bool} (h:refOkB c r=true):rvL (plT c r x y)=none:=by
 have hp:=plT_rp (x:=x) (y:=y) h
 obtain⟨b,t,e,hb⟩:=plT_head (x:=x) (y:=y) h
 rw [e]at hp ⊢
 have n0:bs (b::t)≠trT 0:=fun e'=>by
  have:b::t=(trT 0).data.toList:=congrArg (fun s:ByteArray=>s.data.toList) e'
  rw [this,tr_rp.1]at hp
  cases hp
 have n1:bs (b::t)≠trT 1:=fun e'=>by
  have:b::t=(trT 1).data.toList:=congrArg (fun s:ByteArray=>s.data.toList) e'
  rw [this,tr_rp.2]at hp
  cases hp
 have e0: ∀h:0<(bs (b::t)).size,(bs (b::t))[0]=b:=fun _=>rfl
 have nb:b.toNat≠39∧b.toNat≠35:=by
  rcases hb with hb | hb
  ·subst hb;decide
  ·have:=of_decide_eq_true (show decide (65≤b.toNat∧b.toNat≤90)=true from hb)
   omega
 unfold rvL rvS
 rw [dif_pos (show 0<(bs (b::t)).size by rw [bs_size];simp),e0,if_neg nb.1,if_neg n1,if_neg n0,if_neg nb.2,bs_list,pl_sgn hb]
 rfl
theorem cel_read {c r:Int} {x y:Bool} {l:List UInt8} {out:List FN} (h:refOkB c r=true) (hl:(plT c r x y++l).length≤1000) (hs:Sep l):PB RF 3 0 0 [] (plT c r x y++l) out=some ((out.length:Int),sb l,out++ [RF.cel (c,r,x,y)]):=by
 obtain⟨w1,w2⟩:=plT_W (x:=x) (y:=y) h
 obtain⟨p1,p2⟩:=pk_wd (l:=l) w2 w1 hs.w
 have hp:=plT_rp (x:=x) (y:=y) h
 have hf:fnOf (plT c r x y)=0:=fn_none (Or.inl (by rw [hp];simp))
 obtain⟨b,t,e,hb⟩:=plT_head (x:=x) (y:=y) h
 obtain⟨n1,n2,n3,n4⟩:=isW_ne (w1 b (by rw [e];simp))
 rw [one_els (x:=none) (y:=some (c,r,x,y)) hl (by rw [p1];exact w2) ?_ ?_ ?_ (by rw [p1];exact hf) (by rw [p1];exact pl_rv h) (by rw [p1];exact hp),p2]
 ·rfl
 ·rw [p1,e];intro e';exact n2 (List.cons.inj e').1
 ·rw [p1,e];intro e';exact n3 (List.cons.inj e').1
 ·rw [p1,e];intro e';exact n1 (Option.some.inj e')
theorem are_read {c r c' r':Int} {x y x' y':Bool} {l:List UInt8} {out:List FN} (h:refOkB c r=true) (h':refOkB c' r'=true) (hl:(plT c r x y++ [58]++plT c' r' x' y'++l).length≤1000) (hs:Sep l):
  PB RF 6 0 0 [] (plT c r x y++ [58]++plT c' r' x' y'++l) out=some ((out.length:Int),sb l,out++ [RF.are (c,r,x,y) (c',r',x',y')]):=by
 have e:plT c r x y++ [58]++plT c' r' x' y'++l=plT c r x y++58::(plT c' r' x' y'++l):=by simp
 rw [e]at hl ⊢
 obtain⟨w1,w2⟩:=plT_W (x:=x) (y:=y) h
 obtain⟨w1',w2'⟩:=plT_W (x:=x') (y:=y') h'
 obtain⟨p1,p2⟩:=pk_wd (l:=58::(plT c' r' x' y'++l)) w2 w1 (fun b hb=>by rw [←Option.some.inj hb];decide)
 obtain⟨q1,q2⟩:=pk_sign (c:=58) (l:=plT c' r' x' y'++l) (by simp)
 obtain⟨p1',p2'⟩:=pk_wd (l:=l) w2' w1' hs.w
 rw [PB6 hl,p1,p2,q1,q2,p1',p2',if_pos ⟨w2,rfl⟩,RF_rp,RF_rp,plT_rp h,plT_rp h']
theorem not58 {b:UInt8} {t:List UInt8} (h:b≠58) (h32:b≠32):pk (b::t)≠ [58]:=fun e=>by
 have:=(is_one (b::t) 58 (by simp)).1 e
 rw [sb_at h32]at this
 exact h (Option.some.inj this)
theorem sep58 {l:List UInt8} (h:Sep l):pk l≠ [58]:=by
 cases l with
 | nil=>decide
 | cons b t=>exact not58 (h b rfl).2.2.1 (h b rfl).2.2.2
theorem beg58 {b:UInt8} {t:List UInt8} (h:Beg b):pk (b::t)≠ [58]:=not58 (beg_ne h).2.2.2.1 (beg_ne h).1
theorem cst_nx {k n:Int} {s:ByteArray} {l:List UInt8} (hc:cOk k n s=true) (hs:Sep l):nx (cstT k n s++l)=l∧ ∃b t,cstT k n s=b::t∧Beg b:=by
 obtain⟨h,h0,hn⟩:=cOk_parts hc
 unfold cstT
 rcases okV_kinds h with⟨rfl,rfl,rfl⟩ | ⟨rfl,hr,rfl⟩ | ⟨rfl,rfl,hr⟩ | ⟨rfl,hr,rfl⟩ | ⟨rfl,h1,h5,rfl⟩
 ·exact absurd rfl h0
 ·have e2:txV 1 n ⟨#[]⟩=itB n:=by rw [txV,h,if_pos rfl,txB,if_pos rfl]
  have e1:(itB n).data.toList=Lib.decDigits n.toNat:=by
   have:=Lib.itoa_nonneg n.toNat
   rw [show((n.toNat:Nat):Int)=n by have:=hn rfl;omega]at this
   rw [←this]
   rfl
  rw [if_neg (by omega),e2,e1]
  have hd:=dig_all n.toNat
  have hne:Lib.decDigits n.toNat≠ []:=by
   rw [Lib.decDigits]
   split
   ·simp
   ·simp
  refine⟨(pk_wd (l:=l) hne (fun b hb=>(dig_W (hd b hb)).1) hs.w).2,?_⟩
  cases hq:Lib.decDigits n.toNat with
  | nil=>exact absurd hq hne
  | cons b t=>exact⟨b,t,rfl,Or.inl (dig_W (hd b (by rw [hq];simp))).1⟩
 ·rw [if_pos rfl]
  have e: [34]++qt s.data.toList++ [34]++l=34::(qt s.data.toList++ [34]++l):=by simp
  rw [e]
  exact⟨(pk_quote (sb_at (by decide)) (qEnd_of s.data.toList l hs.q)).2.1,34,_,rfl,by unfold Beg;simp⟩
 ·have e2:txV 3 n ⟨#[]⟩=trT n:=by rw [txV,h,if_pos rfl,txB,if_neg (by omega),if_neg (by omega),if_pos rfl]
  rw [if_neg (by omega),e2]
  have hn:n=0∨n=1:=by revert hr;simp [rTruth]
  have ha:(trT n).data.toList.all isW=true∧(trT n).data.toList≠ []:=by rcases hn with rfl | rfl<;>decide
  refine⟨(pk_wd (l:=l) ha.2 (fun b hb=>List.all_eq_true.1 ha.1 b hb) hs.w).2,?_⟩
  rcases hn with rfl | rfl
  ·exact⟨70,_,rfl,by unfold Beg;decide⟩
  ·exact⟨84,_,rfl,by unfold Beg;decide⟩
 ·have e2:txV 4 n ⟨#[]⟩=erT n:=by rw [txV,h,if_pos rfl,txB,if_neg (by omega),if_neg (by omega),if_neg (by omega),if_pos rfl]
  rw [if_neg (by omega),e2,er_list n h1 h5]
  obtain⟨e1,t,e3⟩:=er_at n.toNat (by omega) (by omega) l
  have hsb:sb (erL n.toNat++l)=erL n.toNat++l:=by rw [e3];exact sb_at (by decide)
  obtain⟨_,q2,_⟩:=pk_err (l:=erL n.toNat++l) (t:=t) (by rw [hsb];exact e3) (by rw [hsb,e1];omega)
  rw [hsb,e1]at q2
  refine⟨(List.append_cancel_left q2).symm,?_⟩
  have hk:n=1∨n=2∨n=3∨n=4∨n=5:=by omega
  rcases hk with rfl | rfl | rfl | rfl | rfl
  all_goals exact⟨35,_,rfl,by unfold Beg;simp⟩
theorem fn_head (o:Int) (h1:1≤o) (h2:o≤10):(fnT o).all isW=true∧fnT o≠ []∧fnOf (fnT o)=o:=by
 have hn:o=1∨o=2∨o=3∨o=4∨o=5∨o=6∨o=7∨o=8∨o=9∨o=10:=by omega
 rcases hn with rfl | rfl | rfl | rfl | rfl | rfl | rfl | rfl | rfl | rfl<;>decide
structure Rt (F:Nat→FN) (n:Nat):Prop where
 node: ∀i,i<n→nodeX (F i)=true
 rng:InRange (fG F) n
 ars: ∀i,i<n→(F i).k≠6→ ∀c∈(F i).kids,(F c.toNat).k≠3
theorem rt_of {F:Nat→FN} {n:Nat} (h:fOkB F n=true):Rt F n∧(F (n-1)).k≠3∧tree (fG F) ((n-1:Nat):Int)=0:=by
 obtain⟨h1,h60,hn,hr,hd⟩:=fOk_in h
 simp only [fOkB,Bool.and_eq_true,decide_eq_true_eq,Bool.not_eq_true',decide_eq_false_iff_not]at h
 obtain⟨⟨⟨⟨⟨_,_⟩,_⟩,hk⟩,ha,hl⟩,_⟩:=h
 refine⟨⟨hn,hr,fun i hi h6 c hc h3=> ?_⟩,hl,?_⟩
 ·rw [arsB_no hi hc h3 h6]at ha
  cases ha
 ·obtain⟨m,rfl⟩: ∃m,n=m+1:=⟨n-1,by omega⟩
  have h9:kidsB (fG F) (m+1)=true:=hk
  rw [kidsB_tree]at h9
  exact of_decide_eq_true h9
theorem bdX_head {F:Nat→FN} {j:Nat} {z:Int} (h: ∃b t,TX F j=b::t∧Beg b): ∃b t,bdX F j z=b::t∧Beg b:=by
 unfold bdX
 split
 ·exact⟨40,_,rfl,by unfold Beg;simp⟩
 ·exact h
theorem TX_head {F:Nat→FN} {n:Nat} (R:Rt F n): ∀i,i<n→ ∃b t,TX F i=b::t∧Beg b:=by
 intro i
 induction i using Nat.strongRecOn with
 | ind i ih=>
  intro hi
  rcases node_kinds (R.node i hi)with⟨hk,hc,hg⟩ | ⟨hk,hc,hg⟩ | ⟨hk,hc,hc',hg⟩ | ⟨hk,c,hg⟩ | ⟨hk,o1,o2,a,b,hg⟩ | ⟨hk,o1,o2,k1,k2⟩
  ·rw [TX_leaf (by omega) (by omega) (by omega),leafT,if_pos hk]
   exact(cst_nx hc sep_nil).2
  ·rw [TX_leaf (by omega) (by omega) (by omega),leafT,if_neg (by omega),if_pos hk]
   obtain⟨b,t,e,hb⟩:=plT_head (x:=(F i).af) (y:=(F i).ag) hc
   exact⟨b,t,e,Or.inl ((plT_W hc).1 b (by rw [e];simp))⟩
  ·rw [TX_leaf (by omega) (by omega) (by omega),leafT,if_neg (by omega),if_neg (by omega)]
   obtain⟨b,t,e,hb⟩:=plT_head (x:=(F i).af) (y:=(F i).ag) hc
   rw [e]
   exact⟨b,_,rfl,Or.inl ((plT_W (x:=(F i).af) (y:=(F i).ag) hc).1 b (by rw [e];simp))⟩
  ·rw [TX_neg R.rng hi hk hg]
   exact⟨45,_,rfl,by unfold Beg;simp⟩
  ·rw [TX_bin R.rng hi hk hg]
   have hr:=R.rng i hi a (by show a∈(F i).kids;rw [hg];simp)
   obtain⟨d,t,e,hb⟩:=bdX_head (z:=lvl (F i).o) (ih a.toNat (by omega) (by omega))
   rw [e]
   exact⟨d,_,rfl,hb⟩
  ·rw [TX_call R.rng hi hk]
   obtain⟨f1,f2,_⟩:=fn_head _ o1 o2
   cases hq:fnT (F i).o with
   | nil=>exact absurd hq f2
   | cons d t=>exact⟨d,_,rfl,Or.inl (List.all_eq_true.1 f1 d (by rw [hq];simp))⟩
theorem TX_second {F:Nat→FN} {n:Nat} (R:Rt F n): ∀i,i<n→(F i).k≠3→ ∀l,Sep l→pk (nx (TX F i++l))≠ [58]:=by
 intro i
 induction i using Nat.strongRecOn with
 | ind i ih=>
  intro hi h3 l hs
  rcases node_kinds (R.node i hi)with⟨hk,hc,hg⟩ | ⟨hk,hc,hg⟩ | ⟨hk,hc,hc',hg⟩ | ⟨hk,c,hg⟩ | ⟨hk,o1,o2,a,b,hg⟩ | ⟨hk,o1,o2,k1,k2⟩
  ·rw [TX_leaf (by omega) (by omega) (by omega),leafT,if_pos hk,(cst_nx hc hs).1]
   exact sep58 hs
  ·rw [TX_leaf (by omega) (by omega) (by omega),leafT,if_neg (by omega),if_pos hk]
   obtain⟨w1,w2⟩:=plT_W (x:=(F i).af) (y:=(F i).ag) hc
   rw [(pk_wd (l:=l) w2 w1 hs.w).2]
   exact sep58 hs
  ·exact absurd hk h3
  ·rw [TX_neg R.rng hi hk hg]
   have hr:=R.rng i hi c (by show c∈(F i).kids;rw [hg];simp)
   obtain⟨d,t,e,hb⟩:=bdX_head (z:=5) (TX_head R c.toNat (by omega))
   rw [e,List.append_assoc]
   show pk (nx (45::(d::t++l)))≠ [58]
   rw [(pk_sign (c:=45) (by simp)).2]
   exact beg58 hb
  ·rw [TX_bin R.rng hi hk hg]
   have hr:=R.rng i hi a (by show a∈(F i).kids;rw [hg];simp)
   have h3a:=R.ars i hi (by omega) a (by rw [hg];simp)
   unfold bdX
   split
   ·obtain⟨d,t,e,hb⟩:=TX_head R a.toNat (by omega)
    rw [e]
    simp only [List.append_assoc,List.cons_append,List.nil_append]
    rw [(pk_sign (c:=40) (by simp)).2]
    exact beg58 hb
   ·rw [List.append_assoc,List.append_assoc]
    exact ih a.toNat (by omega) (by omega) h3a _ (sep_op _ o1 o2 _)
  ·rw [TX_call R.rng hi hk]
   obtain⟨f1,f2,_⟩:=fn_head _ o1 o2
   simp only [List.append_assoc,List.cons_append,List.nil_append]
   rw [(pk_wd f2 (fun b hb=>List.all_eq_true.1 f1 b hb) (fun b hb=>by rw [←Option.some.inj hb];decide)).2]
   exact not58 (by decide) (by decide)
theorem climbG {t l:List UInt8} {x:Int} {out o1:List FN} {hi:Int} (h4:hi≤5) (ht:t.length≤1000) (hl:l.length≤1000) (h:PB RF 1 hi 0 [] t out=some (x,sb l,o1)): ∀(d:Nat) (lv:Int),lv=hi-(d:Int)→1≤lv→stopAt lv l→PB RF 1 lv 0 [] t out=some (x,sb l,o1):=by
 intro d
 induction d with
 | zero=>
  intro lv e _ _
  obtain rfl:lv=hi:=by omega
  exact h
 | succ d ih=>
  intro lv e h1 hs
  have h9:=ih (lv+1) (by omega) (by omega) (stop_mono hs (by omega))
  rw [climb1 (by omega) (by omega) ht h9,PB2_stop (by omega) (by omega) hl hs]
structure RdP (F:Nat→FN) (i:Nat):Prop where
 one:(F i).k≠5→(F i).k≠3→ ∀(l:List UInt8) (out:List FN),tree (fG F) i=(out.length:Int)→Sep l→(TX F i++l).length≤1000→PB RF 3 0 0 [] (TX F i++l) out=some ((i:Int),sb l,upto F out i)
 two:(F i).k=5→ ∀(l:List UInt8) (out:List FN),tree (fG F) i=(out.length:Int)→Sep l→stopAt (lvl (F i).o+1) l→(TX F i++l).length≤1000→PB RF 1 (lvl (F i).o) 0 [] (TX F i++l) out=PB RF 2 (lvl (F i).o) i [] l (upto F out i)
theorem RdP.row {F:Nat→FN} {i:Nat} (H:RdP F i) (h3:(F i).k≠3) {lv:Int} (h1:1≤lv) (h5:lv≤5) (ho:(F i).k=5→lv≤lvl (F i).o) {l:List UInt8} {out:List FN} (ht:tree (fG F) i=(out.length:Int)) (hs:Sep l) (hst:stopAt lv l) (hn:(TX F i++l).length≤1000):
  PB RF 1 lv 0 [] (TX F i++l) out=some ((i:Int),sb l,upto F out i):=by
 have hl:l.length≤1000:=by rw [List.length_append]at hn;omega
 by_cases hk:(F i).k=5
 ·have hb:=lvl_pos (F i).o
  have hlv:=ho hk
  have h9:=H.two hk l out ht hs (stop_mono hst (by omega)) hn
  rw [PB2_stop hb.1 hb.2 hl (stop_mono hst hlv)]at h9
  exact climbG (by omega) hn hl h9 (lvl (F i).o-lv).toNat lv (by omega) h1 hst
 ·have h9:=H.one hk h3 l out ht hs hn
  rw [←PB15 hn]at h9
  exact climbG (by omega) hn hl h9 (5-lv).toNat lv (by omega) h1 hst
theorem RdP.go {F:Nat→FN} {i:Nat} (H:RdP F i) (h3:(F i).k≠3) {lv:Int} (h1:1≤lv) (h4:lv≤4) (ho:(F i).k=5→lv≤lvl (F i).o) {l:List UInt8} {out:List FN} (ht:tree (fG F) i=(out.length:Int)) (hs:Sep l) (hst:stopAt (lv+1) l) (hn:(TX F i++l).length≤1000):
  PB RF 1 lv 0 [] (TX F i++l) out=PB RF 2 lv i [] l (upto F out i):=by
 by_cases hk:(F i).k=5∧lvl (F i).o=lv
 ·rw [←hk.2]
  exact H.two hk.1 l out ht hs (by rw [hk.2];exact hst) hn
 ·exact climb1 h1 h4 hn (H.row h3 (by omega) (by omega) (fun e=>by have:=ho e;have:lvl (F i).o≠lv:=fun e'=>hk ⟨e,e'⟩;omega) ht hs hst hn)
theorem RdP.par {F:Nat→FN} {i:Nat} (H:RdP F i) (h3:(F i).k≠3) {l:List UInt8} {out:List FN} (ht:tree (fG F) i=(out.length:Int)) (hn:([40]++TX F i++ [41]++l).length≤1000):
  PB RF 3 0 0 [] ([40]++TX F i++ [41]++l) out=some ((i:Int),sb l,upto F out i):=by
 have e: [40]++TX F i++ [41]++l=40::(TX F i++41::l):=by simp
 rw [e]at hn ⊢
 have hn2:(TX F i++41::l).length≤1000:=by rw [List.length_cons]at hn;omega
 have hb:=lvl_pos (F i).o
 obtain⟨q1,q2⟩:=pk_sign (c:=41) (l:=l) (by simp)
 have hr:=H.row h3 (lv:=1) (by omega) (by omega) (fun _=>by omega) (l:=41::l) (out:=out) ht (sep_sign (by simp) l) (Or.inl (by rw [q1];decide)) hn2
 rw [one_par hn (sb_at (by decide)),hr]
 show(if pk (sb (41::l))= [41]then some ((i:Int),sb (nx (sb (41::l))),upto F out i)else none)=_
 rw [sb_at (by decide),q1,q2,if_pos rfl]
theorem RdP.bd {F:Nat→FN} {i:Nat} (H:RdP F i) (h3:(F i).k≠3) {lv:Int} (h1:1≤lv) (h5:lv≤5) {l:List UInt8} {out:List FN} (ht:tree (fG F) i=(out.length:Int)) (hs:Sep l) (hst:stopAt lv l) (hn:(bdX F i lv++l).length≤1000):
  PB RF 1 lv 0 [] (bdX F i lv++l) out=some ((i:Int),sb l,upto F out i):=by
 have hl:l.length≤1000:=by rw [List.length_append]at hn;omega
 unfold bdX at hn ⊢
 split
 ·rename_i hc
  rw [if_pos hc]at hn
  have h9:=H.par h3 (l:=l) (out:=out) ht hn
  rw [←PB15 hn]at h9
  exact climbG (by omega) hn hl h9 (5-lv).toNat lv (by omega) h1 hst
 ·rename_i hc
  rw [if_neg hc]at hn
  exact H.row h3 h1 h5 (fun e=>by have: ¬lvl (F i).o<lv:=fun e'=>hc ⟨e,e'⟩;omega) ht hs hst hn
theorem RdP.bdgo {F:Nat→FN} {i:Nat} (H:RdP F i) (h3:(F i).k≠3) {lv:Int} (h1:1≤lv) (h4:lv≤4) {l:List UInt8} {out:List FN} (ht:tree (fG F) i=(out.length:Int)) (hs:Sep l) (hst:stopAt (lv+1) l) (hn:(bdX F i lv++l).length≤1000):
  PB RF 1 lv 0 [] (bdX F i lv++l) out=PB RF 2 lv i [] l (upto F out i):=by
 have hl:l.length≤1000:=by rw [List.length_append]at hn;omega
 unfold bdX at hn ⊢
 split
 ·rename_i hc
  rw [if_pos hc]at hn
  have h9:=H.par h3 (l:=l) (out:=out) ht hn
  rw [←PB15 hn]at h9
  exact climb1 h1 h4 hn (climbG (by omega) hn hl h9 (5-(lv+1)).toNat (lv+1) (by omega) (by omega) hst)
 ·rename_i hc
  rw [if_neg hc]at hn
  exact H.go h3 h1 h4 (fun e=>by have: ¬lvl (F i).o<lv:=fun e'=>hc ⟨e,e'⟩;omega) ht hs hst hn
theorem arg_read {F:Nat→FN} {n:Nat} (R:Rt F n) {i:Nat} (hi:i<n) (H:RdP F i) {l:List UInt8} {out:List FN} (ht:tree (fG F) i=(out.length:Int)) (hs:Sep l) (hst:stopAt 1 l) (hn:(TX F i++l).length≤1000):
  PB RF 6 0 0 [] (TX F i++l) out=some ((i:Int),sb l,upto F out i):=by
 by_cases h3:(F i).k=3
 ·have hx:=R.node i hi
  have hk:=node_kinds hx
  obtain⟨hc,hc',hg⟩:refOkB (F i).ac (F i).ar=true∧refOkB (F i).bc (F i).br=true∧(F i).kids= []:=by
   rcases hk with⟨hk,_⟩ | ⟨hk,_⟩ | ⟨hk,hc,hc',hg⟩ | ⟨hk,_⟩ | ⟨hk,_⟩ | ⟨hk,_⟩
   ·omega
   ·omega
   ·exact⟨hc,hc',hg⟩
   ·omega
   ·omega
   ·omega
  have hlen:(i:Int)=out.length:=by
   have h9:=tree_eq (fG F) i (by omega)
   have e:fG F (i:Int).toNat= []:=hg
   rw [e]at h9
   simp only [List.reverse_nil,loopT]at h9
   omega
  rw [TX_leaf (by omega) (by omega) (by omega),leafT,if_neg (by omega),if_neg (by omega)]at hn ⊢
  rw [are_read hc hc' hn hs,←node_are hx h3,upto_one (by omega),hlen]
 ·have hb:=lvl_pos (F i).o
  rw [PB6 hn,if_neg (fun e=>TX_second R i hi h3 l hs e.2)]
  exact H.row h3 (by omega) (by omega) (fun _=>by omega) ht hs hst hn
theorem args_read {F:Nat→FN} {n:Nat} (R:Rt F n) {i:Nat} (hi:i<n) (H: ∀j,j<i→RdP F j) {fn:Int} {l:List UInt8}: ∀(ks k0:List Int) (out:List FN),F i=RF.cal fn (k0++ks)→Chain (tree (fG F)) (out.length:Int) ks i→(∀k∈ks,0≤k∧k<i)→(((ks.map fun c=>TX F c.toNat).map ([44]++ ·)).flatten++41::l).length≤1000→
  PB RF 5 fn 0 k0 (((ks.map fun c=>TX F c.toNat).map ([44]++ ·)).flatten++41::l) out=some ((i:Int),sb l,upto F out i):=by
 intro ks
 induction ks with
 | nil=>
  intro k0 out hF hc hk hn
  obtain⟨q1,q2⟩:=pk_sign (c:=41) (l:=l) (by simp)
  rw [Chain]at hc
  simp only [List.map_nil,List.flatten_nil,List.nil_append]at hn ⊢
  rw [PB5 hn,q1,q2,if_neg (by decide),if_pos rfl,hc,upto_one (by omega),hF,List.append_nil]
 | cons k ks ih=>
  intro k0 out hF hc hk hn
  obtain⟨c1,c2,c3⟩:=hc
  have hk0:=hk k (by simp)
  have e:(((k::ks).map fun c=>TX F c.toNat).map ([44]++ ·)).flatten++41::l=44::(TX F k.toNat++(((ks.map fun c=>TX F c.toNat).map ([44]++ ·)).flatten++41::l)):=by simp
  rw [e]at hn ⊢
  have hn2:(TX F k.toNat++(((ks.map fun c=>TX F c.toNat).map ([44]++ ·)).flatten++41::l)).length≤1000:=by rw [List.length_cons]at hn;omega
  have hn3:(((ks.map fun c=>TX F c.toNat).map ([44]++ ·)).flatten++41::l).length≤1000:=by rw [List.length_append]at hn2;omega
  obtain⟨q1,q2⟩:=pk_sign (c:=44) (l:=TX F k.toNat++(((ks.map fun c=>TX F c.toNat).map ([44]++ ·)).flatten++41::l)) (by simp)
  have hsep:Sep (((ks.map fun c=>TX F c.toNat).map ([44]++ ·)).flatten++41::l)∧stopAt 1 (((ks.map fun c=>TX F c.toNat).map ([44]++ ·)).flatten++41::l):=by
   cases ks with
   | nil=>exact⟨sep_sign (by simp) l,Or.inl (by rw [show((([]:List Int).map fun c=>TX F c.toNat).map ([44]++ ·)).flatten++41::l=41::l from rfl,(pk_sign (c:=41) (by simp)).1];decide)⟩
   | cons k' ks'=>
    have e':(((k'::ks').map fun c=>TX F c.toNat).map ([44]++ ·)).flatten++41::l=44::(TX F k'.toNat++(((ks'.map fun c=>TX F c.toNat).map ([44]++ ·)).flatten++41::l)):=by simp
    rw [e']
    exact⟨sep_sign (by simp) _,Or.inl (by rw [(pk_sign (c:=44) (by simp)).1];decide)⟩
  have ek:((k.toNat:Nat):Int)=k:=by omega
  have hlen:out.length≤k.toNat+1:=by omega
  have ha:=arg_read R (i:=k.toNat) (by omega) (H k.toNat (by omega)) (out:=out) (by rw [ek];exact c1) hsep.1 hsep.2 hn2
  rw [PB5 hn,q1,q2,if_pos rfl,ha]
  show PB RF 5 fn 0 (k0++ [((k.toNat:Nat):Int)]) (sb _) (upto F out k.toNat)=_
  rw [PB_sb (sb_sb _),ek,ih (k0++ [k]) (upto F out k.toNat) (by rw [hF];simp) (by rw [upto_len hlen];rw [show((k.toNat+1:Nat):Int)=k+1 by omega];exact c3) (fun c hc=>hk c (by simp [hc])) hn3,upto_upto hlen (by omega)]
theorem rd_all {F:Nat→FN} {n:Nat} (R:Rt F n): ∀i,i<n→RdP F i:=by
 intro i
 induction i using Nat.strongRecOn with
 | ind i ih=>
  intro hi
  have hx:=R.node i hi
  have hch: ∀{a:Nat},tree (fG F) i=(a:Int)→Chain (tree (fG F)) (a:Int) (F i).kids i:=fun{a} h=>tree_chain (by omega) h (by omega)
  have leaf: ∀{a:Nat},(F i).kids= []→tree (fG F) i=(a:Int)→a=i:=fun{a} hg h=>by
   have:=hch h
   rw [hg]at this
   have h2:(a:Int)=i:=this
   omega
  rcases node_kinds hx with⟨hk,hc,hg⟩ | ⟨hk,hc,hg⟩ | ⟨hk,hc,hc',hg⟩ | ⟨hk,c,hg⟩ | ⟨hk,o1,o2,a,b,hg⟩ | ⟨hk,o1,o2,k1,k2⟩
  ·refine⟨fun _ _ l out ht hs hn=> ?_,fun e=>by omega⟩
   have hlen:=leaf hg ht
   rw [TX_leaf (by omega) (by omega) (by omega),leafT,if_pos hk]at hn ⊢
   rw [cst_read hc hn hs,←node_cst hx hk,upto_one hlen,hlen]
  ·refine⟨fun _ _ l out ht hs hn=> ?_,fun e=>by omega⟩
   have hlen:=leaf hg ht
   rw [TX_leaf (by omega) (by omega) (by omega),leafT,if_neg (by omega),if_pos hk]at hn ⊢
   rw [cel_read hc hn hs,←node_cel hx hk,upto_one hlen,hlen]
  ·exact⟨fun _ e=>absurd hk e,fun e=>by omega⟩
  ·refine⟨fun _ _ l out ht hs hn=> ?_,fun e=>by omega⟩
   have hcn:=hch ht
   rw [hg]at hcn
   obtain⟨c1,c2,c3⟩:=hcn
   have c3':c+1=(i:Int):=c3
   have ec:((c.toNat:Nat):Int)=c:=by omega
   have h3c:=R.ars i hi (by omega) c (by rw [hg];simp)
   rw [TX_neg R.rng hi hk hg]at hn ⊢
   have e: [45]++bdX F c.toNat 5++l=45::(bdX F c.toNat 5++l):=by simp
   rw [e]at hn ⊢
   have hn2:(bdX F c.toNat 5++l).length≤1000:=by rw [List.length_cons]at hn;omega
   have hb:=(ih c.toNat (by omega) (by omega)).bd h3c (lv:=5) (by omega) (by omega) (out:=out) (by rw [ec];exact c1) hs (stop5 l) hn2
   rw [PB15 hn2]at hb
   have hlen:out.length≤c.toNat+1:=by omega
   rw [one_neg hn (sb_at (by decide)),hb]
   show some (((upto F out c.toNat).length:Int),sb (sb l),upto F out c.toNat++ [RF.neg ((c.toNat:Nat):Int)])=_
   rw [upto_len hlen,sb_sb,ec,←node_neg hx hk hg,show((c.toNat+1:Nat):Int)=(i:Int) by omega]
   have h9:=upto_snoc (F:=F) hlen
   rw [show c.toNat+1=i by omega]at h9
   rw [h9]
  ·refine⟨fun e=>absurd hk e,fun _ l out ht hs hst hn=> ?_⟩
   have hcn:=hch ht
   rw [hg]at hcn
   obtain⟨c1,c2,d1,d2,d3⟩:=hcn
   have d3':b+1=(i:Int):=d3
   have ea:((a.toNat:Nat):Int)=a:=by omega
   have eb:((b.toNat:Nat):Int)=b:=by omega
   have h3a:=R.ars i hi (by omega) a (by rw [hg];simp)
   have h3b:=R.ars i hi (by omega) b (by rw [hg];simp)
   have hlv:=lvl_pos (F i).o
   rw [TX_bin R.rng hi hk hg]at hn ⊢
   have e:bdX F a.toNat (lvl (F i).o)++sgT (F i).o++bdX F b.toNat (lvl (F i).o+1)++l=bdX F a.toNat (lvl (F i).o)++(sgT (F i).o++(bdX F b.toNat (lvl (F i).o+1)++l)):=by simp
   rw [e]at hn ⊢
   have hn2:(sgT (F i).o++(bdX F b.toNat (lvl (F i).o+1)++l)).length≤1000:=by rw [List.length_append]at hn;omega
   have hn3:(bdX F b.toNat (lvl (F i).o+1)++l).length≤1000:=by rw [List.length_append]at hn2;omega
   obtain⟨d,t,ed,hbeg⟩:=bdX_head (z:=lvl (F i).o+1) (TX_head R b.toNat (by omega))
   obtain⟨q1,q2⟩:=pk_op (F i).o o1 o2 (r:=t++l) hbeg
   have ed2:bdX F b.toNat (lvl (F i).o+1)++l=d::(t++l):=by rw [ed];rfl
   rw [←ed2]at q1 q2
   have hop:opOf (pk (sgT (F i).o++(bdX F b.toNat (lvl (F i).o+1)++l)))=(F i).o:=by rw [q1];exact opOf_sg _ o1 o2
   have hlen:out.length≤a.toNat+1:=by omega
   have hlen2:(upto F out a.toNat).length=a.toNat+1:=upto_len hlen
   rw [(ih a.toNat (by omega) (by omega)).bdgo h3a hlv.1 hlv.2 (out:=out) (by rw [ea];exact c1) (sep_op _ o1 o2 _) (Or.inr (by rw [hop];omega)) hn]
   rw [PB2 hlv.1 hlv.2 hn2,hop,if_neg (by omega),q2]
   rw [(ih b.toNat (by omega) (by omega)).bd h3b (lv:=lvl (F i).o+1) (by omega) (by omega) (out:=upto F out a.toNat) (by rw [eb,hlen2,d1];omega) hs hst hn3]
   have hlen3:(upto F out a.toNat).length≤b.toNat+1:=by omega
   show PB RF 2 (lvl (F i).o) (((upto F (upto F out a.toNat) b.toNat).length:Nat):Int) [] (sb l) (upto F (upto F out a.toNat) b.toNat++ [RF.bin (F i).o ((a.toNat:Nat):Int) ((b.toNat:Nat):Int)])=_
   rw [upto_len hlen3,PB_sb (sb_sb l),ea,eb,←node_bin hx hk hg,upto_upto hlen (by omega),show((b.toNat+1:Nat):Int)=(i:Int) by omega]
   have h9:=upto_snoc (F:=F) (out:=out) (i:=b.toNat) (by omega)
   rw [show b.toNat+1=i by omega]at h9
   rw [h9]
  ·refine⟨fun _ _ l out ht hs hn=> ?_,fun e=>by omega⟩
   have hcn:=hch ht
   have hrg: ∀k∈(F i).kids,0≤k∧k<(i:Int):=R.rng i hi
   have hnode:=node_cal hx hk
   obtain⟨f1,f2,f3⟩:=fn_head _ o1 o2
   rw [TX_call R.rng hi hk]at hn ⊢
   cases hq:(F i).kids with
   | nil=>rw [hq]at k1;simp at k1
   | cons k ks=>
    rw [hq]at hcn hrg hn hnode
    obtain⟨c1,c2,c3⟩:=hcn
    have e:fnT (F i).o++ [40]++jn ((k::ks).map fun c=>TX F c.toNat)++ [41]++l=fnT (F i).o++40::(TX F k.toNat++(((ks.map fun c=>TX F c.toNat).map ([44]++ ·)).flatten++41::l)):=by simp [jn]
    rw [e]at hn ⊢
    have hn1:(40::(TX F k.toNat++(((ks.map fun c=>TX F c.toNat).map ([44]++ ·)).flatten++41::l))).length≤1000:=by rw [List.length_append]at hn;omega
    have hn2:(TX F k.toNat++(((ks.map fun c=>TX F c.toNat).map ([44]++ ·)).flatten++41::l)).length≤1000:=by rw [List.length_cons]at hn1;omega
    have hn3:(((ks.map fun c=>TX F c.toNat).map ([44]++ ·)).flatten++41::l).length≤1000:=by rw [List.length_append]at hn2;omega
    obtain⟨p1,p2⟩:=pk_wd (l:=40::(TX F k.toNat++(((ks.map fun c=>TX F c.toNat).map ([44]++ ·)).flatten++41::l))) f2 (fun b hb=>List.all_eq_true.1 f1 b hb) (fun b hb=>by rw [←Option.some.inj hb];decide)
    obtain⟨q1,q2⟩:=pk_sign (c:=40) (l:=TX F k.toNat++(((ks.map fun c=>TX F c.toNat).map ([44]++ ·)).flatten++41::l)) (by simp)
    have hk0:=hrg k (by simp)
    have ek:((k.toNat:Nat):Int)=k:=by omega
    have hsep:Sep (((ks.map fun c=>TX F c.toNat).map ([44]++ ·)).flatten++41::l)∧stopAt 1 (((ks.map fun c=>TX F c.toNat).map ([44]++ ·)).flatten++41::l):=by
     cases ks with
     | nil=>exact⟨sep_sign (by simp) l,Or.inl (by rw [show((([]:List Int).map fun c=>TX F c.toNat).map ([44]++ ·)).flatten++41::l=41::l from rfl,(pk_sign (c:=41) (by simp)).1];decide)⟩
     | cons k' ks'=>
      have e':(((k'::ks').map fun c=>TX F c.toNat).map ([44]++ ·)).flatten++41::l=44::(TX F k'.toNat++(((ks'.map fun c=>TX F c.toNat).map ([44]++ ·)).flatten++41::l)):=by simp
      rw [e']
      exact⟨sep_sign (by simp) _,Or.inl (by rw [(pk_sign (c:=44) (by simp)).1];decide)⟩
    have hlen:out.length≤k.toNat+1:=by omega
    have ha:=arg_read R (i:=k.toNat) (by omega) (ih k.toNat (by omega) (by omega)) (out:=out) (by rw [ek];exact c1) hsep.1 hsep.2 hn2
    have hw: ∀d t,fnT (F i).o=d::t→isW d=true:=fun d t e=>List.all_eq_true.1 f1 d (by rw [e];simp)
    have hp:pk (fnT (F i).o++40::(TX F k.toNat++(((ks.map fun c=>TX F c.toNat).map ([44]++ ·)).flatten++41::l)))≠ [40]∧pk (fnT (F i).o++40::(TX F k.toNat++(((ks.map fun c=>TX F c.toNat).map ([44]++ ·)).flatten++41::l)))≠ [45]∧(pk (fnT (F i).o++40::(TX F k.toNat++(((ks.map fun c=>TX F c.toNat).map ([44]++ ·)).flatten++41::l)))).head?≠some 34:=by
     rw [p1]
     cases hf:fnT (F i).o with
     | nil=>exact absurd hf f2
     | cons d t=>
      obtain⟨n1,n2,n3,n4⟩:=isW_ne (hw d t hf)
      exact⟨fun e=>n2 (List.cons.inj e).1,fun e=>n3 (List.cons.inj e).1,fun e=>n1 (Option.some.inj e)⟩
    rw [PB3 hn,if_neg hp.2.1,PB4_fn (by rw [p1];exact f2) hp.1 hp.2.2 (by rw [p1,f3];omega) hn,p1,p2,q1,q2,if_pos rfl,ha,f3]
    show PB RF 5 (F i).o 0 [((k.toNat:Nat):Int)] (sb _) (upto F out k.toNat)=_
    rw [PB_sb (sb_sb _),ek,args_read R hi (fun j hj=>ih j hj (by omega)) ks [k] (upto F out k.toNat) hnode (by rw [upto_len hlen];rw [show((k.toNat+1:Nat):Int)=k+1 by omega];exact c3) (fun c hc=>hrg c (by simp [hc])) hn3,upto_upto hlen (by omega)]
theorem text_back {F:Nat→FN} {n:Nat} (h:fOkB F n=true) (hn:(TX F (n-1)).length≤1000):PB RF 1 1 0 [] (TX F (n-1)) []=some (((n-1:Nat):Int),[],seg F 0 n):=by
 obtain⟨R,h3,ht⟩:=rt_of h
 obtain⟨h1,_⟩:=fOk_in h
 have hb:=lvl_pos (F (n-1)).o
 have h9:=(rd_all R (n-1) (by omega)).row h3 (lv:=1) (by omega) (by omega) (fun _=>by omega) (l:= []) (out:= []) ht sep_nil (Or.inl (by decide)) (by rw [List.append_nil];exact hn)
 rw [List.append_nil]at h9
 rw [h9]
 have e:upto F [] (n-1)=seg F 0 n:=by
  unfold upto
  simp only [List.nil_append,List.length_nil]
  rw [show n-1+1-0=n by omega]
 rw [e]
 rfl
def PL (l:List UInt8):Prop:= ∀b∈l,32≤b.toNat∧b.toNat≤126
theorem PL_iff (l:List UInt8):plainB l=true↔PL l:=by
 unfold plainB PL
 rw [List.all_eq_true]
 simp only [decide_eq_true_eq]
theorem PL_app {l r:List UInt8} (h:PL l) (h':PL r):PL (l++r):=fun b hb=>by
 rcases List.mem_append.1 hb with hb | hb
 ·exact h b hb
 ·exact h' b hb
theorem PL_W {l:List UInt8} (h: ∀b∈l,isW b=true):PL l:=fun b hb=>by
 have h1:=h b hb
 unfold isW at h1
 simp only [Bool.or_eq_true,decide_eq_true_eq,beq_iff_eq]at h1
 rcases h1 with(h1 | h1) | h1
 ·omega
 ·omega
 ·subst h1;decide
theorem PL_qt {l:List UInt8} (h:PL l):PL (qt l):=by
 induction l with
 | nil=>exact fun b hb=>by cases hb
 | cons a t ih=>
  have h1:=h a (by simp)
  have h2:=ih (fun b hb=>h b (by simp [hb]))
  rw [qt_cons]
  split
  ·intro b hb
   simp only [List.cons_append,List.nil_append,List.mem_cons]at hb
   rcases hb with hb | hb | hb
   ·subst hb;decide
   ·subst hb;decide
   ·exact h2 b hb
  ·intro b hb
   simp only [List.cons_append,List.nil_append,List.mem_cons]at hb
   rcases hb with hb | hb
   ·subst hb;exact h1
   ·exact h2 b hb
theorem PL_dec (l:List UInt8) (h:(l.all fun b=>decide (32≤b.toNat∧b.toNat≤126))=true):PL l:=(PL_iff l).1 h
theorem PL_sg (o:Int) (h1:1≤o) (h2:o≤11):PL (sgT o):=by
 have hn:o=1∨o=2∨o=3∨o=4∨o=5∨o=6∨o=7∨o=8∨o=9∨o=10∨o=11:=by omega
 rcases hn with rfl | rfl | rfl | rfl | rfl | rfl | rfl | rfl | rfl | rfl | rfl
 all_goals exact PL_dec _ (by decide)
theorem it_list {n:Int} (h:0≤n):(itB n).data.toList=Lib.decDigits n.toNat:=by
 have:=Lib.itoa_nonneg n.toNat
 rw [show((n.toNat:Nat):Int)=n by omega]at this
 rw [←this]
 rfl
theorem PL_it {n:Int}:PL (itB n).data.toList:=by
 rcases Int.le_total 0 n with h | h
 ·rw [it_list h]
  exact PL_W fun b hb=>(dig_W (dig_all _ b hb)).1
 ·by_cases h0:n=0
  ·subst h0
   exact PL_dec _ (by decide+kernel)
  ·have e:(itB n).data.toList=45::Lib.decDigits (-n).toNat:=by
    have:=Lib.itoa_neg (-n).toNat (by omega)
    rw [show-(((-n).toNat:Nat):Int)=n by omega]at this
    rw [←this]
    rfl
   rw [e]
   intro b hb
   rcases List.mem_cons.1 hb with hb | hb
   ·subst hb;decide
   ·exact PL_W (fun b hb=>(dig_W (dig_all _ b hb)).1) b hb
theorem PL_cst {k n:Int} {s:ByteArray} (hc:cOk k n s=true):PL (cstT k n s):=by
 obtain⟨h,h0,hn⟩:=cOk_parts hc
 unfold cstT
 rcases okV_kinds h with⟨rfl,rfl,rfl⟩ | ⟨rfl,hr,rfl⟩ | ⟨rfl,rfl,hr⟩ | ⟨rfl,hr,rfl⟩ | ⟨rfl,h1,h5,rfl⟩
 ·exact absurd rfl h0
 ·have e2:txV 1 n ⟨#[]⟩=itB n:=by rw [txV,h,if_pos rfl,txB,if_pos rfl]
  rw [if_neg (by omega),e2]
  exact PL_it
 ·rw [if_pos rfl]
  refine PL_app (PL_app (PL_dec _ (by decide)) (PL_qt ?_)) (PL_dec _ (by decide))
  unfold rWord at hr
  exact(PL_iff _).1 (Bool.and_eq_true_iff.1 hr).2
 ·have e2:txV 3 n ⟨#[]⟩=trT n:=by rw [txV,h,if_pos rfl,txB,if_neg (by omega),if_neg (by omega),if_pos rfl]
  rw [if_neg (by omega),e2]
  have hn:n=0∨n=1:=by revert hr;simp [rTruth]
  rcases hn with rfl | rfl
  all_goals exact PL_dec _ (by decide)
 ·have e2:txV 4 n ⟨#[]⟩=erT n:=by rw [txV,h,if_pos rfl,txB,if_neg (by omega),if_neg (by omega),if_neg (by omega),if_pos rfl]
  rw [if_neg (by omega),e2]
  have hk:n=1∨n=2∨n=3∨n=4∨n=5:=by omega
  rcases hk with rfl | rfl | rfl | rfl | rfl
  all_goals exact PL_dec _ (by decide)
theorem PL_bd {F:Nat→FN} {j:Nat} {z:Int} (h:PL (TX F j)):PL (bdX F j z):=by
 unfold bdX
 split
 ·exact PL_app (PL_app (PL_dec _ (by decide)) h) (PL_dec _ (by decide))
 ·exact h
theorem PL_TX {F:Nat→FN} {n:Nat} (R:Rt F n): ∀i,i<n→PL (TX F i):=by
 intro i
 induction i using Nat.strongRecOn with
 | ind i ih=>
  intro hi
  have kid: ∀c∈(F i).kids,PL (TX F c.toNat):=fun c hc=>by
   have hr:=R.rng i hi c hc
   exact ih c.toNat (by omega) (by omega)
  rcases node_kinds (R.node i hi)with⟨hk,hc,hg⟩ | ⟨hk,hc,hg⟩ | ⟨hk,hc,hc',hg⟩ | ⟨hk,c,hg⟩ | ⟨hk,o1,o2,a,b,hg⟩ | ⟨hk,o1,o2,k1,k2⟩
  ·rw [TX_leaf (by omega) (by omega) (by omega),leafT,if_pos hk]
   exact PL_cst hc
  ·rw [TX_leaf (by omega) (by omega) (by omega),leafT,if_neg (by omega),if_pos hk]
   exact PL_W (plT_W hc).1
  ·rw [TX_leaf (by omega) (by omega) (by omega),leafT,if_neg (by omega),if_neg (by omega)]
   exact PL_app (PL_app (PL_W (plT_W hc).1) (PL_dec _ (by decide))) (PL_W (plT_W hc').1)
  ·rw [TX_neg R.rng hi hk hg]
   exact PL_app (PL_dec _ (by decide)) (PL_bd (kid c (by rw [hg];simp)))
  ·rw [TX_bin R.rng hi hk hg]
   exact PL_app (PL_app (PL_bd (kid a (by rw [hg];simp))) (PL_sg _ o1 o2)) (PL_bd (kid b (by rw [hg];simp)))
  ·rw [TX_call R.rng hi hk]
   obtain⟨f1,f2,_⟩:=fn_head _ o1 o2
   refine PL_app (PL_app (PL_app (PL_W fun b hb=>List.all_eq_true.1 f1 b hb) (PL_dec _ (by decide))) ?_) (PL_dec _ (by decide))
   cases hq:(F i).kids with
   | nil=>exact fun b hb=>by cases hb
   | cons k ks=>
    rw [hq]at kid
    rw [List.map_cons,jn]
    refine PL_app (kid k (by simp)) ?_
    intro b hb
    rw [List.mem_flatten]at hb
    obtain⟨w,hw,hb⟩:=hb
    rw [List.mem_map]at hw
    obtain⟨t,ht,rfl⟩:=hw
    rw [List.mem_map]at ht
    obtain⟨c,hc,rfl⟩:=ht
    exact PL_app (PL_dec [44] (by decide)) (kid c (by simp [hc])) b hb
theorem seg_get (F:Nat→FN) (a:Nat): ∀(m j:Nat),j<m→(seg F a m)[j]? =some (F (a+j))
 | 0,j,h=>by omega
 | m+1,j,h=>by
  rw [seg]
  by_cases hj:j<m
  ·rw [List.getElem?_append_left (by rw [seg_len];exact hj)]
   exact seg_get F a m j hj
  ·obtain rfl:j=m:=by omega
   rw [List.getElem?_append_right (by rw [seg_len];omega),seg_len,Nat.sub_self]
   rfl
theorem seg_ouF (out:List FN):seg (ouF out) 0 out.length=out:=by
 apply List.ext_getElem?
 intro j
 by_cases hj:j<out.length
 ·rw [seg_get _ _ _ _ hj,Nat.zero_add,List.getElem?_eq_getElem hj]
  unfold ouF
  rw [List.getD_eq_getElem?_getD,List.getElem?_eq_getElem hj]
  rfl
 ·rw [List.getElem?_eq_none (by rw [seg_len];omega),List.getElem?_eq_none (by omega)]
theorem good_of {out:List FN} (h:fOkB (ouF out) out.length=true):good out=true:=by
 obtain⟨h1,h60,hn,_⟩:=fOk_in h
 unfold good
 rw [Bool.and_eq_true]
 refine⟨decide_eq_true h60,List.all_eq_true.2 fun x hx=> ?_⟩
 obtain⟨i,hi,rfl⟩:=List.getElem_of_mem hx
 have h9:=hn i hi
 unfold ouF at h9
 rw [List.getD_eq_getElem?_getD,List.getElem?_eq_getElem hi]at h9
 exact h9
theorem rdF_TX {out:List FN} (h:fOkB (ouF out) out.length=true) (hz:(TX (ouF out) (out.length-1)).length≤200):rWord (bs (TX (ouF out) (out.length-1)))=true∧rdF (bs (TX (ouF out) (out.length-1)))=some out:=by
 obtain⟨h1,_⟩:=fOk_in h
 have hw:rWord (bs (TX (ouF out) (out.length-1)))=true:=by
  unfold rWord
  rw [Bool.and_eq_true]
  exact⟨decide_eq_true (by rw [bs_size];exact hz),(PL_iff _).2 (by rw [bs_list];exact PL_TX (rt_of h).1 _ (by omega))⟩
 refine⟨hw,?_⟩
 unfold rdF
 rw [hw,if_pos rfl,bs_list,text_back h (by omega),seg_ouF]
 exact rdE_some rfl (good_of h) h
theorem ftx_back {out:List FN} (h:(ftx (ouF out) out.length).size≠0):fOkB (ouF out) out.length=true∧rWord (ftx (ouF out) out.length)=true∧rdF (ftx (ouF out) out.length)=some out:=by
 unfold ftx at*
 by_cases hc:fOkB (ouF out) out.length=true∧(TX (ouF out) (out.length-1)).length≤200
 ·rw [if_pos hc]
  exact⟨hc.1,rdF_TX hc.1 hc.2⟩
 ·rw [if_neg hc]at h
  exact absurd rfl h
theorem eq_head {t:ByteArray}:eqH ((⟨#[61]⟩:ByteArray)++t)=true∧((⟨#[61]⟩:ByteArray)++t).extract 1 ((⟨#[61]⟩:ByteArray)++t).size=t:=by
 have e:((⟨#[61]⟩:ByteArray)++t).data.toList=61::t.data.toList:=by simp
 have e2:(⟨#[61]⟩:ByteArray)++t=bs (61::t.data.toList):=by rw [←e];rfl
 refine⟨?_,?_⟩
 ·rw [e2];rfl
 ·rw [e2]
  apply ByteArray.ext
  apply Array.ext'
  rw [ext_tail]
  rfl
theorem rw_cons {b:UInt8} {t:ByteArray} (hb:32≤b.toNat∧b.toNat≤126) (h:rWord t=true) (hz:((⟨#[b]⟩:ByteArray)++t).size≤200):rWord ((⟨#[b]⟩:ByteArray)++t)=true:=by
 unfold rWord at*
 rw [Bool.and_eq_true]at*
 refine⟨decide_eq_true hz,?_⟩
 have e:((⟨#[b]⟩:ByteArray)++t).data.toList=b::t.data.toList:=by simp
 rw [e,PL_iff]
 intro c hc
 rcases List.mem_cons.1 hc with hc | hc
 ·subst hc;exact hb
 ·exact(PL_iff _).1 h.2 c hc
theorem it_eqH (n:Int):eqH (itB n)=false∧(itB n).data.toList.head?≠some 43:=by
 obtain⟨h0,h1⟩:=it_first n
 have e:(itB n).data.toList.head? =some (itB n)[0]:=by
  rw [List.head?_eq_getElem?,List.getElem?_eq_getElem (by simpa using h0)]
  rfl
 refine⟨?_,?_⟩
 ·unfold eqH
  rw [dif_pos h0]
  rw [beq_eq_false_iff_ne]
  intro e'
  rw [e']at h1
  revert h1
  decide
 ·rw [e]
  intro e'
  have e2:=Option.some.inj e'
  rw [e2]at h1
  revert h1
  decide
theorem n5_it {n:Int} (h:rNum n=true):n5 (itB n).data.toList=some n:=by
 obtain⟨_,hp⟩:=rdec_itoa (rdec_it h)
 have h43:=(it_eqH n).2
 rw [←num_eq]
 unfold nT
 rw [hp,decide_eq_false h43,nTo_yes h]
theorem tx1 {n:Int} (h:rNum n=true):txV 1 n ⟨#[]⟩=itB n∧okV 1 n ⟨#[]⟩=true:=by
 have ho:okV 1 n ⟨#[]⟩=true:=by simp [okV,emp_nil,h]
 exact⟨by rw [txV,ho,if_pos rfl,txB,if_pos rfl],ho⟩
def SrcOk (t:ByteArray):Prop:=inF t=some t∧((eqH t=true∧ ∃out,rdF (t.extract 1 t.size)=some out∧(⟨#[61]⟩:ByteArray)++ftx (ouF out) out.length=t)∨(eqH t=false∧gOk (guess t)=true))
theorem in_again {s t:ByteArray} (h:inF s=some t):SrcOk t∧(t.size=0↔s.size=0):=by
 unfold inF at h
 by_cases hw:rWord s=true
 ·rw [if_pos hw]at h
  obtain⟨hs,hz⟩:srT s=some t∧t.size≤200:=by
   unfold lim at h
   split at h
   ·rename_i t' ht
    split at h
    ·rename_i hz
     cases h
     exact⟨ht,hz⟩
    ·cases h
   ·cases h
  have fin: ∀{t:ByteArray},rWord t=true→srT t=some t→t.size≤200→inF t=some t:=fun{t} h1 h2 h3=>by
   unfold inF
   rw [if_pos h1,h2]
   unfold lim
   exact if_pos h3
  unfold srT at hs
  by_cases he:eqH s=true
  ·rw [if_pos he]at hs
   unfold fsT at hs
   split at hs
   ·rename_i out ho
    split at hs
    ·cases hs
    ·rename_i hn
     cases hs
     obtain⟨f1,f2,f3⟩:=ftx_back hn
     obtain⟨g1,g2⟩:=eq_head (t:=ftx (ouF out) out.length)
     refine⟨⟨fin (rw_cons (by decide) f2 hz) ?_ hz,Or.inl ⟨g1,out,by rw [g2];exact f3,rfl⟩⟩,?_⟩
     ·unfold srT
      rw [if_pos g1,g2,f3]
      unfold fsT
      simp only
      rw [if_neg hn]
     ·have h1:((⟨#[61]⟩:ByteArray)++ftx (ouF out) out.length).size≠0:=by
       rw [ByteArray.size_append]
       show 1+_≠0
       omega
      have h2:s.size≠0:=fun e=>by
       unfold eqH at he
       rw [dif_neg (by omega)]at he
       cases he
      exact⟨fun e=>absurd e h1,fun e=>absurd e h2⟩
   ·cases hs
  ·rw [if_neg he]at hs
   have he':eqH s=false:=by simpa using he
   cases hq:n5 s.data.toList with
   | some n=>
    simp only [hq]at hs
    have hr:rNum n=true:=(rNum_iff n).2 (n5_b hq)
    obtain⟨e1,ho⟩:=tx1 hr
    rw [e1]at hs
    cases hs
    have hg:guess (itB n)=(1,n,⟨#[]⟩):=guess_num hr
    refine⟨⟨fin ?_ ?_ hz,Or.inr ⟨(it_eqH n).1,by rw [hg];simp [gOk,hr]⟩⟩,?_⟩
    ·unfold rWord
     rw [Bool.and_eq_true]
     exact⟨decide_eq_true hz,(PL_iff _).2 PL_it⟩
    ·unfold srT
     rw [if_neg (by rw [(it_eqH n).1];simp),n5_it hr]
     simp only
     rw [e1]
    ·obtain⟨h0,_⟩:=it_first n
     have h2:s.size≠0:=fun e=>by
      have:s=⟨#[]⟩:=toList_nil_of e
      rw [this]at hq
      cases hq
     exact⟨fun e=>by omega,fun e=>absurd e h2⟩
   | none=>
    simp only [hq]at hs
    by_cases hg:gOk (guess s)=true
    ·rw [if_pos hg]at hs
     cases hs
     refine⟨⟨?_,Or.inr ⟨he',hg⟩⟩,Iff.rfl⟩
     exact fin hw (by unfold srT;rw [if_neg he,hq];simp only;rw [if_pos hg]) hz
    ·rw [if_neg hg]at hs
     cases hs
     have hgt:guess ((⟨#[39]⟩:ByteArray)++s)=(2,0,s):=guess_word s
     have hgo:gOk (guess ((⟨#[39]⟩:ByteArray)++s))=true:=by rw [hgt];simp [gOk,hw]
     have e39:((⟨#[39]⟩:ByteArray)++s).data.toList=39::s.data.toList:=cat39_list s
     have heq:eqH ((⟨#[39]⟩:ByteArray)++s)=false:=by
      have e2:(⟨#[39]⟩:ByteArray)++s=bs (39::s.data.toList):=by rw [←e39];rfl
      rw [e2]
      rfl
     have hn5:n5 ((⟨#[39]⟩:ByteArray)++s).data.toList=none:=by
      rw [e39]
      unfold n5
      rw [if_neg (by simp),if_neg (by simp)]
      have hu:u15 (39::s.data.toList)=none:=by
       cases hq:u15 (39::s.data.toList)with
       | none=>rfl
       | some m=>
        have h9:=((u15_digs (l:=39::s.data.toList) (by simp)).1 hq).1
        rw [digs,if_neg (by decide)]at h9
        cases h9
      rw [hu]
      rfl
     refine⟨⟨fin (rw_cons (by decide) hw hz) ?_ hz,Or.inr ⟨heq,hgo⟩⟩,?_⟩
     ·unfold srT
      rw [if_neg (by rw [heq];simp),hn5]
      simp only
      rw [if_pos hgo]
     ·have h1:=cat39_size s
      refine⟨fun e=>by omega,fun e=> ?_⟩
      exfalso
      apply hg
      rw [toList_nil_of e]
      rfl
 ·rw [if_neg hw]at h
  cases h
end Go.Proofs.YthpmmfmanaefgaaGreatDoor
