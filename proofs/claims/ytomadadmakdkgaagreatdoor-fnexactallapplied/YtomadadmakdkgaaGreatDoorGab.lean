import Derived.Test.YtomadadmakdkgaaGreatDoorBase
import Derived.Lib.Replace
import Derived.Lib.Join
import Derived.Lib.CountLaws
import Derived.Lib.IndexMore
open Bool renaming false_eq_true → f, or_eq_true → g
set_option linter.unusedSimpArgs false
set_option linter.unusedVariables false
namespace Go.Proofs.YtomadadmakdkgaaGreatDoor
open Go.RowKit
variable {b c:UInt8} {K O:Nat->Int} {LT:Nat->List UInt8} {G:Nat->List Int} {m i n:Nat} {l r t:List UInt8} {N:Type}
def qt(l:List UInt8):List UInt8:=l.flatMap fun b=>if b=34 then [34,34]else [b]
theorem Xk(b:UInt8)(l:List UInt8):qt (b::l)=(if b=34 then [34,34]else [b])++qt l:=by simp[qt]
theorem Qt6(l r:List UInt8):qt (l++r)=qt l++qt r:=by simp[qt,List.flatMap_append]
theorem Qnk(l:List UInt8):(qt l).length<=2*l.length:=by
 induction l with
 | nil=>simp[qt]
 | cons b l ih=>
  rw[Xk,List.length_append];split<;>simp<;>omega
theorem Ql1(l:List UInt8):Lib.index (34::l) [34]=((0:Nat):Int):=by
 unfold Lib.index;rw[pS (by simp[List.isPrefixOf])];rfl
theorem Ql0(h:b≠34)(l:List UInt8)(i:Nat)(hi:Lib.index l [34]=(i:Int)):Lib.index (b::l) [34]=((i+1:Nat):Int):=by
 unfold Lib.index
 have e:([34].isPrefixOf (b::l))=false:=by
  have e1:((34:UInt8)==b)=false:=beq_eq_false_iff_ne.2 (fun e=>h e.symm);simp[List.isPrefixOf,e1]
 rw[e];simp only[f,if_false]
 have e2:(Lib.index l [34]== -1)=false:=by
  rw[hi];exact beq_eq_false_iff_ne.2 (by omega)
 rw[e2,hi];simp only[f,if_false];omega
theorem Qt0(l:List UInt8):Lib.replaceK [34] [34,34] (l.count 34) l=qt l:=by
 induction l with
 | nil=>rfl
 | cons b t ih=>
  by_cases hb:b=34
  ·subst hb;rw[List.count_cons_self,Lib.replaceK_hit [34] [34,34] _ _ 0 (Ql1 t),Xk,pS rfl];simp[ih]
  ·rw[List.count_cons_of_ne (by simpa using hb),Xk,nG hb];cases hc:t.count 34 with
   | zero=>
    rw[hc]at ih;have e:t=qt t:=ih;rw[<-e];rfl
   | succ k=>
    obtain⟨i,hi⟩:=Lib.index_of_count (s:=t) (old:= [34]) (by rw[Lib.count_one];omega);rw[Lib.replaceK_hit [34] [34,34] k _ (i+1) (Ql0 hb t i hi),<-ih,hc,Lib.replaceK_hit [34] [34,34] k t i hi];simp
theorem Qp9(l:List UInt8):Lib.replaceAll l [34] [34,34]=qt l:=by
 unfold Lib.replaceAll Lib.replace;rw[nG (by decide)]
 have e:Lib.replaceNum l [34] (-1)=l.count 34:=by
  unfold Lib.replaceNum;rw[pS (by omega),Lib.count_one]
 rw[e,Qt0]
theorem Qvd(l:List UInt8):Lib.count l [34]<=l.length:=by rw[Lib.count_one];exact List.count_le_length
def jn(xs:List (List UInt8)):List UInt8:=match xs with
 | []=> []
 | x::r=>x++(r.map ([44]++ ·)).flatten
theorem Qrf(xs:List (List UInt8)):Lib.join xs [44]=jn xs:=by
 cases xs with
 | nil=>rfl
 | cons x r=>rw[Lib.join_cons];rfl
theorem Qre(xs:List (List UInt8))(y:List UInt8)(h:xs≠ []):jn (xs++ [y])=jn xs++ [44]++y:=by
 cases xs with
 | nil=>exact absurd rfl h
 | cons x r=>simp[jn]
theorem Qul(xs:List (List UInt8))(B:Nat)(h: ∀x∈xs,x.length<=B):(jn xs).length<=xs.length*(B+1):=by
 cases xs with
 | nil=>simp[jn]
 | cons x r=>
  have h1:=h x (by simp)
  have h2: ∀r:List (List UInt8),(∀y∈r,y.length<=B)->((r.map ([44]++ ·)).flatten).length<=r.length*(B+1):=by
   intro r;induction r with
   | nil=>intro _;simp
   | cons y r ih=>
    intro hr;have h3:=ih (fun z hz=>hr z (by simp[hz]));have h4:=hr y (by simp);simp only[List.map_cons,List.flatten_cons,List.length_append,List.length_cons,List.length_nil];rw[Nat.add_mul];omega
  have h3:=h2 r (fun y hy=>h y (by simp[hy]));show(x++_).length<=_;rw[List.length_append,List.length_cons,Nat.add_mul];omega
def lvl(o:Int):Int:=if 6<=o then 1 else if o=5 then 2 else if 3<=o then 4 else 3
def sgT(o:Int):List UInt8:=
 if o=1 then [43]else if o=2 then [45]else if o=3 then [42]else if o=4 then [47]else if o=5 then [38]else if o=6 then [61]else if o=7 then [60,62]else if o=8 then [60]
 else if o=9 then [60,61]else if o=10 then [62]else if o=11 then [62,61]else []
def fnT(o:Int):List UInt8:=
 if o=1 then [83,85,77]else if o=2 then [77,73,78]else if o=3 then [77,65,88]else if o=4 then [67,79,85,78,84]else if o=5 then [73,70]else if o=6 then [65,78,68]
 else if o=7 then [79,82]else if o=8 then [78,79,84]else if o=9 then [65,66,83]else if o=10 then [76,69,78]else []
theorem Hm(o:Int):(sgT o).length<=2:=by
 unfold sgT;repeat' split
 all_goals decide
theorem Qam(o:Int):(fnT o).length<=5:=by
 unfold fnT;repeat' split
 all_goals decide
theorem Jf(o:Int):1<=lvl o/\lvl o<=4:=by
 unfold lvl;repeat' split
 all_goals omega
def bdT(K O:Nat->Int)(T:Nat->List UInt8)(j:Nat)(least:Int):List UInt8:=if K j=5/\lvl (O j)<least then [40]++T j++ [41]else T j
def ndT(K O:Nat->Int)(LT:Nat->List UInt8)(G:Nat->List Int):Nat->Nat->List UInt8
 | 0,_=> []
 | m+1,i=>if K i=4 then(match G i with
   | [c]=> [45]++bdT K O (ndT K O LT G m) c.toNat 5
   | _=> [])else if K i=5 then(match G i with
   | [a,b]=>bdT K O (ndT K O LT G m) a.toNat (lvl (O i))++sgT (O i)++bdT K O (ndT K O LT G m) b.toNat (lvl (O i)+1)
   | _=> [])else if K i=6 then fnT (O i)++ [40]++jn ((G i).map fun c=>ndT K O LT G m c.toNat)++ [41]else LT i
theorem Qnr{c:Int}(hk:K i=4)(hg:G i= [c]):ndT K O LT G (m+1) i= [45]++bdT K O (ndT K O LT G m) c.toNat 5:=by
 rw[ndT,pS hk,hg]
theorem Qns{a b:Int}(hk:K i=5)(hg:G i= [a,b]):
  ndT K O LT G (m+1) i=bdT K O (ndT K O LT G m) a.toNat (lvl (O i))++sgT (O i)++bdT K O (ndT K O LT G m) b.toNat (lvl (O i)+1):=by
 rw[ndT,nG (by omega),pS hk,hg]
theorem Qgv(hk:K i=6):ndT K O LT G (m+1) i=fnT (O i)++ [40]++jn ((G i).map fun c=>ndT K O LT G m c.toNat)++ [41]:=by
 rw[ndT,nG (by omega),nG (by omega),pS hk]
theorem Qgu(h4:K i≠4)(h5:K i≠5)(h6:K i≠6):ndT K O LT G (m+1) i=LT i:=by
 rw[ndT,nG h4,nG h5,nG h6]
structure TrOk (K:Nat->Int) (LT:Nat->List UInt8) (G:Nat->List Int) (n:Nat) (e:Nat->Nat):Prop where
 neg: ∀i,i<n->K i=4-> ∃c,G i= [c]
 bin: ∀i,i<n->K i=5-> ∃a b,G i= [a,b]
 call: ∀i,i<n->K i=6->(G i).length<=10
 kid: ∀i,i<n-> ∀c∈G i,0<=c/\c<(i:Int)/\e c.toNat+1<=e i
 leaf: ∀i,i<n->(LT i).length<=410
theorem Qfp{T:Nat->List UInt8}{j B:Nat}{least:Int}(h:(T j).length<=B):(bdT K O T j least).length<=B+2:=by
 unfold bdT;split
 ·simp;omega
 ·omega
theorem Qa7{a b:Nat}(h:a+1<=b):11*(410*11^a)<=410*11^b:=by
 have h1:11^(a+1)<=11^b:=Nat.pow_le_pow_right (by omega) h;rw[Nat.pow_succ]at h1;omega
theorem pow_one(a:Nat):410<=410*11^a:=by
 have:1<=11^a:=Nat.one_le_pow _ _ (by omega);omega
theorem Qug{e:Nat->Nat}(h:TrOk K LT G n e): ∀m i,i<n->(ndT K O LT G m i).length<=410*11^e i:=by
 intro m;induction m with
 | zero=>intro i _;exact Nat.zero_le _
 | succ m ih=>
  intro i hi;by_cases h4:K i=4
  ·obtain⟨c,hc⟩:=h.neg i hi h4;obtain⟨c0,c1,ce⟩:=h.kid i hi c (by rw[hc];simp);rw[Qnr h4 hc,List.length_append];have h1:=Qfp (K:=K) (O:=O) (least:=5) (ih c.toNat (by omega));have h2:=Qa7 ce;have h3:=pow_one (e c.toNat);simp only[List.length_cons,List.length_nil]
   omega
  by_cases h5:K i=5
  ·obtain⟨a,b,hc⟩:=h.bin i hi h5;obtain⟨a0,a1,ae⟩:=h.kid i hi a (by rw[hc];simp);obtain⟨b0,b1,be⟩:=h.kid i hi b (by rw[hc];simp);rw[Qns h5 hc,List.length_append,List.length_append];have h1:=Qfp (K:=K) (O:=O) (least:=lvl (O i)) (ih a.toNat (by omega));have h2:=Qfp (K:=K) (O:=O) (least:=lvl (O i)+1) (ih b.toNat (by omega));have h3:=Qa7 ae
   have h3':=Qa7 be;have h4:=pow_one (e a.toNat);have h4':=pow_one (e b.toNat);have h6:=Hm (O i);omega
  by_cases h6:K i=6
  ·rw[Qgv h6];have hl:=h.call i hi h6;have hf:=Qam (O i);by_cases hz:G i= []
   ·rw[hz];have:=pow_one (e i);simp[jn];omega
   ·obtain⟨B,h7,hB2⟩: ∃B,(∀c∈G i,(ndT K O LT G m c.toNat).length<=B)/\11*B<=410*11^e i/\410<=B:=by
     obtain⟨c,h0⟩:=List.exists_mem_of_ne_nil _ hz;obtain⟨_,_,ce⟩:=h.kid i hi c h0;refine⟨410*11^(e i-1),fun x hx=> ?_,?_,pow_one _⟩
     ·obtain⟨x0,x1,xe⟩:=h.kid i hi x hx;refine Nat.le_trans (ih x.toNat (by omega)) (Nat.mul_le_mul_left _ (Nat.pow_le_pow_right (by omega) (by omega)))
     ·exact Qa7 (by omega)
    have hj:=Qul ((G i).map fun c=>ndT K O LT G m c.toNat) B (fun x hx=>by
     obtain⟨c,hc,rfl⟩:=List.mem_map.1 hx
     exact h7 c hc)
    rw[List.length_map]at hj;have hm:(G i).length*(B+1)<=10*(B+1):=Nat.mul_le_mul_right _ hl;simp only[List.length_append,List.length_cons,List.length_nil];omega
  ·rw[Qgu h4 h5 h6];exact Nat.le_trans (h.leaf i hi) (pow_one _)
theorem Qlp{e:Nat->Nat}(h:TrOk K LT G n e)(m i:Nat)(hi:i<n)(he:e i<=11):(ndT K O LT G m i).length<=116977784950510:=by
 have h1:=Qug (O:=O) h m i hi;have h2:11^e i<=11^11:=Nat.pow_le_pow_right (by omega) he;have h3:(11:Nat)^11=285311670611:=rfl;omega
def ZE:List UInt8->Option (List UInt8 × List UInt8)
 | []=>none
 | [b]=>if b=34 then some ([],[])else none
 | b::c::t=>if b=34 then(if c=34 then(ZE t).map fun x=>(34::x.1,x.2)else some ([],c::t))else(ZE (c::t)).map fun x=>(b::x.1,x.2)
theorem Gx: ∀(l s r:List UInt8),ZE l=some (s,r)->l=qt s++ [34]++r/\r.head?≠some 34
 | [],s,r,h=>by cases h
 | [b],s,r,h=>by
  unfold ZE at h;split at h
  ·rename_i hb
   cases h
   subst hb;exact⟨rfl,by simp⟩
  ·cases h
 | b::c::t,s,r,h=>by
  unfold ZE at h;split at h
  ·rename_i hb
   subst hb;split at h
   ·rename_i hc
    subst hc;cases hq:ZE t with
    | none=>rw[hq]at h;cases h
    | some x=>
     rw[hq]at h;cases h
     obtain⟨e1,e2⟩:=Gx t x.1 x.2 hq;refine⟨?_,e2⟩;rw[Xk,pS rfl];simp only[List.cons_append,List.nil_append,List.append_assoc]at e1 ⊢;rw[<-e1]
   ·rename_i hc
    cases h
    exact⟨rfl,by simpa using hc⟩
  ·rename_i hb
   cases hq:ZE (c::t)with
   | none=>rw[hq]at h;cases h
   | some x=>
    rw[hq]at h;cases h
    obtain⟨e1,e2⟩:=Gx (c::t) x.1 x.2 hq;refine⟨?_,e2⟩;rw[Xk,nG hb];simp only[List.cons_append,List.nil_append,List.append_assoc]at e1 ⊢;rw[<-e1]
theorem NG: ∀(s r:List UInt8),r.head?≠some 34->ZE (qt s++ [34]++r)=some (s,r)
 | [],r,h=>by
  show ZE (34::r)=_;cases r with
  | nil=>rfl
  | cons c t=>
   have hc:c≠34:=by simpa using h
   unfold ZE;rw[pS rfl,nG hc]
 | b::s,r,h=>by
  have ih:=NG s r h;rw[Xk];by_cases hb:b=34
  ·subst hb;rw[pS rfl];show ZE (34::34::(qt s++ [34]++r))=_;unfold ZE;rw[pS rfl,pS rfl,ih];rfl
  ·rw[nG hb];show ZE (b::(qt s++ [34]++r))=_;cases hq:qt s++ [34]++r with
   | nil=>simp at hq
   | cons c t=>
    rw[hq]at ih;unfold ZE;rw[nG hb,ih];rfl
theorem Qql(b c:UInt8)(l:List UInt8):([34,34].isPrefixOf (b::c::l))=(decide (b=34)&&decide (c=34)):=by
 by_cases hb:b=34
 ·by_cases hc:c=34
  ·subst hb hc;simp[List.isPrefixOf]
  ·have e:((34:UInt8)==c)=false:=beq_eq_false_iff_ne.2 (fun e=>hc e.symm);simp[List.isPrefixOf,hb,hc,e]
 ·have e:((34:UInt8)==b)=false:=beq_eq_false_iff_ne.2 (fun e=>hb e.symm);simp[List.isPrefixOf,hb,e]
theorem Qt9(hb:b≠34)(l:List UInt8):([34,34].isPrefixOf (b::l))=false:=by
 have e:((34:UInt8)==b)=false:=beq_eq_false_iff_ne.2 (fun e=>hb e.symm);simp[List.isPrefixOf,e]
theorem Qrj(s:List UInt8):Lib.index (qt (34::s)) [34,34]=((0:Nat):Int):=by
 rw[Xk,pS rfl];show Lib.index (34::34::qt s) [34,34]=_;unfold Lib.index;rw[Qql];rfl
theorem Qn5(hb:b≠34)(l:List UInt8):Lib.index (b::l) [34,34]=if Lib.index l [34,34]== -1 then-1 else Lib.index l [34,34]+1:=by
 rw[Lib.index,Qt9 hb];rfl
theorem Qnc: ∀(s:List UInt8),Lib.replaceK [34,34] [34] (Lib.count (qt s) [34,34]) (qt s)=s
 | []=>by
  have e:Lib.count (qt []) [34,34]=0:=Lib.count_miss rfl;rw[e];rfl
 | b::s=>by
  have ih:=Qnc s;by_cases hb:b=34
  ·subst hb;have hi:=Qrj s;have hd:(qt (34::s)).drop (0+([34,34]:List UInt8).length)=qt s:=by rw[Xk,pS rfl];rfl
   rw[Lib.count_hit (by simp) hi,hd,Nat.add_comm 1,Lib.replaceK_hit _ _ _ _ 0 hi];have h0:(qt (34::s)).drop (0+([34,34]:List UInt8).length)=qt s:=hd;rw[h0,ih];rfl
  ·have hq:qt (b::s)=b::qt s:=by rw[Xk,nG hb];rfl
   rw[hq];by_cases hm:Lib.index (qt s) [34,34]= -1
   ·have h1:Lib.index (b::qt s) [34,34]= -1:=by rw[Qn5 hb,hm];rfl
    rw[Lib.count_miss h1];rw[Lib.count_miss hm]at ih;have e:qt s=s:=ih;rw[e];rfl
   ·obtain⟨i,hi⟩: ∃i:Nat,Lib.index (qt s) [34,34]=(i:Int):=⟨(Lib.index (qt s) [34,34]).toNat,by have:=Lib.index_ge (qt s) [34,34];omega⟩
    have h1:Lib.index (b::qt s) [34,34]=((i+1:Nat):Int):=by
     rw[Qn5 hb,hi];have e2:((i:Int)== -1)=false:=beq_eq_false_iff_ne.2 (by omega);rw[e2];simp
    have hd:(b::qt s).drop (i+1+([34,34]:List UInt8).length)=(qt s).drop (i+([34,34]:List UInt8).length):=by
     show(b::qt s).drop (i+1+2)=(qt s).drop (i+2);rw[show i+1+2=(i+2)+1 by omega,List.drop_succ_cons]
    rw[Lib.count_hit (by simp) h1,hd,Nat.add_comm 1,Lib.replaceK_hit _ _ _ _ (i+1) h1,hd];rw[Lib.count_hit (by simp) hi,Nat.add_comm 1,Lib.replaceK_hit _ _ _ _ i hi]at ih;rw[List.take_succ_cons];simp only[List.cons_append];rw[ih]
theorem Qo6(s:List UInt8):Lib.replaceAll (qt s) [34,34] [34]=s:=by
 unfold Lib.replaceAll Lib.replace;rw[nG (by decide)]
 have e:Lib.replaceNum (qt s) [34,34] (-1)=Lib.count (qt s) [34,34]:=by
  unfold Lib.replaceNum;rw[pS (by omega)]
 rw[e,Qnc]
def sb(l:List UInt8):List UInt8:=l.dropWhile (· ==32)
def isW(b:UInt8):Bool:=decide (65<=b.toNat/\b.toNat<=90) || decide (48<=b.toNat/\b.toNat<=57) || b==36
def erL(k:Nat):List UInt8:=
 if k=1 then [35,68,73,86,33]else if k=2 then [35,84,89,80,69,33]else if k=3 then [35,82,69,70,33]else if k=4 then [35,79,86,69,82,33]else if k=5 then [35,67,89,67,76,69,33]else []
def Xd(l:List UInt8):Nat:=if(erL 1).isPrefixOf l then 1 else if(erL 2).isPrefixOf l then 2 else if(erL 3).isPrefixOf l then 3 else if(erL 4).isPrefixOf l then 4 else if(erL 5).isPrefixOf l then 5 else 0
def Zg(l:List UInt8):Int:=
 if l.head? =some 43 then 1 else if l.head? =some 45 then 2 else if l.head? =some 42 then 3 else if l.head? =some 47 then 4 else if l.head? =some 38 then 5 else if l.head? =some 61 then 6
 else if l.head? =some 60 then(if l.tail.head? =some 62 then 7 else if l.tail.head? =some 61 then 9 else 8)
 else if l.head? =some 62 then(if l.tail.head? =some 61 then 11 else 10)else 0
def XA(l:List UInt8):Nat:=match l with
 | []=>0
 | b::t=>if b=34 then(match ZE t with
   | some x=>t.length+1-x.2.length
   | none=>0)
  else if b=35 then(erL (Xd l)).length
  else if isW b then(l.takeWhile isW).length
  else if b=40\/b=41\/b=44\/b=58 then 1 else(sgT (Zg l)).length
def tok(l:List UInt8):Option (List UInt8 × List UInt8):=if XA (sb l)=0 then none else some ((sb l).take (XA (sb l)),(sb l).drop (XA (sb l)))
def pk(l:List UInt8):List UInt8:=match tok l with
 | some x=>x.1
 | none=> []
def nx(l:List UInt8):List UInt8:=match tok l with
 | some x=>x.2
 | none=>l
theorem Xr(l:List UInt8):(sb l).length<=l.length:=(List.dropWhile_sublist _).length_le
theorem Zj(l:List UInt8):sb (sb l)=sb l:=by
 unfold sb;induction l with
 | nil=>rfl
 | cons b t ih=>
  cases h:(b==32)
  ·simp only[List.dropWhile,h]
  ·simp only[List.dropWhile,h];exact ih
theorem Qa2(l:List UInt8):tok (sb l)=tok l:=by unfold tok;rw[Zj]
theorem Jd(l:List UInt8):pk (sb l)=pk l:=by unfold pk;rw[Qa2]
theorem Qfx(l : List UInt8) : XA l <= l.length := by
  unfold XA;cases l with
  | nil => exact Nat.le_refl _
  | cons b t =>
    simp only;split
    · split
      · simp only[List.length_cons]; omega
      · exact Nat.zero_le _
    · split
      · rename_i h34 h35
        unfold Xd;have key : ∀ k, (erL k).isPrefixOf (b :: t) = true -> (erL k).length <= (b :: t).length := fun k h => (List.isPrefixOf_iff_prefix.1 h).length_le;repeat' split
        all_goals first
          | exact key _ (by assumption)
          | exact Nat.zero_le _
      · split
        · exact (List.takeWhile_sublist _).length_le
        · split
          · simp
          · unfold Zg
            repeat' split
            all_goals first
              | (simp[sgT]; done)
              | (rename_i h1; cases t with
                 | nil => simp at h1
                 | cons c u => simp[sgT])
theorem Hi{w:List UInt8}(h:tok l=some (w,r)):r.length<l.length/\w≠ []/\sb l=w++r:=by
 unfold tok at h;split at h
 ·cases h
 ·rename_i hn
  have h1:=Qfx (sb l);have h2:=Xr l;cases h
  refine⟨?_,?_,(List.take_append_drop _ _).symm⟩
  ·rw[List.length_drop];omega
  ·intro e;have:=congrArg List.length e;rw[List.length_take]at this;simp only[List.length_nil]at this;omega
theorem Hr(h:pk l≠ []):tok l=some (pk l,nx l):=by
 unfold pk nx at*;cases ht:tok l with
 | none=>rw[ht]at h;exact absurd rfl h
 | some x=>rfl
theorem GV(h:pk l≠ []):(nx l).length<l.length:=(Hi (Hr h)).1
theorem Ul(l:List UInt8):(nx l).length<=l.length:=by
 unfold nx;cases ht:tok l with
 | none=>exact Nat.le_refl _
 | some y=>exact Nat.le_of_lt (Hi (w:=y.1) (r:=y.2) ht).1
def QR(w:List UInt8):Int:=if w= []then 0 else if w=sgT 1 then 1 else if w=sgT 2 then 2 else if w=sgT 3 then 3 else if w=sgT 4 then 4 else if w=sgT 5 then 5 else if w=sgT 6 then 6 else if w=sgT 7 then 7
 else if w=sgT 8 then 8 else if w=sgT 9 then 9 else if w=sgT 10 then 10 else if w=sgT 11 then 11 else 0
def Xc(w:List UInt8):Int:=if w= []then 0 else if w=fnT 1 then 1 else if w=fnT 2 then 2 else if w=fnT 3 then 3 else if w=fnT 4 then 4 else if w=fnT 5 then 5 else if w=fnT 6 then 6 else if w=fnT 7 then 7
 else if w=fnT 8 then 8 else if w=fnT 9 then 9 else if w=fnT 10 then 10 else 0
structure Rw (N:Type) where
 cst:Int->Int->List UInt8->N
 cel:Int × Int × Bool × Bool->N
 are:Int × Int × Bool × Bool->Int × Int × Bool × Bool->N
 neg:Int->N
 bin:Int->Int->Int->N
 cal:Int->List Int->N
 rv:List UInt8->Option (Int × Int × List UInt8)
 rp:List UInt8->Option (Int × Int × Bool × Bool)
def Qj8{N:Type}(x:N)(l:List UInt8)(out:List N):Option (Int × List UInt8 × List N):=some ((out.length:Int),l,out++ [x])
def P{N:Type}(R:Rw N):Nat->Nat->Int->Int->List Int->List UInt8->List N->Option (Int × List UInt8 × List N)
 | 0,_,_,_,_,_,_=>none
 | m+1,mode,lv,a,ks,l,out=>
  if mode=1 then(if 4<lv then P R m 3 0 0 [] l out else match P R m 1 (lv+1) 0 [] l out with
   | some (x,l1,o1)=>P R m 2 lv x [] l1 o1
   | none=>none)
  else if mode=2 then(if QR (pk l)=0\/lvl (QR (pk l))≠lv then some (a,l,out)else match P R m 1 (lv+1) 0 [] (nx l) out with
   | some (b,l1,o1)=>P R m 2 lv (o1.length:Int) [] l1 (o1++ [R.bin (QR (pk l)) a b])
   | none=>none)
  else if mode=3 then(if pk l= [45]then(match P R m 3 0 0 [] (nx l) out with
   | some (k,l1,o1)=>Qj8 (R.neg k) l1 o1
   | none=>none)else P R m 4 0 0 [] l out)
  else if mode=4 then(if pk l= []then none else if pk l= [40]then(match P R m 1 1 0 [] (nx l) out with
   | some (x,l1,o1)=>if pk l1= [41]then some (x,nx l1,o1)else none
   | none=>none)
   else if(pk l).head? =some 34 then(match ZE (pk l).tail with
    | some x=>Qj8 (R.cst 2 0 x.1) (nx l) out
    | none=>none)
   else if Xc (pk l)≠0 then(if pk (nx l)= [40]then(match P R m 6 0 0 [] (nx (nx l)) out with
    | some (k,l1,o1)=>P R m 5 (Xc (pk l)) 0 [k] l1 o1
    | none=>none)else none)
   else match R.rv (pk l)with
    | some v=>Qj8 (R.cst v.1 v.2.1 v.2.2) (nx l) out
    | none=>(match R.rp (pk l)with
     | some p=>Qj8 (R.cel p) (nx l) out
     | none=>none))
  else if mode=5 then(if pk l= [44]then(match P R m 6 0 0 [] (nx l) out with
   | some (k,l1,o1)=>P R m 5 lv 0 (ks++ [k]) l1 o1
   | none=>none)else if pk l= [41]then Qj8 (R.cal lv ks) (nx l) out else none)
  else(if pk l≠ []/\pk (nx l)= [58]then(match R.rp (pk l),R.rp (pk (nx (nx l)))with
   | some p,some q=>Qj8 (R.are p q) (nx (nx (nx l))) out
   | _,_=>none)else P R m 1 1 0 [] l out)
def NA(mode:Nat)(lv:Int)(len:Nat):Nat:=12*len+(if mode=1 then(8-lv).toNat else if mode=2 then 1 else if mode=3 then 2 else if mode=4 then 1 else if mode=5 then 1 else 8)
theorem MG(R:Rw N): ∀(m mode:Nat) (lv a:Int) (ks:List Int) (l:List UInt8) (out:List N) (x:Int) (l1:List UInt8) (o1:List N),P R m mode lv a ks l out=some (x,l1,o1)->
  l1.length<=l.length/\(mode≠2->l1.length<l.length):=by
 intro m;induction m with
 | zero=>intro mode lv a ks l out x l1 o1 h;cases h
 | succ m ih=>
  intro mode lv a ks l out x l1 o1 h;rw[P]at h;have one:pk l≠ []->(nx l).length<l.length:=GV;by_cases h1:mode=1
  ·rw[pS h1]at h;split at h
   ·have:=ih _ _ _ _ _ _ _ _ _ h;have:=this.2 (by omega);omega
   ·split at h
    ·rename_i q1 q2 q3 hq
     have i1:=(ih _ _ _ _ _ _ _ _ _ hq).2 (by omega);have i2:=(ih _ _ _ _ _ _ _ _ _ h).1;omega
    ·cases h
  rw[nG h1]at h;by_cases h2:mode=2
  ·rw[pS h2]at h;split at h
   ·cases h;exact⟨Nat.le_refl _,fun q=>absurd h2 q⟩
   ·rename_i hop
    have hp:pk l≠ []:=fun e=>hop (Or.inl (by rw[e];rfl));have:=one hp;split at h
    ·rename_i q1 q2 q3 hq
     have i1:=(ih _ _ _ _ _ _ _ _ _ hq).2 (by omega);have i2:=(ih _ _ _ _ _ _ _ _ _ h).1;exact⟨by omega,fun q=>absurd h2 q⟩
    ·cases h
  rw[nG h2]at h;by_cases h3:mode=3
  ·rw[pS h3]at h;split at h
   ·rename_i hp
    have:=one (by rw[hp];simp);split at h
    ·rename_i q1 q2 q3 hq
     have i1:=(ih _ _ _ _ _ _ _ _ _ hq).2 (by omega);cases h
     exact⟨by omega,fun _=>by omega⟩
    ·cases h
   ·have i1:=(ih _ _ _ _ _ _ _ _ _ h).2 (by omega);exact⟨by omega,fun _=>i1⟩
  rw[nG h3]at h;by_cases h4:mode=4
  ·rw[pS h4]at h;split at h
   ·cases h
   rename_i hp
   have hn:=one hp;split at h
   ·split at h
    ·rename_i q1 q2 q3 hq
     have i1:=(ih _ _ _ _ _ _ _ _ _ hq).2 (by omega);split at h
     ·rename_i hr
      have:=GV (l:=q2) (by rw[hr];simp);cases h
      exact⟨by omega,fun _=>by omega⟩
     ·cases h
    ·cases h
   split at h
   ·split at h
    ·cases h;exact⟨by omega,fun _=>hn⟩
    ·cases h
   split at h
   ·split at h
    ·rename_i hpar
     have h0:=GV (l:=nx l) (by rw[hpar];simp);split at h
     ·rename_i q1 q2 q3 hq
      have i1:=(ih _ _ _ _ _ _ _ _ _ hq).2 (by omega);have i2:=(ih _ _ _ _ _ _ _ _ _ h).1;exact⟨by omega,fun _=>by omega⟩
     ·cases h
    ·cases h
   split at h
   ·cases h;exact⟨by omega,fun _=>hn⟩
   ·split at h
    ·cases h;exact⟨by omega,fun _=>hn⟩
    ·cases h
  rw[nG h4]at h;by_cases h5:mode=5
  ·rw[pS h5]at h;split at h
   ·rename_i hp
    have hn:=one (by rw[hp];simp);split at h
    ·rename_i q1 q2 q3 hq
     have i1:=(ih _ _ _ _ _ _ _ _ _ hq).2 (by omega);have i2:=(ih _ _ _ _ _ _ _ _ _ h).1;exact⟨by omega,fun _=>by omega⟩
    ·cases h
   ·split at h
    ·rename_i hp
     have hn:=one (by rw[hp];simp);cases h
     exact⟨by omega,fun _=>hn⟩
    ·cases h
  rw[nG h5]at h;split at h
  ·rename_i hp
   have hn:=one hp.1;have h0:=GV (l:=nx l) (by rw[hp.2];simp);split at h
   ·cases h
    have h9:=Ul (nx (nx l));exact⟨by omega,fun _=>by omega⟩
   ·cases h
  ·have i1:=(ih _ _ _ _ _ _ _ _ _ h).2 (by omega);exact⟨by omega,fun _=>i1⟩
def Qnv(mode:Nat)(lv:Int):Prop:=(mode=1->1<=lv/\lv<=5)/\(mode=2->1<=lv/\lv<=4)
theorem Qcj{mode:Nat}{lv:Int}(hl:Qnv mode lv)(n:Nat):1<=NA mode lv n:=by
 unfold NA;by_cases h1:mode=1
 ·rw[pS h1];have:=hl.1 h1;omega
 ·rw[nG h1];repeat' split
  all_goals omega
theorem Qvu(R:Rw N): ∀(m m' mode:Nat) (lv a:Int) (ks:List Int) (l:List UInt8) (out:List N),Qnv mode lv->NA mode lv l.length<=m->NA mode lv l.length<=m'->
  P R m mode lv a ks l out=P R m' mode lv a ks l out:=by
 intro m;induction m with
 | zero=>
  intro m' mode lv a ks l out hl h h';exact absurd h (by have:=Qcj hl l.length;omega)
 | succ m ih=>
  intro m' mode lv a ks l out hl h h';cases m' with
  | zero=>
   exact absurd h' (by have:=Qcj hl l.length;omega)
  | succ m'=>
   have one:pk l≠ []->(nx l).length<l.length:=GV;have no: ∀(mode:Nat) (lv:Int),mode≠1->mode≠2->Qnv mode lv:=fun mode lv q1 q2=>⟨fun e=>absurd e q1,fun e=>absurd e q2⟩;have r1: ∀(lv:Int) (n:Nat),NA 1 lv n=12*n+(8-lv).toNat:=fun lv n=>rfl;have r2: ∀(lv:Int) (n:Nat),NA 2 lv n=12*n+1:=fun lv n=>rfl;have r3: ∀(lv:Int) (n:Nat),NA 3 lv n=12*n+2:=fun lv n=>rfl;have r4: ∀(lv:Int) (n:Nat),NA 4 lv n=12*n+1:=fun lv n=>rfl;have r5: ∀(lv:Int) (n:Nat),NA 5 lv n=12*n+1:=fun lv n=>rfl
   have r6: ∀(lv:Int) (n:Nat),NA 6 lv n=12*n+8:=fun lv n=>rfl;rw[P,P];by_cases h1:mode=1
   ·subst h1;have hv:=hl.1 rfl;rw[r1]at h h';rw[pS rfl,pS rfl];by_cases hg:4<lv
    ·rw[pS hg,pS hg];exact ih _ _ _ _ _ _ _ (no 3 _ (by omega) (by omega)) (by rw[r3];omega) (by rw[r3];omega)
    ·rw[nG hg,nG hg];have e1:=ih m' 1 (lv+1) 0 [] l out ⟨fun _=>by omega,fun e=>by omega⟩ (by rw[r1];omega) (by rw[r1];omega);rw[<-e1];cases hq:P R m 1 (lv+1) 0 [] l out with
     | none=>rfl
     | some y=>
      obtain⟨x,l1,o1⟩:=y;have:=(MG R _ _ _ _ _ _ _ _ _ _ hq).2 (by omega);exact ih _ _ _ _ _ _ _ ⟨fun e=>by omega,fun _=>by omega⟩ (by rw[r2];omega) (by rw[r2];omega)
   rw[nG h1,nG h1];by_cases h2:mode=2
   ·subst h2;have hv:=hl.2 rfl;rw[r2]at h h';rw[pS rfl,pS rfl];by_cases h6:QR (pk l)=0\/lvl (QR (pk l))≠lv
    ·rw[pS h6,pS h6]
    ·rw[nG h6,nG h6];have hp:pk l≠ []:=fun e=>h6 (Or.inl (by rw[e];rfl));have:=one hp;have e1:=ih m' 1 (lv+1) 0 [] (nx l) out ⟨fun _=>by omega,fun e=>by omega⟩ (by rw[r1];omega) (by rw[r1];omega);rw[<-e1];cases hq:P R m 1 (lv+1) 0 [] (nx l) out with
     | none=>rfl
     | some y=>
      obtain⟨x,l1,o1⟩:=y;have:=(MG R _ _ _ _ _ _ _ _ _ _ hq).2 (by omega);exact ih _ _ _ _ _ _ _ ⟨fun e=>by omega,fun _=>by omega⟩ (by rw[r2];omega) (by rw[r2];omega)
   rw[nG h2,nG h2];by_cases h3:mode=3
   ·subst h3;rw[r3]at h h';rw[pS rfl,pS rfl];by_cases hp:pk l= [45]
    ·rw[pS hp,pS hp];have:=one (by rw[hp];simp);rw[ih m' 3 0 0 [] (nx l) out (no 3 _ (by omega) (by omega)) (by rw[r3];omega) (by rw[r3];omega)]
    ·rw[nG hp,nG hp];exact ih _ _ _ _ _ _ _ (no 4 _ (by omega) (by omega)) (by rw[r4];omega) (by rw[r4];omega)
   rw[nG h3,nG h3];by_cases h4:mode=4
   ·subst h4;rw[r4]at h h';rw[pS rfl,pS rfl];by_cases hp:pk l= []
    ·rw[pS hp,pS hp]
    have hn:=one hp;rw[nG hp,nG hp];by_cases ho:pk l= [40]
    ·rw[pS ho,pS ho,ih m' 1 1 0 [] (nx l) out ⟨fun _=>by omega,fun e=>by omega⟩ (by rw[r1];omega) (by rw[r1];omega)]
    rw[nG ho,nG ho];by_cases hq:(pk l).head? =some 34
    ·rw[pS hq,pS hq]
    rw[nG hq,nG hq];by_cases hf:Xc (pk l)≠0
    ·rw[pS hf,pS hf];by_cases h0:pk (nx l)= [40]
     ·rw[pS h0,pS h0];have hn2:=GV (l:=nx l) (by rw[h0];simp);have e1:=ih m' 6 0 0 [] (nx (nx l)) out (no 6 _ (by omega) (by omega)) (by rw[r6];omega) (by rw[r6];omega);rw[<-e1];cases hq9:P R m 6 0 0 [] (nx (nx l)) out with
      | none=>rfl
      | some y=>
       obtain⟨x,l1,o1⟩:=y;have:=(MG R _ _ _ _ _ _ _ _ _ _ hq9).2 (by omega);exact ih _ _ _ _ _ _ _ (no 5 _ (by omega) (by omega)) (by rw[r5];omega) (by rw[r5];omega)
     ·rw[nG h0,nG h0]
    ·rw[nG hf,nG hf]
   rw[nG h4,nG h4];by_cases h5:mode=5
   ·subst h5;rw[r5]at h h';rw[pS rfl,pS rfl];by_cases hp:pk l= [44]
    ·rw[pS hp,pS hp];have hn:=one (by rw[hp];simp);have e1:=ih m' 6 0 0 [] (nx l) out (no 6 _ (by omega) (by omega)) (by rw[r6];omega) (by rw[r6];omega);rw[<-e1];cases hq9:P R m 6 0 0 [] (nx l) out with
     | none=>rfl
     | some y=>
      obtain⟨x,l1,o1⟩:=y;have:=(MG R _ _ _ _ _ _ _ _ _ _ hq9).2 (by omega);exact ih _ _ _ _ _ _ _ (no 5 _ (by omega) (by omega)) (by rw[r5];omega) (by rw[r5];omega)
    ·rw[nG hp,nG hp]
   rw[nG h5,nG h5];by_cases hp:pk l≠ []/\pk (nx l)= [58]
   ·rw[pS hp,pS hp]
   ·rw[nG hp,nG hp];have hr:NA mode lv l.length=12*l.length+8:=by unfold NA;rw[nG h1,nG h2,nG h3,nG h4,nG h5]
    exact ih _ _ _ _ _ _ _ ⟨fun _=>by omega,fun e=>by omega⟩ (by rw[r1];omega) (by rw[r1];omega)
def nxs:Nat->List UInt8->Option (List UInt8)
 | 0,l=>some l
 | k+1,l=>match tok l with
  | some x=>nxs k x.2
  | none=>none
def Rch(l r:List UInt8):Prop:= ∃k,nxs k l=some r
theorem Rch.refl(l:List UInt8):Rch l l:=⟨0,rfl⟩
theorem Qgt: ∀(k j:Nat) (l r q:List UInt8),nxs k l=some r->nxs j r=some q->nxs (k+j) l=some q
 | 0,j,l,r,q,h,h'=>by cases h;rw[Nat.zero_add];exact h'
 | k+1,j,l,r,q,h,h'=>by
  rw[Nat.add_right_comm];unfold nxs at h ⊢;cases ht:tok l with
  | none=>rw[ht]at h;cases h
  | some x=>
   rw[ht]at h;exact Qgt k j x.2 r q h h'
theorem Rch.trans{q:List UInt8}(h:Rch l r)(h':Rch r q):Rch l q:=by
 obtain⟨k,hk⟩:=h;obtain⟨j,hj⟩:=h';exact⟨k+j,Qgt k j l r q hk hj⟩
theorem Rch.step(h:pk l≠ []):Rch l (nx l):=⟨1,by
 unfold nxs;rw[Hr h]
 rfl⟩
theorem Qhv(R:Rw N)(hR:R.rp []=none): ∀(m mode:Nat) (lv a:Int) (ks:List Int) (l:List UInt8) (out:List N) (x:Int) (l1:List UInt8) (o1:List N),P R m mode lv a ks l out=some (x,l1,o1)->
  Rch l l1/\ ∃ext,o1=out++ext:=by
 intro m;induction m with
 | zero=>intro mode lv a ks l out x l1 o1 h;cases h
 | succ m ih=>
  intro mode lv a ks l out x l1 o1 h;rw[P]at h;have one:pk l≠ []->Rch l (nx l):=Rch.step;by_cases h1:mode=1
  ·rw[pS h1]at h;split at h
   ·exact ih _ _ _ _ _ _ _ _ _ h
   ·split at h
    ·rename_i q1 q2 q3 hq
     obtain⟨a1,e1,rfl⟩:=ih _ _ _ _ _ _ _ _ _ hq;obtain⟨a2,e2,rfl⟩:=ih _ _ _ _ _ _ _ _ _ h;exact⟨a1.trans a2,e1++e2,by rw[List.append_assoc]⟩
    ·cases h
  rw[nG h1]at h;by_cases h2:mode=2
  ·rw[pS h2]at h;split at h
   ·cases h;exact⟨Rch.refl _,[],by simp⟩
   ·rename_i hop
    have hp:pk l≠ []:=fun e=>hop (Or.inl (by rw[e];rfl));have a0:=one hp;split at h
    ·rename_i q1 q2 q3 hq
     obtain⟨a1,e1,rfl⟩:=ih _ _ _ _ _ _ _ _ _ hq;obtain⟨a2,e2,rfl⟩:=ih _ _ _ _ _ _ _ _ _ h;exact⟨a0.trans (a1.trans a2),e1++ [R.bin (QR (pk l)) a q1]++e2,by simp⟩
    ·cases h
  rw[nG h2]at h;by_cases h3:mode=3
  ·rw[pS h3]at h;split at h
   ·rename_i hp
    have a0:=one (by rw[hp];simp);split at h
    ·rename_i q1 q2 q3 hq
     obtain⟨a1,e1,rfl⟩:=ih _ _ _ _ _ _ _ _ _ hq;cases h
     exact⟨a0.trans a1,e1++ [R.neg q1],by simp⟩
    ·cases h
   ·exact ih _ _ _ _ _ _ _ _ _ h
  rw[nG h3]at h;by_cases h4:mode=4
  ·rw[pS h4]at h;split at h
   ·cases h
   rename_i hp
   have a0:=one hp;split at h
   ·split at h
    ·rename_i q1 q2 q3 hq
     obtain⟨a1,e1,rfl⟩:=ih _ _ _ _ _ _ _ _ _ hq;split at h
     ·rename_i hr
      have a2:=Rch.step (l:=q2) (by rw[hr];simp);cases h
      exact⟨a0.trans (a1.trans a2),e1,rfl⟩
     ·cases h
    ·cases h
   split at h
   ·split at h
    ·cases h;exact⟨a0,_,rfl⟩
    ·cases h
   split at h
   ·split at h
    ·rename_i hpar
     have a2:=Rch.step (l:=nx l) (by rw[hpar];simp);split at h
     ·rename_i q1 q2 q3 hq
      obtain⟨a3,e1,rfl⟩:=ih _ _ _ _ _ _ _ _ _ hq;obtain⟨a4,e2,rfl⟩:=ih _ _ _ _ _ _ _ _ _ h;exact⟨a0.trans (a2.trans (a3.trans a4)),e1++e2,by rw[List.append_assoc]⟩
     ·cases h
    ·cases h
   split at h
   ·cases h;exact⟨a0,_,rfl⟩
   ·split at h
    ·cases h;exact⟨a0,_,rfl⟩
    ·cases h
  rw[nG h4]at h;by_cases h5:mode=5
  ·rw[pS h5]at h;split at h
   ·rename_i hp
    have a0:=one (by rw[hp];simp);split at h
    ·rename_i q1 q2 q3 hq
     obtain⟨a1,e1,rfl⟩:=ih _ _ _ _ _ _ _ _ _ hq;obtain⟨a2,e2,rfl⟩:=ih _ _ _ _ _ _ _ _ _ h;exact⟨a0.trans (a1.trans a2),e1++e2,by rw[List.append_assoc]⟩
    ·cases h
   ·split at h
    ·rename_i hp
     have a0:=one (by rw[hp];simp);cases h
     exact⟨a0,_,rfl⟩
    ·cases h
  rw[nG h5]at h;split at h
  ·rename_i hp
   have a0:=one hp.1;have a1:=Rch.step (l:=nx l) (by rw[hp.2];simp);split at h
   ·rename_i p q hp1 hp2
    have a2:=Rch.step (l:=nx (nx l)) (fun e=>by rw[e,hR]at hp2;cases hp2);cases h
    exact⟨a0.trans (a1.trans a2),_,rfl⟩
   ·cases h
  ·exact ih _ _ _ _ _ _ _ _ _ h
def Xh:Nat->List UInt8->Option (List (List UInt8))
 | 0,_=>none
 | m+1,l=>if sb l= []then some []else match tok l with
  | some x=>(Xh m x.2).map fun ws=>x.1::ws
  | none=>none
theorem Qfw(h:sb l= []):tok l=none:=by unfold tok;rw[h];rfl
theorem Hh: ∀(k m:Nat) (l r:List UInt8),nxs k l=some r->sb r= []->l.length<m-> ∃ws,Xh m l=some ws
 | 0,m,l,r,h,hr,hm=>by
  cases h
  cases m with
  | zero=>omega
  | succ m=>exact⟨[],by rw[Xh,pS hr]⟩
 | k+1,m,l,r,h,hr,hm=>by
  cases m with
  | zero=>omega
  | succ m=>
   rw[Xh];by_cases hs:sb l= []
   ·exact⟨[],by rw[pS hs]⟩
   ·rw[nG hs];unfold nxs at h;cases ht:tok l with
    | none=>rw[ht]at h;cases h
    | some x=>
     rw[ht]at h;have:=(Hi (w:=x.1) (r:=x.2) ht).1;obtain⟨ws,hw⟩:=Hh k m x.2 r h hr (by omega);exact⟨x.1::ws,by simp only[hw,Option.map_some]⟩
theorem ZD(b:UInt8)(t:List UInt8):XA (b::t)=if b=34 then(match ZE t with
   | some x=>t.length+1-x.2.length
   | none=>0)
  else if b=35 then(erL (Xd (b::t))).length
  else if isW b then((b::t).takeWhile isW).length
  else if b=40\/b=41\/b=44\/b=58 then 1 else(sgT (Zg (b::t))).length:=rfl
theorem Dr(h:XA (sb l)=n)(hn:n≠0):tok l=some ((sb l).take n,(sb l).drop n):=by
 unfold tok;rw[h,nG hn]
theorem Qpd(h:sb l=c::t)(hc:c=40\/c=41\/c=44\/c=58\/c=45):tok l=some ([c],t):=by
 have e:XA (sb l)=1:=by
  rw[h];rcases hc with rfl | rfl | rfl | rfl | rfl
  ·rfl
  ·rfl
  ·rfl
  ·rfl
  ·rw[ZD,nG (by decide),nG (by decide),nG (by decide),nG (by decide)];rfl
 rw[Dr e (by omega),h];rfl
theorem Dv(h:sb l=c::t)(hc:c=40\/c=41\/c=44\/c=58\/c=45):pk l= [c]/\nx l=t:=by
 unfold pk nx;rw[Qpd h hc];exact⟨rfl,rfl⟩
theorem Ue(h:pk l≠ []):sb l=pk l++nx l:=(Hi (Hr h)).2.2
theorem Qn0(l:List UInt8)(c:UInt8)(hc:c=40\/c=41\/c=44\/c=58\/c=45):pk l= [c]↔(sb l).head? =some c:=by
 constructor
 ·intro h;rw[Ue (by rw[h];simp),h];rfl
 ·intro h;cases hs:sb l with
  | nil=>rw[hs]at h;cases h
  | cons b t=>
   rw[hs]at h;cases h
   exact(Dv hs hc).1
theorem NL(h:sb l=c::t)(hc:isW c=true):pk l=(sb l).takeWhile isW/\nx l=(sb l).dropWhile isW/\pk l≠ []:=by
 have h5:c≠34:=fun e=>by rw[e]at hc;revert hc;decide
 have h4:c≠35:=fun e=>by rw[e]at hc;revert hc;decide
 have e:XA (sb l)=((sb l).takeWhile isW).length:=by
  rw[h,ZD,nG h5,nG h4,pS hc]
 have hz:(sb l).takeWhile isW≠ []:=by rw[h];simp[List.takeWhile,hc]
 have h3:((sb l).takeWhile isW).length≠0:=fun e=>hz (List.length_eq_zero_iff.1 e);have ht:=Dr e h3;have h0:(sb l).takeWhile isW++(sb l).dropWhile isW=sb l:=List.takeWhile_append_dropWhile;have h1:((sb l).takeWhile isW++(sb l).dropWhile isW).take ((sb l).takeWhile isW).length=(sb l).takeWhile isW:=List.take_left;have h2:((sb l).takeWhile isW++(sb l).dropWhile isW).drop ((sb l).takeWhile isW).length=(sb l).dropWhile isW:=List.drop_left;rw[h0]at h1 h2;rw[h1,h2]at ht
 unfold pk nx;rw[ht];exact⟨rfl,rfl,hz⟩
theorem Oz{s:List UInt8}(h:sb l=34::t)(hq:ZE t=some (s,r)):pk l=34::(qt s++ [34])/\nx l=r/\ZE (pk l).tail=some (s,[]):=by
 obtain⟨e1,e2⟩:=Gx t s r hq
 have e:XA (sb l)=(34::(qt s++ [34])).length:=by
  rw[h,ZD,pS rfl,hq,e1];simp only[List.length_append,List.length_cons,List.length_nil];omega
 have ht:=Dr e (by simp);have hs:sb l=(34::(qt s++ [34]))++r:=by rw[h,e1];simp
 have h1:(sb l).take (34::(qt s++ [34])).length=34::(qt s++ [34]):=by rw[hs];exact List.take_left
 have h2:(sb l).drop (34::(qt s++ [34])).length=r:=by rw[hs];exact List.drop_left
 rw[h1,h2]at ht;unfold pk nx;rw[ht];refine⟨rfl,rfl,?_⟩;have:=NG s [] (by simp);rw[List.append_nil]at this;exact this
theorem GN(h:sb l=34::t)(hq:ZE t=none):tok l=none:=by
 unfold tok;have e:XA (sb l)=0:=by rw[h,ZD,pS rfl,hq]
 rw[e,pS rfl]
theorem Qnl(h:sb l=35::t)(he:Xd (sb l)≠0):pk l=erL (Xd (sb l))/\sb l=erL (Xd (sb l))++nx l/\pk l≠ []:=by
 have hk:Xd (sb l)=1\/Xd (sb l)=2\/Xd (sb l)=3\/Xd (sb l)=4\/Xd (sb l)=5:=by
  revert he
  unfold Xd;repeat' split
  all_goals simp
 have hp:(erL (Xd (sb l))).isPrefixOf (sb l)=true:=by
  revert he
  unfold Xd;repeat' split
  all_goals first
   | (intro _;assumption)
   | (intro h9;exact absurd rfl h9)
 have hz:(erL (Xd (sb l))).length≠0:=by rcases hk with e | e | e | e | e<;>rw[e]<;>decide
 have e:XA (sb l)=(erL (Xd (sb l))).length:=by
  conv=>lhs;rw[h]
  rw[ZD,nG (by decide),pS rfl,h]
 obtain⟨r,hr⟩:=List.isPrefixOf_iff_prefix.1 hp;have ht:=Dr e hz
 have h1:(sb l).take (erL (Xd (sb l))).length=erL (Xd (sb l)):=by
  conv=>lhs;arg 2;rw[<-hr]
  exact List.take_left
 have h2:pk l=erL (Xd (sb l)):=by
  unfold pk;rw[ht];exact h1
 have h3:pk l≠ []:=by rw[h2];exact fun e=>hz (by rw[e];rfl)
 exact⟨h2,by rw[<-h2];exact Ue h3,h3⟩
theorem Qdm(h:sb l=35::t)(he:Xd (sb l)=0):tok l=none:=by
 unfold tok
 have e:XA (sb l)=0:=by
  conv=>lhs;rw[h]
  rw[ZD,nG (by decide),pS rfl,<-h,he];rfl
 rw[e,pS rfl]
theorem Qa9(h:sb l= []):pk l= []/\nx l=l:=by
 unfold pk nx;rw[Qfw h];exact⟨rfl,rfl⟩
theorem Qgm(o:Int)(h1:1<=o)(h2:o<=11):QR (sgT o)=o:=by
 have hn:o=1\/o=2\/o=3\/o=4\/o=5\/o=6\/o=7\/o=8\/o=9\/o=10\/o=11:=by omega
 rcases hn with rfl | rfl | rfl | rfl | rfl | rfl | rfl | rfl | rfl | rfl | rfl<;>decide
theorem Qnn(l:List UInt8):0<=Zg l/\Zg l<=11:=by
 unfold Zg;repeat' split
 all_goals omega
theorem Qlf(l:List UInt8):(sgT (Zg l)).isPrefixOf l=true:=by
 cases l with
 | nil=>decide
 | cons b t=>
  by_cases h1:b=43
  ·subst h1;rfl
  by_cases h2:b=45
  ·subst h2;rfl
  by_cases h3:b=42
  ·subst h3;rfl
  by_cases h4:b=47
  ·subst h4;rfl
  by_cases h5:b=38
  ·subst h5;rfl
  by_cases h6:b=61
  ·subst h6;rfl
  have hn: ∀c:UInt8,b≠c-> ¬(b::t).head? =some c:=fun c h e=>h (by simpa using e);by_cases h7:b=60
  ·subst h7;cases t with
   | nil=>rfl
   | cons c u=>
    by_cases c1:c=62
    ·subst c1;rfl
    by_cases c2:c=61
    ·subst c2;rfl
    have e:Zg (60::c::u)=8:=by
     unfold Zg;rw[nG (hn _ h1),nG (hn _ h2),nG (hn _ h3),nG (hn _ h4),nG (hn _ h5),nG (hn _ h6),pS (by simp),nG (fun e=>c1 (by simpa using e)),nG (fun e=>c2 (by simpa using e))]
    rw[e];rfl
  by_cases h8:b=62
  ·subst h8;cases t with
   | nil=>rfl
   | cons c u=>
    by_cases c2:c=61
    ·subst c2;rfl
    have e:Zg (62::c::u)=10:=by
     unfold Zg;rw[nG (hn _ h1),nG (hn _ h2),nG (hn _ h3),nG (hn _ h4),nG (hn _ h5),nG (hn _ h6),nG (hn _ h7),pS (by simp),nG (fun e=>c2 (by simpa using e))]
    rw[e];rfl
  have e:Zg (b::t)=0:=by
   unfold Zg;rw[nG (hn _ h1),nG (hn _ h2),nG (hn _ h3),nG (hn _ h4),nG (hn _ h5),nG (hn _ h6),nG (hn _ h7),nG (hn _ h8)]
  rw[e];rfl
def opC(b:UInt8):Bool:=b==43 || b==45 || b==42 || b==47 || b==38 || b==61 || b==60 || b==62
theorem Qqt(t:List UInt8)(h:opC b=false):Zg (b::t)=0:=by
 simp only[opC,Bool.or_eq_false_iff,beq_eq_false_iff_ne]at h;obtain⟨⟨⟨⟨⟨⟨⟨h1,h2⟩,h3⟩,h4⟩,h5⟩,h6⟩,h7⟩,h8⟩:=h;have hn: ∀c:UInt8,b≠c-> ¬(b::t).head? =some c:=fun c h e=>h (by simpa using e);unfold Zg;rw[nG (hn _ h1),nG (hn _ h2),nG (hn _ h3),nG (hn _ h4),nG (hn _ h5),nG (hn _ h6),nG (hn _ h7),nG (hn _ h8)]
theorem Qqr(t:List UInt8)(h:opC b=false):QR (b::t)=0:=by
 have hs: ∀o:Int,sgT o=b::t->False:=by
  intro o e
  have hc: ∀c u,sgT o=c::u->opC c=true:=by
   intro c u;unfold sgT;repeat' split
   all_goals first
    | (intro e;cases e;rfl)
    | (intro e;cases e)
  rw[hc b t e]at h;cases h
 have hq: ∀o:Int,¬(b::t)=sgT o:=fun o e=>hs o e.symm;unfold QR;rw[nG (by simp),nG (hq _),nG (hq _),nG (hq _),nG (hq _),nG (hq _),nG (hq _),nG (hq _),nG (hq _),nG (hq _),nG (hq _),nG (hq _)]
theorem Qab(l:List UInt8):QR (pk l)=Zg (sb l):=by
 cases hs:sb l with
 | nil=>rw[(Qa9 hs).1];rfl
 | cons b t=>
  have h0: ∀w r,pk l=w++r->w≠ []->(sb l).head? =w.head?:=by
   intro w r hp hw
   have h3:pk l≠ []:=by rw[hp];cases w with
    | nil=>exact absurd rfl hw
    | cons c u=>simp
   rw[Ue h3,hp];cases w with
   | nil=>exact absurd rfl hw
   | cons c u=>rfl
  cases hc:opC b
  ·rw[Qqt t hc];cases hp:pk l with
   | nil=>rfl
   | cons c u=>
    have h1:=h0 [c] u (by rw[hp];rfl) (by simp);rw[hs]at h1;simp only[List.head?_cons,Option.some.injEq]at h1;rw[<-h1];exact Qqr u hc
  ·have h5:b≠34:=fun e=>by rw[e]at hc;revert hc;decide
   have h4:b≠35:=fun e=>by rw[e]at hc;revert hc;decide
   have bW: ¬isW b=true:=by
    simp only[opC,g,beq_iff_eq]at hc;rcases hc with((((((rfl | rfl) | rfl) | rfl) | rfl) | rfl) | rfl) | rfl<;>decide
   have bS: ¬(b=40\/b=41\/b=44\/b=58):=by
    simp only[opC,g,beq_iff_eq]at hc;rcases hc with((((((rfl | rfl) | rfl) | rfl) | rfl) | rfl) | rfl) | rfl<;>decide
   have e:XA (sb l)=(sgT (Zg (b::t))).length:=by
    rw[hs,ZD,nG h5,nG h4,nG bW,nG bS]
   have ho:=Qnn (b::t);by_cases hz:Zg (b::t)=0
   ·have h2:XA (sb l)=0:=by rw[e,hz];rfl
    have:pk l= []:=by unfold pk tok;rw[h2,pS rfl]
    rw[this,hz];rfl
   ·have hl:(sgT (Zg (b::t))).length≠0:=by
     have hn:Zg (b::t)=1\/Zg (b::t)=2\/Zg (b::t)=3\/Zg (b::t)=4\/Zg (b::t)=5\/Zg (b::t)=6\/Zg (b::t)=7\/Zg (b::t)=8\/Zg (b::t)=9\/Zg (b::t)=10\/Zg (b::t)=11:=by omega
     rcases hn with e | e | e | e | e | e | e | e | e | e | e<;>rw[e]<;>decide
    have ht:=Dr e hl;obtain⟨r,hr⟩:=List.isPrefixOf_iff_prefix.1 (Qlf (b::t));have h1:(sgT (Zg (b::t))++r).take (sgT (Zg (b::t))).length=sgT (Zg (b::t)):=List.take_left;rw[hr]at h1;rw[hs,h1]at ht;have hp:pk l=sgT (Zg (b::t)):=by unfold pk;rw[ht]
    rw[hp];exact Qgm _ (by omega) (by omega)
theorem Qip(w:List UInt8)(h:QR w≠0):w=sgT (QR w):=by
 by_cases h0:w= []
 ·exact absurd (by rw[QR,pS h0]) h
 by_cases h1:w=sgT 1
 ·have e:QR w=1:=by rw[QR,nG h0,pS h1]
  rw[e];exact h1
 by_cases h2:w=sgT 2
 ·have e:QR w=2:=by rw[QR,nG h0,nG h1,pS h2]
  rw[e];exact h2
 by_cases h3:w=sgT 3
 ·have e:QR w=3:=by rw[QR,nG h0,nG h1,nG h2,pS h3]
  rw[e];exact h3
 by_cases h4:w=sgT 4
 ·have e:QR w=4:=by rw[QR,nG h0,nG h1,nG h2,nG h3,pS h4]
  rw[e];exact h4
 by_cases h5:w=sgT 5
 ·have e:QR w=5:=by rw[QR,nG h0,nG h1,nG h2,nG h3,nG h4,pS h5]
  rw[e];exact h5
 by_cases h6:w=sgT 6
 ·have e:QR w=6:=by rw[QR,nG h0,nG h1,nG h2,nG h3,nG h4,nG h5,pS h6]
  rw[e];exact h6
 by_cases h7:w=sgT 7
 ·have e:QR w=7:=by rw[QR,nG h0,nG h1,nG h2,nG h3,nG h4,nG h5,nG h6,pS h7]
  rw[e];exact h7
 by_cases h8:w=sgT 8
 ·have e:QR w=8:=by rw[QR,nG h0,nG h1,nG h2,nG h3,nG h4,nG h5,nG h6,nG h7,pS h8]
  rw[e];exact h8
 by_cases h9:w=sgT 9
 ·have e:QR w=9:=by rw[QR,nG h0,nG h1,nG h2,nG h3,nG h4,nG h5,nG h6,nG h7,nG h8,pS h9]
  rw[e];exact h9
 by_cases H0:w=sgT 10
 ·have e:QR w=10:=by rw[QR,nG h0,nG h1,nG h2,nG h3,nG h4,nG h5,nG h6,nG h7,nG h8,nG h9,pS H0]
  rw[e];exact H0
 by_cases H1:w=sgT 11
 ·have e:QR w=11:=by rw[QR,nG h0,nG h1,nG h2,nG h3,nG h4,nG h5,nG h6,nG h7,nG h8,nG h9,nG H0,pS H1]
  rw[e];exact H1
 exact absurd (by rw[QR,nG h0,nG h1,nG h2,nG h3,nG h4,nG h5,nG h6,nG h7,nG h8,nG h9,nG H0,nG H1]) h
theorem Qot(h:Zg (sb l)≠0):pk l=sgT (Zg (sb l))/\sb l=sgT (Zg (sb l))++nx l:=by
 have h1:=Qab l;have hp:pk l≠ []:=fun e=>by rw[e]at h1;exact h h1.symm
 have h2:pk l=sgT (QR (pk l)):=Qip _ (by rw[h1];exact h);rw[h1]at h2;exact⟨h2,by rw[<-h2];exact Ue hp⟩
def isP(o:Int)(l:List UInt8):Bool:=(sgT o).isPrefixOf l
theorem Jz(o:Int)(c:UInt8)(h:sgT o= [c])(b:UInt8)(t:List UInt8):isP o (b::t)=(c==b):=by
 unfold isP;rw[h];simp[List.isPrefixOf]
theorem Qag(o:Int)(c d:UInt8)(h:sgT o= [c,d])(b:UInt8)(t:List UInt8):isP o (b::t)=(c==b&&decide (t.head? =some d)):=by
 unfold isP;rw[h];cases t with
 | nil=>simp[List.isPrefixOf]
 | cons e u=>
  by_cases hd:d=e
  ·subst hd;simp[List.isPrefixOf]
  ·have h1:(d==e)=false:=beq_eq_false_iff_ne.2 hd;have h2: ¬e=d:=fun q=>hd q.symm;simp[List.isPrefixOf,h1,h2]
def Ms(l:List UInt8):Int:=if isP 7 l then 7 else if isP 9 l then 9 else if isP 11 l then 11 else if isP 6 l then 6 else if isP 8 l then 8 else if isP 10 l then 10 else 0
def Qn7(l:List UInt8):Int:=if isP 5 l then 5 else 0
def Qg3(l:List UInt8):Int:=if isP 1 l then 1 else if isP 2 l then 2 else 0
def Qg2(l:List UInt8):Int:=if isP 3 l then 3 else if isP 4 l then 4 else 0
def Qrr(lv:Int)(l:List UInt8):Int:=if lv=1 then Ms l else if lv=2 then Qn7 l else if lv=3 then Qg3 l else if lv=4 then Qg2 l else 0
theorem Qgn(b:UInt8)(t:List UInt8):Zg (b::t)=if b=43 then 1 else if b=45 then 2 else if b=42 then 3 else if b=47 then 4 else if b=38 then 5 else if b=61 then 6
  else if b=60 then(if t.head? =some 62 then 7 else if t.head? =some 61 then 9 else 8)else if b=62 then(if t.head? =some 61 then 11 else 10)else 0:=by
 by_cases h1:b=43
 ·subst h1;rfl
 by_cases h2:b=45
 ·subst h2;rfl
 by_cases h3:b=42
 ·subst h3;rfl
 by_cases h4:b=47
 ·subst h4;rfl
 by_cases h5:b=38
 ·subst h5;rfl
 by_cases h6:b=61
 ·subst h6;rfl
 by_cases h7:b=60
 ·subst h7;rfl
 by_cases h8:b=62
 ·subst h8;rfl
 have hn: ∀c:UInt8,b≠c-> ¬(b::t).head? =some c:=fun c h e=>h (by simpa using e);unfold Zg;rw[nG (hn _ h1),nG (hn _ h2),nG (hn _ h3),nG (hn _ h4),nG (hn _ h5),nG (hn _ h6),nG (hn _ h7),nG (hn _ h8),nG h1,nG h2,nG h3,nG h4,nG h5,nG h6,nG h7,nG h8]
theorem Qlq:lvl 1=3/\lvl 2=3/\lvl 3=4/\lvl 4=4/\lvl 5=2/\lvl 6=1/\lvl 7=1/\lvl 8=1/\lvl 9=1/\lvl 10=1/\lvl 11=1:=by decide
theorem Qvk(b c:UInt8):(c==b)=decide (b=c):=by
 by_cases h:b=c
 ·subst h;simp
 ·have h1:(c==b)=false:=beq_eq_false_iff_ne.2 (fun e=>h e.symm);simp[h,h1]
theorem Quz(lv:Int)(h1:1<=lv)(h4:lv<=4)(l:List UInt8):Qrr lv l=if Zg l≠0/\lvl (Zg l)=lv then Zg l else 0:=by
 cases l with
 | nil=>
  have hn:lv=1\/lv=2\/lv=3\/lv=4:=by omega
  rcases hn with rfl | rfl | rfl | rfl<;>decide
 | cons b t=>
  have p1:=Jz 1 43 rfl b t;have p2:=Jz 2 45 rfl b t;have p3:=Jz 3 42 rfl b t;have p4:=Jz 4 47 rfl b t;have p5:=Jz 5 38 rfl b t;have p6:=Jz 6 61 rfl b t;have p7:=Qag 7 60 62 rfl b t
  have p8:=Jz 8 60 rfl b t;have p9:=Qag 9 60 61 rfl b t;have H3:=Jz 10 62 rfl b t;have H2:=Qag 11 62 61 rfl b t;rw[Qvk]at p1 p2 p3 p4 p5 p6 p7 p8 p9 H3 H2;obtain⟨l1,l2,l3,l4,l5,l6,l7,l8,l9,H5,H4⟩:=Qlq;have ho:=Qgn b t
  have hn:lv=1\/lv=2\/lv=3\/lv=4:=by omega
  unfold Qrr Ms Qn7 Qg3 Qg2;rw[p1,p2,p3,p4,p5,p6,p7,p8,p9,H3,H2];by_cases h9:b=43
  ·subst h9;have e:Zg (43::t)=1:=by rw[ho];rfl
   rw[e,l1];rcases hn with rfl | rfl | rfl | rfl<;>simp
  by_cases h8:b=45
  ·subst h8;have e:Zg (45::t)=2:=by rw[ho];rfl
   rw[e,l2];rcases hn with rfl | rfl | rfl | rfl<;>simp
  by_cases H0:b=42
  ·subst H0;have e:Zg (42::t)=3:=by rw[ho];rfl
   rw[e,l3];rcases hn with rfl | rfl | rfl | rfl<;>simp
  by_cases h7:b=47
  ·subst h7;have e:Zg (47::t)=4:=by rw[ho];rfl
   rw[e,l4];rcases hn with rfl | rfl | rfl | rfl<;>simp
  by_cases H1:b=38
  ·subst H1;have e:Zg (38::t)=5:=by rw[ho];rfl
   rw[e,l5];rcases hn with rfl | rfl | rfl | rfl<;>simp
  by_cases h5:b=61
  ·subst h5;have e:Zg (61::t)=6:=by rw[ho];rfl
   rw[e,l6];rcases hn with rfl | rfl | rfl | rfl<;>simp
  by_cases h6:b=60
  ·subst h6;by_cases h2:t.head? =some 62
   ·have e:Zg (60::t)=7:=by rw[ho];simp[h2]
    rw[e,l7];rcases hn with rfl | rfl | rfl | rfl<;>simp[h2]
   by_cases h0:t.head? =some 61
   ·have e:Zg (60::t)=9:=by rw[ho];simp[h2,h0]
    rw[e,l9];rcases hn with rfl | rfl | rfl | rfl<;>simp[h2,h0]
   ·have e:Zg (60::t)=8:=by rw[ho];simp[h2,h0]
    rw[e,l8];rcases hn with rfl | rfl | rfl | rfl<;>simp[h2,h0]
  by_cases h3:b=62
  ·subst h3;by_cases h0:t.head? =some 61
   ·have e:Zg (62::t)=11:=by rw[ho];simp[h0]
    rw[e,H4];rcases hn with rfl | rfl | rfl | rfl<;>simp[h0]
   ·have e:Zg (62::t)=10:=by rw[ho];simp[h0]
    rw[e,H5];rcases hn with rfl | rfl | rfl | rfl<;>simp[h0]
  have e:Zg (b::t)=0:=by rw[ho,nG h9,nG h8,nG H0,nG h7,nG H1,nG h5,nG h6,nG h3]
  rw[e];rcases hn with rfl | rfl | rfl | rfl<;>simp[h9,h8,H0,h7,H1,h5,h6,h3]
end Go.Proofs.YtomadadmakdkgaaGreatDoor
