import Derived.Test.YtbdhinckiccniaaGreatDoorBase
import Derived.Test.YtbdhinckiccniaaGreatDoorGzd
import Derived.Test.YtbdhinckiccniaaGreatDoorMn
set_option linter.unusedSimpArgs false
set_option linter.unusedVariables false
set_option maxHeartbeats 8000000
set_option maxRecDepth 100000
namespace Go.Proofs.YtbdhinckiccniaaGreatDoor
def stk (G:Nat→List Int):Nat→Option (List Int)
 | 0=>some []
 | i+1=>match stk G i with
  | none=>none
  | some s=>if s.drop (s.length-(G i).length)=G i∧(G i).length≤s.length then some (s.take (s.length-(G i).length)++ [(i:Int)])else none
theorem Qjl {G:Nat→List Int} {i:Nat} {p:List Int} (h:stk G i=some (p++G i)):stk G (i+1)=some (p++ [(i:Int)]):=by
 rw [stk,h];simp
theorem OP {G:Nat→List Int} {i:Nat} {s':List Int} (h:stk G (i+1)=some s'): ∃p,stk G i=some (p++G i)∧s'=p++ [(i:Int)]:=by
 rw [stk]at h;cases hs:stk G i with
 | none=>rw [hs]at h;cases h
 | some s=>
  rw [hs]at h;simp only at h;split at h
  ·rename_i hc
   refine⟨s.take (s.length-(G i).length),?_,(Option.some.inj h).symm⟩;have h1:=List.take_append_drop (s.length-(G i).length) s;rw [hc.1]at h1;rw [h1]
  ·cases h
theorem Qbi {G:Nat→List Int} {i j:Nat} (h:stk G i=none) (hij:i≤j):stk G j=none:=by
 induction hij with
 | refl=>exact h
 | step _ ih=>rw [stk,ih]
def QO (T:Int→Int) (at0:Int):List Int→Int
 | []=>at0+1
 | k::ks=>if at0<0∨k≠at0 then-1 else if T at0<0 then-1 else QO T (T at0-1) ks
def Hg (G:Nat→List Int):Nat→Int→Int
 | 0,_=> -1
 | fuel+1,i=>QO (Hg G fuel) (i-1) (G i.toNat).reverse
def Cov (T:Int→Int):List Int→Int→Prop
 | [],e=>e=0
 | r::s,e=>e=r+1∧0≤r∧0≤T r∧T r≤r∧Cov T s (T r)
theorem Cov.nonneg {T:Int→Int}: ∀{s:List Int} {e:Int},Cov T s e→0≤e
 | [],_,h=>by rw [Cov]at h;omega
 | r::s,_,h=>by rw [Cov]at h;omega
theorem Cov.mem {T:Int→Int}: ∀{s:List Int} {e:Int},Cov T s e→ ∀x∈s,0≤x∧x<e
 | [],_,_,x,hx=>by cases hx
 | r::s,e,h,x,hx=>by
  rw [Cov]at h;rcases List.mem_cons.1 hx with rfl | hx
  ·omega
  ·have:=Cov.mem h.2.2.2.2 x hx;omega
theorem Qb3 {T:Int→Int}: ∀(ks s:List Int) (e:Int),Cov T (ks++s) e→ ∃a,QO T (e-1) ks=a∧0≤a∧a≤e∧Cov T s a
 | [],s,e,h=>⟨e,by simp [QO],h.nonneg,Int.le_refl _,h⟩
 | k::ks,s,e,h=>by
  rw [List.cons_append,Cov]at h;obtain⟨rfl,h0,h1,h2,h3⟩:=h;obtain⟨a,ha,a0,a1,a2⟩:=Qb3 ks s _ h3;refine⟨a,?_,a0,by omega,a2⟩;rw [QO,if_neg (by omega),show k+1-1=k by omega,if_neg (by omega)];exact ha
theorem Dr {T:Int→Int} (hT: ∀x,0≤x→0≤T x→T x≤x): ∀(ks s:List Int) (e a:Int),0≤e→QO T (e-1) ks=a→0≤a→(Cov T s a→Cov T (ks++s) e)∧a≤e∧(∀k∈ks,0≤k∧k<e∧0≤T k)
 | [],s,e,a,_,h,ha=>by
  rw [QO]at h;have:a=e:=by omega
  subst this;exact⟨fun h=>h,Int.le_refl _,fun k hk=>by cases hk⟩
 | k::ks,s,e,a,he,h,ha=>by
  rw [QO]at h;split at h
  ·omega
  ·rename_i hc
   split at h
   ·omega
   ·rename_i hc2
    have hk:k=e-1:=by omega
    rw [hk];have hle:=hT (e-1) (by omega) (by omega);obtain⟨h1,h2,h3⟩:=Dr hT ks s (T (e-1)) a (by omega) h ha;refine⟨fun hc=> ?_,by omega,fun x hx=> ?_⟩
    ·rw [List.cons_append,Cov];exact⟨by omega,by omega,by omega,by omega,h1 hc⟩
    ·rcases List.mem_cons.1 hx with rfl | hx
     ·exact⟨by omega,by omega,by omega⟩
     ·have:=h3 x hx;exact⟨by omega,by omega,this.2.2⟩
theorem Ku {T T':Int→Int} {B:Int} (hT: ∀x,0≤x→x<B→T x=T' x) (hle: ∀x,0≤x→x<B→T x≤x): ∀(ks:List Int) (at0:Int),at0<B→QO T at0 ks=QO T' at0 ks
 | [],_,_=>rfl
 | k::ks,at0,h=>by
  rw [QO,QO];by_cases hc:at0<0∨k≠at0
  ·rw [if_pos hc,if_pos hc]
  ·have h0:0≤at0:=by omega
   rw [if_neg hc,if_neg hc,←hT at0 h0 h];by_cases h2:T at0<0
   ·rw [if_pos h2,if_pos h2]
   ·have:=hle at0 h0 h;rw [if_neg h2,if_neg h2,Ku hT hle ks _ (by omega)]
theorem Qgb {T:Int→Int} (hle: ∀x,0≤x→T x≤x): ∀(ks:List Int) (at0:Int),QO T at0 ks≤at0+1∨QO T at0 ks= -1
 | [],at0=>Or.inl (by rw [QO];omega)
 | k::ks,at0=>by
  rw [QO];split
  ·exact Or.inr rfl
  ·rename_i hc
   split
   ·exact Or.inr rfl
   ·rename_i h2
    have:=hle at0 (by omega);rcases Qgb hle ks (T at0-1)with h | h
    ·left;omega
    ·exact Or.inr h
theorem Mc (G:Nat→List Int): ∀(fuel:Nat) (x:Int),0≤x→Hg G fuel x≤x
 | 0,x,h=>by rw [Hg];omega
 | fuel+1,x,h=>by
  rw [Hg];rcases Qgb (Mc G fuel) (G x.toNat).reverse (x-1)with h1 | h1
  ·omega
  ·omega
theorem Oz (G:Nat→List Int): ∀(f f':Nat) (x:Int),0≤x→x<f→x<f'→Hg G f x=Hg G f' x
 | 0,_,x,h0,h,_=>by omega
 | _+1,0,x,h0,_,h=>by omega
 | f+1,f'+1,x,h0,h,h'=>by
  rw [Hg,Hg];exact Ku (B:=x) (fun y hy0 hy=>Oz G f f' y hy0 (by omega) (by omega)) (fun y hy0 _=>Mc G f y hy0) _ _ (by omega)
def ZN (G:Nat→List Int) (i:Int):Int:=Hg G (i.toNat+1) i
theorem Hy (G:Nat→List Int) (i:Int) (h:0≤i):ZN G i=QO (ZN G) (i-1) (G i.toNat).reverse:=by
 rw [ZN,Hg];exact Ku (B:=i) (fun y hy0 hy=>Oz G _ _ y hy0 (by omega) (by omega)) (fun y hy0 _=>Mc G _ y hy0) _ _ (by omega)
theorem Xo (G:Nat→List Int) (i:Int) (h:0≤i):ZN G i≤i:=Mc G _ i h
theorem BT (G:Nat→List Int): ∀(i:Nat) (s:List Int),stk G i=some s→Cov (ZN G) s.reverse i∧(∀j,j<i→ ∀k∈G j,0≤k∧k<j)
 | 0,s,h=>by
  rw [stk]at h;cases h
  exact⟨rfl,fun j hj=>by omega⟩
 | i+1,s',h=>by
  obtain⟨p,hp,rfl⟩:=OP h;obtain⟨hc,hk⟩:=BT G i _ hp;rw [List.reverse_append]at hc;obtain⟨a,ha,a0,a1,a2⟩:=Qb3 _ _ _ hc;have ht:ZN G i=a:=by rw [Hy G i (by omega)];simpa using ha
  refine⟨?_,fun j hj=> ?_⟩
  ·rw [List.reverse_append];show Cov (ZN G) ((i:Int)::p.reverse) _;rw [Cov,ht];exact⟨by omega,by omega,a0,a1,a2⟩
  ·by_cases e:j=i
   ·subst e;intro k hk';exact hc.mem k (List.mem_append_left _ (List.mem_reverse.2 hk'))
   ·exact hk j (by omega)
theorem Qbe (G:Nat→List Int): ∀(m:Nat) (i:Nat) (a:Nat) (p:List Int),i<m→ZN G i=(a:Int)→stk G a=some p→stk G (i+1)=some (p++ [(i:Int)])
 | 0,i,_,_,h,_,_=>by omega
 | m+1,i,a,p,hi,ht,hp=>by
  have key: ∀(ks:List Int) (e:Nat),e≤i→QO (ZN G) ((e:Int)-1) ks=(a:Int)→stk G e=some (p++ks.reverse):=by
   intro ks;induction ks with
   | nil=>
    intro e he h;rw [QO]at h;obtain rfl:e=a:=by omega
    simpa using hp
   | cons k ks ih=>
    intro e he h;rw [QO]at h;split at h
    ·omega
    ·rename_i hc
     split at h
     ·omega
     ·rename_i h2
      have hle:=Xo G ((e:Int)-1) (by omega);obtain⟨b,hb⟩: ∃b:Nat,ZN G ((e:Int)-1)=(b:Int):=⟨(ZN G ((e:Int)-1)).toNat,by omega⟩;rw [hb]at h hle;have h3:=ih b (by omega) h;obtain⟨e',rfl⟩: ∃e',e=e'+1:=⟨e-1,by omega⟩;have e1:((e'+1:Nat):Int)-1=(e':Int):=by omega
      rw [e1]at hb;have h4:=Qbe G m e' b _ (by omega) hb h3;rw [h4,List.reverse_cons,List.append_assoc];have:k=(e':Int):=by omega
      rw [this]
  rw [Hy G i (by omega)]at ht;have h5:=key _ i (Nat.le_refl _) (by simpa using ht);rw [List.reverse_reverse]at h5;exact Qjl h5
theorem Qbh (G:Nat→List Int) (n:Nat):(∃x,stk G (n+1)=some [x])↔ZN G n=0:=by
 constructor
 ·rintro⟨x,h⟩;obtain⟨p,hp,e⟩:=OP h;obtain⟨hc,_⟩:=BT G (n+1) _ h
  have hp0:p= []∧x=(n:Int):=by
   cases p with
   | nil=>simp at e;exact⟨rfl,e⟩
   | cons y p=>cases p<;>simp at e
  obtain⟨rfl,rfl⟩:=hp0;have hc':Cov (ZN G) [(n:Int)] ((n+1:Nat):Int):=hc;rw [Cov,Cov]at hc';omega
 ·intro h;exact⟨_,by simpa using Qbe G (n+1) n 0 [] (by omega) (by simpa using h) rfl⟩
def VK (D:Int→Int) (d:Int) (ks:List Int):Int:=ks.foldl (fun d k=>max d (D k)) d
theorem VJ {D:Int→Int}: ∀(ks:List Int) (d b:Int),VK D d ks≤b↔d≤b∧ ∀k∈ks,D k≤b
 | [],d,b=>by simp [VK]
 | k::ks,d,b=>by
  show VK D (max d (D k)) ks≤b↔_;rw [VJ ks];simp only [List.mem_cons,forall_eq_or_imp];constructor
  ·rintro⟨h1,h2⟩;exact⟨by omega,by omega,h2⟩
  ·rintro⟨h1,h2,h3⟩;exact⟨by omega,h3⟩
theorem Kt {D D':Int→Int}: ∀(ks:List Int) (d:Int),(∀k∈ks,D k=D' k)→VK D d ks=VK D' d ks
 | [],_,_=>rfl
 | k::ks,d,h=>by
  show VK D (max d (D k)) ks=VK D' (max d (D' k)) ks;rw [h k List.mem_cons_self];exact Kt ks _ (fun x hx=>h x (List.mem_cons_of_mem _ hx))
def Ut (G:Nat→List Int):Nat→Int→Int
 | 0,_=>1
 | fuel+1,i=>VK (Ut G fuel) 0 (G i.toNat)+1
def QM (G:Nat→List Int) (n:Nat):Prop:= ∀j,j<n→ ∀k∈G j,0≤k∧k<(j:Int)
theorem DD {G:Nat→List Int} {n:Nat} (hG:QM G n): ∀(f f':Nat) (x:Int),0≤x→x<n→x<f→x<f'→Ut G f x=Ut G f' x
 | 0,_,x,h0,_,h,_=>by omega
 | _+1,0,x,h0,_,_,h=>by omega
 | f+1,f'+1,x,h0,hn,h,h'=>by
  rw [Ut,Ut,Kt _ _ (fun k hk=> ?_)];have:=hG x.toNat (by omega) k hk;exact DD hG f f' k (by omega) (by omega) (by omega) (by omega)
def ZJ (G:Nat→List Int) (i:Int):Int:=Ut G (i.toNat+1) i
theorem MQ {G:Nat→List Int} {n:Nat} (hG:QM G n) (i:Int) (h:0≤i) (hn:i<n):ZJ G i=VK (ZJ G) 0 (G i.toNat)+1:=by
 rw [ZJ,Ut,Kt _ _ (fun k hk=> ?_)];have:=hG i.toNat (by omega) k hk;exact DD hG _ _ k (by omega) (by omega) (by omega) (by omega)
theorem Qpu {D:Int→Int} (ks:List Int) (d:Int):d≤VK D d ks:=((VJ ks d _).1 (Int.le_refl _)).1
theorem Nr (G:Nat→List Int) (i:Int):1≤ZJ G i:=by
 rw [ZJ,Ut];have:=Qpu (D:=Ut G i.toNat) (G i.toNat) 0;omega
def Me (G:Nat→List Int) (arr:Nat→Int) (i:Nat):Option (Nat→Int):=if 12≤arr i then none else some (fun j=>if(j:Int)∈G i then arr i+1 else arr j)
def XC (G:Nat→List Int):(Nat→Int)→Nat→Nat→Option (Nat→Int)
 | arr,_,0=>some arr
 | arr,e,t+1=>match Me G arr (e-1)with
  | none=>none
  | some a=>XC G a (e-1) t
theorem Vb (G:Nat→List Int): ∀(s t:Nat) (arr:Nat→Int) (e:Nat),XC G arr e (s+t)=(XC G arr e s).bind fun a=>XC G a (e-s) t
 | 0,t,arr,e=>by rw [Nat.zero_add];rfl
 | s+1,t,arr,e=>by
  rw [show s+1+t=(s+t)+1 by omega,XC,XC];cases Me G arr (e-1)with
  | none=>rfl
  | some a=>
   show XC G a (e-1) (s+t)=_;rw [Vb G s t a (e-1),show e-1-s=e-(s+1) by omega]
theorem El {T:Int→Int} (hT: ∀x,0≤x→T x≤x): ∀(ks:List Int) (e a:Int),QO T (e-1) ks=a→0≤a→a≤e∧ ∀k∈ks,a≤k
 | [],e,a,h,_=>⟨by rw [QO]at h;omega,fun k hk=>by cases hk⟩
 | k::ks,e,a,h,ha=>by
  rw [QO]at h;split at h
  ·omega
  ·rename_i hc
   split at h
   ·omega
   ·have hle:=hT (e-1) (by omega);obtain⟨h1,h2⟩:=El hT ks (T (e-1)) a h ha;refine⟨by omega,fun x hx=> ?_⟩;rcases List.mem_cons.1 hx with rfl | hx
    ·omega
    ·exact h2 x hx
theorem Dl {G:Nat→List Int} {n:Nat} (hG:QM G n): ∀(m i a:Nat) (arr:Nat→Int),i<m→i<n→ZN G i=(a:Int)→
  (12<arr i+ZJ G i→XC G arr (i+1) (i+1-a)=none)∧(arr i+ZJ G i≤12→ ∃arr',XC G arr (i+1) (i+1-a)=some arr'∧ ∀j,j<a→arr' j=arr j)
 | 0,i,_,_,h,_,_=>by omega
 | m+1,i,a,arr,hi,hn,ht=>by
  have htl:ZN G i≤i:=Xo G i (by omega);have hd:=MQ hG i (by omega) (by omega);have hdp:=Nr G i;rw [Hy G i (by omega)]at ht
  have key: ∀(ks:List Int) (e:Nat) (arr1:Nat→Int) (d:Int),e≤i→QO (ZN G) ((e:Int)-1) ks=(a:Int)→(∀k∈ks,arr1 k.toNat=d)→
    ((∃k∈ks,12<d+ZJ G k)→XC G arr1 e (e-a)=none)∧((∀k∈ks,d+ZJ G k≤12)→ ∃arr',XC G arr1 e (e-a)=some arr'∧ ∀j,j<a→arr' j=arr1 j):=by
   intro ks;induction ks with
   | nil=>
    intro e arr1 d he h _;rw [QO]at h;obtain rfl:e=a:=by omega
    rw [Nat.sub_self];refine⟨?_,fun _=>⟨arr1,rfl,fun _ _=>rfl⟩⟩;rintro⟨k,hk,_⟩;cases hk
   | cons k ks ih=>
    intro e arr1 d he h hk;rw [QO]at h;split at h
    ·omega
    ·rename_i hc
     split at h
     ·omega
     ·rename_i h2
      have hle:=Xo G ((e:Int)-1) (by omega);obtain⟨b,hb⟩: ∃b:Nat,ZN G ((e:Int)-1)=(b:Int):=⟨(ZN G ((e:Int)-1)).toNat,by omega⟩;rw [hb]at h hle;obtain⟨e',rfl⟩: ∃e',e=e'+1:=⟨e-1,by omega⟩;have e1:((e'+1:Nat):Int)-1=(e':Int):=by omega
      rw [e1]at hb;have hke:k=(e':Int):=by omega
      subst hke;obtain⟨g1,g2⟩:=El (fun x hx=>Xo G x hx) ks (b:Int) a h (by omega);obtain⟨_,_,g3⟩:=Dr (fun x hx _=>Xo G x hx) ks [] (b:Int) a (by omega) h (by omega);have hd1:arr1 e'=d:=by simpa using hk (e':Int) List.mem_cons_self
      obtain⟨p1,p2⟩:=Dl hG m e' b arr1 (by omega) (by omega) hb;have hs:e'+1-a=(e'+1-b)+(b-a):=by omega
      rw [hs];constructor
      ·rintro⟨x,hx,hx2⟩;rw [Vb];by_cases hz:12<d+ZJ G e'
       ·rw [p1 (by rw [hd1];exact hz)];rfl
       ·obtain⟨arr2,q1,q2⟩:=p2 (by rw [hd1];omega);rw [q1];rcases List.mem_cons.1 hx with rfl | hx
        ·exact absurd hx2 hz
        ·rw [show e'+1-(e'+1-b)=b by omega];exact(ih b arr2 d (by omega) h (fun y hy=>by rw [q2 _ (by have:=g3 y hy;omega)];exact hk y (List.mem_cons_of_mem _ hy))).1 ⟨x,hx,hx2⟩
      ·intro hall;rw [Vb];obtain⟨arr2,q1,q2⟩:=p2 (by rw [hd1];exact hall _ List.mem_cons_self);rw [q1];obtain⟨arr3,r1,r2⟩:=(ih b arr2 d (by omega) h (fun y hy=>by rw [q2 _ (by have:=g3 y hy;omega)];exact hk y (List.mem_cons_of_mem _ hy))).2 (fun y hy=>hall y (List.mem_cons_of_mem _ hy));refine⟨arr3,?_,fun j hj=>by rw [r2 j hj,q2 j (by omega)]⟩;rw [show e'+1-(e'+1-b)=b by omega]
       exact r1
  have hti:(i:Int).toNat=i:=by simp
  rw [hti]at hd ht;obtain⟨g1,g2⟩:=El (fun x hx=>Xo G x hx) _ (i:Int) a ht (by omega);have hs:i+1-a=(i-a)+1:=by omega
  rw [hs,XC,show i+1-1=i by omega];by_cases h12:12≤arr i
  ·have e1:Me G arr i=none:=by rw [Me,if_pos h12]
   rw [e1];exact⟨fun _=>rfl,fun h=>by omega⟩
  ·have e1:Me G arr i=some (fun j:Nat=>if(j:Int)∈G i then arr i+1 else arr j):=by rw [Me,if_neg h12]
   rw [e1]
   have hk1: ∀k∈(G i).reverse,(fun j:Nat=>if(j:Int)∈G i then arr i+1 else arr j) k.toNat=arr i+1:=fun k hk=>by
    have hr:=hG i hn k (List.mem_reverse.1 hk);show(if((k.toNat:Nat):Int)∈G i then arr i+1 else arr k.toNat)=_;rw [if_pos (by rw [Int.toNat_of_nonneg hr.1];exact List.mem_reverse.1 hk)]
   obtain⟨k1,k2⟩:=key _ i (fun j:Nat=>if(j:Int)∈G i then arr i+1 else arr j) (arr i+1) (Nat.le_refl _) ht hk1;constructor
   ·intro h;refine k1 ?_;apply Classical.byContradiction;intro hno
    have hle:VK (ZJ G) 0 (G i)≤11-arr i:=(VJ _ _ _).2 ⟨by omega,fun k hk=>by
     apply Classical.byContradiction;intro h3
     exact hno ⟨k,List.mem_reverse.2 hk,by omega⟩⟩
    omega
   ·intro h;have hle:VK (ZJ G) 0 (G i)≤11-arr i:=by omega
    have hal:=((VJ _ _ _).1 hle).2;obtain⟨arr',r1,r2⟩:=k2 (fun k hk=>by have:=hal k (List.mem_reverse.1 hk);omega);refine⟨arr',r1,fun j hj=> ?_⟩;rw [r2 j hj];show(if(j:Int)∈G i then arr i+1 else arr j)=_;rw [if_neg];intro hm
    have:=g2 _ (List.mem_reverse.2 hm);omega
theorem Qhq {G:Nat→List Int} {n:Nat} (hG:QM G (n+1)) (ht:ZN G n=0):(∃a,XC G (fun _=>0) (n+1) (n+1)=some a)↔ZJ G n≤12:=by
 obtain⟨h1,h2⟩:=Dl hG (n+1) n 0 (fun _=>0) (by omega) (by omega) (by simpa using ht);constructor
 ·rintro⟨a,ha⟩;apply Classical.byContradiction;intro h;have:=h1 (by simp;omega);rw [Nat.sub_zero,ha]at this;cases this
 ·intro h;obtain⟨a,ha,_⟩:=h2 (by simp;omega);exact⟨a,by simpa using ha⟩
end Go.Proofs.YtbdhinckiccniaaGreatDoor
namespace Go.Proofs.YtbdhinckiccniaaGreatDoor
open Go.RowKit
theorem Qga {T:Int→Int}: ∀(ks:List Int) (at0:Int),-1≤at0→ -1≤QO T at0 ks
 | [],at0,h=>by rw [QO];omega
 | k::ks,at0,h=>by
  rw [QO];split
  ·omega
  ·split
   ·omega
   ·exact Qga ks _ (by omega)
theorem Qn7 (G:Nat→List Int) (i:Int) (h:0≤i): -1≤ZN G i:=by rw [Hy G i h];exact Qga _ _ (by omega)
theorem Qjh (ks:List Int) (s:Nat) (h:s<ks.length):(ks.take (s+1)).reverse=ks.getD s 0::(ks.take s).reverse:=by
 rw [List.take_succ_eq_append_getElem h,List.reverse_append,List.getD_eq_getElem?_getD,List.getElem?_eq_getElem h];rfl
theorem Qgr {G:Nat→List Int} {n:Nat} (hG:QM G n): ∀(m:Nat) (i:Int),0≤i→i<m→i<n→ZJ G i≤i+1
 | 0,i,h0,h,_=>by omega
 | m+1,i,h0,h,hn=>by
  rw [MQ hG i h0 hn]
  have:VK (ZJ G) 0 (G i.toNat)≤i:=(VJ _ _ _).2 ⟨h0,fun k hk=>by
   have hr:=hG i.toNat (by omega) k hk;have:=Qgr hG m k (by omega) (by omega) (by omega)
   omega⟩
  omega
theorem Qh3 (D:Int→Int) (ks:List Int) (s:Nat) (h:s<ks.length):VK D 0 (ks.take (s+1))=max (VK D 0 (ks.take s)) (D (ks.getD s 0)):=by
 rw [List.take_succ_eq_append_getElem h,VK,List.foldl_append,List.getD_eq_getElem?_getD,List.getElem?_eq_getElem h];rfl
theorem JA {W:World} {A:Option Addr} {n:Nat} {F:Nat→FN} (h:FnRow W A n F) (i:Nat) (hi:i<n): ∃b o KA kc,A=some ⟨b,o,none⟩∧b<W.heap.size∧W.cell? ⟨b,o+i*14+13,none⟩=some (.slice KA (F i).kids.length kc)∧W.cell? ⟨b,o+i*14,none⟩=some (.int .i64 (F i).k)∧IntRow W KA (F i).kids:=by
 obtain⟨b,o,KA,kc,e,hl,hnd,hk,_⟩:=h.2 i hi;obtain⟨c0,_,_,_,_,_,_,_,_,_,_,_,_,c13⟩:=hnd;exact⟨b,o,KA,kc,e,hl,c13,c0,hk⟩
theorem JX {A:Option Addr} {n cap:Nat} {F:Nat→FN} (w:World) (HR:Hid (FnRow w A n F)) (hn:n≤1048576) (hkn: ∀i,i<n→(F i).kids.length≤1048576): ∀(m:Nat) (i:Nat),i<m→i<n→
  Calls Tryz.prog 218 #[.slice A n cap,.int .i64 i] w fun e w'=>e= .returned (.int .i64 (ZN (fun j=>(F j).kids) i))∧w'=w:=by
 intro m;induction m with
 | zero=>intro i h;omega
 | succ m ih=>
  intro i him hin;have IH:Hid (∀(i:Nat),i<m→i<n→Calls Tryz.prog 218 #[.slice A n cap,.int .i64 i] w fun e w'=>e= .returned (.int .i64 (ZN (fun j=>(F j).kids) i))∧w'=w):=ih;clear ih;obtain⟨b,o,KA,kc,rfl,hl,ck,_,hki⟩:=JA HR.out i hin;obtain⟨ks,HKS⟩: ∃ks,Hid ((F i).kids=ks):=⟨_,rfl⟩;have hkl:=hkn i hin;rw [HKS.out]at ck hki hkl
  have HKI:Hid (IntRow w KA ks):=hki;obtain⟨kl,HKL⟩: ∃kl,Hid (ks.length=kl):=⟨_,rfl⟩;rw [HKL.out]at ck hkl
  have HT:Hid (ZN (fun j=>(F j).kids) (i:Int)=QO (ZN (fun j=>(F j).kids)) ((i:Int)-1) ks.reverse):=by
   show _=_;rw [Hy _ _ (by omega)];simp [HKS.out]
  clear hki hkn;have p0:(0:Int)≤(i:Int):=by omega
  have p1:(i:Int)<(n:Int):=by omega
  go_enter Tryz.func218,Tryz.ntmps218;go_wp2_with fail
  go_loop [5,6,7] (fun va vi _v=> ∃(t:Nat) (at0:Int),t≤kl∧vi= .int .i64 ((t:Int)-1)∧va= .int .i64 at0∧ -1≤at0∧at0<i∧QO (ZN (fun j=>(F j).kids)) ((i:Int)-1) ks.reverse=QO (ZN (fun j=>(F j).kids)) at0 (ks.take t).reverse) (fun _ vi _=>(intOf vi+1).toNat)
  case atStart=>exact⟨kl,(i:Int)-1,Nat.le_refl _,rfl,rfl,by omega,by omega,by rw [List.take_of_length_le (by rw [HKL.out];exact Nat.le_refl _)]⟩
  case round=>
   obtain⟨t,at0,ht,rfl,rfl,ha1,ha2,hlp⟩:=hrel;have HLP:Hid (QO (ZN (fun j=>(F j).kids)) ((i:Int)-1) ks.reverse=QO (ZN (fun j=>(F j).kids)) at0 (ks.take t).reverse):=hlp;clear hlp;match t,ht,HLP with
   | 0,ht,HLP=>
    go_wp2_with fail
    go_ret;exact⟨QY (by rw [HT.out,HLP.out];simp [QO]),rfl⟩
   | s+1,ht,HLP=>
    have hs:s<ks.length:=by rw [HKL.out];omega
    have HLP2:Hid (QO (ZN (fun j=>(F j).kids)) ((i:Int)-1) ks.reverse=QO (ZN (fun j=>(F j).kids)) at0 (ks.getD s 0::(ks.take s).reverse)):=by rw [←Qjh ks s hs];exact HLP.out
    clear HLP;obtain⟨b',o',rfl,hl',c1⟩:=HKI.out.2 s hs;obtain⟨z,HZ⟩: ∃z,Hid (ks.getD s 0=z):=⟨_,rfl⟩;rw [HZ.out]at c1;have s0:(0:Int)≤(s:Int):=by omega
    have s1:(s:Int)<(kl:Int):=by omega
    have s2:(0:Int)≤(s:Int)+1-1:=by omega
    by_cases hneg:at0<0
    ·go_wp2_with fail
     go_ret;exact⟨QY (by rw [HT.out,HLP2.out,QO,if_pos (Or.inl hneg)]),rfl⟩
    have hpos:0≤at0:=by omega
    by_cases hz:z=at0
    rotate_left
    ·have hzn:(z !=at0)=true:=by simpa using hz
     have hzn2: ¬z=at0:=hz;go_wp2_with fail
     go_ret;exact⟨QY (by rw [HT.out,HLP2.out,QO,HZ.out,if_pos (Or.inr hz)]),rfl⟩
    subst hz;obtain⟨a,rfl⟩: ∃a:Nat,z=(a:Int):=⟨z.toNat,by omega⟩;have htl:=Qn7 (fun j=>(F j).kids) (a:Int) (by omega);have hth:=Xo (fun j=>(F j).kids) (a:Int) (by omega)
    have HLP3:Hid (QO (ZN (fun j=>(F j).kids)) ((i:Int)-1) ks.reverse=if ZN (fun j=>(F j).kids) (a:Int)<0 then-1 else QO (ZN (fun j=>(F j).kids)) (ZN (fun j=>(F j).kids) (a:Int)-1) (ks.take s).reverse):=by
     show _=_;rw [HLP2.out,HZ.out,QO,if_neg (by omega)]
    clear HLP2;obtain⟨y,HY⟩: ∃y,Hid (ZN (fun j=>(F j).kids) (a:Int)=y):=⟨_,rfl⟩;rw [HY.out]at htl hth;by_cases hy:y<0
    ·go_wp2_with (go_at_call 218;refine(IH.out a (by omega) (by omega)).mono ?_;rintro e w1 ⟨rfl,hw⟩;subst hw;rw [HY.out])
     go_ret;exact⟨QY (by rw [HT.out,HLP3.out,HY.out,if_pos hy]),rfl⟩
    ·go_wp2_with (go_at_call 218;refine(IH.out a (by omega) (by omega)).mono ?_;rintro e w1 ⟨rfl,hw⟩;subst hw;rw [HY.out])
     go_round
     case rel=>exact⟨s,y-1,by omega,by first | rfl | (congr 1;omega),rfl,by omega,by omega,by rw [HLP3.out,HY.out,if_neg (by omega)]⟩
     case measure=>first | (simp [intOf];done) | (simp [intOf];omega)
theorem Qal {A:Option Addr} {n cap:Nat} {F:Nat→FN} (w:World) (HR:Hid (FnRow w A n F)) (hn:n≤1048576) (hkn: ∀i,i<n→(F i).kids.length≤1048576) (HG:Hid (QM (fun j=>(F j).kids) n)): ∀(m:Nat) (i:Nat),i<m→i<n→
  Calls Tryz.prog 219 #[.slice A n cap,.int .i64 i] w fun e w'=>e= .returned (.int .i64 (ZJ (fun j=>(F j).kids) i))∧w'=w:=by
 intro m;induction m with
 | zero=>intro i h;omega
 | succ m ih=>
  intro i him hin;have IH:Hid (∀(i:Nat),i<m→i<n→Calls Tryz.prog 219 #[.slice A n cap,.int .i64 i] w fun e w'=>e= .returned (.int .i64 (ZJ (fun j=>(F j).kids) i))∧w'=w):=ih;clear ih;obtain⟨b,o,KA,kc,rfl,hl,ck,_,hki⟩:=JA HR.out i hin;obtain⟨ks,HKS⟩: ∃ks,Hid ((F i).kids=ks):=⟨_,rfl⟩;have hkl:=hkn i hin;rw [HKS.out]at ck hki hkl
  have HKI:Hid (IntRow w KA ks):=hki;obtain⟨kl,HKL⟩: ∃kl,Hid (ks.length=kl):=⟨_,rfl⟩;rw [HKL.out]at ck hkl
  have HD:Hid (ZJ (fun j=>(F j).kids) (i:Int)=VK (ZJ (fun j=>(F j).kids)) 0 ks+1):=by
   show _=_;rw [MQ HG.out _ (by omega) (by omega)];simp [HKS.out]
  clear hki hkn;have p0:(0:Int)≤(i:Int):=by omega
  have p1:(i:Int)<(n:Int):=by omega
  go_enter Tryz.func219,Tryz.ntmps219;go_wp2_with fail
  go_loop [5,6] (fun vd vi=> ∃(t:Nat) (d:Int),t≤kl∧vi= .int .i64 (t:Int)∧vd= .int .i64 d∧0≤d∧d≤i∧d=VK (ZJ (fun j=>(F j).kids)) 0 (ks.take t)) (fun _ vi=>kl-(intOf vi).toNat)
  case atStart=>exact⟨0,0,Nat.zero_le _,rfl,rfl,by omega,by omega,rfl⟩
  case round=>
   obtain⟨t,d,ht,rfl,rfl,hd0,hd1,hd⟩:=hrel;have HDD:Hid (d=VK (ZJ (fun j=>(F j).kids)) 0 (ks.take t)):=hd;clear hd;by_cases hlt:t<kl
   ·have hs:t<ks.length:=by rw [HKL.out];exact hlt
    obtain⟨b',o',rfl,hl',c1⟩:=HKI.out.2 t hs;have hmem:ks.getD t 0∈ks:=by rw [List.getD_eq_getElem?_getD,List.getElem?_eq_getElem hs];exact List.getElem_mem hs
    have hr:=HG.out i hin (ks.getD t 0) (by show _∈(F i).kids;rw [HKS.out];exact hmem);obtain⟨a,HA⟩: ∃a:Nat,Hid (ks.getD t 0=(a:Int)):=⟨(ks.getD t 0).toNat,by show _=_;omega⟩;have hai:(a:Int)<i:=by rw [HA.out]at hr;exact hr.2
    rw [HA.out]at c1;clear hmem hr;have hdp:=Nr (fun j=>(F j).kids) (a:Int);have hdl:=Qgr HG.out (a+1) (a:Int) (by omega) (by omega) (by omega);have HM:=Qh3 (ZJ (fun j=>(F j).kids)) ks t hs;rw [HA.out,←HDD.out]at HM;obtain⟨y,HY⟩: ∃y,Hid (ZJ (fun j=>(F j).kids) (a:Int)=y):=⟨_,rfl⟩
    rw [HY.out]at hdp hdl HM;have HM2:Hid (VK (ZJ (fun j=>(F j).kids)) 0 (ks.take (t+1))=max d y):=HM;clear HM;have s0:(0:Int)≤(t:Int):=by omega
    have s1:(t:Int)<(kl:Int):=by omega
    by_cases hy:d<y
    ·go_wp2_with (go_at_call 219;refine(IH.out a (by omega) (by omega)).mono ?_;rintro e w1 ⟨rfl,hw⟩;subst hw;rw [HY.out])
     all_goals
      go_round
      case rel=>exact⟨t+1,y,by omega,by first | rfl | go_num,by first | rfl | (congr 1;omega),by omega,by omega,by rw [HM2.out];omega⟩
      case measure=>first | (simp [intOf];done) | (simp [intOf];omega)
    ·go_wp2_with (go_at_call 219;refine(IH.out a (by omega) (by omega)).mono ?_;rintro e w1 ⟨rfl,hw⟩;subst hw;rw [HY.out])
     all_goals
      go_round
      case rel=>exact⟨t+1,d,by omega,by first | rfl | go_num,by first | rfl | (congr 1;omega),by omega,by omega,by rw [HM2.out];omega⟩
      case measure=>first | (simp [intOf];done) | (simp [intOf];omega)
   ·have s1: ¬(t:Int)<(kl:Int):=by omega
    obtain rfl:t=kl:=by omega
    go_wp2_with fail
    go_ret;exact⟨QY (by rw [HD.out,HDD.out,List.take_of_length_le (by rw [HKL.out];exact Nat.le_refl _)]),rfl⟩
theorem Bo {A A':Option Addr} {cap cap':Nat} {l l':List Int} (d:Bool) (w:World) (h:IntRow w A l) (h':IntRow w A' l') (HD:Hid (decide (l=l')=d)):
  Calls Tryz.prog 255 #[.slice A l.length cap,.slice A' l'.length cap'] w fun e w'=>e= .returned (.bool d)∧Below w.heap.size w w':=by
 have HR:Hid (IntRow w A l):=h;have HR':Hid (IntRow w A' l'):=h';have hn:=h.1;have hn':=h'.1;unfold maxLen at hn hn';clear h h';obtain⟨n,HL⟩: ∃n,Hid (l.length=n):=⟨_,rfl⟩
 obtain⟨n',HL'⟩: ∃n,Hid (l'.length=n):=⟨_,rfl⟩;rw [HL.out]at hn ⊢;rw [HL'.out]at hn' ⊢;by_cases hq:n=n'
 rotate_left
 ·have hne:((n:Int) !=(n':Int))=true:=by simp;omega
  have HF:Hid (d=false):=by
   show _=_;rw [←HD.out];simp only [decide_eq_false_iff_not];intro e;exact hq (by rw [←HL.out,←HL'.out,e])
  go_enter Tryz.func255,Tryz.ntmps255;go_wp2_with fail
  go_ret;exact⟨Qb HF.out.symm,by go_grown⟩
 subst hq;go_enter Tryz.func255,Tryz.ntmps255;go_wp2_with fail
 go_loopw [13] (fun i wr=> ∃k:Nat,k≤n∧i= .int .i64 k∧(∀j,j<k→l.getD j 0=l'.getD j 0)∧Below w.heap.size w wr) (fun i _=>n-(intOf i).toNat)
 case atStart=>exact⟨0,Nat.zero_le _,rfl,fun j hj=>by omega,Below.refl _ _⟩
 case round=>
  obtain⟨k,hk,rfl,hsm,hbel⟩:=hrel;have HSM:Hid (∀j,j<k→l.getD j 0=l'.getD j 0):=hsm;clear hsm;by_cases hlt:k<n
  ·obtain⟨b,o,rfl,hl,c0⟩:=HR.out.2 k (by rw [HL.out];exact hlt);obtain⟨b',o',rfl,hl',c0'⟩:=HR'.out.2 k (by rw [HL'.out];exact hlt);rw [←hbel.cell (p:=⟨_,_,none⟩) hl]at c0;rw [←hbel.cell (p:=⟨_,_,none⟩) hl']at c0';obtain⟨z,HZ⟩: ∃z,Hid (l.getD k 0=z):=⟨_,rfl⟩;obtain⟨z',HZ'⟩: ∃z,Hid (l'.getD k 0=z):=⟨_,rfl⟩;rw [HZ.out]at c0
   rw [HZ'.out]at c0';have h0:(0:Int)≤(k:Int):=by omega
   have h1:(k:Int)<(n:Int):=by omega
   by_cases hz:z=z'
   ·subst hz;go_wp2_with fail
    go_region
    all_goals go_wp2_with fail
    all_goals
     go_roundw
     case rel=>exact⟨k+1,by omega,by go_num,fun j hj=>by
      by_cases e:j=k
      ·subst e;rw [HZ.out,HZ'.out]
      ·exact HSM.out j (by omega),by go_grown⟩
     case measure=>simp [intOf];omega
   ·have hzn:(z !=z')=true:=by simpa using hz
    have HF:Hid (d=false):=by
     show _=_;rw [←HD.out];simp only [decide_eq_false_iff_not];intro e;exact hz (by rw [←HZ.out,←HZ'.out,e])
    go_wp2_with fail
    go_region
    all_goals go_wp2_with fail
    all_goals
     go_ret;exact⟨Qb HF.out.symm,by go_grown⟩
  ·have h1: ¬(k:Int)<(n:Int):=by omega
   obtain rfl:k=n:=by omega
   have HF:Hid (d=true):=by
    show _=_;rw [←HD.out];simp only [decide_eq_true_eq];apply List.ext_getElem (by rw [HL.out,HL'.out]);intro j h1 h2;have:=HSM.out j (by rw [←HL.out];exact h1);rw [List.getD_eq_getElem?_getD,List.getD_eq_getElem?_getD,List.getElem?_eq_getElem h1,List.getElem?_eq_getElem h2]at this
    exact this
   go_wp2_with fail
   go_ret;exact⟨Qb HF.out.symm,hbel⟩
theorem Qkc {W:World} {B:Nat} {e:TypeId} {n m cap:Nat} {A:Option Addr} {xs:List Value} (h:W.ownsRow B e 1 (.slice A n cap) n xs) (hm:m≤n):W.ownsRow B e 1 (.slice A m cap) m (xs.take m):=by
 refine⟨by rw [List.length_take];have:=h.1;omega,?_⟩;rcases h.2 with⟨h1,h2⟩ | ⟨g,cap',cur,h1,hb,hg,h2,h3,h4,h5⟩
 ·cases h1
  obtain rfl:m=0:=by omega
  exact .inl ⟨rfl,rfl⟩
 ·cases h1
  refine .inr ⟨g,cap,cur,rfl,hb,hg,by omega,h3,h4,?_⟩;rw [←h5,List.take_take,Nat.mul_one,Nat.mul_one,Nat.min_eq_left hm]
theorem Qb9 {W:World} {A:Option Addr} {s:List Int} (h:IntRow W A s) (dl cap:Nat) (hc:s.length≤cap):IntRow W (if cap=dl then A else Option.map (fun x=>x.add dl) A) (s.drop dl):=by
 refine⟨Nat.le_trans (by rw [List.length_drop];omega) h.1,fun i hi=> ?_⟩;rw [List.length_drop]at hi;obtain⟨b,o,rfl,hl,c⟩:=h.2 (dl+i) (by omega);rw [if_neg (by omega)];refine⟨b,o+dl,by simp [Go.WideShapes.add_plain],hl,?_⟩;rw [Nat.add_assoc,c,List.getD_eq_getElem?_getD,List.getD_eq_getElem?_getD,List.getElem?_drop]
theorem VD {A A':Option Addr} {n n' cap cap':Nat} {l l':List Int} (d:Bool) (w:World) (hl:l.length=n) (hl':l'.length=n') (h:IntRow w A l) (h':IntRow w A' l') (HD:Hid (decide (l=l')=d)):
  Calls Tryz.prog 255 #[.slice A n cap,.slice A' n' cap'] w fun e w'=>e= .returned (.bool d)∧Below w.heap.size w w':=by
 subst hl hl';exact Bo d w h h' HD
theorem map_take (s:List Int) (m:Nat):(s.map (Value.int .i64)).take m=(s.take m).map (Value.int .i64):=by rw [List.map_take]
def YR (G:Nat→List Int) (n:Nat):Bool:=match stk G n with
 | some s=>decide (s.length=1)
 | none=>false
theorem MH {G:Nat→List Int} {n:Nat} (h:stk G n=none):YR G n=false:=by rw [YR,h]
theorem MG {G:Nat→List Int} {n:Nat} {s:List Int} (h:stk G n=some s):YR G n=decide (s.length=1):=by rw [YR,h]
theorem Gp {A:Option Addr} {n cap:Nat} {F:Nat→FN} (w:World) (HR:Hid (FnRow w A n F)) (hn:n≤60) (hkn: ∀i,i<n→(F i).kids.length≤1048576):
  Calls Tryz.prog 208 #[.slice A n cap] w fun e w'=>e= .returned (.bool (YR (fun j=>(F j).kids) n))∧Below w.heap.size w w':=by
 obtain⟨i0,hi,iz0,iz1,iz2⟩:=info_parts Qgg;have HKN:Hid (∀i,i<n→(F i).kids.length≤1048576):=hkn;clear hkn;go_enter Tryz.func208,Tryz.ntmps208;go_wp2_with fail
 go_loopw [3,9] (fun v i wr=> ∃(k:Nat) (s:List Int),k≤n∧i= .int .i64 k∧stk (fun j=>(F j).kids) k=some s∧s.length≤k∧wr.ownsRow w.heap.size 2 1 v s.length (s.map (Value.int .i64))∧Below w.heap.size w wr) (fun _ i _=>n-(intOf i).toNat)
 case atStart=>exact⟨0,[],Nat.zero_le _,rfl,rfl,Nat.le_refl _,World.ownsRow_nil _ _ _ _,Below.refl _ _⟩
 case round=>
  obtain⟨k,s,hk,rfl,hst,hsl,hown,hbel⟩:=hrel;obtain⟨SA,scap,hv,_,_⟩:=Qo hown;have HST:Hid (stk (fun j=>(F j).kids) k=some s):=hst;have HO:Hid (wr.ownsRow w.heap.size 2 1 u3 s.length (s.map (Value.int .i64))):=hown;clear hst hown;by_cases hlt:k<n
  ·obtain⟨b,o,KA,kc,rfl,hl,hnd,hki,hs⟩:=HR.out.2 k hlt;obtain⟨c0,c1,c2,c3,c4,c5,c6,c7,c8,c9,c10,c11,c12,c13⟩:=hnd.below hl (W':=wr) hbel;have hll:b<wr.heap.size:=Nat.lt_of_lt_of_le hl hbel.size;have HKI:Hid (IntRow wr KA (F k).kids):=hki.below hbel;have hkl:=HKN.out k hlt;obtain⟨kl,HKL⟩: ∃kl,Hid ((F k).kids.length=kl):=⟨_,rfl⟩;obtain⟨sl,HSL⟩: ∃sl,Hid (s.length=sl):=⟨_,rfl⟩
   rw [HKL.out]at c13 hkl;rw [HSL.out]at hv hsl;have HB:Hid (Below w.heap.size w wr):=hbel;have HBS:Hid (w.heap.size≤wr.heap.size):=hbel.size;clear hnd hki hbel;subst hv;have h0:(0:Int)≤(k:Int):=by omega
   have h1:(k:Int)<(n:Int):=by omega
   by_cases hneg:sl<kl
   ·have g1:(sl:Int)-(kl:Int)<0:=by omega
    have HF:Hid (stk (fun j=>(F j).kids) n=none):=by
     refine Qbi (i:=k+1) ?_ (by omega);rw [stk,HST.out];show(if _ then _ else _)=none;rw [if_neg];rintro⟨_,h2⟩;have h3:(F k).kids.length≤s.length:=h2;rw [HKL.out,HSL.out]at h3
     omega
    go_wp2_with fail
    refine wp_region_held_drew (S:=(fun w'=>(∀bq oq,bq<wr.heap.size+1→w'.cell? ⟨bq,oq,none⟩=(wr.alloc (.cells #[.int .i64 ((F k).k),.int .i64 ((F k).o),.int .i64 ((F k).ck),.int .i64 ((F k).cn),.string ((F k).cs),.int .i64 ((F k).ac),.int .i64 ((F k).ar),.bool ((F k).af),.bool ((F k).ag),.int .i64 ((F k).bc),.int .i64 ((F k).br),.bool ((F k).bf),.bool ((F k).bg),.slice KA kl kc] 201)).cell? ⟨bq,oq,none⟩)∧wr.heap.size+1≤w'.heap.size∧Below (wr.heap.size+1) (wr.alloc (.cells #[.int .i64 ((F k).k),.int .i64 ((F k).o),.int .i64 ((F k).ck),.int .i64 ((F k).cn),.string ((F k).cs),.int .i64 ((F k).ac),.int .i64 ((F k).ar),.bool ((F k).af),.bool ((F k).ag),.int .i64 ((F k).bc),.int .i64 ((F k).br),.bool ((F k).bf),.bool ((F k).bg),.slice KA kl kc] 201)) w')) (by kernel_rfl) (Qp (by go_size) (by go_grown)) (fun hHeld=> ?_);refine tkA 0 ?_;refine tkB 1 ?_;refine tkA 2 ?_;refine tnB 3 ?_;refine tnA 4 ?_;refine tnB 5 ?_
    refine tnA 6 ?_;refine tnB 7 ?_;refine tnA 8 ?_;refine tnB 9 ?_;refine tkB 10 ?_;refine wpAnyH_done (by kernel_rfl) ?_ _;go_wp2_with fail
    go_ret;exact⟨Qb (MH HF.out).symm,HB.out.trans (Below.mono (ZT (n:=1) (X:=(wr.alloc (.cells #[.int .i64 ((F k).k),.int .i64 ((F k).o),.int .i64 ((F k).ck),.int .i64 ((F k).cn),.string ((F k).cs),.int .i64 ((F k).ac),.int .i64 ((F k).ar),.bool ((F k).af),.bool ((F k).ag),.int .i64 ((F k).bc),.int .i64 ((F k).br),.bool ((F k).bf),.bool ((F k).bg),.slice KA kl kc] 201))) (by go_grown) (by go_grown)) HBS.out)⟩
   obtain⟨dl,hdl⟩: ∃dl:Nat,sl=kl+dl:=⟨sl-kl,by omega⟩;have HDL:Hid (sl=kl+dl):=hdl;have hde:(sl:Int)-(kl:Int)=(dl:Int):=by omega
   have g1: ¬(dl:Int)<0:=by omega
   have g2:(0:Int)≤(dl:Int):=by omega
   have g3:(dl:Int)≤(sl:Int):=by omega
   have HSC:Hid (sl≤scap):=by
    rcases HO.out.2 with⟨h1,h2⟩ | ⟨g,cap',cur,h1,_,_,h2,_⟩
    ·rw [HSL.out]at h2;show _≤_;omega
    ·cases h1;rw [HSL.out]at h2;exact h2
   have g4:(dl:Int)≤(scap:Int):=by have:=HSC.out;omega
   have g5:(sl:Int)≤(scap:Int):=by have:=HSC.out;omega
   clear hdl;cases heq:decide (s.drop dl=(F k).kids)
   ·have HEQ:Hid (decide (s.drop dl=(F k).kids)=false):=heq
    have HF:Hid (stk (fun j=>(F j).kids) n=none):=by
     refine Qbi (i:=k+1) ?_ (by omega);rw [stk,HST.out];show(if _ then _ else _)=none;rw [if_neg];rintro⟨h2,_⟩;have h3:s.drop (s.length-(F k).kids.length)=(F k).kids:=h2;rw [HKL.out,HSL.out,show sl-kl=dl by have:=HDL.out;omega]at h3
     simp [h3]at heq
    clear heq;go_wp2_with fail
    refine wp_region_held_drew (S:=(fun w'=>(∀bq oq,bq<wr.heap.size+1→w'.cell? ⟨bq,oq,none⟩=(wr.alloc (.cells #[.int .i64 ((F k).k),.int .i64 ((F k).o),.int .i64 ((F k).ck),.int .i64 ((F k).cn),.string ((F k).cs),.int .i64 ((F k).ac),.int .i64 ((F k).ar),.bool ((F k).af),.bool ((F k).ag),.int .i64 ((F k).bc),.int .i64 ((F k).br),.bool ((F k).bf),.bool ((F k).bg),.slice KA kl kc] 201)).cell? ⟨bq,oq,none⟩)∧wr.heap.size+1≤w'.heap.size∧Below (wr.heap.size+1) (wr.alloc (.cells #[.int .i64 ((F k).k),.int .i64 ((F k).o),.int .i64 ((F k).ck),.int .i64 ((F k).cn),.string ((F k).cs),.int .i64 ((F k).ac),.int .i64 ((F k).ar),.bool ((F k).af),.bool ((F k).ag),.int .i64 ((F k).bc),.int .i64 ((F k).br),.bool ((F k).bf),.bool ((F k).bg),.slice KA kl kc] 201)) w')) (by kernel_rfl) (Qp (by go_size) (by go_grown)) (fun hHeld=> ?_);refine tkA 0 ?_;refine tkB 1 ?_;refine tkA 2 ?_;refine tkB 3 ?_;refine tkA 4 ?_;refine tkB 5 ?_
    refine tkA 6 ?_;refine tkB 7 ?_;refine rqA 8 (fun Kq hKq=> ?_);go_simp
    (refine(VD false _ ?_ ?_ ?_ ?_ HEQ).mono ?_;(focus (rw [List.length_drop,HSL.out]));(focus (exact HKL.out));(focus (exact(Qb9 (IntRow.below (Js (by have hh:=HO.out;rw [HSL.out]at hh;rw [HSL.out];exact hh)) (by go_grown)) dl scap (by rw [HSL.out];exact HSC.out))));(focus (exact HKI.out.below (by go_grown)));rintro e w1 ⟨rfl,hb⟩;obtain⟨hk1,hz1⟩:=Qg (B:=wr.heap.size+1) (X:=(wr.alloc (.cells #[.int .i64 ((F k).k),.int .i64 ((F k).o),.int .i64 ((F k).ck),.int .i64 ((F k).cn),.string ((F k).cs),.int .i64 ((F k).ac),.int .i64 ((F k).ar),.bool ((F k).af),.bool ((F k).ag),.int .i64 ((F k).bc),.int .i64 ((F k).br),.bool ((F k).bf),.bool ((F k).bg),.slice KA kl kc] 201))) (by go_grown) (by go_size) hb;have hC:=fun b o h=>hk1.cell (p:=⟨b,o,none⟩) h;clear hb)
    refine hkB hKq (Qp (by go_size) (by go_grown)) fun hHeld=> ?_;clear hKq Kq;refine tkA 9 ?_;refine tkB 10 ?_;refine wpAnyH_done (by kernel_rfl) ?_ _;generalize (Value.slice (if scap=dl then SA else Option.map (fun x=>x.add dl) SA) (sl-dl) (scap-dl))=vjunk
    go_wp2_with fail
    go_ret;exact⟨Qb (MH HF.out).symm,HB.out.trans (Below.mono (ZT (n:=1) (X:=(wr.alloc (.cells #[.int .i64 ((F k).k),.int .i64 ((F k).o),.int .i64 ((F k).ck),.int .i64 ((F k).cn),.string ((F k).cs),.int .i64 ((F k).ac),.int .i64 ((F k).ar),.bool ((F k).af),.bool ((F k).ag),.int .i64 ((F k).bc),.int .i64 ((F k).br),.bool ((F k).bf),.bool ((F k).bg),.slice KA kl kc] 201))) (by go_grown) (by go_grown)) HBS.out)⟩
   ·have HEQ:Hid (decide (s.drop dl=(F k).kids)=true):=heq
    have HS1:Hid (stk (fun j=>(F j).kids) (k+1)=some (s.take dl++ [(k:Int)])):=by
     show _=_;rw [stk,HST.out];show(if _ then _ else _)=_;have e1:s.length-((F k).kids).length=dl:=by rw [HKL.out,HSL.out];have:=HDL.out;omega
     rw [e1,if_pos ⟨of_decide_eq_true heq,by rw [HKL.out,HSL.out];have:=HDL.out;omega⟩]
    have HLT:Hid ((s.take dl++ [(k:Int)]).length=dl+1):=by show _=_;rw [List.length_append,List.length_take,HSL.out];simp;omega
    clear heq;go_wp2_with fail
    refine wp_region_held_drew (S:=(fun w'=>(∀bq oq,bq<wr.heap.size+1→w'.cell? ⟨bq,oq,none⟩=(wr.alloc (.cells #[.int .i64 ((F k).k),.int .i64 ((F k).o),.int .i64 ((F k).ck),.int .i64 ((F k).cn),.string ((F k).cs),.int .i64 ((F k).ac),.int .i64 ((F k).ar),.bool ((F k).af),.bool ((F k).ag),.int .i64 ((F k).bc),.int .i64 ((F k).br),.bool ((F k).bf),.bool ((F k).bg),.slice KA kl kc] 201)).cell? ⟨bq,oq,none⟩)∧wr.heap.size+1≤w'.heap.size∧Below (wr.heap.size+1) (wr.alloc (.cells #[.int .i64 ((F k).k),.int .i64 ((F k).o),.int .i64 ((F k).ck),.int .i64 ((F k).cn),.string ((F k).cs),.int .i64 ((F k).ac),.int .i64 ((F k).ar),.bool ((F k).af),.bool ((F k).ag),.int .i64 ((F k).bc),.int .i64 ((F k).br),.bool ((F k).bf),.bool ((F k).bg),.slice KA kl kc] 201)) w')) (by kernel_rfl) (Qp (by go_size) (by go_grown)) (fun hHeld=> ?_);refine tkA 0 ?_;refine tkB 1 ?_;refine tkA 2 ?_;refine tkB 3 ?_;refine tkA 4 ?_;refine tkB 5 ?_
    refine tkA 6 ?_;refine tkB 7 ?_;refine rqA 8 (fun Kq hKq=> ?_);go_simp
    (refine(VD true _ ?_ ?_ ?_ ?_ HEQ).mono ?_;(focus (rw [List.length_drop,HSL.out]));(focus (exact HKL.out));(focus (exact(Qb9 (IntRow.below (Js (by have hh:=HO.out;rw [HSL.out]at hh;rw [HSL.out];exact hh)) (by go_grown)) dl scap (by rw [HSL.out];exact HSC.out))));(focus (exact HKI.out.below (by go_grown)));rintro e w1 ⟨rfl,hb⟩;obtain⟨hk1,hz1⟩:=Qg (B:=wr.heap.size+1) (X:=(wr.alloc (.cells #[.int .i64 ((F k).k),.int .i64 ((F k).o),.int .i64 ((F k).ck),.int .i64 ((F k).cn),.string ((F k).cs),.int .i64 ((F k).ac),.int .i64 ((F k).ar),.bool ((F k).af),.bool ((F k).ag),.int .i64 ((F k).bc),.int .i64 ((F k).br),.bool ((F k).bf),.bool ((F k).bg),.slice KA kl kc] 201))) (by go_grown) (by go_size) hb;have hC:=fun b o h=>hk1.cell (p:=⟨b,o,none⟩) h;clear hb)
    refine hkB hKq (Qp (by go_size) (by go_grown)) fun hHeld=> ?_;clear hKq Kq;refine tkA 9 ?_;refine tkB 10 ?_;refine wpAnyH_done (by kernel_rfl) ?_ _;generalize (Value.slice (if scap=dl then SA else Option.map (fun x=>x.add dl) SA) (sl-dl) (scap-dl))=vjunk
    have HO1:Hid (w1.ownsRow w.heap.size 2 1 (.slice SA dl scap) dl ((s.take dl).map (Value.int .i64))):=by
     have hh:=Qf (HO.out.alloc (.cells #[.int .i64 ((F k).k),.int .i64 ((F k).o),.int .i64 ((F k).ck),.int .i64 ((F k).cn),.string ((F k).cs),.int .i64 ((F k).ac),.int .i64 ((F k).ar),.bool ((F k).af),.bool ((F k).ag),.int .i64 ((F k).bc),.int .i64 ((F k).br),.bool ((F k).bf),.bool ((F k).bg),.slice KA kl kc] 201)) (w':=w1) (by simpa using hk1);rw [HSL.out]at hh;have h2:=Qkc hh (m:=dl) (by omega);rw [map_take]at h2;exact h2
    have HB1:Hid (Below w.heap.size w w1):=HB.out.trans (Below.mono (ZT (n:=1) (X:=(wr.alloc (.cells #[.int .i64 ((F k).k),.int .i64 ((F k).o),.int .i64 ((F k).ck),.int .i64 ((F k).cn),.string ((F k).cs),.int .i64 ((F k).ac),.int .i64 ((F k).ar),.bool ((F k).af),.bool ((F k).ag),.int .i64 ((F k).bc),.int .i64 ((F k).br),.bool ((F k).bf),.bool ((F k).bg),.slice KA kl kc] 201))) (by go_grown) hk1) HBS.out);have hw1:w.heap.size≤w1.heap.size:=HB1.out.size;clear hk1 hC
    go_wp2_with (first
     | (at_builtin;refine wpList_append_own _ rfl _ _ 70 rfl w.heap.size 2 i0 (.int .i64 0) 1 8 Tryz.underlying70 hi iz0 iz1 iz2 rfl (by decide) _ _ _ rfl (HO1.out.alloc _) ⟨w1.heap.size,0,none⟩ 1 1 [.int .i64 k] rfl rfl ?c1 ?c2 ?c3 ?c4 ?c5 ?_)
     | go_in)
    case c1=>
     intro q u hq;match q,hq with
     | 0,hq=>simp at hq;subst hq;simp [Addr.add]
    case c2=>intro u hu;simp at hu;subst hu;rfl
    case c3=>unfold maxLen;omega
    case c4=>omega
    case c5=>simp;omega
    intro v' w2 hown' hgrow _;have R2:Hid (Below w.heap.size w w2):=(HB1.out.alloc HB1.out.size _).grown hgrow (by simp;omega) (fun q hq=>by have:=(HO1.out.lt q hq).1;omega)
    have HOW:Hid (w2.ownsRow w.heap.size 2 1 v' (s.take dl++ [(k:Int)]).length ((s.take dl++ [(k:Int)]).map (Value.int .i64))):=by
     show World.ownsRow _ _ _ _ _ _ _;rw [HLT.out,List.map_append,←map_take];exact hown'
    clear hown' hgrow HO1;go_wp2_with fail
    go_roundw
    case rel=>exact⟨k+1,s.take dl++ [(k:Int)],by omega,by go_num,HS1.out,by rw [HLT.out];omega,HOW.out,R2.out⟩
    case measure=>simp [intOf];omega
  ·have h1: ¬(k:Int)<(n:Int):=by omega
   obtain rfl:k=n:=by omega
   subst hv;have HE:Hid (((s.length:Int)==1)=YR (fun j=>(F j).kids) k):=by show _=_;rw [MG HST.out,Bool.eq_iff_iff];simp;omega
   go_wp2_with fail
   go_ret;exact⟨Qb HE.out,hbel⟩
end Go.Proofs.YtbdhinckiccniaaGreatDoor
