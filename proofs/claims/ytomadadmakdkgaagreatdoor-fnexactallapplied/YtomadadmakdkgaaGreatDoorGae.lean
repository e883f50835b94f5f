import Derived.Test.YtomadadmakdkgaaGreatDoorBase
import Derived.Test.YtomadadmakdkgaaGreatDoorGzd
import Derived.Test.YtomadadmakdkgaaGreatDoorMn
open Go.Proofs.Tryz
open Go.Value renaming int → C, bool → H, slice → I, string → J, int → O
open Go.IntKind renaming i64 → E
open Go.Obj renaming cells → K
open Go renaming wp_region_held_drew → L, World → Q, wpAnyH_done → R
open Go.Ending renaming returned → M
open Go.RowKit renaming Below → N
open Go.RowKit.Below renaming mono → U
set_option linter.unusedSimpArgs false
set_option linter.unusedVariables false
set_option maxHeartbeats 8000000
set_option maxRecDepth 100000
namespace Go.Proofs.YtomadadmakdkgaaGreatDoor
def stk(G:Nat->List Int):Nat->Option (List Int)
 | 0=>some []
 | i+1=>match stk G i with
  | none=>none
  | some s=>if s.drop (s.length-(G i).length)=G i/\(G i).length<=s.length then some (s.take (s.length-(G i).length)++ [(i:Int)])else none
theorem Qkk{G:Nat->List Int}{i:Nat}{p:List Int}(h:stk G i=some (p++G i)):stk G (i+1)=some (p++ [(i:Int)]):=by
 rw[stk,h];simp
theorem Bk{G:Nat->List Int}{i:Nat}{s':List Int}(h:stk G (i+1)=some s'): ∃p,stk G i=some (p++G i)/\s'=p++ [(i:Int)]:=by
 rw[stk]at h;cases hs:stk G i with
 | none=>rw[hs]at h;cases h
 | some s=>
  rw[hs]at h;simp only at h;split at h
  ·rename_i hc
   refine⟨s.take (s.length-(G i).length),?_,(Option.some.inj h).symm⟩;have h1:=List.take_append_drop (s.length-(G i).length) s;rw[hc.1]at h1;rw[h1]
  ·cases h
theorem Qcd{G:Nat->List Int}{i j:Nat}(h:stk G i=none)(hij:i<=j):stk G j=none:=by
 induction hij with
 | refl=>exact h
 | step _ ih=>rw[stk,ih]
def QO(T:Int->Int)(at0:Int):List Int->Int
 | []=>at0+1
 | k::ks=>if at0<0\/k≠at0 then-1 else if T at0<0 then-1 else QO T (T at0-1) ks
def Uc(G:Nat->List Int):Nat->Int->Int
 | 0,_=> -1
 | fuel+1,i=>QO (Uc G fuel) (i-1) (G i.toNat).reverse
def Cov(T:Int->Int):List Int->Int->Prop
 | [],e=>e=0
 | r::s,e=>e=r+1/\0<=r/\0<=T r/\T r<=r/\Cov T s (T r)
theorem Cov.nonneg{T:Int->Int}: ∀{s:List Int} {e:Int},Cov T s e->0<=e
 | [],_,h=>by rw[Cov]at h;omega
 | r::s,_,h=>by rw[Cov]at h;omega
theorem Cov.mem{T:Int->Int}: ∀{s:List Int} {e:Int},Cov T s e-> ∀x∈s,0<=x/\x<e
 | [],_,_,x,hx=>by cases hx
 | r::s,e,h,x,hx=>by
  rw[Cov]at h;rcases List.mem_cons.1 hx with rfl | hx
  ·omega
  ·have:=Cov.mem h.2.2.2.2 x hx;omega
theorem Qct{T:Int->Int}: ∀(ks s:List Int) (e:Int),Cov T (ks++s) e-> ∃a,QO T (e-1) ks=a/\0<=a/\a<=e/\Cov T s a
 | [],s,e,h=>⟨e,by simp[QO],h.nonneg,Int.le_refl _,h⟩
 | k::ks,s,e,h=>by
  rw[List.cons_append,Cov]at h;obtain⟨rfl,h0,h1,h2,h3⟩:=h;obtain⟨a,ha,a0,a1,a2⟩:=Qct ks s _ h3;refine⟨a,?_,a0,by omega,a2⟩;rw[QO,nG (by omega),show k+1-1=k by omega,nG (by omega)];exact ha
theorem BD{T:Int->Int}(hT: ∀x,0<=x->0<=T x->T x<=x): ∀(ks s:List Int) (e a:Int),0<=e->QO T (e-1) ks=a->0<=a->(Cov T s a->Cov T (ks++s) e)/\a<=e/\(∀k∈ks,0<=k/\k<e/\0<=T k)
 | [],s,e,a,_,h,ha=>by
  rw[QO]at h;have:a=e:=by omega
  subst this;exact⟨fun h=>h,Int.le_refl _,fun k hk=>by cases hk⟩
 | k::ks,s,e,a,he,h,ha=>by
  rw[QO]at h;split at h
  ·omega
  ·rename_i hc
   split at h
   ·omega
   ·rename_i hc2
    have hk:k=e-1:=by omega
    rw[hk];have hle:=hT (e-1) (by omega) (by omega);obtain⟨h1,h2,h3⟩:=BD hT ks s (T (e-1)) a (by omega) h ha;refine⟨fun hc=> ?_,by omega,fun x hx=> ?_⟩
    ·rw[List.cons_append,Cov];exact⟨by omega,by omega,by omega,by omega,h1 hc⟩
    ·rcases List.mem_cons.1 hx with rfl | hx
     ·exact⟨by omega,by omega,by omega⟩
     ·have:=h3 x hx;exact⟨by omega,by omega,this.2.2⟩
theorem Gz{T T':Int->Int}{B:Int}(hT: ∀x,0<=x->x<B->T x=T' x)(hle: ∀x,0<=x->x<B->T x<=x): ∀(ks:List Int) (at0:Int),at0<B->QO T at0 ks=QO T' at0 ks
 | [],_,_=>rfl
 | k::ks,at0,h=>by
  rw[QO,QO];by_cases hc:at0<0\/k≠at0
  ·rw[pS hc,pS hc]
  ·have h0:0<=at0:=by omega
   rw[nG hc,nG hc,<-hT at0 h0 h];by_cases h2:T at0<0
   ·rw[pS h2,pS h2]
   ·have:=hle at0 h0 h;rw[nG h2,nG h2,Gz hT hle ks _ (by omega)]
theorem Qgy{T:Int->Int}(hle: ∀x,0<=x->T x<=x): ∀(ks:List Int) (at0:Int),QO T at0 ks<=at0+1\/QO T at0 ks= -1
 | [],at0=>Or.inl (by rw[QO];omega)
 | k::ks,at0=>by
  rw[QO];split
  ·exact Or.inr rfl
  ·rename_i hc
   split
   ·exact Or.inr rfl
   ·rename_i h2
    have:=hle at0 (by omega);rcases Qgy hle ks (T at0-1)with h | h
    ·left;omega
    ·exact Or.inr h
theorem Nq(G:Nat->List Int): ∀(fuel:Nat) (x:Int),0<=x->Uc G fuel x<=x
 | 0,x,h=>by rw[Uc];omega
 | fuel+1,x,h=>by
  rw[Uc];rcases Qgy (Nq G fuel) (G x.toNat).reverse (x-1)with h1 | h1
  ·omega
  ·omega
theorem Bf(G:Nat->List Int): ∀(f f':Nat) (x:Int),0<=x->x<f->x<f'->Uc G f x=Uc G f' x
 | 0,_,x,h0,h,_=>by omega
 | _+1,0,x,h0,_,h=>by omega
 | f+1,f'+1,x,h0,h,h'=>by
  rw[Uc,Uc];exact Gz (B:=x) (fun y hy0 hy=>Bf G f f' y hy0 (by omega) (by omega)) (fun y hy0 _=>Nq G f y hy0) _ _ (by omega)
def Zx(G:Nat->List Int)(i:Int):Int:=Uc G (i.toNat+1) i
theorem Vt(G:Nat->List Int)(i:Int)(h:0<=i):Zx G i=QO (Zx G) (i-1) (G i.toNat).reverse:=by
 rw[Zx,Uc];exact Gz (B:=i) (fun y hy0 hy=>Bf G _ _ y hy0 (by omega) (by omega)) (fun y hy0 _=>Nq G _ y hy0) _ _ (by omega)
theorem XJ(G:Nat->List Int)(i:Int)(h:0<=i):Zx G i<=i:=Nq G _ i h
theorem EQ(G:Nat->List Int): ∀(i:Nat) (s:List Int),stk G i=some s->Cov (Zx G) s.reverse i/\(∀j,j<i-> ∀k∈G j,0<=k/\k<j)
 | 0,s,h=>by
  rw[stk]at h;cases h
  exact⟨rfl,fun j hj=>by omega⟩
 | i+1,s',h=>by
  obtain⟨p,hp,rfl⟩:=Bk h;obtain⟨hc,hk⟩:=EQ G i _ hp;rw[List.reverse_append]at hc;obtain⟨a,ha,a0,a1,a2⟩:=Qct _ _ _ hc;have ht:Zx G i=a:=by rw[Vt G i (by omega)];simpa using ha
  refine⟨?_,fun j hj=> ?_⟩
  ·rw[List.reverse_append];show Cov (Zx G) ((i:Int)::p.reverse) _;rw[Cov,ht];exact⟨by omega,by omega,a0,a1,a2⟩
  ·by_cases e:j=i
   ·subst e;intro k hk';exact hc.mem k (List.mem_append_left _ (List.mem_reverse.2 hk'))
   ·exact hk j (by omega)
theorem Qb8(G:Nat->List Int): ∀(m:Nat) (i:Nat) (a:Nat) (p:List Int),i<m->Zx G i=(a:Int)->stk G a=some p->stk G (i+1)=some (p++ [(i:Int)])
 | 0,i,_,_,h,_,_=>by omega
 | m+1,i,a,p,hi,ht,hp=>by
  have key: ∀(ks:List Int) (e:Nat),e<=i->QO (Zx G) ((e:Int)-1) ks=(a:Int)->stk G e=some (p++ks.reverse):=by
   intro ks;induction ks with
   | nil=>
    intro e he h;rw[QO]at h;obtain rfl:e=a:=by omega
    simpa using hp
   | cons k ks ih=>
    intro e he h;rw[QO]at h;split at h
    ·omega
    ·rename_i hc
     split at h
     ·omega
     ·rename_i h2
      have h0:=XJ G ((e:Int)-1) (by omega);obtain⟨b,hb⟩: ∃b:Nat,Zx G ((e:Int)-1)=(b:Int):=⟨(Zx G ((e:Int)-1)).toNat,by omega⟩;rw[hb]at h h0;have h3:=ih b (by omega) h;obtain⟨e',rfl⟩: ∃e',e=e'+1:=⟨e-1,by omega⟩;have e1:((e'+1:Nat):Int)-1=(e':Int):=by omega
      rw[e1]at hb;have h4:=Qb8 G m e' b _ (by omega) hb h3;rw[h4,List.reverse_cons,List.append_assoc];have:k=(e':Int):=by omega
      rw[this]
  rw[Vt G i (by omega)]at ht;have h5:=key _ i (Nat.le_refl _) (by simpa using ht);rw[List.reverse_reverse]at h5;exact Qkk h5
theorem Qcc(G:Nat->List Int)(n:Nat):(∃x,stk G (n+1)=some [x])↔Zx G n=0:=by
 constructor
 ·rintro⟨x,h⟩;obtain⟨p,hp,e⟩:=Bk h;obtain⟨hc,_⟩:=EQ G (n+1) _ h
  have h0:p= []/\x=(n:Int):=by
   cases p with
   | nil=>simp at e;exact⟨rfl,e⟩
   | cons y p=>cases p<;>simp at e
  obtain⟨rfl,rfl⟩:=h0;have h1:Cov (Zx G) [(n:Int)] ((n+1:Nat):Int):=hc;rw[Cov,Cov]at h1;omega
 ·intro h;exact⟨_,by simpa using Qb8 G (n+1) n 0 [] (by omega) (by simpa using h) rfl⟩
def Hu(D:Int->Int)(d:Int)(ks:List Int):Int:=ks.foldl (fun d k=>max d (D k)) d
theorem Ht{D:Int->Int}: ∀(ks:List Int) (d b:Int),Hu D d ks<=b↔d<=b/\ ∀k∈ks,D k<=b
 | [],d,b=>by simp[Hu]
 | k::ks,d,b=>by
  show Hu D (max d (D k)) ks<=b↔_;rw[Ht ks];simp only[List.mem_cons,forall_eq_or_imp];constructor
  ·rintro⟨h1,h2⟩;exact⟨by omega,by omega,h2⟩
  ·rintro⟨h1,h2,h3⟩;exact⟨by omega,h3⟩
theorem Gy{D D':Int->Int}: ∀(ks:List Int) (d:Int),(∀k∈ks,D k=D' k)->Hu D d ks=Hu D' d ks
 | [],_,_=>rfl
 | k::ks,d,h=>by
  show Hu D (max d (D k)) ks=Hu D' (max d (D' k)) ks;rw[h k List.mem_cons_self];exact Gy ks _ (fun x hx=>h x (List.mem_cons_of_mem _ hx))
def ME(G:Nat->List Int):Nat->Int->Int
 | 0,_=>1
 | fuel+1,i=>Hu (ME G fuel) 0 (G i.toNat)+1
def QT(G:Nat->List Int)(n:Nat):Prop:= ∀j,j<n-> ∀k∈G j,0<=k/\k<(j:Int)
theorem Eb{G:Nat->List Int}{n:Nat}(hG:QT G n): ∀(f f':Nat) (x:Int),0<=x->x<n->x<f->x<f'->ME G f x=ME G f' x
 | 0,_,x,h0,_,h,_=>by omega
 | _+1,0,x,h0,_,_,h=>by omega
 | f+1,f'+1,x,h0,hn,h,h'=>by
  rw[ME,ME,Gy _ _ (fun k hk=> ?_)];have:=hG x.toNat (by omega) k hk;exact Eb hG f f' k (by omega) (by omega) (by omega) (by omega)
def Yt(G:Nat->List Int)(i:Int):Int:=ME G (i.toNat+1) i
theorem Oe{G:Nat->List Int}{n:Nat}(hG:QT G n)(i:Int)(h:0<=i)(hn:i<n):Yt G i=Hu (Yt G) 0 (G i.toNat)+1:=by
 rw[Yt,ME,Gy _ _ (fun k hk=> ?_)];have:=hG i.toNat (by omega) k hk;exact Eb hG _ _ k (by omega) (by omega) (by omega) (by omega)
theorem Qq1{D:Int->Int}(ks:List Int)(d:Int):d<=Hu D d ks:=((Ht ks d _).1 (Int.le_refl _)).1
theorem Dd(G:Nat->List Int)(i:Int):1<=Yt G i:=by
 rw[Yt,ME];have:=Qq1 (D:=ME G i.toNat) (G i.toNat) 0;omega
def Nr(G:Nat->List Int)(arr:Nat->Int)(i:Nat):Option (Nat->Int):=if 12<=arr i then none else some (fun j=>if(j:Int)∈G i then arr i+1 else arr j)
def Jt(G:Nat->List Int):(Nat->Int)->Nat->Nat->Option (Nat->Int)
 | arr,_,0=>some arr
 | arr,e,t+1=>match Nr G arr (e-1)with
  | none=>none
  | some a=>Jt G a (e-1) t
theorem Ks(G:Nat->List Int): ∀(s t:Nat) (arr:Nat->Int) (e:Nat),Jt G arr e (s+t)=(Jt G arr e s).bind fun a=>Jt G a (e-s) t
 | 0,t,arr,e=>by rw[Nat.zero_add];rfl
 | s+1,t,arr,e=>by
  rw[show s+1+t=(s+t)+1 by omega,Jt,Jt];cases Nr G arr (e-1)with
  | none=>rfl
  | some a=>
   show Jt G a (e-1) (s+t)=_;rw[Ks G s t a (e-1),show e-1-s=e-(s+1) by omega]
theorem Qae{T:Int->Int}(hT: ∀x,0<=x->T x<=x): ∀(ks:List Int) (e a:Int),QO T (e-1) ks=a->0<=a->a<=e/\ ∀k∈ks,a<=k
 | [],e,a,h,_=>⟨by rw[QO]at h;omega,fun k hk=>by cases hk⟩
 | k::ks,e,a,h,ha=>by
  rw[QO]at h;split at h
  ·omega
  ·rename_i hc
   split at h
   ·omega
   ·have hle:=hT (e-1) (by omega);obtain⟨h1,h2⟩:=Qae hT ks (T (e-1)) a h ha;refine⟨by omega,fun x hx=> ?_⟩;rcases List.mem_cons.1 hx with rfl | hx
    ·omega
    ·exact h2 x hx
theorem Bv{G:Nat->List Int}{n:Nat}(hG:QT G n): ∀(m i a:Nat) (arr:Nat->Int),i<m->i<n->Zx G i=(a:Int)->
  (12<arr i+Yt G i->Jt G arr (i+1) (i+1-a)=none)/\(arr i+Yt G i<=12-> ∃arr',Jt G arr (i+1) (i+1-a)=some arr'/\ ∀j,j<a->arr' j=arr j)
 | 0,i,_,_,h,_,_=>by omega
 | m+1,i,a,arr,hi,hn,ht=>by
  have htl:Zx G i<=i:=XJ G i (by omega);have hd:=Oe hG i (by omega) (by omega);have hdp:=Dd G i;rw[Vt G i (by omega)]at ht
  have key: ∀(ks:List Int) (e:Nat) (arr1:Nat->Int) (d:Int),e<=i->QO (Zx G) ((e:Int)-1) ks=(a:Int)->(∀k∈ks,arr1 k.toNat=d)->
    ((∃k∈ks,12<d+Yt G k)->Jt G arr1 e (e-a)=none)/\((∀k∈ks,d+Yt G k<=12)-> ∃arr',Jt G arr1 e (e-a)=some arr'/\ ∀j,j<a->arr' j=arr1 j):=by
   intro ks;induction ks with
   | nil=>
    intro e arr1 d he h _;rw[QO]at h;obtain rfl:e=a:=by omega
    rw[Nat.sub_self];refine⟨?_,fun _=>⟨arr1,rfl,fun _ _=>rfl⟩⟩;rintro⟨k,hk,_⟩;cases hk
   | cons k ks ih=>
    intro e arr1 d he h hk;rw[QO]at h;split at h
    ·omega
    ·rename_i hc
     split at h
     ·omega
     ·rename_i h2
      have h1:=XJ G ((e:Int)-1) (by omega);obtain⟨b,hb⟩: ∃b:Nat,Zx G ((e:Int)-1)=(b:Int):=⟨(Zx G ((e:Int)-1)).toNat,by omega⟩;rw[hb]at h h1;obtain⟨e',rfl⟩: ∃e',e=e'+1:=⟨e-1,by omega⟩;have e1:((e'+1:Nat):Int)-1=(e':Int):=by omega
      rw[e1]at hb;have h9:k=(e':Int):=by omega
      subst h9;obtain⟨g1,g2⟩:=Qae (fun x hx=>XJ G x hx) ks (b:Int) a h (by omega);obtain⟨_,_,g3⟩:=BD (fun x hx _=>XJ G x hx) ks [] (b:Int) a (by omega) h (by omega);have h4:arr1 e'=d:=by simpa using hk (e':Int) List.mem_cons_self
      obtain⟨p1,p2⟩:=Bv hG m e' b arr1 (by omega) (by omega) hb;have hs:e'+1-a=(e'+1-b)+(b-a):=by omega
      rw[hs];constructor
      ·rintro⟨x,hx,h6⟩;rw[Ks];by_cases hz:12<d+Yt G e'
       ·rw[p1 (by rw[h4];exact hz)];rfl
       ·obtain⟨h0,q1,q2⟩:=p2 (by rw[h4];omega);rw[q1];rcases List.mem_cons.1 hx with rfl | hx
        ·exact absurd h6 hz
        ·rw[show e'+1-(e'+1-b)=b by omega];exact(ih b h0 d (by omega) h (fun y hy=>by rw[q2 _ (by have:=g3 y hy;omega)];exact hk y (List.mem_cons_of_mem _ hy))).1 ⟨x,hx,h6⟩
      ·intro hall;rw[Ks];obtain⟨h0,q1,q2⟩:=p2 (by rw[h4];exact hall _ List.mem_cons_self);rw[q1];obtain⟨h5,r1,r2⟩:=(ih b h0 d (by omega) h (fun y hy=>by rw[q2 _ (by have:=g3 y hy;omega)];exact hk y (List.mem_cons_of_mem _ hy))).2 (fun y hy=>hall y (List.mem_cons_of_mem _ hy));refine⟨h5,?_,fun j hj=>by rw[r2 j hj,q2 j (by omega)]⟩;rw[show e'+1-(e'+1-b)=b by omega]
       exact r1
  have h8:(i:Int).toNat=i:=by simp
  rw[h8]at hd ht;obtain⟨g1,g2⟩:=Qae (fun x hx=>XJ G x hx) _ (i:Int) a ht (by omega);have hs:i+1-a=(i-a)+1:=by omega
  rw[hs,Jt,show i+1-1=i by omega];by_cases h7:12<=arr i
  ·have e1:Nr G arr i=none:=by rw[Nr,pS h7]
   rw[e1];exact⟨fun _=>rfl,fun h=>by omega⟩
  ·have e1:Nr G arr i=some (fun j:Nat=>if(j:Int)∈G i then arr i+1 else arr j):=by rw[Nr,nG h7]
   rw[e1]
   have H0: ∀k∈(G i).reverse,(fun j:Nat=>if(j:Int)∈G i then arr i+1 else arr j) k.toNat=arr i+1:=fun k hk=>by
    have hr:=hG i hn k (List.mem_reverse.1 hk);show(if((k.toNat:Nat):Int)∈G i then arr i+1 else arr k.toNat)=_;rw[pS (by rw[Int.toNat_of_nonneg hr.1];exact List.mem_reverse.1 hk)]
   obtain⟨k1,k2⟩:=key _ i (fun j:Nat=>if(j:Int)∈G i then arr i+1 else arr j) (arr i+1) (Nat.le_refl _) ht H0;constructor
   ·intro h;refine k1 ?_;apply Classical.byContradiction;intro hno
    have h1:Hu (Yt G) 0 (G i)<=11-arr i:=(Ht _ _ _).2 ⟨by omega,fun k hk=>by
     apply Classical.byContradiction;intro h3
     exact hno ⟨k,List.mem_reverse.2 hk,by omega⟩⟩
    omega
   ·intro h;have h1:Hu (Yt G) 0 (G i)<=11-arr i:=by omega
    have H1:=((Ht _ _ _).1 h1).2;obtain⟨arr',r1,r2⟩:=k2 (fun k hk=>by have:=H1 k (List.mem_reverse.1 hk);omega);refine⟨arr',r1,fun j hj=> ?_⟩;rw[r2 j hj];show(if(j:Int)∈G i then arr i+1 else arr j)=_;rw[nG];intro hm
    have:=g2 _ (List.mem_reverse.2 hm);omega
theorem Qih{G:Nat->List Int}{n:Nat}(hG:QT G (n+1))(ht:Zx G n=0):(∃a,Jt G (fun _=>0) (n+1) (n+1)=some a)↔Yt G n<=12:=by
 obtain⟨h1,h2⟩:=Bv hG (n+1) n 0 (fun _=>0) (by omega) (by omega) (by simpa using ht);constructor
 ·rintro⟨a,ha⟩;apply Classical.byContradiction;intro h;have:=h1 (by simp;omega);rw[Nat.sub_zero,ha]at this;cases this
 ·intro h;obtain⟨a,ha,_⟩:=h2 (by simp;omega);exact⟨a,by simpa using ha⟩
end Go.Proofs.YtomadadmakdkgaaGreatDoor
namespace Go.Proofs.YtomadadmakdkgaaGreatDoor
open Go.RowKit
theorem Qgx{T:Int->Int}: ∀(ks:List Int) (at0:Int),-1<=at0-> -1<=QO T at0 ks
 | [],at0,h=>by rw[QO];omega
 | k::ks,at0,h=>by
  rw[QO];split
  ·omega
  ·split
   ·omega
   ·exact Qgx ks _ (by omega)
theorem Qpa(G:Nat->List Int)(i:Int)(h:0<=i): -1<=Zx G i:=by rw[Vt G i h];exact Qgx _ _ (by omega)
theorem Qkg(ks:List Int)(s:Nat)(h:s<ks.length):(ks.take (s+1)).reverse=ks.getD s 0::(ks.take s).reverse:=by
 rw[List.take_succ_eq_append_getElem h,List.reverse_append,List.getD_eq_getElem?_getD,List.getElem?_eq_getElem h];rfl
theorem Qhf{G:Nat->List Int}{n:Nat}(hG:QT G n): ∀(m:Nat) (i:Int),0<=i->i<m->i<n->Yt G i<=i+1
 | 0,i,h0,h,_=>by omega
 | m+1,i,h0,h,hn=>by
  rw[Oe hG i h0 hn]
  have:Hu (Yt G) 0 (G i.toNat)<=i:=(Ht _ _ _).2 ⟨h0,fun k hk=>by
   have hr:=hG i.toNat (by omega) k hk;have:=Qhf hG m k (by omega) (by omega) (by omega)
   omega⟩
  omega
theorem Qix(D:Int->Int)(ks:List Int)(s:Nat)(h:s<ks.length):Hu D 0 (ks.take (s+1))=max (Hu D 0 (ks.take s)) (D (ks.getD s 0)):=by
 rw[List.take_succ_eq_append_getElem h,Hu,List.foldl_append,List.getD_eq_getElem?_getD,List.getElem?_eq_getElem h];rfl
theorem Vy{W:Q}{A:Option Addr}{n:Nat}{F:Nat->FN}(h:FnRow W A n F)(i:Nat)(hi:i<n): ∃b o KA kc,A=some ⟨b,o,none⟩/\b<W.heap.size/\W.cell? ⟨b,o+i*14+13,none⟩=some (I KA (F i).kids.length kc)/\W.cell? ⟨b,o+i*14,none⟩=some (C E (F i).k)/\IntRow W KA (F i).kids:=by
 obtain⟨b,o,KA,kc,e,hl,h0,hk,_⟩:=h.2 i hi;obtain⟨c0,_,_,_,_,_,_,_,_,_,_,_,_,h1⟩:=h0;exact⟨b,o,KA,kc,e,hl,h1,c0,hk⟩
theorem Kl{A:Option Addr}{n cap:Nat}{F:Nat->FN}(w:Q)(HR:Hid (FnRow w A n F))(hn:n<=1048576)(hkn: ∀i,i<n->(F i).kids.length<=1048576): ∀(m:Nat) (i:Nat),i<m->i<n->
  Calls prog 167 #[I A n cap,C E i] w fun e w'=>e= M (C E (Zx (fun j=>(F j).kids) i))/\w'=w:=by
 intro m;induction m with
 | zero=>intro i h;omega
 | succ m ih=>
  intro i him hin;have IH:Hid (∀(i:Nat),i<m->i<n->Calls prog 167 #[I A n cap,C E i] w fun e w'=>e= M (C E (Zx (fun j=>(F j).kids) i))/\w'=w):=ih;clear ih;obtain⟨b,o,KA,kc,rfl,hl,ck,_,h5⟩:=Vy HR.out i hin;obtain⟨ks,h9⟩: ∃ks,Hid ((F i).kids=ks):=⟨_,rfl⟩;have h8:=hkn i hin;rw[h9.out]at ck h5 h8
  have H2:Hid (IntRow w KA ks):=h5;obtain⟨kl,h6⟩: ∃kl,Hid (ks.length=kl):=⟨_,rfl⟩;rw[h6.out]at ck h8
  have HT:Hid (Zx (fun j=>(F j).kids) (i:Int)=QO (Zx (fun j=>(F j).kids)) ((i:Int)-1) ks.reverse):=by
   show _=_;rw[Vt _ _ (by omega)];simp[h9.out]
  clear h5 hkn;have p0:(0:Int)<=(i:Int):=by omega
  have p1:(i:Int)<(n:Int):=by omega
  go_enter func167,ntmps167;go_wp2_with fail
  go_loop [5,6,7] (fun va vi _v=> ∃(t:Nat) (h0:Int),t<=kl/\vi= C E ((t:Int)-1)/\va= C E h0/\ -1<=h0/\h0<i/\QO (Zx (fun j=>(F j).kids)) ((i:Int)-1) ks.reverse=QO (Zx (fun j=>(F j).kids)) h0 (ks.take t).reverse) (fun _ vi _=>(intOf vi+1).toNat)
  case atStart=>exact⟨kl,(i:Int)-1,Nat.le_refl _,rfl,rfl,by omega,by omega,by rw[List.take_of_length_le (by rw[h6.out];exact Nat.le_refl _)]⟩
  case round=>
   obtain⟨t,h0,ht,rfl,rfl,ha1,ha2,h7⟩:=hrel;have h2:Hid (QO (Zx (fun j=>(F j).kids)) ((i:Int)-1) ks.reverse=QO (Zx (fun j=>(F j).kids)) h0 (ks.take t).reverse):=h7;clear h7;match t,ht,h2 with
   | 0,ht,h2=>
    go_wp2_with fail
    go_ret;exact⟨Zn (by rw[HT.out,h2.out];simp[QO]),rfl⟩
   | s+1,ht,h2=>
    have hs:s<ks.length:=by rw[h6.out];omega
    have h1:Hid (QO (Zx (fun j=>(F j).kids)) ((i:Int)-1) ks.reverse=QO (Zx (fun j=>(F j).kids)) h0 (ks.getD s 0::(ks.take s).reverse)):=by rw[<-Qkg ks s hs];exact h2.out
    clear h2;obtain⟨b',o',rfl,hl',c1⟩:=H2.out.2 s hs;obtain⟨z,HZ⟩: ∃z,Hid (ks.getD s 0=z):=⟨_,rfl⟩;rw[HZ.out]at c1;have s0:(0:Int)<=(s:Int):=by omega
    have s1:(s:Int)<(kl:Int):=by omega
    have s2:(0:Int)<=(s:Int)+1-1:=by omega
    by_cases h4:h0<0
    ·go_wp2_with fail
     go_ret;exact⟨Zn (by rw[HT.out,h1.out,QO,pS (Or.inl h4)]),rfl⟩
    have hpos:0<=h0:=by omega
    by_cases hz:z=h0
    rotate_left
    ·have hzn:(z !=h0)=true:=by simpa using hz
     have hzn2: ¬z=h0:=hz;go_wp2_with fail
     go_ret;exact⟨Zn (by rw[HT.out,h1.out,QO,HZ.out,pS (Or.inr hz)]),rfl⟩
    subst hz;obtain⟨a,rfl⟩: ∃a:Nat,z=(a:Int):=⟨z.toNat,by omega⟩;have H0:=Qpa (fun j=>(F j).kids) (a:Int) (by omega);have H1:=XJ (fun j=>(F j).kids) (a:Int) (by omega)
    have h3:Hid (QO (Zx (fun j=>(F j).kids)) ((i:Int)-1) ks.reverse=if Zx (fun j=>(F j).kids) (a:Int)<0 then-1 else QO (Zx (fun j=>(F j).kids)) (Zx (fun j=>(F j).kids) (a:Int)-1) (ks.take s).reverse):=by
     show _=_;rw[h1.out,HZ.out,QO,nG (by omega)]
    clear h1;obtain⟨y,HY⟩: ∃y,Hid (Zx (fun j=>(F j).kids) (a:Int)=y):=⟨_,rfl⟩;rw[HY.out]at H0 H1;by_cases hy:y<0
    ·go_wp2_with (go_at_call 167;refine(IH.out a (by omega) (by omega)).mono ?_;rintro e w1 ⟨rfl,hw⟩;subst hw;rw[HY.out])
     go_ret;exact⟨Zn (by rw[HT.out,h3.out,HY.out,pS hy]),rfl⟩
    ·go_wp2_with (go_at_call 167;refine(IH.out a (by omega) (by omega)).mono ?_;rintro e w1 ⟨rfl,hw⟩;subst hw;rw[HY.out])
     go_round
     case rel=>exact⟨s,y-1,by omega,by first | rfl | (congr 1;omega),rfl,by omega,by omega,by rw[h3.out,HY.out,nG (by omega)]⟩
     case measure=>first | (simp[intOf];done) | (simp[intOf];omega)
theorem Qbu{A:Option Addr}{n cap:Nat}{F:Nat->FN}(w:Q)(HR:Hid (FnRow w A n F))(hn:n<=1048576)(hkn: ∀i,i<n->(F i).kids.length<=1048576)(HG:Hid (QT (fun j=>(F j).kids) n)): ∀(m:Nat) (i:Nat),i<m->i<n->
  Calls prog 168 #[I A n cap,C E i] w fun e w'=>e= M (C E (Yt (fun j=>(F j).kids) i))/\w'=w:=by
 intro m;induction m with
 | zero=>intro i h;omega
 | succ m ih=>
  intro i him hin;have IH:Hid (∀(i:Nat),i<m->i<n->Calls prog 168 #[I A n cap,C E i] w fun e w'=>e= M (C E (Yt (fun j=>(F j).kids) i))/\w'=w):=ih;clear ih;obtain⟨b,o,KA,kc,rfl,hl,ck,_,h1⟩:=Vy HR.out i hin;obtain⟨ks,h2⟩: ∃ks,Hid ((F i).kids=ks):=⟨_,rfl⟩;have h4:=hkn i hin;rw[h2.out]at ck h1 h4
  have H0:Hid (IntRow w KA ks):=h1;obtain⟨kl,h3⟩: ∃kl,Hid (ks.length=kl):=⟨_,rfl⟩;rw[h3.out]at ck h4
  have HD:Hid (Yt (fun j=>(F j).kids) (i:Int)=Hu (Yt (fun j=>(F j).kids)) 0 ks+1):=by
   show _=_;rw[Oe HG.out _ (by omega) (by omega)];simp[h2.out]
  clear h1 hkn;have p0:(0:Int)<=(i:Int):=by omega
  have p1:(i:Int)<(n:Int):=by omega
  go_enter func168,ntmps168;go_wp2_with fail
  go_loop [5,6] (fun vd vi=> ∃(t:Nat) (d:Int),t<=kl/\vi= C E (t:Int)/\vd= C E d/\0<=d/\d<=i/\d=Hu (Yt (fun j=>(F j).kids)) 0 (ks.take t)) (fun _ vi=>kl-(intOf vi).toNat)
  case atStart=>exact⟨0,0,Nat.zero_le _,rfl,rfl,by omega,by omega,rfl⟩
  case round=>
   obtain⟨t,d,ht,rfl,rfl,hd0,hd1,hd⟩:=hrel;have h6:Hid (d=Hu (Yt (fun j=>(F j).kids)) 0 (ks.take t)):=hd;clear hd;by_cases h7:t<kl
   ·have hs:t<ks.length:=by rw[h3.out];exact h7
    obtain⟨b',o',rfl,hl',c1⟩:=H0.out.2 t hs;have h0:ks.getD t 0∈ks:=by rw[List.getD_eq_getElem?_getD,List.getElem?_eq_getElem hs];exact List.getElem_mem hs
    have hr:=HG.out i hin (ks.getD t 0) (by show _∈(F i).kids;rw[h2.out];exact h0);obtain⟨a,HA⟩: ∃a:Nat,Hid (ks.getD t 0=(a:Int)):=⟨(ks.getD t 0).toNat,by show _=_;omega⟩;have hai:(a:Int)<i:=by rw[HA.out]at hr;exact hr.2
    rw[HA.out]at c1;clear h0 hr;have h8:=Dd (fun j=>(F j).kids) (a:Int);have h9:=Qhf HG.out (a+1) (a:Int) (by omega) (by omega) (by omega);have HM:=Qix (Yt (fun j=>(F j).kids)) ks t hs;rw[HA.out,<-h6.out]at HM;obtain⟨y,HY⟩: ∃y,Hid (Yt (fun j=>(F j).kids) (a:Int)=y):=⟨_,rfl⟩
    rw[HY.out]at h8 h9 HM;have h5:Hid (Hu (Yt (fun j=>(F j).kids)) 0 (ks.take (t+1))=max d y):=HM;clear HM;have s0:(0:Int)<=(t:Int):=by omega
    have s1:(t:Int)<(kl:Int):=by omega
    by_cases hy:d<y
    ·go_wp2_with (go_at_call 168;refine(IH.out a (by omega) (by omega)).mono ?_;rintro e w1 ⟨rfl,hw⟩;subst hw;rw[HY.out])
     all_goals
      go_round
      case rel=>exact⟨t+1,y,by omega,by first | rfl | go_num,by first | rfl | (congr 1;omega),by omega,by omega,by rw[h5.out];omega⟩
      case measure=>first | (simp[intOf];done) | (simp[intOf];omega)
    ·go_wp2_with (go_at_call 168;refine(IH.out a (by omega) (by omega)).mono ?_;rintro e w1 ⟨rfl,hw⟩;subst hw;rw[HY.out])
     all_goals
      go_round
      case rel=>exact⟨t+1,d,by omega,by first | rfl | go_num,by first | rfl | (congr 1;omega),by omega,by omega,by rw[h5.out];omega⟩
      case measure=>first | (simp[intOf];done) | (simp[intOf];omega)
   ·have s1: ¬(t:Int)<(kl:Int):=by omega
    obtain rfl:t=kl:=by omega
    go_wp2_with fail
    go_ret;exact⟨Zn (by rw[HD.out,h6.out,List.take_of_length_le (by rw[h3.out];exact Nat.le_refl _)]),rfl⟩
theorem Ew{A A':Option Addr}{cap cap':Nat}{l l':List Int}(d:Bool)(w:Q)(h:IntRow w A l)(h':IntRow w A' l')(HD:Hid (decide (l=l')=d)):
  Calls prog 191 #[I A l.length cap,I A' l'.length cap'] w fun e w'=>e= M (H d)/\N w.heap.size w w':=by
 have HR:Hid (IntRow w A l):=h;have H2:Hid (IntRow w A' l'):=h';have hn:=h.1;have h7:=h'.1;unfold maxLen at hn h7;clear h h';obtain⟨n,HL⟩: ∃n,Hid (l.length=n):=⟨_,rfl⟩
 obtain⟨n',h4⟩: ∃n,Hid (l'.length=n):=⟨_,rfl⟩;rw[HL.out]at hn ⊢;rw[h4.out]at h7 ⊢;by_cases hq:n=n'
 rotate_left
 ·have hne:((n:Int) !=(n':Int))=true:=by simp;omega
  have HF:Hid (d=false):=by
   show _=_;rw[<-HD.out];simp only[decide_eq_false_iff_not];intro e;exact hq (by rw[<-HL.out,<-h4.out,e])
  go_enter func191,ntmps191;go_wp2_with fail
  go_ret;exact⟨Qc HF.out.symm,by go_grown⟩
 subst hq;go_enter func191,ntmps191;go_wp2_with fail
 go_loopw [13] (fun i wr=> ∃k:Nat,k<=n/\i= C E k/\(∀j,j<k->l.getD j 0=l'.getD j 0)/\N w.heap.size w wr) (fun i _=>n-(intOf i).toNat)
 case atStart=>exact⟨0,Nat.zero_le _,rfl,fun j hj=>by omega,Below.refl _ _⟩
 case round=>
  obtain⟨k,hk,rfl,h6,h3⟩:=hrel;have H0:Hid (∀j,j<k->l.getD j 0=l'.getD j 0):=h6;clear h6;by_cases h8:k<n
  ·obtain⟨b,o,rfl,hl,c0⟩:=HR.out.2 k (by rw[HL.out];exact h8);obtain⟨b',o',rfl,H1,h9⟩:=H2.out.2 k (by rw[h4.out];exact h8);rw[<-h3.cell (p:=⟨_,_,none⟩) hl]at c0;rw[<-h3.cell (p:=⟨_,_,none⟩) H1]at h9;obtain⟨z,HZ⟩: ∃z,Hid (l.getD k 0=z):=⟨_,rfl⟩;obtain⟨z',h5⟩: ∃z,Hid (l'.getD k 0=z):=⟨_,rfl⟩;rw[HZ.out]at c0
   rw[h5.out]at h9;have h0:(0:Int)<=(k:Int):=by omega
   have h1:(k:Int)<(n:Int):=by omega
   by_cases hz:z=z'
   ·subst hz;go_wp2_with fail
    go_region
    all_goals go_wp2_with fail
    all_goals
     go_roundw
     case rel=>exact⟨k+1,by omega,by go_num,fun j hj=>by
      by_cases e:j=k
      ·subst e;rw[HZ.out,h5.out]
      ·exact H0.out j (by omega),by go_grown⟩
     case measure=>simp[intOf];omega
   ·have hzn:(z !=z')=true:=by simpa using hz
    have HF:Hid (d=false):=by
     show _=_;rw[<-HD.out];simp only[decide_eq_false_iff_not];intro e;exact hz (by rw[<-HZ.out,<-h5.out,e])
    go_wp2_with fail
    go_region
    all_goals go_wp2_with fail
    all_goals
     go_ret;exact⟨Qc HF.out.symm,by go_grown⟩
  ·have h1: ¬(k:Int)<(n:Int):=by omega
   obtain rfl:k=n:=by omega
   have HF:Hid (d=true):=by
    show _=_;rw[<-HD.out];simp only[decide_eq_true_eq];apply List.ext_getElem (by rw[HL.out,h4.out]);intro j h1 h2;have:=H0.out j (by rw[<-HL.out];exact h1);rw[List.getD_eq_getElem?_getD,List.getD_eq_getElem?_getD,List.getElem?_eq_getElem h1,List.getElem?_eq_getElem h2]at this
    exact this
   go_wp2_with fail
   go_ret;exact⟨Qc HF.out.symm,h3⟩
theorem Qlb{W:Q}{B:Nat}{e:TypeId}{n m cap:Nat}{A:Option Addr}{xs:List Value}(h:W.ownsRow B e 1 (I A n cap) n xs)(hm:m<=n):W.ownsRow B e 1 (I A m cap) m (xs.take m):=by
 refine⟨by rw[List.length_take];have:=h.1;omega,?_⟩;rcases h.2 with⟨h1,h2⟩ | ⟨g,cap',cur,h1,hb,hg,h2,h3,h4,h5⟩
 ·cases h1
  obtain rfl:m=0:=by omega
  exact .inl ⟨rfl,rfl⟩
 ·cases h1
  refine .inr ⟨g,cap,cur,rfl,hb,hg,by omega,h3,h4,?_⟩;rw[<-h5,List.take_take,Nat.mul_one,Nat.mul_one,Nat.min_eq_left hm]
theorem Qcw{W:Q}{A:Option Addr}{s:List Int}(h:IntRow W A s)(dl cap:Nat)(hc:s.length<=cap):IntRow W (if cap=dl then A else Option.map (fun x=>x.add dl) A) (s.drop dl):=by
 refine⟨Nat.le_trans (by rw[List.length_drop];omega) h.1,fun i hi=> ?_⟩;rw[List.length_drop]at hi;obtain⟨b,o,rfl,hl,c⟩:=h.2 (dl+i) (by omega);rw[nG (by omega)];refine⟨b,o+dl,by simp[Go.WideShapes.add_plain],hl,?_⟩;rw[Nat.add_assoc,c,List.getD_eq_getElem?_getD,List.getD_eq_getElem?_getD,List.getElem?_drop]
theorem Hl{A A':Option Addr}{n n' cap cap':Nat}{l l':List Int}(d:Bool)(w:Q)(hl:l.length=n)(hl':l'.length=n')(h:IntRow w A l)(h':IntRow w A' l')(HD:Hid (decide (l=l')=d)):
  Calls prog 191 #[I A n cap,I A' n' cap'] w fun e w'=>e= M (H d)/\N w.heap.size w w':=by
 subst hl hl';exact Ew d w h h' HD
theorem map_take(s:List Int)(m:Nat):(s.map (O .i64)).take m=(s.take m).map (O .i64):=by rw[List.map_take]
def Xs(G:Nat->List Int)(n:Nat):Bool:=match stk G n with
 | some s=>decide (s.length=1)
 | none=>false
theorem NS{G:Nat->List Int}{n:Nat}(h:stk G n=none):Xs G n=false:=by rw[Xs,h]
theorem NR{G:Nat->List Int}{n:Nat}{s:List Int}(h:stk G n=some s):Xs G n=decide (s.length=1):=by rw[Xs,h]
theorem UN{A:Option Addr}{n cap:Nat}{F:Nat->FN}(w:Q)(HR:Hid (FnRow w A n F))(hn:n<=60)(hkn: ∀i,i<n->(F i).kids.length<=1048576):
  Calls prog 157 #[I A n cap] w fun e w'=>e= M (H (Xs (fun j=>(F j).kids) n))/\N w.heap.size w w':=by
 obtain⟨i0,hi,G1,G0,g9⟩:=info_parts Qah;have G8:Hid (∀i,i<n->(F i).kids.length<=1048576):=hkn;clear hkn;go_enter func157,ntmps157;go_wp2_with fail
 go_loopw [3,9] (fun v i wr=> ∃(k:Nat) (s:List Int),k<=n/\i= C E k/\stk (fun j=>(F j).kids) k=some s/\s.length<=k/\wr.ownsRow w.heap.size 2 1 v s.length (s.map (O .i64))/\N w.heap.size w wr) (fun _ i _=>n-(intOf i).toNat)
 case atStart=>exact⟨0,[],Nat.zero_le _,rfl,rfl,Nat.le_refl _,World.ownsRow_nil _ _ _ _,Below.refl _ _⟩
 case round=>
  obtain⟨k,s,hk,rfl,H7,G3,h7,h6⟩:=hrel;obtain⟨SA,h4,hv,_,_⟩:=Qr h7;have H0:Hid (stk (fun j=>(F j).kids) k=some s):=H7;have HO:Hid (wr.ownsRow w.heap.size 2 1 u3 s.length (s.map (O .i64))):=h7;clear H7 h7;by_cases H9:k<n
  ·obtain⟨b,o,KA,kc,rfl,hl,H8,g0,hs⟩:=HR.out.2 k H9;obtain⟨c0,c1,c2,c3,c4,c5,c6,c7,c8,c9,c10,c11,c12,G5⟩:=H8.below hl (W':=wr) h6;have hll:b<wr.heap.size:=Nat.lt_of_lt_of_le hl h6.size;have g8:Hid (IntRow wr KA (F k).kids):=g0.below h6;have G4:=G8.out k H9;obtain⟨kl,h8⟩: ∃kl,Hid ((F k).kids.length=kl):=⟨_,rfl⟩;obtain⟨sl,h5⟩: ∃sl,Hid (s.length=sl):=⟨_,rfl⟩
   rw[h8.out]at G5 G4;rw[h5.out]at hv G3;have HB:Hid (N w.heap.size w wr):=h6;have H5:Hid (w.heap.size<=wr.heap.size):=h6.size;clear H8 g0 h6;subst hv;have h0:(0:Int)<=(k:Int):=by omega
   have h1:(k:Int)<(n:Int):=by omega
   by_cases hneg:sl<kl
   ·have g1:(sl:Int)-(kl:Int)<0:=by omega
    have HF:Hid (stk (fun j=>(F j).kids) n=none):=by
     refine Qcd (i:=k+1) ?_ (by omega);rw[stk,H0.out];show(if _ then _ else _)=none;rw[nG];rintro⟨_,h2⟩;have h3:(F k).kids.length<=s.length:=h2;rw[h8.out,h5.out]at h3
     omega
    go_wp2_with fail
    refine L (S:=(fun w'=>(∀bq oq,bq<wr.heap.size+1->w'.cell? ⟨bq,oq,none⟩=(wr.alloc (K #[C E ((F k).k),C E ((F k).o),C E ((F k).ck),C E ((F k).cn),J ((F k).cs),C E ((F k).ac),C E ((F k).ar),H ((F k).af),H ((F k).ag),C E ((F k).bc),C E ((F k).br),H ((F k).bf),H ((F k).bg),I KA kl kc] 177)).cell? ⟨bq,oq,none⟩)/\wr.heap.size+1<=w'.heap.size/\N (wr.heap.size+1) (wr.alloc (K #[C E ((F k).k),C E ((F k).o),C E ((F k).ck),C E ((F k).cn),J ((F k).cs),C E ((F k).ac),C E ((F k).ar),H ((F k).af),H ((F k).ag),C E ((F k).bc),C E ((F k).br),H ((F k).bf),H ((F k).bg),I KA kl kc] 177)) w')) (by kernel_rfl) (QE (by go_size) (by go_grown)) (fun hHeld=> ?_);refine tkA 0 ?_;refine tkB 1 ?_;refine tkA 2 ?_;refine tnB 3 ?_;refine tnA 4 ?_;refine tnB 5 ?_
    refine tnA 6 ?_;refine tnB 7 ?_;refine tnA 8 ?_;refine tnB 9 ?_;refine tkB 10 ?_;refine R (by kernel_rfl) ?_ _;go_wp2_with fail
    go_ret;exact⟨Qc (NS HF.out).symm,HB.out.trans (U (Yz (n:=1) (X:=(wr.alloc (K #[C E ((F k).k),C E ((F k).o),C E ((F k).ck),C E ((F k).cn),J ((F k).cs),C E ((F k).ac),C E ((F k).ar),H ((F k).af),H ((F k).ag),C E ((F k).bc),C E ((F k).br),H ((F k).bf),H ((F k).bg),I KA kl kc] 177))) (by go_grown) (by go_grown)) H5.out)⟩
   obtain⟨dl,g6⟩: ∃dl:Nat,sl=kl+dl:=⟨sl-kl,by omega⟩;have H4:Hid (sl=kl+dl):=g6;have hde:(sl:Int)-(kl:Int)=(dl:Int):=by omega
   have g1: ¬(dl:Int)<0:=by omega
   have g2:(0:Int)<=(dl:Int):=by omega
   have g3:(dl:Int)<=(sl:Int):=by omega
   have H1:Hid (sl<=h4):=by
    rcases HO.out.2 with⟨h1,h2⟩ | ⟨g,cap',cur,h1,_,_,h2,_⟩
    ·rw[h5.out]at h2;show _<=_;omega
    ·cases h1;rw[h5.out]at h2;exact h2
   have g4:(dl:Int)<=(h4:Int):=by have:=H1.out;omega
   have g5:(sl:Int)<=(h4:Int):=by have:=H1.out;omega
   clear g6;cases heq:decide (s.drop dl=(F k).kids)
   ·have H3:Hid (decide (s.drop dl=(F k).kids)=false):=heq
    have HF:Hid (stk (fun j=>(F j).kids) n=none):=by
     refine Qcd (i:=k+1) ?_ (by omega);rw[stk,H0.out];show(if _ then _ else _)=none;rw[nG];rintro⟨h2,_⟩;have h3:s.drop (s.length-(F k).kids.length)=(F k).kids:=h2;rw[h8.out,h5.out,show sl-kl=dl by have:=H4.out;omega]at h3
     simp[h3]at heq
    clear heq;go_wp2_with fail
    refine L (S:=(fun w'=>(∀bq oq,bq<wr.heap.size+1->w'.cell? ⟨bq,oq,none⟩=(wr.alloc (K #[C E ((F k).k),C E ((F k).o),C E ((F k).ck),C E ((F k).cn),J ((F k).cs),C E ((F k).ac),C E ((F k).ar),H ((F k).af),H ((F k).ag),C E ((F k).bc),C E ((F k).br),H ((F k).bf),H ((F k).bg),I KA kl kc] 177)).cell? ⟨bq,oq,none⟩)/\wr.heap.size+1<=w'.heap.size/\N (wr.heap.size+1) (wr.alloc (K #[C E ((F k).k),C E ((F k).o),C E ((F k).ck),C E ((F k).cn),J ((F k).cs),C E ((F k).ac),C E ((F k).ar),H ((F k).af),H ((F k).ag),C E ((F k).bc),C E ((F k).br),H ((F k).bf),H ((F k).bg),I KA kl kc] 177)) w')) (by kernel_rfl) (QE (by go_size) (by go_grown)) (fun hHeld=> ?_);refine tkA 0 ?_;refine tkB 1 ?_;refine tkA 2 ?_;refine tkB 3 ?_;refine tkA 4 ?_;refine tkB 5 ?_
    refine tkA 6 ?_;refine tkB 7 ?_;refine rqA 8 (fun Kq hKq=> ?_);go_simp
    (refine(Hl false _ ?_ ?_ ?_ ?_ H3).mono ?_;(focus (rw[List.length_drop,h5.out]));(focus (exact h8.out));(focus (exact(Qcw (IntRow.below (Vq (by have hh:=HO.out;rw[h5.out]at hh;rw[h5.out];exact hh)) (by go_grown)) dl h4 (by rw[h5.out];exact H1.out))));(focus (exact g8.out.below (by go_grown)));rintro e w1 ⟨rfl,hb⟩;obtain⟨h9,G2⟩:=Qk (B:=wr.heap.size+1) (X:=(wr.alloc (K #[C E ((F k).k),C E ((F k).o),C E ((F k).ck),C E ((F k).cn),J ((F k).cs),C E ((F k).ac),C E ((F k).ar),H ((F k).af),H ((F k).ag),C E ((F k).bc),C E ((F k).br),H ((F k).bf),H ((F k).bg),I KA kl kc] 177))) (by go_grown) (by go_size) hb;have hC:=fun b o h=>h9.cell (p:=⟨b,o,none⟩) h;clear hb)
    refine hkB hKq (QE (by go_size) (by go_grown)) fun hHeld=> ?_;clear hKq Kq;refine tkA 9 ?_;refine tkB 10 ?_;refine R (by kernel_rfl) ?_ _;generalize (Value.slice (if h4=dl then SA else Option.map (fun x=>x.add dl) SA) (sl-dl) (h4-dl))=vjunk
    go_wp2_with fail
    go_ret;exact⟨Qc (NS HF.out).symm,HB.out.trans (U (Yz (n:=1) (X:=(wr.alloc (K #[C E ((F k).k),C E ((F k).o),C E ((F k).ck),C E ((F k).cn),J ((F k).cs),C E ((F k).ac),C E ((F k).ar),H ((F k).af),H ((F k).ag),C E ((F k).bc),C E ((F k).br),H ((F k).bf),H ((F k).bg),I KA kl kc] 177))) (by go_grown) (by go_grown)) H5.out)⟩
   ·have H3:Hid (decide (s.drop dl=(F k).kids)=true):=heq
    have G6:Hid (stk (fun j=>(F j).kids) (k+1)=some (s.take dl++ [(k:Int)])):=by
     show _=_;rw[stk,H0.out];show(if _ then _ else _)=_;have e1:s.length-((F k).kids).length=dl:=by rw[h8.out,h5.out];have:=H4.out;omega
     rw[e1,pS ⟨of_decide_eq_true heq,by rw[h8.out,h5.out];have:=H4.out;omega⟩]
    have g7:Hid ((s.take dl++ [(k:Int)]).length=dl+1):=by show _=_;rw[List.length_append,List.length_take,h5.out];simp;omega
    clear heq;go_wp2_with fail
    refine L (S:=(fun w'=>(∀bq oq,bq<wr.heap.size+1->w'.cell? ⟨bq,oq,none⟩=(wr.alloc (K #[C E ((F k).k),C E ((F k).o),C E ((F k).ck),C E ((F k).cn),J ((F k).cs),C E ((F k).ac),C E ((F k).ar),H ((F k).af),H ((F k).ag),C E ((F k).bc),C E ((F k).br),H ((F k).bf),H ((F k).bg),I KA kl kc] 177)).cell? ⟨bq,oq,none⟩)/\wr.heap.size+1<=w'.heap.size/\N (wr.heap.size+1) (wr.alloc (K #[C E ((F k).k),C E ((F k).o),C E ((F k).ck),C E ((F k).cn),J ((F k).cs),C E ((F k).ac),C E ((F k).ar),H ((F k).af),H ((F k).ag),C E ((F k).bc),C E ((F k).br),H ((F k).bf),H ((F k).bg),I KA kl kc] 177)) w')) (by kernel_rfl) (QE (by go_size) (by go_grown)) (fun hHeld=> ?_);refine tkA 0 ?_;refine tkB 1 ?_;refine tkA 2 ?_;refine tkB 3 ?_;refine tkA 4 ?_;refine tkB 5 ?_
    refine tkA 6 ?_;refine tkB 7 ?_;refine rqA 8 (fun Kq hKq=> ?_);go_simp
    (refine(Hl true _ ?_ ?_ ?_ ?_ H3).mono ?_;(focus (rw[List.length_drop,h5.out]));(focus (exact h8.out));(focus (exact(Qcw (IntRow.below (Vq (by have hh:=HO.out;rw[h5.out]at hh;rw[h5.out];exact hh)) (by go_grown)) dl h4 (by rw[h5.out];exact H1.out))));(focus (exact g8.out.below (by go_grown)));rintro e w1 ⟨rfl,hb⟩;obtain⟨h9,G2⟩:=Qk (B:=wr.heap.size+1) (X:=(wr.alloc (K #[C E ((F k).k),C E ((F k).o),C E ((F k).ck),C E ((F k).cn),J ((F k).cs),C E ((F k).ac),C E ((F k).ar),H ((F k).af),H ((F k).ag),C E ((F k).bc),C E ((F k).br),H ((F k).bf),H ((F k).bg),I KA kl kc] 177))) (by go_grown) (by go_size) hb;have hC:=fun b o h=>h9.cell (p:=⟨b,o,none⟩) h;clear hb)
    refine hkB hKq (QE (by go_size) (by go_grown)) fun hHeld=> ?_;clear hKq Kq;refine tkA 9 ?_;refine tkB 10 ?_;refine R (by kernel_rfl) ?_ _;generalize (Value.slice (if h4=dl then SA else Option.map (fun x=>x.add dl) SA) (sl-dl) (h4-dl))=vjunk
    have H2:Hid (w1.ownsRow w.heap.size 2 1 (I SA dl h4) dl ((s.take dl).map (O .i64))):=by
     have hh:=Qd (HO.out.alloc (K #[C E ((F k).k),C E ((F k).o),C E ((F k).ck),C E ((F k).cn),J ((F k).cs),C E ((F k).ac),C E ((F k).ar),H ((F k).af),H ((F k).ag),C E ((F k).bc),C E ((F k).br),H ((F k).bf),H ((F k).bg),I KA kl kc] 177)) (w':=w1) (by simpa using h9);rw[h5.out]at hh;have h2:=Qlb hh (m:=dl) (by omega);rw[map_take]at h2;exact h2
    have H6:Hid (N w.heap.size w w1):=HB.out.trans (U (Yz (n:=1) (X:=(wr.alloc (K #[C E ((F k).k),C E ((F k).o),C E ((F k).ck),C E ((F k).cn),J ((F k).cs),C E ((F k).ac),C E ((F k).ar),H ((F k).af),H ((F k).ag),C E ((F k).bc),C E ((F k).br),H ((F k).bf),H ((F k).bg),I KA kl kc] 177))) (by go_grown) h9) H5.out);have hw1:w.heap.size<=w1.heap.size:=H6.out.size;clear h9 hC
    go_wp2_with (first
     | (at_builtin;refine wpList_append_own _ rfl _ _ 161 rfl w.heap.size 2 i0 (C E 0) 1 8 underlying161 hi G1 G0 g9 rfl (by decide) _ _ _ rfl (H2.out.alloc _) ⟨w1.heap.size,0,none⟩ 1 1 [C E k] rfl rfl ?c1 ?c2 ?c3 ?c4 ?c5 ?_)
     | go_in)
    case c1=>
     intro q u hq;match q,hq with
     | 0,hq=>simp at hq;subst hq;simp[Addr.add]
    case c2=>intro u hu;simp at hu;subst hu;rfl
    case c3=>unfold maxLen;omega
    case c4=>omega
    case c5=>simp;omega
    intro v' w2 hown' hgrow _;have R2:Hid (N w.heap.size w w2):=(H6.out.alloc H6.out.size _).grown hgrow (by simp;omega) (fun q hq=>by have:=(H2.out.lt q hq).1;omega)
    have G7:Hid (w2.ownsRow w.heap.size 2 1 v' (s.take dl++ [(k:Int)]).length ((s.take dl++ [(k:Int)]).map (O .i64))):=by
     show World.ownsRow _ _ _ _ _ _ _;rw[g7.out,List.map_append,<-map_take];exact hown'
    clear hown' hgrow H2;go_wp2_with fail
    go_roundw
    case rel=>exact⟨k+1,s.take dl++ [(k:Int)],by omega,by go_num,G6.out,by rw[g7.out];omega,G7.out,R2.out⟩
    case measure=>simp[intOf];omega
  ·have h1: ¬(k:Int)<(n:Int):=by omega
   obtain rfl:k=n:=by omega
   subst hv;have HE:Hid (((s.length:Int)==1)=Xs (fun j=>(F j).kids) k):=by show _=_;rw[NR H0.out,Bool.eq_iff_iff];simp;omega
   go_wp2_with fail
   go_ret;exact⟨Qc HE.out,h6⟩
end Go.Proofs.YtomadadmakdkgaaGreatDoor
