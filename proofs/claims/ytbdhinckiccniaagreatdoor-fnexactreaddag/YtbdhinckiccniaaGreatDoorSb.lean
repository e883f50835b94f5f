import Derived.Test.YtbdhinckiccniaaGreatDoorMn
import Derived.Test.YtbdhinckiccniaaGreatDoorSa
import Derived.Test.YtbdhinckiccniaaGreatDoorGaa
import Derived.Test.YtbdhinckiccniaaGreatDoorShelf
import Derived.Lib.Join
import Derived.Test.YtbdhinckiccniaaGreatDoorGar
import Derived.Test.YtbdhinckiccniaaGreatDoorGas
import Derived.Test.YtbdhinckiccniaaGreatDoorGze
set_option linter.unusedSimpArgs false
set_option linter.unusedVariables false
set_option maxHeartbeats 4000000
set_option maxRecDepth 100000
namespace Go.Proofs.YtbdhinckiccniaaGreatDoor
open Go.RowKit Go.Maps
theorem Ha{v:Value}{d:DG}(id:Int)(w:World)(h:DgRow w v d):
  Calls Tryz.prog 129 #[v,.int .i64 id] w fun e w'=> ∃r:Int,e= .returned (.int .i64 r)∧(r<0↔ ¬id∈QA d.vs)∧Below w.heap.size w w':=by
 obtain⟨A1,n1,c1,A2,n2,c2,rfl⟩:=h.agg;obtain⟨r1,e1,r2,e2⟩:=h.open;have R1:Hid (VrRow w A1 d.vs):=r1;have E1:Hid (d.vs.length=n1):=e1;have hn:=r1.1;rw[e1]at hn;unfold maxLen at hn
 clear h r1 r2 e1 e2;go_enter Tryz.func129,Tryz.ntmps129;go_wp2_with fail
 obtain⟨X,HX⟩: ∃X,Hid (w.alloc (.cells #[.int .i64 d.next,.slice A1 n1 c1,.slice A2 n2 c2] 43)=X):=⟨_,rfl⟩;rw[HX.out];have x1:X.cell? ⟨w.heap.size,1,none⟩=some (.slice A1 n1 c1):=by rw[←HX.out];go_simp
 have zX:w.heap.size<X.heap.size:=by rw[←HX.out];simp
 have hbX:Below w.heap.size w X:=by rw[←HX.out];go_grown
 clear HX;go_loopw [5] (fun i wr=> ∃k:Nat,k≤n1∧i= .int .i64 k∧(∀(t:Nat) x,t<k→d.vs[t]? =some x→x.id≠id)∧Below X.heap.size X wr) (fun i _=>n1-(intOf i).toNat)
 case atStart=>exact⟨0,Nat.zero_le _,rfl,fun t x ht=>by omega,Below.refl _ _⟩
 case round=>
  obtain⟨k,hk,rfl,hall,hbel⟩:=hrel;have HA:Hid (∀(t:Nat) x,t<k→d.vs[t]? =some x→x.id≠id):=hall;have KX:=hd (Qc hbX hbel);have KB:Hid (Below X.heap.size X wr):=hbel;have y1:wr.cell? ⟨w.heap.size,1,none⟩=some (.slice A1 n1 c1):=cy hbel x1;have zw:w.heap.size<wr.heap.size:=Nat.lt_of_lt_of_le zX hbel.size;clear hall hbel
  by_cases hlt:k<n1
  ·obtain⟨x,hx⟩:=Zw E1.out hlt;have HX:Hid (d.vs[k]? =some x):=hx;obtain⟨b,o,u,uc,s,sc,rfl,hl,c0,_,_,_,_⟩:=R1.out.2 k x hx;rw[←KX.out.cell (p:=⟨_,_,none⟩) hl]at c0;have hl2:b<wr.heap.size:=Nat.lt_of_lt_of_le hl KX.out.size;have h0:(0:Int)≤(k:Int):=by omega
   have h1:(k:Int)<(n1:Int):=by omega
   clear hx;by_cases he:x.id=id
   ·go_wp2_with fail
    go_ret;exact⟨_,rfl,⟨fun h=>by omega,fun h=>absurd (List.mem_map.2 ⟨x,List.mem_of_getElem? HX.out,he⟩) h⟩,KX.out⟩
   ·have he2:(x.id==id)=false:=by simpa using he
    go_wp2_with fail
    go_roundw
    case rel=>exact⟨k+1,by omega,by go_num,fun t y ht hy=>by
     by_cases e:t=k
     ·subst e;rw[HX.out]at hy;cases hy;exact he
     ·exact HA.out t y (by omega) hy,KB.out⟩
    case measure=>simp[intOf];omega
  ·have h1: ¬(k:Int)<(n1:Int):=by omega
   go_wp2_with fail
   go_ret
   exact⟨_,rfl,⟨fun _ hm=>by
    obtain⟨x,hx,he⟩:=List.mem_map.1 hm;obtain⟨t,ht,rfl⟩:=List.mem_iff_getElem.1 hx
    exact HA.out t _ (by have:=E1.out;omega) (List.getElem?_eq_getElem ht) he,fun _=>by omega⟩,KX.out⟩
theorem Vl{L:List VR}(h:YQ ltV L=true): ∀(i j:Nat) x y,i<j→L[i]? =some x→L[j]? =some y→x.id<y.id
 | i,0,x,y,hij,_,_=>by omega
 | i,j+1,x,y,hij,hx,hy=>by
  have hj:j<L.length:=by have:=(List.getElem?_eq_some_iff.1 hy).1;omega
  have hz:=List.getElem?_eq_getElem hj;have h1:L[j].id<y.id:=of_decide_eq_true (EF h hz hy);by_cases e:i=j
  ·subst e;rw[hz]at hx;cases hx;exact h1
  ·have:=Vl h i j x L[j] (by omega) hx hz;omega
theorem DA{L:List VR}(h:YQ ltV L=true){t:Nat}{x:VR}(hx:L[t]? =some x)(u:Int):u∈QA (L.take t)↔u∈QA L∧u<x.id:=by
 constructor
 ·intro hu;obtain⟨y,hy,rfl⟩:=List.mem_map.1 hu;obtain⟨i,hi,rfl⟩:=List.mem_iff_getElem.1 hy;have hi2:i<t∧i<L.length:=by simpa[Nat.lt_min]using hi
  rw[List.getElem_take];exact⟨List.mem_map.2 ⟨_,List.getElem_mem hi2.2,rfl⟩,Vl h i t _ x hi2.1 (List.getElem?_eq_getElem hi2.2) hx⟩
 ·rintro⟨hu,hlt⟩;obtain⟨y,hy,rfl⟩:=List.mem_map.1 hu;obtain⟨i,hi,rfl⟩:=List.mem_iff_getElem.1 hy
  have hit:i<t:=Classical.byContradiction fun h9=>by
   by_cases e:i=t
   ·subst e;rw[List.getElem?_eq_getElem hi]at hx;cases hx;omega
   ·have:=Vl h t i x _ (by omega) hx (List.getElem?_eq_getElem hi);omega
  refine List.mem_map.2 ⟨L[i],?_,rfl⟩;refine List.mem_iff_getElem.2 ⟨i,by simp[Nat.lt_min];exact⟨hit,hi⟩,List.getElem_take ..⟩
theorem Qcn{d:DG}(h:d.next<2∨1000000000<d.next):YW d=false:=by
 rw[YW];by_cases h1:1<d.next
 ·rw[decide_eq_false (p:=d.next≤1000000000) (by omega),Bool.false_and,Bool.and_false]
 ·rw[decide_eq_false h1,Bool.false_and]
theorem Yw{d:DG}(h:XM d.next d.vs=false):YW d=false:=by rw[YW,h,Bool.false_and,Bool.and_false,Bool.and_false]
theorem EA{d:DG}(h:MZ (QA d.vs) d.bs=false):YW d=false:=by rw[YW,h,Bool.and_false,Bool.and_false,Bool.and_false]
theorem Qls{d:DG}{t:Nat}{x y:VR}(hx:d.vs[t+1]? =some x)(hy:d.vs[t]? =some y)(h: ¬y.id<x.id):YW d=false:=Yw (Vm (VV hy hx (decide_eq_false h)))
theorem Qeu{d:DG}{t:Nat}{x:VR}(hx:d.vs[t]? =some x)(h:x.id<1∨d.next≤x.id):YW d=false:=Yw (Yb hx (by
 rcases h with h | h
 ·exact Qe7 h
 ·exact Qe8 h))
theorem Ez{d:DG}{t:Nat}{x:VR}(hx:d.vs[t]? =some x)(h:2<x.ups.length):YW d=false:=Yw (Yb hx (Mb (Qa9 h)))
theorem DJ{d:DG}{t:Nat}{x:VR}(hx:d.vs[t]? =some x)(h:Qx x.C x.R x.S x.m=false):YW d=false:=Yw (Yb hx (Qe9 h))
theorem Qet{d:DG}{t k:Nat}{x:VR}{u:Int}(hx:d.vs[t]? =some x)(hu:x.ups[k]? =some u)(h: ¬u<x.id∨ ¬u∈QA d.vs):YW d=false:=by
 cases ha:YQ ltV d.vs with
 | false=>exact Yw (Vm ha)
 | true=>exact Yw (Yb hx (Mb (Qfb hu (decide_eq_false fun h9=>by
   have:=(DA ha hx u).1 h9;rcases h with h | h
   ·exact h this.2
   ·exact h this.1))))
theorem Qlr{d:DG}{t k:Nat}{x:VR}{u z:Int}(hx:d.vs[t]? =some x)(hu:x.ups[k+1]? =some u)(hz:x.ups[k]? =some z)(h: ¬z<u):YW d=false:=
 Yw (Yb hx (Mb (Qba (VV hz hu (decide_eq_false h)))))
theorem Nt{d:DG}(h:d.vs.length<1∨40<d.vs.length):YW d=false:=Yw (Gy h)
theorem Nu{d:DG}(h:d.bs.length<1∨8<d.bs.length):YW d=false:=EA (ND h)
theorem Qev{d:DG}{t:Nat}{x:BR}(hx:d.bs[t]? =some x)(h:nmB x.n=false∨ ¬x.h∈QA d.vs):YW d=false:=EA (ED hx (by
 rcases h with h | h
 ·rw[Xn,h];rfl
 ·rw[Xn,decide_eq_false h,Bool.and_false]))
theorem Qlt{d:DG}{t:Nat}{x y:BR}(hx:d.bs[t+1]? =some x)(hy:d.bs[t]? =some y)(h:ltB y x=false):YW d=false:=EA (Qcu (VV hy hx h))
structure VerOk (d:DG) (t:Nat) (x:VR):Prop where
 lo:1≤x.id
 hi:x.id<d.next
 pr: ∀(s:Nat) y,t=s+1→d.vs[s]? =some y→y.id<x.id
 up:x.ups.length≤2
 sh:Qx x.C x.R x.S x.m=true
 el: ∀(k:Nat) u,x.ups[k]? =some u→u<x.id∧u∈QA d.vs
 ri: ∀(k:Nat) z u,x.ups[k]? =some z→x.ups[k+1]? =some u→z<u
structure BrcOk (d:DG) (t:Nat) (x:BR):Prop where
 nm:nmB x.n=true
 hd:x.h∈QA d.vs
 pr: ∀(s:Nat) y,t=s+1→d.bs[s]? =some y→ltB y x=true
theorem Qq0{d:DG}(h1:2≤d.next)(h2:d.next≤1000000000)(v1:1≤d.vs.length)(v2:d.vs.length≤40)(b1:1≤d.bs.length)(b2:d.bs.length≤8)
  (hv: ∀(t:Nat) x,d.vs[t]? =some x→VerOk d t x) (hb: ∀(t:Nat) x,d.bs[t]? =some x→BrcOk d t x):YW d=true:=by
 have ha:YQ ltV d.vs=true:=JE fun i x y hx hy=>decide_eq_true ((hv (i+1) y hy).pr i x rfl hx)
 have e1:XM d.next d.vs=true:=Oy v1 v2 ha fun t x hx=>by
  obtain⟨lo,hi,pr,up,sh,el,ri⟩:=hv t x hx;exact Qe6 lo hi (Qa8 up (JE fun i z u hz hu=>decide_eq_true (ri i z u hz hu)) fun i u hu=>decide_eq_true ((DA ha hx u).2 ⟨(el i u hu).2,(el i u hu).1⟩)) sh
 have e2:MZ (QA d.vs) d.bs=true:=Qct b1 b2 (JE fun i x y hx hy=>(hb (i+1) y hy).pr i x rfl hx) fun t x hx=>by
  rw[Xn,(hb t x hx).nm,decide_eq_true (hb t x hx).hd];rfl
 rw[YW,e1,e2,decide_eq_true (by omega),decide_eq_true h2];rfl
end Go.Proofs.YtbdhinckiccniaaGreatDoor
namespace Go.Proofs.YtbdhinckiccniaaGreatDoor
open Go.RowKit
def XV(ps:List ByteArray):List UInt8:=ps.flatMap fun p=>p.data.toList++ [10]
theorem Ql0(a b:List ByteArray):XV (a++b)=XV a++XV b:=by simp[XV]
theorem Qlz(p:ByteArray):XV [p]=p.data.toList++ [10]:=by simp[XV]
theorem Nl: ∀ps:List ByteArray,ps≠ []→Lib.join (ps.map (·.data.toList)) [10]++ [10]=XV ps
 | [],h=>absurd rfl h
 | [p],_=>by simp[Lib.join,XV,List.intercalate]
 | p::q::r,_=>by
  have ih:=Nl (q::r) (by simp);show List.intercalate [10] ((p::q::r).map (·.data.toList))++ [10]=_;rw[List.map_cons,List.map_cons,List.intercalate_cons_cons];have e:XV (p::q::r)=p.data.toList++ [10]++XV (q::r):=by simp[XV]
  rw[e,←ih];simp[Lib.join]
theorem Qb8(ps:List ByteArray)(h:ps≠ []):(Lib.join (ps.map (·.data.toList)) [10]).length+1=(XV ps).length:=by
 rw[←Nl ps h,List.length_append];rfl
theorem NN{B n:Nat}{v:Value}{ps:List ByteArray}(w:World)(h:w.ownsRow B 9 1 v n (ps.map Value.string))(hn:ps.length=n)(h0:ps≠ [])(hz:(XV ps).length≤1099511627776)(hN:n≤1099511627776):
  Calls Tryz.prog 83 #[v,.string ⟨#[10]⟩] w fun e w'=>e= .returned (.string ⟨(Lib.join (ps.map (·.data.toList)) [10]).toArray⟩)∧Below w.heap.size w w':=by
 subst hn;have hs:=h;rcases h.2 with⟨rfl,h9⟩ | ⟨g,cap,cur,rfl,hb,hg,h1,h2,h3,h4⟩
 ·exact absurd (List.eq_nil_of_length_eq_zero h9) h0
 ·refine(Tryz.strings_Join g 0 cap ps ⟨#[10]⟩ w ?_ (Array.getElem?_eq_some_iff.1 hg).1 (by omega) h1 ?_).mono ?_
  ·intro j x hx;have hj:j<ps.length:=(List.getElem?_eq_some_iff.1 hx).1;have:=hs.cellAt j (by omega);rw[Nat.zero_add,this,List.getElem?_map,hx];rfl
  ·have:=Qb8 ps h0;show(Lib.join (ps.map (·.data.toList)) [10]).length≤_;omega
  ·rintro e w' ⟨rfl,hb⟩;exact⟨rfl,hb⟩
theorem YI(n:Int)(w:World)(h0: -9223372036854775808≤n)(h1:n≤9223372036854775807)(hv:VarT w):Calls Tryz.prog 80 #[.int .i64 n] w fun e w'=>e= .returned (.string (itB n))∧Below w.heap.size w w':=by
 have HV:Hid (VarT w):=hv;clear hv;go_enter Tryz.func80,Tryz.ntmps80;go_wp2_with fail
 refine(Tryz.strconv_FormatInt_10 n h0 h1 _ HV.out).mono ?_;rintro e w2 ⟨rfl,k,os,rfl⟩;have hb2:=Lib.below_grow w.heap.size w (Nat.le_refl _) k os;go_wp2_with fail
 go_ret;exact⟨rfl,hb2⟩
theorem Xf{b:Int}(h:0≤b)(h1:b≤1000000000):(itB b).size≤16:=by
 obtain⟨m,rfl⟩: ∃m:Nat,b=(m:Int):=⟨b.toNat,by omega⟩;exact Jd (by omega)
theorem Xw(n:Int)(w:World)(h0:0≤n)(h1:n≤1000000000):Calls Tryz.prog 67 #[.int .i64 n] w fun e w'=>e= .returned (.string (itB n))∧Below w.heap.size w w':=
 YN n w (decide_eq_true ⟨by omega,by omega⟩)
def plB(a b:Int):ByteArray:=if Qh a b then Qw a b.toNat false false else⟨#[]⟩
theorem Ni(a b:Int):(plB a b).size≤6:=by
 unfold plB;split
 ·unfold Qw;rw[ByteArray.size_append,ByteArray.size_append,ByteArray.size_append];have:=Xl false;have:=Xh a;have:=Xg b.toNat;omega
 ·exact Nat.zero_le _
theorem Qbq{a b:Int}(h:Qh a b=true): ∃i:Nat,b=(i:Int)∧1≤i∧i≤99:=by
 unfold Qh at h;have h':=of_decide_eq_true h;exact⟨b.toNat,by omega,by omega,by omega⟩
theorem Ui(a b:Int)(w:World):Calls Tryz.prog 68 #[.agg #[.int .i64 a,.int .i64 b,.bool false,.bool false]] w fun e w'=>
  e= .returned (.string (plB a b))∧Below w.heap.size w w':=by
 cases h:Qh a b
 ·unfold plB;rw[h];exact Xt a b false false w h
 ·obtain⟨i,rfl,h1,h2⟩:=Qbq h;unfold plB;rw[h];exact Zc a i false false w (by omega) h
theorem Us(a b:Int)(w:World):Calls Tryz.prog 82 #[.agg #[.int .i64 a,.int .i64 b,.bool false,.bool false]] w fun e w'=>
  e= .returned (.string (plB a b))∧Below w.heap.size w w':=by
 cases h:Qh a b
 ·unfold plB;rw[h];exact KM a b false false w h
 ·obtain⟨i,rfl,h1,h2⟩:=Qbq h;unfold plB;rw[h];exact Zs a i false false w (by omega) h
end Go.Proofs.YtbdhinckiccniaaGreatDoor
namespace Go.Proofs.YtbdhinckiccniaaGreatDoor
open Go.RowKit Go.Maps
structure DgFacts (d:DG):Prop where
 asc:YQ ltV d.vs=true
 lo: ∀x∈d.vs,1≤x.id
 hi: ∀x∈d.vs,x.id<d.next
 nx:d.next≤1000000000
 nv:d.vs.length≤40
 nb:d.bs.length≤8
 ups: ∀x∈d.vs,∀u∈x.ups,u∈QA d.vs
 two: ∀x∈d.vs,x.ups.length≤2
 hd: ∀x∈d.bs,x.h∈QA d.vs
theorem Qiq{d:DG}(h:YW d=true):DgFacts d:=by
 have hnx:d.next≤1000000000:=Classical.byContradiction fun h9=>by rw[Qcn (Or.inr (by omega))]at h;cases h
 have hasc:YQ ltV d.vs=true:=by
  cases ha:YQ ltV d.vs with
  | true=>rfl
  | false=>rw[Yw (Vm ha)]at h;cases h
 refine⟨hasc,?_,?_,hnx,?_,?_,?_,?_,?_⟩
 ·intro x hx;obtain⟨t,ht,rfl⟩:=List.mem_iff_getElem.1 hx;exact Classical.byContradiction fun h9=>by rw[Qeu (List.getElem?_eq_getElem ht) (Or.inl (by omega))]at h;cases h
 ·intro x hx;obtain⟨t,ht,rfl⟩:=List.mem_iff_getElem.1 hx;exact Classical.byContradiction fun h9=>by rw[Qeu (List.getElem?_eq_getElem ht) (Or.inr (by omega))]at h;cases h
 ·exact Classical.byContradiction fun h9=>by rw[Nt (Or.inr (by omega))]at h;cases h
 ·exact Classical.byContradiction fun h9=>by rw[Nu (Or.inr (by omega))]at h;cases h
 ·intro x hx u hu;obtain⟨t,ht,rfl⟩:=List.mem_iff_getElem.1 hx;obtain⟨k,hk,rfl⟩:=List.mem_iff_getElem.1 hu;exact Classical.byContradiction fun h9=>by rw[Qet (List.getElem?_eq_getElem ht) (List.getElem?_eq_getElem hk) (Or.inr h9)]at h;cases h
 ·intro x hx;obtain⟨t,ht,rfl⟩:=List.mem_iff_getElem.1 hx;exact Classical.byContradiction fun h9=>by rw[Ez (List.getElem?_eq_getElem ht) (by omega)]at h;cases h
 ·intro x hx;obtain⟨t,ht,rfl⟩:=List.mem_iff_getElem.1 hx;exact Classical.byContradiction fun h9=>by rw[Qev (List.getElem?_eq_getElem ht) (Or.inr h9)]at h;cases h
theorem Qqg{L:List VR}{a:Int}(h:a∈QA L): ∃x,x∈L∧x.id=a:=by
 obtain⟨x,hx,e⟩:=List.mem_map.1 h;exact⟨x,hx,e⟩
theorem Qf9{L:List VR}{x:VR}(h:x∈L):x.id∈QA L:=List.mem_map.2 ⟨x,h,rfl⟩
def sDag:ByteArray:=⟨#[100,97,103,32]⟩
def sBr:ByteArray:=⟨#[98,114,97,110,99,104,32]⟩
def sVr:ByteArray:=⟨#[118,101,114,115,105,111,110,32]⟩
def sSp:ByteArray:=⟨#[32]⟩
def sNl:ByteArray:=⟨#[10]⟩
def Qi7(n:Int):ByteArray:=sDag++itB n
def Qnh(b:BR):ByteArray:=sBr++b.n++sSp++itB b.h
def GO:List Int→ByteArray→ByteArray
 | [],a=>a
 | u::r,a=>GO r (a++(sSp++itB u))
def Ko(x:VR):ByteArray:=GO x.ups (sVr++itB x.id)
def Qnd(x:VR)(i:Nat):ByteArray:=plB (x.C i) (x.R i)++sSp++x.S i
def JV(x:VR)(t:Nat):List ByteArray:=(List.range t).map (Qnd x)
def Ql9(x:VR):List ByteArray:=Ko x::JV x x.m
def Qec(d:DG):List ByteArray:=Qi7 d.next::(d.bs.map Qnh++d.vs.flatMap Ql9)
theorem Gz(u:Int): ∀(l:List Int) (a:ByteArray),GO (l++ [u]) a=GO l a++(sSp++itB u)
 | [],a=>rfl
 | z::l,a=>Gz u l _
theorem Qfj{l:List Int}{k:Nat}{y:Int}(h:l[k]? =some y):l.take (k+1)=l.take k++ [y]:=by rw[List.take_add_one,h];rfl
theorem DQ(x:VR)(t:Nat):JV x (t+1)=JV x t++ [Qnd x t]:=by unfold JV;rw[List.range_succ,List.map_append];rfl
theorem Ny(x:VR)(t:Nat):(JV x t).length=t:=by unfold JV;simp
structure DgTx (d:DG):Prop where
 n0:0≤d.next
 nx:d.next≤1000000000
 nv:d.vs.length≤40
 nb:d.bs.length≤8
 bn: ∀x∈d.bs,x.n.size≤12
 bh: ∀x∈d.bs,0≤x.h∧x.h≤1000000000
 id: ∀x∈d.vs,0≤x.id∧x.id≤1000000000
 up: ∀x∈d.vs,∀u∈x.ups,0≤u∧u≤1000000000
 two: ∀x∈d.vs,x.ups.length≤2
 m: ∀x∈d.vs,x.m≤120
 s: ∀x∈d.vs,∀i,i<x.m→(x.S i).size≤200
theorem Qio{n:Int}(h:0≤n)(h1:n≤1000000000):(Qi7 n).size≤300:=by
 unfold Qi7;rw[ByteArray.size_append];have:=Xf h h1;have:sDag.size=4:=rfl;omega
theorem Qiw{b:BR}(hn:b.n.size≤12)(h:0≤b.h∧b.h≤1000000000):(Qnh b).size≤300:=by
 unfold Qnh;rw[ByteArray.size_append,ByteArray.size_append,ByteArray.size_append];have:=Xf h.1 h.2;have:sBr.size=7:=rfl;have:sSp.size=1:=rfl;omega
theorem Vn: ∀(l:List Int) (a:ByteArray),(∀u∈l,0≤u∧u≤1000000000)→(GO l a).size≤a.size+l.length*20
 | [],a,_=>by simp[GO]
 | u::l,a,h=>by
  have h1:=Vn l (a++(sSp++itB u)) (fun z hz=>h z (by simp[hz]));have h2:=h u (by simp);rw[ByteArray.size_append,ByteArray.size_append]at h1;have:=Xf h2.1 h2.2;have:sSp.size=1:=rfl;have:(u::l).length=l.length+1:=rfl;show(GO l (a++(sSp++itB u))).size≤_
  omega
theorem Ox{d:DG}(h:DgTx d){x:VR}(hx:x∈d.vs):(Ko x).size≤300:=by
 unfold Ko;have h1:=Vn x.ups (sVr++itB x.id) (h.up x hx);rw[ByteArray.size_append]at h1;have:=Xf (h.id x hx).1 (h.id x hx).2;have:sVr.size=8:=rfl;have:=h.two x hx;omega
theorem DR{d:DG}(h:DgTx d){x:VR}(hx:x∈d.vs){i:Nat}(hi:i<x.m):(Qnd x i).size≤300:=by
 unfold Qnd;rw[ByteArray.size_append,ByteArray.size_append];have:=Ni (x.C i) (x.R i);have:=h.s x hx i hi;have:sSp.size=1:=rfl;omega
theorem DW: ∀(ps:List ByteArray),(∀p∈ps,p.size≤300)→(XV ps).length≤ps.length*301
 | [],_=>by simp[XV]
 | p::r,h=>by
  have h1:=DW r (fun q hq=>h q (by simp[hq]));have h2:=h p (by simp);have e:XV (p::r)=(p.data.toList++ [10])++XV r:=by simp[XV]
  have h3:p.data.toList.length=p.size:=Array.length_toList;rw[e,List.length_append,List.length_append,h3];simp only[List.length_cons,List.length_nil];omega
def LnOk(ps:List ByteArray)(n:Nat):Prop:=(∀p∈ps,p.size≤300)∧ps.length≤n
theorem LnOk.cat{ps:List ByteArray}{n:Nat}(h:LnOk ps n):(XV ps).length≤n*301:=Nat.le_trans (DW ps h.1) (Nat.mul_le_mul_right _ h.2)
theorem LnOk.snoc{ps:List ByteArray}{n:Nat}{p:ByteArray}(h:LnOk ps n)(hp:p.size≤300):LnOk (ps++ [p]) (n+1):=
 ⟨fun q hq=>by
  rcases List.mem_append.1 hq with hq | hq
  ·exact h.1 q hq
  ·rw[List.mem_singleton.1 hq];exact hp,by rw[List.length_append];have:=h.2;simp;omega⟩
def bLs(d:DG)(t:Nat):List ByteArray:=Qi7 d.next::(d.bs.take t).map Qnh
def vLs(d:DG)(t:Nat):List ByteArray:=bLs d d.bs.length++(d.vs.take t).flatMap Ql9
theorem Qcv{d:DG}{t:Nat}{x:BR}(hx:d.bs[t]? =some x):bLs d (t+1)=bLs d t++ [Qnh x]:=by
 unfold bLs;rw[List.take_add_one,hx];simp
theorem Qa7{d:DG}{t:Nat}{x:VR}(hx:d.vs[t]? =some x):vLs d (t+1)=(vLs d t++ [Ko x])++JV x x.m:=by
 unfold vLs;rw[List.take_add_one,hx];simp[Ql9]
theorem Qa6(d:DG):vLs d 0=bLs d d.bs.length:=by unfold vLs;simp
theorem Qfa(d:DG):vLs d d.vs.length=Qec d:=by unfold vLs bLs Qec;simp
theorem Qe1{d:DG}(h:DgTx d)(t:Nat):LnOk (bLs d t) 9:=by
 refine⟨fun p hp=> ?_,?_⟩
 ·rcases List.mem_cons.1 hp with rfl | hp
  ·exact Qio h.n0 h.nx
  ·obtain⟨b,hb,rfl⟩:=List.mem_map.1 hp;have hb':=List.mem_of_mem_take hb;exact Qiw (h.bn b hb') (h.bh b hb')
 ·unfold bLs;have:=h.nb;simp[List.length_take];omega
theorem Qnz{d:DG}(h:DgTx d){x:VR}(hx:x∈d.vs):LnOk (Ql9 x) 121:=by
 refine⟨fun p hp=> ?_,?_⟩
 ·rcases List.mem_cons.1 hp with rfl | hp
  ·exact Ox h hx
  ·obtain⟨i,hi,rfl⟩:=List.mem_map.1 hp;exact DR h hx (List.mem_range.1 hi)
 ·unfold Ql9;have:=h.m x hx;rw[List.length_cons,Ny];omega
theorem Qgj{d:DG}(h:DgTx d): ∀L:List VR,(∀x∈L,x∈d.vs)→LnOk (L.flatMap Ql9) (L.length*121)
 | [],_=>⟨fun p hp=>absurd hp (by simp),by simp⟩
 | x::L,hL=>by
  have h1:=Qgj h L (fun y hy=>hL y (by simp[hy]));have h2:=Qnz h (hL x (by simp));refine⟨fun p hp=> ?_,?_⟩
  ·rw[List.flatMap_cons]at hp;rcases List.mem_append.1 hp with hp | hp
   ·exact h2.1 p hp
   ·exact h1.1 p hp
  ·rw[List.flatMap_cons,List.length_append];have:=h1.2;have:=h2.2;have:(x::L).length=L.length+1:=rfl;omega
theorem EK{d:DG}(h:DgTx d)(t:Nat):LnOk (vLs d t) 5000:=by
 have h1:=Qe1 h d.bs.length;have h2:=Qgj h (d.vs.take t) (fun x hx=>List.mem_of_mem_take hx);refine⟨fun p hp=> ?_,?_⟩
 ·rcases List.mem_append.1 hp with hp | hp
  ·exact h1.1 p hp
  ·exact h2.1 p hp
 ·unfold vLs;rw[List.length_append];have:=h1.2;have:=h2.2;have:(d.vs.take t).length≤40:=by rw[List.length_take];have:=h.nv;omega
  omega
theorem Qvi{d:DG}(h:DgTx d){ps:List ByteArray}{n:Nat}{x:VR}(hx:x∈d.vs)(hp:LnOk ps n){t:Nat}(ht:t≤x.m):LnOk (ps++JV x t) (n+t):=by
 refine⟨fun p hq=> ?_,?_⟩
 ·rcases List.mem_append.1 hq with hq | hq
  ·exact hp.1 p hq
  ·obtain⟨i,hi,rfl⟩:=List.mem_map.1 hq;exact DR h hx (Nat.lt_of_lt_of_le (List.mem_range.1 hi) ht)
 ·rw[List.length_append,Ny];have:=hp.2;omega
def Qgq(d:DG):ByteArray:=if YW d=true then⟨(XV (Qec d)).toArray⟩else⟨#[]⟩
theorem Qpc{s:ByteArray}(h:Mu s=true):s.size≤200:=by
 unfold Mu inF at h;by_cases hr:QE s=true
 ·unfold QE at hr;simp only[Bool.and_eq_true,decide_eq_true_eq]at hr;exact hr.1
 ·rw[if_neg hr]at h;cases h
theorem Qnb{C R:Nat→Int}{S:Nat→ByteArray}{n:Nat}(h:Qx C R S n=true):n≤120∧ ∀i,i<n→(S i).size≤200:=by
 unfold Qx at h;simp only[Bool.and_eq_true,decide_eq_true_eq]at h;refine⟨h.1.1,fun i hi=> ?_⟩;have h9:=List.all_eq_true.1 h.2 i (List.mem_range.2 hi);unfold Yl at h9;simp only[Bool.and_eq_true]at h9;exact Qpc h9.2
theorem Qm4{d:DG}(h:YW d=true):DgTx d:=by
 have hf:=Qiq h;simp only[YW,Bool.and_eq_true,decide_eq_true_eq]at h;obtain⟨h0,h1,h2,h3⟩:=h
 have hid: ∀y∈QA d.vs,0≤y∧y≤1000000000:=fun y hy=>by
  obtain⟨x,hx,e⟩:=Qqg hy;have a1:=hf.lo x hx;have a2:=hf.hi x hx;rw[←e];exact⟨by omega,by omega⟩
 have hcl: ∀x∈d.vs,Qx x.C x.R x.S x.m=true:=fun x hx=>by
  obtain⟨i,hi,e⟩:=List.mem_iff_getElem.1 hx;have hx2:d.vs[i]? =some x:=by rw[List.getElem?_eq_getElem hi,e]
  cases hv:Jp d.next (QA (d.vs.take i)) x with
  | false=>rw[Yb hx2 hv]at h2;cases h2
  | true=>
   simp only[Jp,Bool.and_eq_true]at hv;exact hv.2.2.2
 have hbr: ∀x∈d.bs,Xn (QA d.vs) x=true:=fun x hx=>by
  simp only[MZ,Bool.and_eq_true]at h3;exact List.all_eq_true.1 h3.2.2 x hx
 refine⟨by omega,h1,hf.nv,hf.nb,fun x hx=> ?_,fun x hx=>hid _ (hf.hd x hx),fun x hx=>hid _ (Qf9 hx),fun x hx u hu=>hid _ (hf.ups x hx u hu),hf.two,fun x hx=>(Qnb (hcl x hx)).1,fun x hx=>(Qnb (hcl x hx)).2⟩;have h9:=hbr x hx;simp only[Xn,Bool.and_eq_true]at h9;have h8:=h9.1;simp only[nmB,Bool.and_eq_true,decide_eq_true_eq]at h8;exact h8.1.2
end Go.Proofs.YtbdhinckiccniaaGreatDoor
