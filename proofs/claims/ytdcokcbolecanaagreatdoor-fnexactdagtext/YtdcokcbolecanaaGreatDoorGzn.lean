import Derived.Test.YtdcokcbolecanaaGreatDoorMn
import Derived.Test.YtdcokcbolecanaaGreatDoorGzm
set_option linter.unusedSimpArgs false
set_option linter.unusedVariables false
set_option maxHeartbeats 4000000
set_option maxRecDepth 100000
namespace Go.Proofs.YtdcokcbolecanaaGreatDoor
open Go.RowKit Go.Maps
theorem Vj {v:Value} {d:DG} (id:Int) (w:World) (h:DgRow w v d):
  Calls Tryz.prog 27 #[v,.int .i64 id] w fun e w'=> ∃r:Int,e= .returned (.int .i64 r)∧(r<0↔ ¬id∈QT d.vs)∧Below w.heap.size w w':=by
 obtain⟨A1,n1,c1,A2,n2,c2,rfl⟩:=h.agg;obtain⟨r1,e1,r2,e2⟩:=h.open;have R1:Hid (VrRow w A1 d.vs):=r1;have E1:Hid (d.vs.length=n1):=e1;have hn:=r1.1;rw [e1]at hn;unfold maxLen at hn
 clear h r1 r2 e1 e2;go_enter Tryz.func27,Tryz.ntmps27;go_wp2_with fail
 obtain⟨X,HX⟩: ∃X,Hid (w.alloc (.cells #[.int .i64 d.next,.slice A1 n1 c1,.slice A2 n2 c2] 31)=X):=⟨_,rfl⟩;rw [HX.out];have x1:X.cell? ⟨w.heap.size,1,none⟩=some (.slice A1 n1 c1):=by rw [←HX.out];go_simp
 have zX:w.heap.size<X.heap.size:=by rw [←HX.out];simp
 have hbX:Below w.heap.size w X:=by rw [←HX.out];go_grown
 clear HX;go_loopw [5] (fun i wr=> ∃k:Nat,k≤n1∧i= .int .i64 k∧(∀(t:Nat) x,t<k→d.vs[t]? =some x→x.id≠id)∧Below X.heap.size X wr) (fun i _=>n1-(intOf i).toNat)
 case atStart=>exact⟨0,Nat.zero_le _,rfl,fun t x ht=>by omega,Below.refl _ _⟩
 case round=>
  obtain⟨k,hk,rfl,hall,hbel⟩:=hrel;have HA:Hid (∀(t:Nat) x,t<k→d.vs[t]? =some x→x.id≠id):=hall;have KX:=hd (Qb hbX hbel);have KB:Hid (Below X.heap.size X wr):=hbel;have y1:wr.cell? ⟨w.heap.size,1,none⟩=some (.slice A1 n1 c1):=cy hbel x1;have zw:w.heap.size<wr.heap.size:=Nat.lt_of_lt_of_le zX hbel.size;clear hall hbel
  by_cases hlt:k<n1
  ·obtain⟨x,hx⟩:=ZF E1.out hlt;have HX:Hid (d.vs[k]? =some x):=hx;obtain⟨b,o,u,uc,s,sc,rfl,hl,c0,_,_,_,_⟩:=R1.out.2 k x hx;rw [←KX.out.cell (p:=⟨_,_,none⟩) hl]at c0;have hl2:b<wr.heap.size:=Nat.lt_of_lt_of_le hl KX.out.size;have h0:(0:Int)≤(k:Int):=by omega
   have h1:(k:Int)<(n1:Int):=by omega
   clear hx;by_cases he:x.id=id
   ·go_wp2_with fail
    go_ret;exact⟨_,rfl,⟨fun h=>by omega,fun h=>absurd (List.mem_map.2 ⟨x,List.mem_of_getElem? HX.out,he⟩) h⟩,KX.out⟩
   ·have he2:(x.id==id)=false:=by simpa using he
    go_wp2_with fail
    go_roundw
    case rel=>exact⟨k+1,by omega,by go_num,fun t y ht hy=>by
     by_cases e:t=k
     ·subst e;rw [HX.out]at hy;cases hy;exact he
     ·exact HA.out t y (by omega) hy,KB.out⟩
    case measure=>simp [intOf];omega
  ·have h1: ¬(k:Int)<(n1:Int):=by omega
   go_wp2_with fail
   go_ret
   exact⟨_,rfl,⟨fun _ hm=>by
    obtain⟨x,hx,he⟩:=List.mem_map.1 hm;obtain⟨t,ht,rfl⟩:=List.mem_iff_getElem.1 hx
    exact HA.out t _ (by have:=E1.out;omega) (List.getElem?_eq_getElem ht) he,fun _=>by omega⟩,KX.out⟩
def upOne (L:List VR) (x:VR) (k:Nat) (u:Int):Bool:=decide (u<x.id)&&(decide (u∈QT L)&&(decide (k=0) || ltI (x.ups.getD (k-1) 0) u))
def verS (next:Int) (L:List VR) (t:Nat) (x:VR):Bool:=(decide (1≤x.id)&&decide (x.id≤next-1))&&((decide (t=0) || (match L[t-1]? with | some y=>ltV y x | none=>true))&&(decide (x.ups.length≤2)&&Zf x.C x.R x.S x.m))
theorem GY {L:List VR} (h:YM ltV L=true): ∀(i j:Nat) x y,i<j→L[i]? =some x→L[j]? =some y→x.id<y.id
 | i,0,x,y,hij,_,_=>by omega
 | i,j+1,x,y,hij,hx,hy=>by
  have hj:j<L.length:=by have:=(List.getElem?_eq_some_iff.1 hy).1;omega
  have hz:=List.getElem?_eq_getElem hj;have h1:L[j].id<y.id:=of_decide_eq_true (Nr h hz hy);by_cases e:i=j
  ·subst e;rw [hz]at hx;cases hx;exact h1
  ·have:=GY h i j x L[j] (by omega) hx hz;omega
theorem Ml {L:List VR} (h:YM ltV L=true) {t:Nat} {x:VR} (hx:L[t]? =some x) (u:Int):u∈QT (L.take t)↔u∈QT L∧u<x.id:=by
 constructor
 ·intro hu;obtain⟨y,hy,rfl⟩:=List.mem_map.1 hu;obtain⟨i,hi,rfl⟩:=List.mem_iff_getElem.1 hy;have hi2:i<t∧i<L.length:=by simpa [Nat.lt_min]using hi
  rw [List.getElem_take];exact⟨List.mem_map.2 ⟨_,List.getElem_mem hi2.2,rfl⟩,GY h i t _ x hi2.1 (List.getElem?_eq_getElem hi2.2) hx⟩
 ·rintro⟨hu,hlt⟩;obtain⟨y,hy,rfl⟩:=List.mem_map.1 hu;obtain⟨i,hi,rfl⟩:=List.mem_iff_getElem.1 hy
  have hit:i<t:=Classical.byContradiction fun h9=>by
   by_cases e:i=t
   ·subst e;rw [List.getElem?_eq_getElem hi]at hx;cases hx;omega
   ·have:=GY h t i x _ (by omega) hx (List.getElem?_eq_getElem hi);omega
  refine List.mem_map.2 ⟨L[i],?_,rfl⟩;refine List.mem_iff_getElem.2 ⟨i,by simp [Nat.lt_min];exact⟨hit,hi⟩,List.getElem_take ..⟩
theorem Qd9 {d:DG} (h:d.next<2∨1000000000<d.next):Xe d=false:=by
 rw [Xe];by_cases h1:1<d.next
 ·rw [decide_eq_false (p:=d.next≤1000000000) (by omega),Bool.false_and,Bool.and_false]
 ·rw [decide_eq_false h1,Bool.false_and]
theorem Ys {d:DG} (h:YW d.next d.vs=false):Xe d=false:=by rw [Xe,h,Bool.false_and,Bool.and_false,Bool.and_false]
theorem Nm {d:DG} (h:UD (QT d.vs) d.bs=false):Xe d=false:=by rw [Xe,h,Bool.and_false,Bool.and_false,Bool.and_false]
theorem Qd8 {d:DG} {t:Nat} {x y:VR} (hx:d.vs[t+1]? =some x) (hy:d.vs[t]? =some y) (h: ¬y.id<x.id):Xe d=false:=Ys (Kc (JH hy hx (decide_eq_false h)))
theorem Qku {d:DG} {t:Nat} {x:VR} (hx:d.vs[t]? =some x) (h:x.id<1∨d.next≤x.id):Xe d=false:=Ys (ZR hx (by
 rcases h with h | h
 ·exact BP h
 ·exact BQ h))
theorem EN {d:DG} {t:Nat} {x:VR} (hx:d.vs[t]? =some x) (h:2<x.ups.length):Xe d=false:=Ys (ZR hx (Hv (Oq h)))
theorem Mr {d:DG} {t:Nat} {x:VR} (hx:d.vs[t]? =some x) (h:Zf x.C x.R x.S x.m=false):Xe d=false:=Ys (ZR hx (BS h))
theorem Qfg {d:DG} {t k:Nat} {x:VR} {u:Int} (hx:d.vs[t]? =some x) (hu:x.ups[k]? =some u) (h: ¬u<x.id∨ ¬u∈QT d.vs):Xe d=false:=by
 cases ha:YM ltV d.vs with
 | false=>exact Ys (Kc ha)
 | true=>exact Ys (ZR hx (Hv (BT hu (decide_eq_false fun h9=>by
   have:=(Ml ha hx u).1 h9;rcases h with h | h
   ·exact h this.2
   ·exact h this.1))))
theorem Qd7 {d:DG} {t k:Nat} {x:VR} {u z:Int} (hx:d.vs[t]? =some x) (hu:x.ups[k+1]? =some u) (hz:x.ups[k]? =some z) (h: ¬z<u):Xe d=false:=
 Ys (ZR hx (Hv (Ot (JH hz hu (decide_eq_false h)))))
theorem Dt {d:DG} (h:d.vs.length<1∨40<d.vs.length):Xe d=false:=Ys (Kb h)
theorem Du {d:DG} (h:d.bs.length<1∨8<d.bs.length):Xe d=false:=Nm (GU h)
theorem Qfh {d:DG} {t:Nat} {x:BR} (hx:d.bs[t]? =some x) (h:nmB x.n=false∨ ¬x.h∈QT d.vs):Xe d=false:=Nm (Np hx (by
 rcases h with h | h
 ·rw [YZ,h];rfl
 ·rw [YZ,decide_eq_false h,Bool.and_false]))
theorem Qea {d:DG} {t:Nat} {x y:BR} (hx:d.bs[t+1]? =some x) (hy:d.bs[t]? =some y) (h:ltB y x=false):Xe d=false:=Nm (DA (JH hy hx h))
structure VerOk (d:DG) (t:Nat) (x:VR):Prop where
 lo:1≤x.id
 hi:x.id<d.next
 pr: ∀(s:Nat) y,t=s+1→d.vs[s]? =some y→y.id<x.id
 up:x.ups.length≤2
 sh:Zf x.C x.R x.S x.m=true
 el: ∀(k:Nat) u,x.ups[k]? =some u→u<x.id∧u∈QT d.vs
 ri: ∀(k:Nat) z u,x.ups[k]? =some z→x.ups[k+1]? =some u→z<u
structure BrcOk (d:DG) (t:Nat) (x:BR):Prop where
 nm:nmB x.n=true
 hd:x.h∈QT d.vs
 pr: ∀(s:Nat) y,t=s+1→d.bs[s]? =some y→ltB y x=true
theorem Qih {d:DG} (h1:2≤d.next) (h2:d.next≤1000000000) (v1:1≤d.vs.length) (v2:d.vs.length≤40) (b1:1≤d.bs.length) (b2:d.bs.length≤8)
  (hv: ∀(t:Nat) x,d.vs[t]? =some x→VerOk d t x) (hb: ∀(t:Nat) x,d.bs[t]? =some x→BrcOk d t x):Xe d=true:=by
 have ha:YM ltV d.vs=true:=XF fun i x y hx hy=>decide_eq_true ((hv (i+1) y hy).pr i x rfl hx)
 have e1:YW d.next d.vs=true:=UL v1 v2 ha fun t x hx=>by
  obtain⟨lo,hi,pr,up,sh,el,ri⟩:=hv t x hx;exact BO lo hi (Oo up (XF fun i z u hz hu=>decide_eq_true (ri i z u hz hu)) fun i u hu=>decide_eq_true ((Ml ha hx u).2 ⟨(el i u hu).2,(el i u hu).1⟩)) sh
 have e2:UD (QT d.vs) d.bs=true:=Dz b1 b2 (XF fun i x y hx hy=>(hb (i+1) y hy).pr i x rfl hx) fun t x hx=>by
  rw [YZ,(hb t x hx).nm,decide_eq_true (hb t x hx).hd];rfl
 rw [Xe,e1,e2,decide_eq_true (by omega),decide_eq_true h2];rfl
end Go.Proofs.YtdcokcbolecanaaGreatDoor
