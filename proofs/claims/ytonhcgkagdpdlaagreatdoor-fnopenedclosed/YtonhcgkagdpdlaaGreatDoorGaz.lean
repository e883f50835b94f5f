import Derived.Test.YtonhcgkagdpdlaaGreatDoorGzd
import Derived.Laws.BytesString
import Derived.Test.YtonhcgkagdpdlaaGreatDoorGaa
import Derived.Deep.RegionHeld3
set_option linter.unusedSimpArgs false
set_option linter.unusedVariables false
namespace Go.Proofs.YtonhcgkagdpdlaaGreatDoor
open Go.RowKit
structure Mid (B0 B1:Nat) (w W:World):Prop where
 os:W.os=w.os
 tape:W.tape=w.tape
 output:W.output=w.output
 size:w.heap.size≤W.heap.size
 block: ∀k,k<w.heap.size→k<B0∨B1≤k→W.heap[k]? =w.heap[k]?
theorem Mid.refl (B0 B1:Nat) (w:World):Mid B0 B1 w w:=⟨rfl,rfl,rfl,Nat.le_refl _,fun _ _ _=>rfl⟩
theorem Mid.below {B0 B1:Nat} {w W W':World} (h:Mid B0 B1 w W) (hb:Below W.heap.size W W'):Mid B0 B1 w W':=
 ⟨hb.os.trans h.os,hb.tape.trans h.tape,hb.output.trans h.output,Nat.le_trans h.size hb.size,fun k hk hr=>(hb.block k (Nat.lt_of_lt_of_le hk h.size)).trans (h.block k hk hr)⟩
theorem Mid.set {B0 B1:Nat} {w W:World} (h:Mid B0 B1 w W) {a:Addr} (u:Value) (h0:B0≤a.block) (h1:a.block<B1):Mid B0 B1 w (W.setCell a u):=
 ⟨h.os,h.tape,h.output,by simpa using h.size,fun k hk hr=>by rw [Below.heap_setCell _ _ _ _ (by omega)];exact h.block k hk hr⟩
def KRow (W:World) (g B1:Nat) (KA:Option Addr) (m kc:Nat):Prop:=(∃zs,W.ownsRow (g+1) 2 1 (.slice KA m kc) m zs)∧ ∀b,(Value.slice KA m kc).ownBlock=some b→b<B1
def Mk (w:World) (g B1 n:Nat) (F:Nat→FN) (W:World):Prop:=
 Mid g B1 w W∧ ∃ys,W.ownsRow g 54 14 (.slice (some ⟨g,0,none⟩) n n) n ys∧ ∀i,i<n→ ∃KA kc,ys[i*14+13]? =some (.slice KA (F i).kids.length kc)∧KRow W g B1 KA (F i).kids.length kc
theorem KRow.below {W W':World} {g B1:Nat} {KA:Option Addr} {m kc:Nat} (h:KRow W g B1 KA m kc) (hb:Below W.heap.size W W'):KRow W' g B1 KA m kc:=by
 obtain⟨⟨zs,h1⟩,h2⟩:=h
 exact⟨⟨zs,own_below h1 hb⟩,h2⟩
theorem Mk.below {w W W':World} {g B1 n:Nat} {F:Nat→FN} (h:Mk w g B1 n F W) (hb:Below W.heap.size W W'):Mk w g B1 n F W':=by
 obtain⟨h1,ys,h2,h3⟩:=h
 refine⟨h1.below hb,ys,own_below h2 hb,fun i hi=> ?_⟩
 obtain⟨KA,kc,e1,e2⟩:=h3 i hi
 exact⟨KA,kc,e1,e2.below hb⟩
theorem Mk.cells {w W:World} {g B1 n:Nat} {F:Nat→FN} (h:Mk w g B1 n F W) (t:Nat) (ht:t<n):(∀j,j<13→ ∃x,W.cell? ⟨g,t*14+j,none⟩=some x∧W.frozen? ⟨g,t*14+j,none⟩=false)∧
  ∃KA kc,W.cell? ⟨g,t*14+13,none⟩=some (.slice KA (F t).kids.length kc)∧KRow W g B1 KA (F t).kids.length kc:=by
 obtain⟨_,ys,h2,h3⟩:=h
 obtain⟨A',cap',e,_,hc⟩:=own_shape h2
 cases e
 have hl:=h2.1
 constructor
 ·intro j hj
  obtain⟨g',e',_,_,d,f⟩:=hc (t*14+j) (by omega)
  cases e'
  exact⟨_,d.trans (List.getElem?_eq_getElem (by omega)),f⟩
 ·obtain⟨KA,kc,e1,e2⟩:=h3 t ht
  obtain⟨g',e',_,_,d,f⟩:=hc (t*14+13) (by omega)
  cases e'
  exact⟨KA,kc,d.trans e1,e2⟩
theorem infoAr:(Tryz.prog.info? 57).map (fun i=>(i.zero,i.size,i.bytes))=some (some (.agg #[.int .i64 0,.int .i64 0,.int .i64 0,.int .i64 0]),4,32):=by kernel_rfl
def Marked (ys:List Value) (k:Int) (m:Nat):Prop:= ∀j,j<m→ys[j]? =some (.int .i64 (k+(j:Nat)))
def mtGo (m:Nat) (s:ByteArray):ByteArray:=if h:m=0 then s else mtGo (m/10) ((⟨#[48+UInt8.ofNat (m%10)]⟩:ByteArray)++s)
 termination_by m
 decreasing_by omega
def mtx (k:Int):ByteArray:=(⟨#[109]⟩:ByteArray)++mtGo k.toNat ⟨#[]⟩
def kq (L:Nat→Nat):Nat→Int
 | 0=>1
 | i+1=>kq L i+13+(L i:Int)
def m3 (k:Int):Bool:=k%3==0
def markL (k:Int):List Value:= [.int .i64 (k),.int .i64 (k+1),.int .i64 (k+1+1),.int .i64 (k+1+1+1),.string (mtx (k+1+1+1+1)),.int .i64 (k+1+1+1+1+1),.int .i64 (k+1+1+1+1+1+1),.bool (m3 (k+1+1+1+1+1+1+1)),.bool (m3 (k+1+1+1+1+1+1+1+1)),.int .i64 (k+1+1+1+1+1+1+1+1+1),.int .i64 (k+1+1+1+1+1+1+1+1+1+1),.bool (m3 (k+1+1+1+1+1+1+1+1+1+1+1)),.bool (m3 (k+1+1+1+1+1+1+1+1+1+1+1+1))]
def kblock (ys:List Value) (i:Nat):Option Nat:=(ys[i*14+13]?).bind Value.ownBlock
def KDiff (ys:List Value) (n:Nat):Prop:= ∀i j,i<n→j<n→i≠j→ ∀b,kblock ys i=some b→kblock ys j≠some b
def MkV (w:World) (g B1 n:Nat) (L:Nat→Nat) (W:World) (t q:Nat):Prop:=
 Mid g B1 w W∧ ∃ys,W.ownsRow g 54 14 (.slice (some ⟨g,0,none⟩) n n) n ys∧
  (∀i,i<n→ ∃KA kc zs,ys[i*14+13]? =some (.slice KA (L i) kc)∧W.ownsRow (g+1) 2 1 (.slice KA (L i) kc) (L i) zs∧(∀b,(Value.slice KA (L i) kc).ownBlock=some b→b<B1)∧(i<t→Marked zs (kq L i+13) (L i)))∧
  (∀i j,i<t→j<13→ys[i*14+j]? =(markL (kq L i))[j]?)∧(∀j,j<q→ys[t*14+j]? =(markL (kq L t))[j]?)∧KDiff ys n
theorem MkV.below {w W W':World} {g B1 n t q:Nat} {L:Nat→Nat} (h:MkV w g B1 n L W t q) (hb:Below W.heap.size W W'):MkV w g B1 n L W' t q:=by
 obtain⟨h1,ys,h2,h3,h4,h5,h6⟩:=h
 refine⟨h1.below hb,ys,own_below h2 hb,fun i hi=> ?_,h4,h5,h6⟩
 obtain⟨KA,kc,zs,e1,e2,e3,e4⟩:=h3 i hi
 exact⟨KA,kc,zs,e1,own_below e2 hb,e3,e4⟩
theorem MkV.set {w W:World} {g B1 n t:Nat} (q:Nat) {L:Nat→Nat} (u:Value) (h:MkV w g B1 n L W t q) (hq:q<13) (ht:t<n) (hg:g<B1) (hu:(markL (kq L t))[q]? =some u):MkV w g B1 n L (W.setCell ⟨g,t*14+q,none⟩ u) t (q+1):=by
 obtain⟨h1,ys,h2,h3,h4,h5,h6⟩:=h
 have hl:=h2.1
 have hk: ∀i,(ys.set (t*14+q) u)[i*14+13]? =ys[i*14+13]?:=fun i=>List.getElem?_set_ne (by omega)
 refine⟨h1.set u (Nat.le_refl _) hg,_,(h2.stored (t*14+q) u).1,fun i hi=> ?_,fun i j hi hj=> ?_,fun j hj=> ?_,fun i j hi hj hne b=> ?_⟩
 ·obtain⟨KA,kc,zs,e1,e2,e3,e4⟩:=h3 i hi
  exact⟨KA,kc,zs,(hk i).trans e1,ownsRow_setCell_below e2 (Nat.lt_succ_self g) u,e3,e4⟩
 ·rw [List.getElem?_set_ne (by omega)];exact h4 i j hi hj
 ·by_cases e:j=q
  ·subst e;rw [List.getElem?_set_self (by omega)];exact hu.symm
  ·rw [List.getElem?_set_ne (by omega)];exact h5 j (by omega)
 ·unfold kblock;rw [hk i,hk j];exact h6 i j hi hj hne b
theorem MkV.kid {w W:World} {g B1 n t:Nat} {L:Nat→Nat} (h:MkV w g B1 n L W t 13) (ht:t<n):
  ∃KA kc zs,W.cell? ⟨g,t*14+13,none⟩=some (.slice KA (L t) kc)∧W.ownsRow (g+1) 2 1 (.slice KA (L t) kc) (L t) zs∧
   ∀W' zs',W'.ownsRow (g+1) 2 1 (.slice KA (L t) kc) (L t) zs'→Marked zs' (kq L t+13) (L t)→W.grownBy W' (Value.slice KA (L t) kc).ownBlock→MkV w g B1 n L W' (t+1) 0:=by
 obtain⟨h1,ys,h2,h3,h4,h5,h6⟩:=h
 obtain⟨A',cap',e,_,hc⟩:=own_shape h2
 cases e
 obtain⟨KA,kc,zs,e1,e2,e3,e4⟩:=h3 t ht
 obtain⟨g',e',_,_,d,f⟩:=hc (t*14+13) (by omega)
 cases e'
 refine⟨KA,kc,zs,d.trans e1,e2,fun W' zs' o' m' gr=> ?_⟩
 refine⟨⟨gr.os.trans h1.os,gr.tape.trans h1.tape,gr.output.trans h1.output,Nat.le_trans h1.size gr.size,fun k hk hr=>(gr.block k (Nat.lt_of_lt_of_le hk h1.size) (fun e=> ?_)).trans (h1.block k hk hr)⟩,ys,h2.kept gr (Or.inr fun e=> ?_),fun i hi=> ?_,fun i j hi hj=> ?_,fun j hj=>by omega,h6⟩
 ·have a1:=(e2.lt k e.symm).1
  have a2:=e3 k e.symm
  omega
 ·have a1:=(e2.lt g e.symm).1
  omega
 ·by_cases e:i=t
  ·subst e
   exact⟨KA,kc,zs',e1,o',e3,fun _=>m'⟩
  ·obtain⟨KB,kb,ys',q1,q2,q3,q4⟩:=h3 i hi
   refine⟨KB,kb,ys',q1,q2.kept gr ?_,q3,fun hlt=>q4 (by omega)⟩
   cases hv:(Value.slice KB (L i) kb).ownBlock with
   | none=>exact Or.inl rfl
   | some b=>
    right
    intro e9
    refine h6 i t hi ht e b (by unfold kblock;rw [q1];exact hv) (by unfold kblock;rw [e1];exact e9.symm)
 ·by_cases e:i=t
  ·subst e;exact h5 j hj
  ·exact h4 i j (by omega) hj
theorem MkV.cells {w W:World} {g B1 n t q:Nat} {L:Nat→Nat} (h:MkV w g B1 n L W t q) (ht:t<n): ∀j,j<14→ ∃x,W.cell? ⟨g,t*14+j,none⟩=some x∧W.frozen? ⟨g,t*14+j,none⟩=false:=by
 obtain⟨_,ys,h2,h3,_⟩:=h
 obtain⟨A',cap',e,_,hc⟩:=own_shape h2
 cases e
 have hl:=h2.1
 intro j hj
 obtain⟨g',e',_,_,d,f⟩:=hc (t*14+j) (by omega)
 cases e'
 exact⟨_,d.trans (List.getElem?_eq_getElem (by omega)),f⟩
def HeldV (W:World) (g n:Nat) (L:Nat→Nat):Prop:=
 ∃ys,W.ownsRow g 54 14 (.slice (some ⟨g,0,none⟩) n n) n ys∧ ∀i,i<n→(∀j,j<13→ys[i*14+j]? =(markL (kq L i))[j]?)∧
  ∃KA kc zs,ys[i*14+13]? =some (.slice KA (L i) kc)∧W.ownsRow (g+1) 2 1 (.slice KA (L i) kc) (L i) zs∧Marked zs (kq L i+13) (L i)
theorem HeldV.below {W W':World} {g n:Nat} {L:Nat→Nat} (h:HeldV W g n L) (hb:Below W.heap.size W W'):HeldV W' g n L:=by
 obtain⟨ys,h1,h2⟩:=h
 refine⟨ys,own_below h1 hb,fun i hi=> ?_⟩
 obtain⟨c,KA,kc,zs,e1,e2,e3⟩:=h2 i hi
 exact⟨c,KA,kc,zs,e1,own_below e2 hb,e3⟩
theorem MkV.held {w W:World} {g B1 n:Nat} {L:Nat→Nat} (h:MkV w g B1 n L W n 0):Mid g B1 w W∧HeldV W g n L:=by
 obtain⟨h1,ys,h2,h3,h4,h5,h6⟩:=h
 refine⟨h1,ys,h2,fun i hi=>⟨fun j hj=>h4 i j hi hj,?_⟩⟩
 obtain⟨KA,kc,zs,e1,e2,e3,e4⟩:=h3 i hi
 exact⟨KA,kc,zs,e1,e2,e4 hi⟩
theorem HeldV.at {W:World} {g n:Nat} {L:Nat→Nat} (h:HeldV W g n L) (t:Nat) (ht:t<n):g<W.heap.size∧(∀j,j<13→W.cell? ⟨g,t*14+j,none⟩=(markL (kq L t))[j]?)∧
  ∃KA kc zs,W.cell? ⟨g,t*14+13,none⟩=some (.slice KA (L t) kc)∧W.ownsRow (g+1) 2 1 (.slice KA (L t) kc) (L t) zs∧Marked zs (kq L t+13) (L t):=by
 obtain⟨ys,h2,h3⟩:=h
 obtain⟨A',cap',e,_,hc⟩:=own_shape h2
 cases e
 obtain⟨c,KA,kc,zs,e1,e2,e3⟩:=h3 t ht
 obtain⟨g0,e0,_,hlt,_,_⟩:=hc (t*14) (by omega)
 cases e0
 refine⟨hlt,fun j hj=> ?_,KA,kc,zs,?_,e2,e3⟩
 ·obtain⟨g',e',_,_,d,f⟩:=hc (t*14+j) (by omega)
  cases e'
  rw [d];exact c j hj
 ·obtain⟨g',e',_,_,d,f⟩:=hc (t*14+13) (by omega)
  cases e'
  exact d.trans e1
end Go.Proofs.YtonhcgkagdpdlaaGreatDoor
