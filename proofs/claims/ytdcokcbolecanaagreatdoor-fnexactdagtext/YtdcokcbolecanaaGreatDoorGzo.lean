import Derived.Test.YtdcokcbolecanaaGreatDoorGze
import Derived.OpenShut
import Derived.Deep.Slices
import Derived.ChangeSame
import Derived.Test.YtdcokcbolecanaaGreatDoorGzk
import Derived.Lib.SmallJoins
set_option linter.unusedSimpArgs false
set_option linter.unusedVariables false
set_option maxRecDepth 100000
namespace Go.Proofs.YtdcokcbolecanaaGreatDoor
open Go.ChangeShapes Go.WideShapes Go.ChangeAt Go.RowKit Go.Joins
theorem EQ:Tryz.prog.cellsOf 109=3:=by kernel_rfl
theorem Qll {H:Type} {enc:TypeId × Value→H} {W:World} {r:Reach} {b0 base:Nat} {sp:Nat→Bool} {held:Bool} {v:Value} {d:DataW H} {p:List MemPlace}
  (hv:Value.okWide Tryz.prog W r b0 60 v) (h:DataW.Trod enc Tryz.prog W base sp held 60 v d p):
  ∃A len cap C R S,v= .slice A len cap∧ClRow W A len C R S:=by
 obtain⟨a0,len,cap,rfl⟩:=okWide_slice Tryz.underlying60 hv;obtain⟨fuel,hf⟩:=h;rcases Go.Deep.open_slice Tryz.underlying60 hf with⟨hcs,_⟩ | ⟨a,len',cap',m,n,D,Pl,hcs,_,hl,hm,hmm,_,hx⟩
 ·simp [Value.cells]at hcs;obtain⟨rfl,rfl,rfl⟩:=hcs;exact⟨none,0,0,fun _=>0,fun _=>0,fun _=>⟨#[]⟩,rfl,Nat.zero_le _,fun i hi=>absurd hi (Nat.not_lt_zero _)⟩
 ·simp [Value.cells]at hcs;obtain⟨rfl,rfl,rfl⟩:=hcs;rw [EQ]at hx;have hlm:len≤m:=by rw [hmm];split<;>omega
  have each: ∀i,i<len→ ∃q:Int × Int × ByteArray,∃b o,some a=some (⟨b,o,none⟩:Addr)∧b<W.heap.size∧W.cell? ⟨b,o+i*3,none⟩=some (.int .i64 q.1)∧W.cell? ⟨b,o+i*3+1,none⟩=some (.int .i64 q.2.1)∧
    W.cell? ⟨b,o+i*3+2,none⟩=some (.string q.2.2)∧q.2.2.size≤maxLen:=by
   intro i hi;obtain⟨cs',h1,h2⟩:=hx i (by omega);obtain⟨_,hlen,hcell⟩:=World.cells?_some h1;have kr:Tryz.prog.cellsOf 107=2:=by kernel_rfl
   have k1:Tryz.prog.cellsOf 2=1:=by kernel_rfl
   have ks:Tryz.prog.cellsOf 9=1:=by kernel_rfl
   match cs',hlen with
   | [v0,v1,v2],_=>
    obtain⟨y0,y1,n1,_,_,g0,g1⟩:=trod_struct2 Tryz.underlying109 h2;simp only [kr,ks,List.drop_zero,List.take_succ_cons,List.take_zero,List.drop_succ_cons]at g0 g1;obtain⟨z0,z1,n2,_,_,q0,q1⟩:=trod_struct2 Tryz.underlying107 g0;simp only [k1,List.drop_zero,List.take_succ_cons,List.take_zero,List.drop_succ_cons]at q0 q1;obtain⟨x0,e0,_,_⟩:=DataW.trod_int Tryz.underlying2 q0;obtain⟨x1,e1,_,_⟩:=DataW.trod_int Tryz.underlying2 q1;obtain⟨s,e2,_,ws⟩:=DataW.trod_string Tryz.underlying9 g1
    simp at e0 e1 e2;subst e0 e1 e2;have d0:=hcell 0 (by omega);have d1:=hcell 1 (by omega);have d2:=hcell 2 (by omega);obtain⟨b,off,spot⟩:=a
    have hspot:spot=none:=by
     obtain⟨cs0,h01,_⟩:=hx 0 (by omega);obtain⟨_,hlen0,hcell0⟩:=World.cells?_some h01;have hc0:=hcell0 0 (by omega);rw [List.getElem?_eq_getElem (by omega)]at hc0;have hc1:=World.cell?_spot hc0;simpa [Addr.add]using hc1
    subst hspot;simp only [Go.WideShapes.add_plain]at d0 d1 d2;refine⟨(x0,x1,s),b,off,rfl,World.block_lt_of_cell? W ⟨b,off+i*3+0,none⟩ d0,d0,d1,d2,ws⟩
  haveI:Inhabited (Int × Int × ByteArray):=⟨(0,0,⟨#[]⟩)⟩
  obtain⟨q,hq⟩:=Go.Deep.choose_lt each;exact⟨some a,len,cap,fun i=>(q i).1,fun i=>(q i).2.1,fun i=>(q i).2.2,rfl,Nat.le_trans hl hm,hq⟩
theorem Qax {H:Type} {enc:TypeId × Value→H} {W:World} {base:Nat} {sp:Nat→Bool} {held:Bool} {fuel:Nat} {c:Value} {y:DataW H × List MemPlace}
  (hf:DataW.trod enc Tryz.prog W base sp held fuel 60 [c]=some y):
  ∃A len cap C R S,c= .slice A len cap∧ClRow W A len C R S:=by
 rcases Go.Deep.open_slice Tryz.underlying60 hf with⟨hcs,_⟩ | ⟨a,len,cap,m,n,D,Pl,hcs,_,hl,hm,hmm,_,hx⟩
 ·simp at hcs;subst hcs;exact⟨none,0,0,fun _=>0,fun _=>0,fun _=>⟨#[]⟩,rfl,Nat.zero_le _,fun i hi=>absurd hi (Nat.not_lt_zero _)⟩
 ·simp at hcs;subst hcs;rw [EQ]at hx;have hlm:len≤m:=by rw [hmm];split<;>omega
  have each: ∀i,i<len→ ∃q:Int × Int × ByteArray,∃b o,some a=some (⟨b,o,none⟩:Addr)∧b<W.heap.size∧W.cell? ⟨b,o+i*3,none⟩=some (.int .i64 q.1)∧W.cell? ⟨b,o+i*3+1,none⟩=some (.int .i64 q.2.1)∧
    W.cell? ⟨b,o+i*3+2,none⟩=some (.string q.2.2)∧q.2.2.size≤maxLen:=by
   intro i hi;obtain⟨cs',h1,h2⟩:=hx i (by omega);obtain⟨_,hlen,hcell⟩:=World.cells?_some h1;have kr:Tryz.prog.cellsOf 107=2:=by kernel_rfl
   have k1:Tryz.prog.cellsOf 2=1:=by kernel_rfl
   have ks:Tryz.prog.cellsOf 9=1:=by kernel_rfl
   match cs',hlen with
   | [v0,v1,v2],_=>
    obtain⟨y0,y1,n1,_,_,g0,g1⟩:=trod_struct2 Tryz.underlying109 h2;simp only [kr,ks,List.drop_zero,List.take_succ_cons,List.take_zero,List.drop_succ_cons]at g0 g1;obtain⟨z0,z1,n2,_,_,q0,q1⟩:=trod_struct2 Tryz.underlying107 g0;simp only [k1,List.drop_zero,List.take_succ_cons,List.take_zero,List.drop_succ_cons]at q0 q1;obtain⟨x0,e0,_,_⟩:=DataW.trod_int Tryz.underlying2 q0;obtain⟨x1,e1,_,_⟩:=DataW.trod_int Tryz.underlying2 q1;obtain⟨s,e2,_,ws⟩:=DataW.trod_string Tryz.underlying9 g1
    simp at e0 e1 e2;subst e0 e1 e2;have d0:=hcell 0 (by omega);have d1:=hcell 1 (by omega);have d2:=hcell 2 (by omega);obtain⟨b,off,spot⟩:=a
    have hspot:spot=none:=by
     obtain⟨cs0,h01,_⟩:=hx 0 (by omega);obtain⟨_,hlen0,hcell0⟩:=World.cells?_some h01;have hc0:=hcell0 0 (by omega);rw [List.getElem?_eq_getElem (by omega)]at hc0;have hc1:=World.cell?_spot hc0;simpa [Addr.add]using hc1
    subst hspot;simp only [Go.WideShapes.add_plain]at d0 d1 d2;refine⟨(x0,x1,s),b,off,rfl,World.block_lt_of_cell? W ⟨b,off+i*3+0,none⟩ d0,d0,d1,d2,ws⟩
  haveI:Inhabited (Int × Int × ByteArray):=⟨(0,0,⟨#[]⟩)⟩
  obtain⟨q,hq⟩:=Go.Deep.choose_lt each;exact⟨some a,len,cap,fun i=>(q i).1,fun i=>(q i).2.1,fun i=>(q i).2.2,rfl,Nat.le_trans hl hm,hq⟩
theorem Qbp:Tryz.prog.cellsOf 2=1:=by kernel_rfl
theorem OR {α:Type} {q:Nat→α} {len i:Nat} {x:α} (h:((List.range len).map q)[i]? =some x):i<len∧x=q i:=by
 rw [List.getElem?_map]at h;obtain⟨j,hj,rfl⟩:=Option.map_eq_some_iff.1 h;have hlt:i<len:=by simpa using(List.getElem?_eq_some_iff.1 hj).1
 rw [List.getElem?_range hlt]at hj;cases hj
 exact⟨hlt,rfl⟩
theorem Qaw {H:Type} {enc:TypeId × Value→H} {W:World} {base:Nat} {sp:Nat→Bool} {held:Bool} {fuel:Nat} {c:Value} {y:DataW H × List MemPlace}
  (hf:DataW.trod enc Tryz.prog W base sp held fuel 41 [c]=some y):
  ∃A l cap,c= .slice A (l:List Int).length cap∧IntRow W A l∧ ∀u∈l,(Lit.int .i64 u).wf=true:=by
 rcases Go.Deep.open_slice Tryz.underlying41 hf with⟨hcs,_⟩ | ⟨a,len,cap,m,n,D,Pl,hcs,_,hl,hm,hmm,_,hx⟩
 ·simp at hcs;subst hcs;exact⟨none,[],0,rfl,⟨Nat.zero_le _,fun i hi=>absurd hi (Nat.not_lt_zero _)⟩,fun u hu=>by simp at hu⟩
 ·simp at hcs;subst hcs;rw [Qbp]at hx;have hlm:len≤m:=by rw [hmm];split<;>omega
  have each: ∀i,i<len→ ∃q:Int,∃b o,some a=some (⟨b,o,none⟩:Addr)∧b<W.heap.size∧W.cell? ⟨b,o+i,none⟩=some (.int .i64 q)∧(Lit.int .i64 q).wf=true:=by
   intro i hi;obtain⟨cs',h1,h2⟩:=hx i (by omega);obtain⟨_,hlen,hcell⟩:=World.cells?_some h1;match cs',hlen with
   | [v0],_=>
    obtain⟨x0,e0,_,wf0⟩:=DataW.trod_int Tryz.underlying2 h2;simp at e0;subst e0;have d0:=hcell 0 (by omega);obtain⟨b,off,spot⟩:=a
    have hspot:spot=none:=by
     obtain⟨cs0,h01,_⟩:=hx 0 (by omega);obtain⟨_,hlen0,hcell0⟩:=World.cells?_some h01;have hc0:=hcell0 0 (by omega);rw [List.getElem?_eq_getElem (by omega)]at hc0;have hc1:=World.cell?_spot hc0;simpa [Addr.add]using hc1
    subst hspot;simp only [Go.WideShapes.add_plain]at d0;have d1:W.cell? ⟨b,off+i,none⟩=some (.int .i64 x0):=by simpa using d0
    exact⟨x0,b,off,rfl,World.block_lt_of_cell? W ⟨b,off+i,none⟩ d1,d1,wf0⟩
  haveI:Inhabited Int:=⟨0⟩
  obtain⟨q,hq⟩:=Go.Deep.choose_lt each;refine⟨some a,(List.range len).map q,cap,by simp,⟨by simp;exact Nat.le_trans hl hm,fun i hi=> ?_⟩,fun x hx=> ?_⟩
  ·have hi2:i<len:=by simpa using hi
   obtain⟨b,o,e1,e2,e3,_⟩:=hq i hi2;refine⟨b,o,e1,e2,?_⟩;rw [e3,List.getD_eq_getElem?_getD,List.getElem?_map,List.getElem?_range hi2];rfl
  ·obtain⟨j,hj,rfl⟩:=List.mem_map.1 hx;obtain⟨b,o,e1,e2,e3,e4⟩:=hq j (by simpa using hj);exact e4
theorem Hw {H:Type} {enc:TypeId × Value→H} {P:Program} {w:World} {base:Nat} {spare:Nat→Bool} {held:Bool} {t:TypeId} {f0 f1 f2:Field} {fuel:Nat} {cs:List Value} {x:DataW H × List MemPlace} (ht:P.underlying t=some (.struct #[f0,f1,f2])) (h:DataW.trod enc P w base spare held fuel t cs=some x):
  ∃y0 y1 y2 n,DataW.trod enc P w base spare held n f0.type ((cs.drop f0.offset).take (P.cellsOf f0.type))=some y0∧DataW.trod enc P w base spare held n f1.type ((cs.drop f1.offset).take (P.cellsOf f1.type))=some y1∧DataW.trod enc P w base spare held n f2.type ((cs.drop f2.offset).take (P.cellsOf f2.type))=some y2:=by
 obtain⟨xs,n,_,rfl,hl,hlen,hf⟩:=DataW.trod_struct ht h;match xs,hlen with
 | [y0,y1,y2],_=>exact⟨y0,y1,y2,n,by simpa using hf 0 f0 rfl,by simpa using hf 1 f1 rfl,by simpa using hf 2 f2 rfl⟩
theorem Qec:Tryz.prog.cellsOf 62=3:=by kernel_rfl
theorem Qee:Tryz.prog.cellsOf 64=2:=by kernel_rfl
theorem Qed:Tryz.prog.cellsOf 25=3:=by kernel_rfl
theorem Qcy {H:Type} {enc:TypeId × Value→H} {W:World} {base:Nat} {sp:Nat→Bool} {held:Bool} {fuel:Nat} {c:Value} {y:DataW H × List MemPlace}
  (hf:DataW.trod enc Tryz.prog W base sp held fuel 22 [c]=some y):
  ∃A L cap,c= .slice A (L:List VR).length cap∧VrRow W A L∧(∀x∈L,Qb2 x)∧ ∀x∈L,(Lit.int .i64 x.id).wf=true:=by
 rcases Go.Deep.open_slice Tryz.underlying22 hf with⟨hcs,_⟩ | ⟨a,len,cap,m,n,D,Pl,hcs,_,hl,hm,hmm,_,hx⟩
 ·simp at hcs;subst hcs;exact⟨none,[],0,rfl,⟨Nat.zero_le _,fun i x h=>by simp at h⟩,fun x hx=>by simp at hx,fun x hx=>by simp at hx⟩
 ·simp at hcs;subst hcs;rw [Qec]at hx;have hlm:len≤m:=by rw [hmm];split<;>omega
  have each: ∀i,i<len→ ∃q:VR,∃b o u uc s sc,some a=some (⟨b,o,none⟩:Addr)∧b<W.heap.size∧W.cell? ⟨b,o+i*3,none⟩=some (.int .i64 q.id)∧W.cell? ⟨b,o+i*3+1,none⟩=some (.slice u q.ups.length uc)∧
    W.cell? ⟨b,o+i*3+2,none⟩=some (.slice s q.m sc)∧IntRow W u q.ups∧ClRow W s q.m q.C q.R q.S∧Qb2 q∧(Lit.int .i64 q.id).wf=true:=by
   intro i hi;obtain⟨cs',h1,h2⟩:=hx i (by omega);obtain⟨_,hlen,hcell⟩:=World.cells?_some h1;have k1:Tryz.prog.cellsOf 2=1:=by kernel_rfl
   have k2:Tryz.prog.cellsOf 41=1:=by kernel_rfl
   have k3:Tryz.prog.cellsOf 60=1:=by kernel_rfl
   match cs',hlen with
   | [v0,v1,v2],_=>
    obtain⟨y0,y1,y2,n1,g0,g1,g2⟩:=Hw Tryz.underlying62 h2;simp only [k1,k2,k3,List.drop_zero,List.take_succ_cons,List.take_zero,List.drop_succ_cons]at g0 g1 g2;obtain⟨x0,e0,_,wf0⟩:=DataW.trod_int Tryz.underlying2 g0;obtain⟨u,l,uc,rfl,hu,hw⟩:=Qaw g1;obtain⟨s,sl,sc,C,R,S,rfl,hs⟩:=Qax g2;simp at e0;subst e0
    have d0:=hcell 0 (by omega);have d1:=hcell 1 (by omega);have d2:=hcell 2 (by omega);obtain⟨b,off,spot⟩:=a
    have hspot:spot=none:=by
     obtain⟨cs0,h01,_⟩:=hx 0 (by omega);obtain⟨_,hlen0,hcell0⟩:=World.cells?_some h01;have hc0:=hcell0 0 (by omega);rw [List.getElem?_eq_getElem (by omega)]at hc0;have hc1:=World.cell?_spot hc0;simpa [Addr.add]using hc1
    subst hspot;simp only [Go.WideShapes.add_plain]at d0 d1 d2;exact⟨⟨x0,l,sl,C,R,S⟩,b,off,u,uc,s,sc,rfl,World.block_lt_of_cell? W ⟨b,off+i*3+0,none⟩ d0,d0,d1,d2,hu,hs,⟨fun j hj=>by obtain⟨_,_,_,_,_,_,_,h9⟩:=hs.2 j hj;exact h9,hw⟩,wf0⟩
  haveI:Inhabited VR:=⟨⟨0,[],0,fun _=>0,fun _=>0,fun _=>⟨#[]⟩⟩⟩
  obtain⟨q,hq⟩:=Go.Deep.choose_lt each;refine⟨some a,(List.range len).map q,cap,by simp,⟨by simp;exact Nat.le_trans hl hm,fun i x hx=> ?_⟩,fun x hx=> ?_,fun x hx=> ?_⟩
  ·obtain⟨hlt,rfl⟩:=OR hx;obtain⟨b,o,u,uc,s,sc,e1,e2,e3,e4,e5,e6,e7,_⟩:=hq i hlt;exact⟨b,o,u,uc,s,sc,e1,e2,e3,e4,e5,e6,e7⟩
  ·obtain⟨j,hj,rfl⟩:=List.mem_map.1 hx;obtain⟨b,o,u,uc,s,sc,e1,e2,e3,e4,e5,e6,e7,e8,e9⟩:=hq j (by simpa using hj);exact e8
  ·obtain⟨j,hj,rfl⟩:=List.mem_map.1 hx;obtain⟨b,o,u,uc,s,sc,e1,e2,e3,e4,e5,e6,e7,e8,e9⟩:=hq j (by simpa using hj);exact e9
theorem Qcz {H:Type} {enc:TypeId × Value→H} {W:World} {base:Nat} {sp:Nat→Bool} {held:Bool} {fuel:Nat} {c:Value} {y:DataW H × List MemPlace}
  (hf:DataW.trod enc Tryz.prog W base sp held fuel 23 [c]=some y):
  ∃A L cap,c= .slice A (L:List BR).length cap∧ZT W A L∧(∀x∈L,UF x)∧ ∀x∈L,(Lit.int .i64 x.h).wf=true:=by
 rcases Go.Deep.open_slice Tryz.underlying23 hf with⟨hcs,_⟩ | ⟨a,len,cap,m,n,D,Pl,hcs,_,hl,hm,hmm,_,hx⟩
 ·simp at hcs;subst hcs;exact⟨none,[],0,rfl,⟨Nat.zero_le _,fun i x h=>by simp at h⟩,fun x hx=>by simp at hx,fun x hx=>by simp at hx⟩
 ·simp at hcs;subst hcs;rw [Qee]at hx;have hlm:len≤m:=by rw [hmm];split<;>omega
  have each: ∀i,i<len→ ∃q:BR,∃b o,some a=some (⟨b,o,none⟩:Addr)∧b<W.heap.size∧(∀j v,(brL q)[j]? =some v→W.cell? ⟨b,o+i*2+j,none⟩=some v)∧UF q∧(Lit.int .i64 q.h).wf=true:=by
   intro i hi;obtain⟨cs',h1,h2⟩:=hx i (by omega);obtain⟨_,hlen,hcell⟩:=World.cells?_some h1;have k1:Tryz.prog.cellsOf 2=1:=by kernel_rfl
   have ks:Tryz.prog.cellsOf 9=1:=by kernel_rfl
   match cs',hlen with
   | [v0,v1],_=>
    obtain⟨y0,y1,n1,_,_,g0,g1⟩:=trod_struct2 Tryz.underlying64 h2;simp only [k1,ks,List.drop_zero,List.take_succ_cons,List.take_zero,List.drop_succ_cons]at g0 g1;obtain⟨s,e0,_,ws⟩:=DataW.trod_string Tryz.underlying9 g0;obtain⟨x1,e1,_,wf1⟩:=DataW.trod_int Tryz.underlying2 g1;simp at e0 e1;subst e0 e1;have d0:=hcell 0 (by omega)
    have d1:=hcell 1 (by omega);obtain⟨b,off,spot⟩:=a
    have hspot:spot=none:=by
     obtain⟨cs0,h01,_⟩:=hx 0 (by omega);obtain⟨_,hlen0,hcell0⟩:=World.cells?_some h01;have hc0:=hcell0 0 (by omega);rw [List.getElem?_eq_getElem (by omega)]at hc0;have hc1:=World.cell?_spot hc0;simpa [Addr.add]using hc1
    subst hspot;simp only [Go.WideShapes.add_plain]at d0 d1;refine⟨⟨s,x1⟩,b,off,rfl,World.block_lt_of_cell? W ⟨b,off+i*2+0,none⟩ d0,?_,ws,wf1⟩;intro j v hj;match j,hj with
    | 0,hj=>simp [brL]at hj;subst hj;exact d0
    | 1,hj=>simp [brL]at hj;subst hj;exact d1
    | j+2,hj=>simp [brL]at hj
  haveI:Inhabited BR:=⟨⟨⟨#[]⟩,0⟩⟩
  obtain⟨q,hq⟩:=Go.Deep.choose_lt each;refine⟨some a,(List.range len).map q,cap,by simp,⟨by simp;exact Nat.le_trans hl hm,fun i x hx=> ?_⟩,fun x hx=> ?_,fun x hx=> ?_⟩
  ·obtain⟨hlt,rfl⟩:=OR hx;obtain⟨b,o,e1,e2,e3,_⟩:=hq i hlt;exact⟨b,o,e1,e2,e3⟩
  ·obtain⟨j,hj,rfl⟩:=List.mem_map.1 hx;obtain⟨b,o,e1,e2,e3,e4,e5⟩:=hq j (by simpa using hj);exact e4
  ·obtain⟨j,hj,rfl⟩:=List.mem_map.1 hx;obtain⟨b,o,e1,e2,e3,e4,e5⟩:=hq j (by simpa using hj);exact e5
theorem Qim {α:Type} {cs:Array α} (h:cs.size=3): ∃c0 c1 c2,cs= #[c0,c1,c2]:=by
 obtain⟨l⟩:=cs;match l,h with
 | [a,b,c],_=>exact⟨a,b,c,rfl⟩
theorem Qlk {H:Type} {enc:TypeId × Value→H} {W:World} {r:Reach} {b0 base:Nat} {spare:Nat→Bool} {held:Bool} {v:Value} {d:DataW H} {p:List MemPlace}
  (hv:Value.okWide Tryz.prog W r b0 25 v) (h:DataW.Trod enc Tryz.prog W base spare held 25 v d p):
  ∃g,DgRow W v g∧DgOk g:=by
 have k2:Tryz.prog.cellsOf 2=1:=by kernel_rfl
 have k4:Tryz.prog.cellsOf 22=1:=by kernel_rfl
 have k5:Tryz.prog.cellsOf 23=1:=by kernel_rfl
 obtain⟨cs,rfl,hsz⟩:=okWide_struct Tryz.underlying25 hv;obtain⟨c0,c1,c2,rfl⟩:=Qim (hsz.trans Qed);obtain⟨fuel,hf⟩:=h;obtain⟨y0,y1,y2,n,h0,h1,h2⟩:=Hw Tryz.underlying25 hf;simp only [k2,k4,k5,Value.cells,List.drop_zero,List.take_succ_cons,List.take_zero,List.drop_succ_cons]at h0 h1 h2;obtain⟨a,e0,_,wa⟩:=DataW.trod_int Tryz.underlying2 h0;obtain⟨A1,L1,q1,rfl,r1,v1,w1⟩:=Qcy h1
 obtain⟨A2,L2,q2,rfl,r2,v2,w2⟩:=Qcz h2;simp at e0;subst e0;exact⟨⟨a,L1,L2⟩,⟨A1,q1,A2,q2,rfl,r1,r2⟩,⟨v1,v2,w2⟩⟩
end Go.Proofs.YtdcokcbolecanaaGreatDoor
