import Derived.Test.YtdcokcbolecanaaGreatDoorMn
import Derived.Test.YtdcokcbolecanaaGreatDoorGzj
set_option linter.unusedSimpArgs false
set_option linter.unusedVariables false
set_option maxHeartbeats 4000000
set_option maxRecDepth 100000
namespace Go.Proofs.YtdcokcbolecanaaGreatDoor
open Go.RowKit
theorem Hn (x:VR) {u s u' s':Option Addr} {uc sc uc' sc':Nat} (w:World) (hu:IntRow w u x.ups) (hs:ClRow w s x.m x.C x.R x.S) (hu':IntRow w u' x.ups) (hs':ClRow w s' x.m x.C x.R x.S):
  Calls Tryz.prog 42 #[.agg #[.int .i64 x.id,.slice u x.ups.length uc,.slice s x.m sc],.agg #[.int .i64 x.id,.slice u' x.ups.length uc',.slice s' x.m sc']] w fun e w'=>e= .returned (.bool true)∧Below w.heap.size w w':=by
 have HU:Hid (IntRow w u x.ups):=hu;have HS:Hid (ClRow w s x.m x.C x.R x.S):=hs;have HU':Hid (IntRow w u' x.ups):=hu';have HS':Hid (ClRow w s' x.m x.C x.R x.S):=hs';clear hu hs hu' hs';go_enter Tryz.func42,Tryz.ntmps42;go_wp2_with fail
 refine(Uu _ (HU.out.below (by go_grown)) (HU'.out.below (by go_grown))).mono ?_;rintro e w1 ⟨rfl,hb⟩;obtain⟨hc1,hf1,hC1,hF1,hz1,hk1,l0,l1⟩:=bk2 (w:=w) (by go_grown) (by go_size) hb;clear hb;go_wp2_with fail
 refine(MF _ (HS.out.below hk1) (HS'.out.below hk1)).mono ?_;rintro e w2 ⟨rfl,hb⟩;have K2:=hd (Qb hk1 hb);clear hb;go_wp2_with fail
 go_ret;exact⟨rfl,K2.out⟩
theorem Ky {A A':Option Addr} {n cap cap':Nat} {L:List VR} (w:World) (h:VrRow w A L) (h':VrRow w A' L) (hL:L.length=n):
  Calls Tryz.prog 21 #[.slice A n cap,.slice A' n cap'] w fun e w'=>e= .returned (.bool true)∧Below w.heap.size w w':=by
 have HR:Hid (VrRow w A L):=h;have HR':Hid (VrRow w A' L):=h';have HL:Hid (L.length=n):=hL;have hn:=h.1;rw [hL]at hn;unfold maxLen at hn;clear h h' hL
 go_enter Tryz.func21,Tryz.ntmps21;go_wp2_with fail
 go_loopw [5] (fun i wr=> ∃k:Nat,k≤n∧i= .int .i64 k∧Below w.heap.size w wr) (fun i _=>n-(intOf i).toNat)
 case atStart=>exact⟨0,Nat.zero_le _,rfl,Below.refl _ _⟩
 case round=>
  obtain⟨k,hk,rfl,hbel⟩:=hrel;by_cases hlt:k<n
  ·obtain⟨x,hx⟩:=ZF HL.out hlt;obtain⟨b,o,u,uc,s,sc,rfl,hl,c0,c1,c2,r1,r2⟩:=HR.out.2 k x hx;obtain⟨b',o',u',uc',s',sc',rfl,hl',c0',c1',c2',r1',r2'⟩:=HR'.out.2 k x hx;have R1:Hid (IntRow w u x.ups):=r1;have R2:Hid (ClRow w s x.m x.C x.R x.S):=r2;have R1':Hid (IntRow w u' x.ups):=r1';have R2':Hid (ClRow w s' x.m x.C x.R x.S):=r2'
   clear hx r1 r2 r1' r2';have hs:=hbel.size;have hW:=fun b o h=>hbel.cell (p:=⟨b,o,none⟩) h;have h0:(0:Int)≤(k:Int):=by omega
   have h1:(k:Int)<(n:Int):=by omega
   go_wp2_with fail
   go_region_held3 (fun w'=>(∀bq oq,bq<w.heap.size→w'.cell? ⟨bq,oq,none⟩=w.cell? ⟨bq,oq,none⟩)∧w.heap.size≤w'.heap.size∧Below w.heap.size w w')
    (exact Qk (Nat.le_refl _) (by go_grown))
    (first
    | (go_at_call 42;refine(Hn x _ (R1.out.below (by go_grown)) (R2.out.below (by go_grown)) (R1'.out.below (by go_grown)) (R2'.out.below (by go_grown))).mono ?_;rintro e w1 ⟨rfl,hb⟩;obtain⟨hk1,hz1⟩:=Qe (B:=w.heap.size) (X:=w) (by go_grown) (by go_size) hb;clear hb))
   all_goals go_wp2_with fail
   all_goals
    go_roundw
    case rel=>exact⟨k+1,by omega,by go_num,by go_grown⟩
    case measure=>simp [intOf];omega
  ·have h1: ¬(k:Int)<(n:Int):=by omega
   go_wp2_with fail
   go_ret;exact⟨rfl,hbel⟩
structure DG where
 next:Int
 vs:List VR
 bs:List BR
def DgRow (W:World) (v:Value) (d:DG):Prop:= ∃A1 c1 A2 c2,v= .agg #[.int .i64 d.next,.slice A1 d.vs.length c1,.slice A2 d.bs.length c2]∧VrRow W A1 d.vs∧ZT W A2 d.bs
theorem DgRow.below {W W':World} {v:Value} {d:DG} (h:DgRow W v d) (hb:Below W.heap.size W W'):DgRow W' v d:=by
 obtain⟨A1,c1,A2,c2,e,h1,h2⟩:=h;exact⟨A1,c1,A2,c2,e,h1.below hb,h2.below hb⟩
theorem DgRow.agg {W:World} {v:Value} {d:DG} (h:DgRow W v d): ∃A1 n1 c1 A2 n2 c2,v= .agg #[.int .i64 d.next,.slice A1 n1 c1,.slice A2 n2 c2]:=by
 obtain⟨A1,c1,A2,c2,e,_⟩:=h;exact⟨A1,_,c1,A2,_,c2,e⟩
theorem DgRow.open {W:World} {d:DG} {A1 A2:Option Addr} {n1 n2 c1 c2:Nat} (h:DgRow W (.agg #[.int .i64 d.next,.slice A1 n1 c1,.slice A2 n2 c2]) d):VrRow W A1 d.vs∧d.vs.length=n1∧ZT W A2 d.bs∧d.bs.length=n2:=by
 obtain⟨A1',c1',A2',c2',e,h1,h2⟩:=h;cases e;exact⟨h1,rfl,h2,rfl⟩
structure DgLil (d:DG):Prop where
 v: ∀x∈d.vs,JU x
 b: ∀x∈d.bs,VF x
 nv:d.vs.length≤1048576
 nb:d.bs.length≤1048576
structure DgOk (d:DG):Prop where
 v: ∀x∈d.vs,Qb2 x
 b: ∀x∈d.bs,UF x
 h: ∀x∈d.bs,(Lit.int .i64 x.h).wf=true
theorem Qi2 {v:Value} {d:DG} (w:World) (h:DgRow w v d) (hx:DgOk d):
  Calls Tryz.prog 4 #[v,.int .i64 1048576] w fun e w'=> ∃z:Int,e= .returned (.int .i64 z)∧(0≤z→DgLil d)∧Below w.heap.size w w':=by
 obtain⟨A1,n1,c1,A2,n2,c2,rfl⟩:=h.agg;obtain⟨r1,e1,r2,e2⟩:=h.open;have R1:Hid (VrRow w A1 d.vs):=r1;have R2:Hid (ZT w A2 d.bs):=r2;have E1:Hid (d.vs.length=n1):=e1;have E2:Hid (d.bs.length=n2):=e2;have HX:Hid (DgOk d):=hx
 clear h r1 r2 e1 e2 hx;go_enter Tryz.func4,Tryz.ntmps4;go_wp2_with fail
 refine(Kx _ (R1.out.below (by go_grown)) E1.out).mono ?_;rintro e u1 ⟨z,rfl,hz1,hz,hb⟩;obtain⟨hc,hf,hC,hF,hzz,hk,l0⟩:=bk1 (w:=w) (by go_grown) (by go_size) hb;clear hb;by_cases hneg:z<0
 ·go_wp2_with fail
  go_ret;exact⟨_,rfl,fun h=>by omega,hk⟩
 have HV:Hid (n1≤1048576∧ ∀x∈d.vs,JU x):=hz (by omega);clear hz;go_wp2_with fail
 refine(Hm _ _ (R2.out.below hk) E2.out HX.out.b (by omega) (by omega)).mono ?_;rintro e u2 ⟨z2,rfl,hz2,hz3,hb⟩;have K2:=hd (Qb hk hb);clear hb;by_cases hneg2:z2<0
 ·go_wp2_with fail
  go_ret;exact⟨_,rfl,fun h=>by omega,K2.out⟩
 have HB:Hid (n2≤1048576∧ ∀x∈d.bs,VF x):=hz3 (by omega);clear hz3;go_wp2_with fail
 go_ret;exact⟨_,rfl,fun _=>⟨HV.out.2,HB.out.2,by rw [E1.out];exact HV.out.1,by rw [E2.out];exact HB.out.1⟩,K2.out⟩
def DgOwn (W:World) (B:Nat) (v:Value) (d:DG):Prop:= ∃v1 v2 ys B1,v= .agg #[.int .i64 d.next,v1,v2]∧B≤B1∧W.ownsRow B1 44 3 v1 d.vs.length ys∧VrPart W (B1+1) ys d.vs d.vs.length∧W.ownsRow B 40 2 v2 d.bs.length (Jk brL d.bs)
theorem DgOwn.row {W:World} {B:Nat} {v:Value} {d:DG} (h:DgOwn W B v d) (hx:DgOk d):DgRow W v d:=by
 obtain⟨v1,v2,ys,B1,rfl,hB,h1,h2,h3⟩:=h;obtain⟨A1,c1,rfl,_,_⟩:=Qo h1;obtain⟨A2,c2,rfl,_,_⟩:=Qo h3;exact⟨A1,c1,A2,c2,rfl,Qab h1 rfl h2 hx.v,RowAt.of_own Nq h3 rfl⟩
theorem VrPart.set {W:World} {B:Nat} {ys:List Value} {L:List VR} {t:Nat} (h:VrPart W B ys L t) {a:Addr} (ha:a.block<B) (v:Value):VrPart (W.setCell a v) B ys L t:=fun i x hi hx=>by
 obtain⟨u,uc,s,sc,y0,y1,y2,h1,h2⟩:=h i x hi hx;exact⟨u,uc,s,sc,y0,y1,y2,ownsRow_setCell_below h1 ha v,ownsRow_setCell_below h2 ha v⟩
theorem Qi1 {v:Value} {d:DG} (w:World) (h:DgRow w v d) (hl:DgLil d):
  Calls Tryz.prog 6 #[v] w fun e w'=> ∃v',e= .returned v'∧DgOwn w' w.heap.size v' d∧Below w.heap.size w w':=by
 obtain⟨A1,n1,c1,A2,n2,c2,rfl⟩:=h.agg;obtain⟨r1,e1,r2,e2⟩:=h.open;have R1:Hid (VrRow w A1 d.vs):=r1;have R2:Hid (ZT w A2 d.bs):=r2;have E1:Hid (d.vs.length=n1):=e1;have E2:Hid (d.bs.length=n2):=e2;have HL:Hid (DgLil d):=hl
 clear h r1 r2 e1 e2 hl;go_enter Tryz.func6,Tryz.ntmps6;go_wp2_with fail
 refine(Kw _ (R1.out.below (by go_grown)) E1.out (by rw [←E1.out];exact HL.out.nv) HL.out.v).mono ?_;rintro e u1 ⟨v1,ys,rfl,ho,hp,hb⟩;obtain⟨B1,HB1⟩: ∃B1,Hid (B1=w.heap.size+3):=⟨_,rfl⟩;obtain⟨VB,vb,rfl,_,_⟩:=Qo ho;have HO:Hid (u1.ownsRow B1 44 3 (.slice VB n1 vb) n1 ys):=Zd ho (by rw [HB1.out];go_size)
 have HP:Hid (VrPart u1 (B1+1) ys d.vs n1):=by
  rw [HB1.out];show VrPart _ _ _ _ _;simpa using hp
 obtain⟨hc8,hf8,hC8,hF8,hz8,hk8,l0,l1,l2⟩:=bk3 (w:=w) (by go_grown) (by go_size) hb;clear hb ho hp;go_wp2_with fail
 refine(Hk _ (R2.out.below (by go_grown)) E2.out (by rw [←E2.out];exact HL.out.nb)).mono ?_;rintro e u2 ⟨v2,rfl,ho,hb⟩;obtain⟨BB,bb,rfl,_,_⟩:=Qo ho;have HO2:Hid (u2.ownsRow (w.heap.size+3) 40 2 (.slice BB n2 bb) n2 (Jk brL d.bs)):=Zd ho (by go_size);have HO1:Hid (u2.ownsRow B1 44 3 (.slice VB n1 vb) n1 ys):=Ql (ownsRow_setCell_below HO.out (by rw [HB1.out];simp) _) hb;have HP1:Hid (VrPart u2 (B1+1) ys d.vs n1):=(HP.out.set (by rw [HB1.out];simp) _).below hb;obtain⟨hc9,hf9,hC9,hF9,hz9,hk9,m0,m1,m2⟩:=bk3 (w:=w) (by go_grown) (by go_size) hb
 clear hb ho HO HP;go_wp2_with fail
 refine bodyPost_ret (v:= .agg #[.int .i64 d.next,.slice VB n1 vb,.slice BB n2 bb]) ?_ rfl ⟨_,rfl,⟨.slice VB n1 vb,.slice BB n2 bb,ys,B1,rfl,by rw [HB1.out];omega,?_,?_,?_⟩,by go_grown⟩
 ·simp (maxDischargeDepth:=9) [results,Tryz.results6,go_sem, *]
 ·rw [E1.out];repeat (refine ownsRow_setCell_below ?_ (by rw [HB1.out];simp) _)
  exact HO1.out
 ·rw [E1.out];repeat (refine VrPart.set ?_ (by rw [HB1.out];simp;try omega) _)
  exact HP1.out
 ·rw [E2.out];refine Zd (B:=w.heap.size+3) ?_ (by omega);repeat (refine ownsRow_setCell_below ?_ (by simp) _)
  exact HO2.out
theorem Qi3 {v v':Value} {d:DG} (w:World) (h:DgRow w v d) (h':DgRow w v' d):
  Calls Tryz.prog 8 #[v,v'] w fun e w'=>e= .returned (.bool true)∧Below w.heap.size w w':=by
 obtain⟨A1,n1,c1,A2,n2,c2,rfl⟩:=h.agg;obtain⟨B1,m1,d1,B2,m2,d2,rfl⟩:=h'.agg;obtain⟨r1,e1,r2,e2⟩:=h.open;obtain⟨s1,f1,s2,f2⟩:=h'.open;obtain rfl:n1=m1:=e1.symm.trans f1;obtain rfl:n2=m2:=e2.symm.trans f2;have R1:Hid (VrRow w A1 d.vs):=r1
 have R2:Hid (ZT w A2 d.bs):=r2;have S1:Hid (VrRow w B1 d.vs):=s1;have S2:Hid (ZT w B2 d.bs):=s2;have E1:Hid (d.vs.length=n1):=e1;have E2:Hid (d.bs.length=n2):=e2;clear h h' r1 r2 e1 e2 s1 s2 f1 f2;go_enter Tryz.func8,Tryz.ntmps8
 go_wp2_with fail
 refine(Ky _ (R1.out.below (by go_grown)) (S1.out.below (by go_grown)) E1.out).mono ?_;rintro e u1 ⟨rfl,hb⟩;obtain⟨hc,hf,hC,hF,hz,hk,l0,l1⟩:=bk2 (w:=w) (by go_grown) (by go_size) hb;clear hb;go_wp2_with fail
 refine(Ho _ (R2.out.below hk) (S2.out.below hk) E2.out E2.out).mono ?_;rintro e u2 ⟨rfl,hb⟩;have K2:=hd (Qb hk hb);clear hb;go_wp2_with fail
 go_ret;exact⟨rfl,K2.out⟩
end Go.Proofs.YtdcokcbolecanaaGreatDoor
