import Derived.Test.YtonhcgkagdpdlaaGreatDoorGmg
import Derived.Test.YtonhcgkagdpdlaaGreatDoorGaz
set_option linter.unusedSimpArgs false
set_option linter.unusedVariables false
set_option maxHeartbeats 4000000
namespace Go.Proofs.YtonhcgkagdpdlaaGreatDoor
open Go.RowKit
def FnRowS (W:World) (A:Option Addr) (n:Nat) (F:Nat→FN):Prop:=
 n≤maxLen∧ ∀i,i<n→ ∃b o KA kc,A=some ⟨b,o,none⟩∧b<W.heap.size∧NodeAt W b (o+i*14) (F i) KA kc∧IntRow W KA (F i).kids∧(F i).cs.size≤maxLen∧(KA=none→kc=0)
theorem FnRowS.row {W:World} {A:Option Addr} {n:Nat} {F:Nat→FN} (h:FnRowS W A n F):FnRow W A n F:=
 ⟨h.1,fun i hi=>by
  obtain⟨b,o,KA,kc,e,hl,hn,hk,hs,_⟩:=h.2 i hi
  exact⟨b,o,KA,kc,e,hl,hn,hk,hs⟩⟩
theorem FnRowS.below {W W':World} {A:Option Addr} {n:Nat} {F:Nat→FN} (h:FnRowS W A n F) (hb:Below W.heap.size W W'):FnRowS W' A n F:=
 ⟨h.1,fun i hi=>by
  obtain⟨b,o,KA,kc,e,hl,hn,hk,hs,h0⟩:=h.2 i hi
  exact⟨b,o,KA,kc,e,Nat.lt_of_lt_of_le hl hb.size,hn.below hl hb,hk.below hb,hs,h0⟩⟩
theorem own_zeroM {W:World} {B:Nat} {e:TypeId} {size n kc:Nat} {KA:Option Addr} {xs:List Value} (h:W.ownsRow B e size (.slice KA n kc) n xs):KA=none→kc=0:=by
 intro e0
 rcases h.2 with⟨e,_⟩ | ⟨g,cap,cur,e,_⟩
 ·cases e;rfl
 ·cases e;cases e0
theorem fnS_of_own {W:World} {B g n cap:Nat} {ys:List Value} {F:Nat→FN} (h:W.ownsRow B 54 14 (.slice (some ⟨g,0,none⟩) n cap) n ys) {B':Nat} (hp:FnPart W B' ys F n) (hs: ∀i,i<n→(F i).cs.size≤maxLen):FnRowS W (some ⟨g,0,none⟩) n F:=by
 obtain⟨A',cap',e,hn,hc⟩:=own_shape h
 cases e
 refine⟨hn,fun i hi=> ?_⟩
 obtain⟨KA,kc,h1,h2⟩:=hp i hi
 have hcell: ∀j,j<14→W.cell? ⟨g,0+i*14+j,none⟩=(nodeL (F i) KA kc)[j]?:=fun j hj=>by
  obtain⟨g',e',_,_,c,_⟩:=hc (i*14+j) (by omega)
  cases e'
  rw [Nat.zero_add,c,h1 j hj]
 obtain⟨g',e',_,hl,_,_⟩:=hc (i*14) (by omega)
 cases e'
 refine⟨g,0,KA,kc,rfl,hl,⟨hcell 0 (by omega),hcell 1 (by omega),hcell 2 (by omega),hcell 3 (by omega),hcell 4 (by omega),hcell 5 (by omega),hcell 6 (by omega),hcell 7 (by omega),hcell 8 (by omega),hcell 9 (by omega),hcell 10 (by omega),hcell 11 (by omega),hcell 12 (by omega),hcell 13 (by omega)⟩,int_of_own h2,hs i hi,own_zeroM h2⟩
theorem part_stepX {W W0:World} {g n cap t B':Nat} {ys:List Value} {G:Nat→FN} {x:FN} {KB:Option Addr} {kb:Nat} (hx:G t=x) (h:W.ownsRow g 54 14 (.slice (some ⟨g,0,none⟩) n cap) n ys) (ht:t<n) (hp:FnPart W (g+1) ys G t)
  (hk:W.ownsRow B' 2 1 (.slice KB x.kids.length kb) x.kids.length (x.kids.map (Value.int .i64))) (hp0:FnPart W0 (g+1) ys G t) (hB:W0.heap.size≤B') (hB1:g+1≤B') (hd:KDiff ys t):
  ∃zs,(setAll W g (t*14) (nodeL x KB kb)).ownsRow g 54 14 (.slice (some ⟨g,0,none⟩) n cap) n zs∧FnPart (setAll W g (t*14) (nodeL x KB kb)) (g+1) zs G (t+1)∧KDiff zs (t+1)∧W.grownBy (setAll W g (t*14) (nodeL x KB kb)) (some g):=by
 subst hx
 obtain⟨o,gr⟩:=own_set (nodeL (G t) KB kb) W (t*14) ys h
 have hl:=h.1
 have hlen:(nodeL (G t) KB kb).length=14:=rfl
 have keep: ∀{KA:Option Addr} {m kc:Nat} {xs:List Value},W.ownsRow (g+1) 2 1 (.slice KA m kc) m xs→(setAll W g (t*14) (nodeL (G t) KB kb)).ownsRow (g+1) 2 1 (.slice KA m kc) m xs:=fun hh=>hh.kept gr (by
  cases hv:(Value.slice _ _ _).ownBlock with
  | none=>exact Or.inl rfl
  | some b=>right;intro e;have:=(hh.lt b hv).1;cases e;omega)
 have hnew:(overw ys (t*14) (nodeL (G t) KB kb))[t*14+13]? =some (.slice KB (G t).kids.length kb):=overw_at _ _ _ 13 (by omega) (by rw [hlen];omega)
 have hold: ∀i,i<t→(overw ys (t*14) (nodeL (G t) KB kb))[i*14+13]? =ys[i*14+13]?:=fun i hi=>overw_lt _ _ _ _ (by omega)
 have hlo: ∀i b,i<t→kblock (overw ys (t*14) (nodeL (G t) KB kb)) i=some b→b<W0.heap.size:=fun i b hi e=>by
  obtain⟨KA,kc,h1,h2⟩:=hp0 i hi
  unfold kblock at e
  rw [hold i hi,h1 13 (by omega)]at e
  exact(h2.lt b e).2
 have hhi: ∀b,kblock (overw ys (t*14) (nodeL (G t) KB kb)) t=some b→B'≤b:=fun b e=>by
  unfold kblock at e
  rw [hnew]at e
  exact(hk.lt b e).1
 refine⟨_,o,fun i hi=> ?_,fun i j hi hj hne b e1 e2=> ?_,gr⟩
 ·by_cases e:i=t
  ·subst e
   exact⟨KB,kb,fun j hj=>overw_at _ _ _ j (by omega) (by rw [hlen];omega),keep (own_mono hk hB1)⟩
  ·obtain⟨KA,kc,h1,h2⟩:=hp i (by omega)
   exact⟨KA,kc,fun j hj=>by rw [overw_lt _ _ _ _ (by omega)];exact h1 j hj,keep h2⟩
 ·by_cases ei:i=t
  ·rw [ei]at e1
   have a1:=hhi b e1
   have a2:=hlo j b (by omega) e2
   omega
  ·by_cases ej:j=t
   ·rw [ej]at e2
    have a1:=hhi b e2
    have a2:=hlo i b (by omega) e1
    omega
   ·refine hd i j (by omega) (by omega) hne b ?_ ?_
    ·unfold kblock at e1 ⊢;rw [hold i (by omega)]at e1;exact e1
    ·unfold kblock at e2 ⊢;rw [hold j (by omega)]at e2;exact e2
theorem impl_shifted_Opened {A:Option Addr} {n cap:Nat} {F:Nat→FN} (d e:Int) (p q:Nat) (w:World) (hp:p<w.heap.size) (hq:q<w.heap.size) (cp:w.cell? ⟨p,0,none⟩=some (.int .i64 d)) (cq:w.cell? ⟨q,0,none⟩=some (.int .i64 e)) (hd: -1000≤d∧d≤1000) (he: -1000≤e∧e≤1000) (h:FnRowS w A n F) (hn:n≤1048576) (hkn: ∀i,i<n→(F i).kids.length≤1048576) (hsm: ∀i,i<n→SmallN (F i)):
  Calls Tryz.prog 19 #[.slice A n cap,.func (.func 20) #[] #[.pointer (some ⟨p,0,none⟩),.pointer (some ⟨q,0,none⟩)]] w fun z w'=> ∃ys,z= .returned (.slice (some ⟨w.heap.size,0,none⟩) n n)∧w'.ownsRow w.heap.size 54 14 (.slice (some ⟨w.heap.size,0,none⟩) n n) n ys∧FnPart w' (w.heap.size+1) ys (fun i=>shFN (fOpened d e) (gOpened d e) (F i)) n∧KDiff ys n∧Below w.heap.size w w':=by
 have HSM:Hid (∀i,i<n→SmallN (F i)):=hsm
 have HP:Hid (p<w.heap.size):=hp
 have HQ:Hid (q<w.heap.size):=hq
 have HCP:Hid (w.cell? ⟨p,0,none⟩=some (.int .i64 d)):=cp
 have HCQ:Hid (w.cell? ⟨q,0,none⟩=some (.int .i64 e)):=cq
 have HR:Hid (FnRowS w A n F):=h
 have HKN:Hid (∀i,i<n→(F i).kids.length≤1048576):=hkn
 clear h hkn hsm hp hq cp cq
 obtain⟨i0,hi,hz0,hz1,hz2⟩:=info_parts infoFn
 go_enter Tryz.func19,Tryz.ntmps19
 go_wp2_with (refine wpList_make_full _ rfl _ _ 24 rfl w.heap.size 54 i0 _ 14 Tryz.underlying24 hi hz0 hz1 _ _ _ _ n rfl rfl rfl rfl ?m1 ?m2 ?m3 ?_)
 case m1=>rw [hz2];omega
 case m2=>unfold maxLen;omega
 case m3=>exact Nat.le_refl _
 intro w1 hown hgrow
 have hg1:Below w.heap.size w w1:=(Below.refl _ _).grown hgrow (Nat.le_refl _) (fun k hk=>by cases hk)
 obtain⟨ys,hown⟩: ∃ys,w1.ownsRow w.heap.size 54 14 (.slice (some ⟨w.heap.size,0,none⟩) n n) n ys:=⟨_,hown⟩
 clear hgrow
 have HO:Hid (w1.ownsRow w.heap.size 54 14 (.slice (some ⟨w.heap.size,0,none⟩) n n) n ys):=hown
 clear hown
 go_wp2_with fail
 go_loopw [13] (fun i wr=> ∃t:Nat,t≤n∧i= .int .i64 t∧(∃ys,wr.ownsRow w.heap.size 54 14 (.slice (some ⟨w.heap.size,0,none⟩) n n) n ys∧FnPart wr (w.heap.size+1) ys (fun i=>shFN (fOpened d e) (gOpened d e) (F i)) t∧KDiff ys t)∧Below w.heap.size w wr) (fun i _=>n-(intOf i).toNat)
 case atStart=>exact⟨0,Nat.zero_le _,rfl,⟨ys,HO.out,fun j hj=>by omega,fun i j hi=>by omega⟩,hg1⟩
 case round=>
  clear HO hg1
  obtain⟨t,ht,rfl,⟨ys,hown,hys,hkd⟩,hbel⟩:=hrel
  have HKD:Hid (KDiff ys t):=hkd
  by_cases hlt:t<n
  ·obtain⟨b,o,KA,kc,rfl,hl,hnd,hki,hs,hk0⟩:=HR.out.2 t hlt
   have HK0:Hid (KA=none→kc=0):=hk0
   obtain⟨c0,c1,c2,c3,c4,c5,c6,c7,c8,c9,c10,c11,c12,c13⟩:=hnd.below hl (W':=wr) hbel
   have HKI:Hid (IntRow wr KA (F t).kids):=hki.below hbel
   have q0:(0:Int)≤(t:Int):=by omega
   have q1:(t:Int)<(n:Int):=by omega
   have HO:Hid (wr.ownsRow w.heap.size 54 14 (.slice (some ⟨w.heap.size,0,none⟩) n n) n ys):=hown
   have HY:Hid (FnPart wr (w.heap.size+1) ys (fun i=>shFN (fOpened d e) (gOpened d e) (F i)) t):=hys
   have HB:Hid (Below w.heap.size w wr):=hbel
   have HBS:Hid (w.heap.size+1≤wr.heap.size):=by
    obtain⟨A',cap',e,_,hc⟩:=own_shape hown
    cases e
    obtain⟨g',e',_,hg',_⟩:=hc (t*14) (by omega)
    cases e'
    exact hg'
   clear hkd
   clear hown hys hbel hki hnd hk0
   go_wp2_with fail
   refine(impl_shiftedNode_Opened (F t) (KA:=KA) (kc:=kc) d e p q _ (ltB (bchain HB.out (by go_grown)) HP.out) (ltB (bchain HB.out (by go_grown)) HQ.out) (cellB (bchain HB.out (by go_grown)) HP.out HCP.out) (cellB (bchain HB.out (by go_grown)) HQ.out HCQ.out) (HSM.out t hlt) hd he HK0.out (HKI.out.below (by go_grown)) (HKN.out t hlt)).mono ?_
   rintro z w2 ⟨KB,kb,rfl,hkb,hb⟩
   obtain⟨x,HX⟩: ∃x,Hid ((shFN (fOpened d e) (gOpened d e) (F t))=x):=⟨_,rfl⟩
   rw [HX.out]at hkb ⊢
   unfold nodeV
   have hBW:Below wr.heap.size wr w2:=bchain (by go_grown) hb
   have HKB:Hid (w2.ownsRow (wr.heap.size+1) 2 1 (.slice KB x.kids.length kb) x.kids.length (x.kids.map (Value.int .i64))):=own_mono hkb (by simp)
   have HO2:Hid (w2.ownsRow w.heap.size 54 14 (.slice (some ⟨w.heap.size,0,none⟩) n n) n ys):=own_below HO.out hBW
   have HY2:Hid (FnPart w2 (w.heap.size+1) ys (fun i=>shFN (fOpened d e) (gOpened d e) (F i)) t):=HY.out.below hBW
   have HB2:Hid (Below w.heap.size w w2):=bchain HB.out hBW
   obtain⟨A',cap',e,_,hc⟩:=own_shape HO2.out
   cases e
   have hl5:=HO2.out.1
   have hx: ∀j,j<14→ ∃x,w2.cell? ⟨w.heap.size,t*14+j,none⟩=some x∧w2.frozen? ⟨w.heap.size,t*14+j,none⟩=false:=fun j hj=>by
    obtain⟨g',e',_,_,d,f⟩:=hc (t*14+j) (by omega)
    cases e'
    exact⟨_,d.trans (List.getElem?_eq_getElem (by omega)),f⟩
   obtain⟨x0,d0,f0⟩:=hx 0 (by omega)
   obtain⟨x1,d1,f1⟩:=hx 1 (by omega)
   obtain⟨x2,d2,f2⟩:=hx 2 (by omega)
   obtain⟨x3,d3,f3⟩:=hx 3 (by omega)
   obtain⟨x4,d4,f4⟩:=hx 4 (by omega)
   obtain⟨x5,d5,f5⟩:=hx 5 (by omega)
   obtain⟨x6,d6,f6⟩:=hx 6 (by omega)
   obtain⟨x7,d7,f7⟩:=hx 7 (by omega)
   obtain⟨x8,d8,f8⟩:=hx 8 (by omega)
   obtain⟨x9,d9,f9⟩:=hx 9 (by omega)
   obtain⟨x10,d10,f10⟩:=hx 10 (by omega)
   obtain⟨x11,d11,f11⟩:=hx 11 (by omega)
   obtain⟨x12,d12,f12⟩:=hx 12 (by omega)
   obtain⟨x13,d13,f13⟩:=hx 13 (by omega)
   rw [Nat.add_zero]at d0 f0
   clear hx hc hl5 hb hkb hBW c0 c1 c2 c3 c4 c5 c6 c7 c8 c9 c10 c11 c12 c13 HO HB
   have HT:Hid (∃zs,((((((((((((((w2.setCell ⟨w.heap.size,t*14,none⟩ (.int .i64 (x.k))).setCell ⟨w.heap.size,t*14+1,none⟩ (.int .i64 (x.o))).setCell ⟨w.heap.size,t*14+2,none⟩ (.int .i64 (x.ck))).setCell ⟨w.heap.size,t*14+3,none⟩ (.int .i64 (x.cn))).setCell ⟨w.heap.size,t*14+4,none⟩ (.string (x.cs))).setCell ⟨w.heap.size,t*14+5,none⟩ (.int .i64 (x.ac))).setCell ⟨w.heap.size,t*14+6,none⟩ (.int .i64 (x.ar))).setCell ⟨w.heap.size,t*14+7,none⟩ (.bool (x.af))).setCell ⟨w.heap.size,t*14+8,none⟩ (.bool (x.ag))).setCell ⟨w.heap.size,t*14+9,none⟩ (.int .i64 (x.bc))).setCell ⟨w.heap.size,t*14+10,none⟩ (.int .i64 (x.br))).setCell ⟨w.heap.size,t*14+11,none⟩ (.bool (x.bf))).setCell ⟨w.heap.size,t*14+12,none⟩ (.bool (x.bg))).setCell ⟨w.heap.size,t*14+13,none⟩ (.slice KB x.kids.length kb)).ownsRow w.heap.size 54 14 (.slice (some ⟨w.heap.size,0,none⟩) n n) n zs∧FnPart ((((((((((((((w2.setCell ⟨w.heap.size,t*14,none⟩ (.int .i64 (x.k))).setCell ⟨w.heap.size,t*14+1,none⟩ (.int .i64 (x.o))).setCell ⟨w.heap.size,t*14+2,none⟩ (.int .i64 (x.ck))).setCell ⟨w.heap.size,t*14+3,none⟩ (.int .i64 (x.cn))).setCell ⟨w.heap.size,t*14+4,none⟩ (.string (x.cs))).setCell ⟨w.heap.size,t*14+5,none⟩ (.int .i64 (x.ac))).setCell ⟨w.heap.size,t*14+6,none⟩ (.int .i64 (x.ar))).setCell ⟨w.heap.size,t*14+7,none⟩ (.bool (x.af))).setCell ⟨w.heap.size,t*14+8,none⟩ (.bool (x.ag))).setCell ⟨w.heap.size,t*14+9,none⟩ (.int .i64 (x.bc))).setCell ⟨w.heap.size,t*14+10,none⟩ (.int .i64 (x.br))).setCell ⟨w.heap.size,t*14+11,none⟩ (.bool (x.bf))).setCell ⟨w.heap.size,t*14+12,none⟩ (.bool (x.bg))).setCell ⟨w.heap.size,t*14+13,none⟩ (.slice KB x.kids.length kb)) (w.heap.size+1) zs (fun i=>shFN (fOpened d e) (gOpened d e) (F i)) (t+1)∧KDiff zs (t+1)∧w2.grownBy ((((((((((((((w2.setCell ⟨w.heap.size,t*14,none⟩ (.int .i64 (x.k))).setCell ⟨w.heap.size,t*14+1,none⟩ (.int .i64 (x.o))).setCell ⟨w.heap.size,t*14+2,none⟩ (.int .i64 (x.ck))).setCell ⟨w.heap.size,t*14+3,none⟩ (.int .i64 (x.cn))).setCell ⟨w.heap.size,t*14+4,none⟩ (.string (x.cs))).setCell ⟨w.heap.size,t*14+5,none⟩ (.int .i64 (x.ac))).setCell ⟨w.heap.size,t*14+6,none⟩ (.int .i64 (x.ar))).setCell ⟨w.heap.size,t*14+7,none⟩ (.bool (x.af))).setCell ⟨w.heap.size,t*14+8,none⟩ (.bool (x.ag))).setCell ⟨w.heap.size,t*14+9,none⟩ (.int .i64 (x.bc))).setCell ⟨w.heap.size,t*14+10,none⟩ (.int .i64 (x.br))).setCell ⟨w.heap.size,t*14+11,none⟩ (.bool (x.bf))).setCell ⟨w.heap.size,t*14+12,none⟩ (.bool (x.bg))).setCell ⟨w.heap.size,t*14+13,none⟩ (.slice KB x.kids.length kb)) (some w.heap.size)):=part_stepX (G:=(fun i=>shFN (fOpened d e) (gOpened d e) (F i))) HX.out HO2.out hlt HY2.out HKB.out HY.out (Nat.le_succ _) (Nat.le_trans HBS.out (Nat.le_succ _)) HKD.out
   clear HO2 HY2 HKB HY HKD
   go_wp2_with fail
   all_goals
    go_roundw
    case rel=>
     obtain⟨zs,z1,z2,z4,z3⟩:=HT.out
     exact⟨t+1,by omega,by simp,⟨zs,z1,z2,z4⟩,HB2.out.grown z3 HB2.out.size (fun k hk=>by cases hk;exact Nat.le_refl _)⟩
    case measure=>simp [intOf];omega
  ·have q1: ¬(t:Int)<(n:Int):=by omega
   obtain rfl:t=n:=by omega
   go_wp2_with fail
   go_ret
   exact⟨rfl,ys,hown,hys,hkd,hbel⟩
theorem impl_shifted_Closed {A:Option Addr} {n cap:Nat} {F:Nat→FN} (d e:Int) (p q:Nat) (w:World) (hp:p<w.heap.size) (hq:q<w.heap.size) (cp:w.cell? ⟨p,0,none⟩=some (.int .i64 d)) (cq:w.cell? ⟨q,0,none⟩=some (.int .i64 e)) (hd: -1000≤d∧d≤1000) (he: -1000≤e∧e≤1000) (h:FnRowS w A n F) (hn:n≤1048576) (hkn: ∀i,i<n→(F i).kids.length≤1048576) (hsm: ∀i,i<n→SmallN (F i)):
  Calls Tryz.prog 19 #[.slice A n cap,.func (.func 25) #[] #[.pointer (some ⟨p,0,none⟩),.pointer (some ⟨q,0,none⟩)]] w fun z w'=> ∃ys,z= .returned (.slice (some ⟨w.heap.size,0,none⟩) n n)∧w'.ownsRow w.heap.size 54 14 (.slice (some ⟨w.heap.size,0,none⟩) n n) n ys∧FnPart w' (w.heap.size+1) ys (fun i=>shFN (fClosed d e) (gClosed d e) (F i)) n∧KDiff ys n∧Below w.heap.size w w':=by
 have HSM:Hid (∀i,i<n→SmallN (F i)):=hsm
 have HP:Hid (p<w.heap.size):=hp
 have HQ:Hid (q<w.heap.size):=hq
 have HCP:Hid (w.cell? ⟨p,0,none⟩=some (.int .i64 d)):=cp
 have HCQ:Hid (w.cell? ⟨q,0,none⟩=some (.int .i64 e)):=cq
 have HR:Hid (FnRowS w A n F):=h
 have HKN:Hid (∀i,i<n→(F i).kids.length≤1048576):=hkn
 clear h hkn hsm hp hq cp cq
 obtain⟨i0,hi,hz0,hz1,hz2⟩:=info_parts infoFn
 go_enter Tryz.func19,Tryz.ntmps19
 go_wp2_with (refine wpList_make_full _ rfl _ _ 24 rfl w.heap.size 54 i0 _ 14 Tryz.underlying24 hi hz0 hz1 _ _ _ _ n rfl rfl rfl rfl ?m1 ?m2 ?m3 ?_)
 case m1=>rw [hz2];omega
 case m2=>unfold maxLen;omega
 case m3=>exact Nat.le_refl _
 intro w1 hown hgrow
 have hg1:Below w.heap.size w w1:=(Below.refl _ _).grown hgrow (Nat.le_refl _) (fun k hk=>by cases hk)
 obtain⟨ys,hown⟩: ∃ys,w1.ownsRow w.heap.size 54 14 (.slice (some ⟨w.heap.size,0,none⟩) n n) n ys:=⟨_,hown⟩
 clear hgrow
 have HO:Hid (w1.ownsRow w.heap.size 54 14 (.slice (some ⟨w.heap.size,0,none⟩) n n) n ys):=hown
 clear hown
 go_wp2_with fail
 go_loopw [13] (fun i wr=> ∃t:Nat,t≤n∧i= .int .i64 t∧(∃ys,wr.ownsRow w.heap.size 54 14 (.slice (some ⟨w.heap.size,0,none⟩) n n) n ys∧FnPart wr (w.heap.size+1) ys (fun i=>shFN (fClosed d e) (gClosed d e) (F i)) t∧KDiff ys t)∧Below w.heap.size w wr) (fun i _=>n-(intOf i).toNat)
 case atStart=>exact⟨0,Nat.zero_le _,rfl,⟨ys,HO.out,fun j hj=>by omega,fun i j hi=>by omega⟩,hg1⟩
 case round=>
  clear HO hg1
  obtain⟨t,ht,rfl,⟨ys,hown,hys,hkd⟩,hbel⟩:=hrel
  have HKD:Hid (KDiff ys t):=hkd
  by_cases hlt:t<n
  ·obtain⟨b,o,KA,kc,rfl,hl,hnd,hki,hs,hk0⟩:=HR.out.2 t hlt
   have HK0:Hid (KA=none→kc=0):=hk0
   obtain⟨c0,c1,c2,c3,c4,c5,c6,c7,c8,c9,c10,c11,c12,c13⟩:=hnd.below hl (W':=wr) hbel
   have HKI:Hid (IntRow wr KA (F t).kids):=hki.below hbel
   have q0:(0:Int)≤(t:Int):=by omega
   have q1:(t:Int)<(n:Int):=by omega
   have HO:Hid (wr.ownsRow w.heap.size 54 14 (.slice (some ⟨w.heap.size,0,none⟩) n n) n ys):=hown
   have HY:Hid (FnPart wr (w.heap.size+1) ys (fun i=>shFN (fClosed d e) (gClosed d e) (F i)) t):=hys
   have HB:Hid (Below w.heap.size w wr):=hbel
   have HBS:Hid (w.heap.size+1≤wr.heap.size):=by
    obtain⟨A',cap',e,_,hc⟩:=own_shape hown
    cases e
    obtain⟨g',e',_,hg',_⟩:=hc (t*14) (by omega)
    cases e'
    exact hg'
   clear hkd
   clear hown hys hbel hki hnd hk0
   go_wp2_with fail
   refine(impl_shiftedNode_Closed (F t) (KA:=KA) (kc:=kc) d e p q _ (ltB (bchain HB.out (by go_grown)) HP.out) (ltB (bchain HB.out (by go_grown)) HQ.out) (cellB (bchain HB.out (by go_grown)) HP.out HCP.out) (cellB (bchain HB.out (by go_grown)) HQ.out HCQ.out) (HSM.out t hlt) hd he HK0.out (HKI.out.below (by go_grown)) (HKN.out t hlt)).mono ?_
   rintro z w2 ⟨KB,kb,rfl,hkb,hb⟩
   obtain⟨x,HX⟩: ∃x,Hid ((shFN (fClosed d e) (gClosed d e) (F t))=x):=⟨_,rfl⟩
   rw [HX.out]at hkb ⊢
   unfold nodeV
   have hBW:Below wr.heap.size wr w2:=bchain (by go_grown) hb
   have HKB:Hid (w2.ownsRow (wr.heap.size+1) 2 1 (.slice KB x.kids.length kb) x.kids.length (x.kids.map (Value.int .i64))):=own_mono hkb (by simp)
   have HO2:Hid (w2.ownsRow w.heap.size 54 14 (.slice (some ⟨w.heap.size,0,none⟩) n n) n ys):=own_below HO.out hBW
   have HY2:Hid (FnPart w2 (w.heap.size+1) ys (fun i=>shFN (fClosed d e) (gClosed d e) (F i)) t):=HY.out.below hBW
   have HB2:Hid (Below w.heap.size w w2):=bchain HB.out hBW
   obtain⟨A',cap',e,_,hc⟩:=own_shape HO2.out
   cases e
   have hl5:=HO2.out.1
   have hx: ∀j,j<14→ ∃x,w2.cell? ⟨w.heap.size,t*14+j,none⟩=some x∧w2.frozen? ⟨w.heap.size,t*14+j,none⟩=false:=fun j hj=>by
    obtain⟨g',e',_,_,d,f⟩:=hc (t*14+j) (by omega)
    cases e'
    exact⟨_,d.trans (List.getElem?_eq_getElem (by omega)),f⟩
   obtain⟨x0,d0,f0⟩:=hx 0 (by omega)
   obtain⟨x1,d1,f1⟩:=hx 1 (by omega)
   obtain⟨x2,d2,f2⟩:=hx 2 (by omega)
   obtain⟨x3,d3,f3⟩:=hx 3 (by omega)
   obtain⟨x4,d4,f4⟩:=hx 4 (by omega)
   obtain⟨x5,d5,f5⟩:=hx 5 (by omega)
   obtain⟨x6,d6,f6⟩:=hx 6 (by omega)
   obtain⟨x7,d7,f7⟩:=hx 7 (by omega)
   obtain⟨x8,d8,f8⟩:=hx 8 (by omega)
   obtain⟨x9,d9,f9⟩:=hx 9 (by omega)
   obtain⟨x10,d10,f10⟩:=hx 10 (by omega)
   obtain⟨x11,d11,f11⟩:=hx 11 (by omega)
   obtain⟨x12,d12,f12⟩:=hx 12 (by omega)
   obtain⟨x13,d13,f13⟩:=hx 13 (by omega)
   rw [Nat.add_zero]at d0 f0
   clear hx hc hl5 hb hkb hBW c0 c1 c2 c3 c4 c5 c6 c7 c8 c9 c10 c11 c12 c13 HO HB
   have HT:Hid (∃zs,((((((((((((((w2.setCell ⟨w.heap.size,t*14,none⟩ (.int .i64 (x.k))).setCell ⟨w.heap.size,t*14+1,none⟩ (.int .i64 (x.o))).setCell ⟨w.heap.size,t*14+2,none⟩ (.int .i64 (x.ck))).setCell ⟨w.heap.size,t*14+3,none⟩ (.int .i64 (x.cn))).setCell ⟨w.heap.size,t*14+4,none⟩ (.string (x.cs))).setCell ⟨w.heap.size,t*14+5,none⟩ (.int .i64 (x.ac))).setCell ⟨w.heap.size,t*14+6,none⟩ (.int .i64 (x.ar))).setCell ⟨w.heap.size,t*14+7,none⟩ (.bool (x.af))).setCell ⟨w.heap.size,t*14+8,none⟩ (.bool (x.ag))).setCell ⟨w.heap.size,t*14+9,none⟩ (.int .i64 (x.bc))).setCell ⟨w.heap.size,t*14+10,none⟩ (.int .i64 (x.br))).setCell ⟨w.heap.size,t*14+11,none⟩ (.bool (x.bf))).setCell ⟨w.heap.size,t*14+12,none⟩ (.bool (x.bg))).setCell ⟨w.heap.size,t*14+13,none⟩ (.slice KB x.kids.length kb)).ownsRow w.heap.size 54 14 (.slice (some ⟨w.heap.size,0,none⟩) n n) n zs∧FnPart ((((((((((((((w2.setCell ⟨w.heap.size,t*14,none⟩ (.int .i64 (x.k))).setCell ⟨w.heap.size,t*14+1,none⟩ (.int .i64 (x.o))).setCell ⟨w.heap.size,t*14+2,none⟩ (.int .i64 (x.ck))).setCell ⟨w.heap.size,t*14+3,none⟩ (.int .i64 (x.cn))).setCell ⟨w.heap.size,t*14+4,none⟩ (.string (x.cs))).setCell ⟨w.heap.size,t*14+5,none⟩ (.int .i64 (x.ac))).setCell ⟨w.heap.size,t*14+6,none⟩ (.int .i64 (x.ar))).setCell ⟨w.heap.size,t*14+7,none⟩ (.bool (x.af))).setCell ⟨w.heap.size,t*14+8,none⟩ (.bool (x.ag))).setCell ⟨w.heap.size,t*14+9,none⟩ (.int .i64 (x.bc))).setCell ⟨w.heap.size,t*14+10,none⟩ (.int .i64 (x.br))).setCell ⟨w.heap.size,t*14+11,none⟩ (.bool (x.bf))).setCell ⟨w.heap.size,t*14+12,none⟩ (.bool (x.bg))).setCell ⟨w.heap.size,t*14+13,none⟩ (.slice KB x.kids.length kb)) (w.heap.size+1) zs (fun i=>shFN (fClosed d e) (gClosed d e) (F i)) (t+1)∧KDiff zs (t+1)∧w2.grownBy ((((((((((((((w2.setCell ⟨w.heap.size,t*14,none⟩ (.int .i64 (x.k))).setCell ⟨w.heap.size,t*14+1,none⟩ (.int .i64 (x.o))).setCell ⟨w.heap.size,t*14+2,none⟩ (.int .i64 (x.ck))).setCell ⟨w.heap.size,t*14+3,none⟩ (.int .i64 (x.cn))).setCell ⟨w.heap.size,t*14+4,none⟩ (.string (x.cs))).setCell ⟨w.heap.size,t*14+5,none⟩ (.int .i64 (x.ac))).setCell ⟨w.heap.size,t*14+6,none⟩ (.int .i64 (x.ar))).setCell ⟨w.heap.size,t*14+7,none⟩ (.bool (x.af))).setCell ⟨w.heap.size,t*14+8,none⟩ (.bool (x.ag))).setCell ⟨w.heap.size,t*14+9,none⟩ (.int .i64 (x.bc))).setCell ⟨w.heap.size,t*14+10,none⟩ (.int .i64 (x.br))).setCell ⟨w.heap.size,t*14+11,none⟩ (.bool (x.bf))).setCell ⟨w.heap.size,t*14+12,none⟩ (.bool (x.bg))).setCell ⟨w.heap.size,t*14+13,none⟩ (.slice KB x.kids.length kb)) (some w.heap.size)):=part_stepX (G:=(fun i=>shFN (fClosed d e) (gClosed d e) (F i))) HX.out HO2.out hlt HY2.out HKB.out HY.out (Nat.le_succ _) (Nat.le_trans HBS.out (Nat.le_succ _)) HKD.out
   clear HO2 HY2 HKB HY HKD
   go_wp2_with fail
   all_goals
    go_roundw
    case rel=>
     obtain⟨zs,z1,z2,z4,z3⟩:=HT.out
     exact⟨t+1,by omega,by simp,⟨zs,z1,z2,z4⟩,HB2.out.grown z3 HB2.out.size (fun k hk=>by cases hk;exact Nat.le_refl _)⟩
    case measure=>simp [intOf];omega
  ·have q1: ¬(t:Int)<(n:Int):=by omega
   obtain rfl:t=n:=by omega
   go_wp2_with fail
   go_ret
   exact⟨rfl,ys,hown,hys,hkd,hbel⟩
end Go.Proofs.YtonhcgkagdpdlaaGreatDoor
