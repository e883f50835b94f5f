import Derived.Test.YtomadadmakdkgaaGreatDoorMn
import Derived.Test.YtomadadmakdkgaaGreatDoorGaw
import Derived.Test.YtomadadmakdkgaaGreatDoorGax
import Derived.Defers
import Derived.Recover
import Derived.Laws.Pointers
import Derived.Test.YtomadadmakdkgaaGreatDoorGap
import Derived.Test.YtomadadmakdkgaaGreatDoorGaf
open Go.Proofs.Tryz
open Go.Value renaming slice → n, bool → r, tuple → I, int → S, string → U
open Go.RowKit renaming ownsRow_setCell_below → C, Below → G
open List renaming getD_eq_getElem?_getD → D, getElem?_eq_getElem → F, all_eq_true → R
open Go renaming results → E, bodyPost_ret → H, leaves_cons → M
open Go.Ending renaming returned → J
open Or renaming inl → K
open Go.Obj renaming cells → L
open Go.RowKit.Below renaming refl → N
open Go.ByteArray renaming toList_eq → O
open Bool renaming and_eq_true → Q
open Go.IntKind renaming i64 → T
set_option linter.unusedSimpArgs false
set_option linter.unusedVariables false
set_option maxHeartbeats 8000000
set_option maxRecDepth 100000
namespace Go.Proofs.YtomadadmakdkgaaGreatDoor
open Go.RowKit
variable {l:List UInt8} {o:List FN} {w:World} {s:ByteArray}
def rwE(y:Option (Int × List UInt8 × List FN)):Option (List FN):=match y with
 | some y=>if y.2.1= []then some y.2.2 else none
 | none=>none
def rwF(l:List UInt8):Option (List FN):=rwE (PB RF 1 1 0 [] l [])
theorem Qf6{x:Int}(h:l= []):rwE (some (x,l,o))=some o:=pS h
theorem Qff{x:Int}(h:l≠ []):rwE (some (x,l,o))=none:=nG h
theorem Qps(hl:l.length<=1000)(h:Xh 1001 l=none):rwF l=none:=by
 unfold rwF;obtain⟨y,hy⟩: ∃y,PB RF 1 1 0 [] l []=y:=⟨_,rfl⟩;rw[hy];cases y with
 | none=>rfl
 | some z=>
  obtain⟨x,l1,o⟩:=z;by_cases h1:l1= []
  ·exfalso
   unfold PB at hy;cases hp:P RF 20000 1 1 0 [] l []with
   | none=>rw[hp]at hy;cases hy
   | some q=>
    obtain⟨x',l',o'⟩:=q;rw[hp]at hy;simp only[Option.map_some,nrm,Option.some.injEq,Prod.mk.injEq]at hy;obtain⟨_,hs,_⟩:=hy;obtain⟨⟨k,hk⟩,_⟩:=Qhv RF VI _ _ _ _ _ _ _ _ _ _ hp;obtain⟨ws,hw⟩:=Hh k 1001 l l' hk (by rw[hs,h1]) (by omega);rw[hw]at h
    cases h
  ·exact Qff h1
theorem Ov(p q:Nat)(x:Value)(y:Bool)(u:TypeId)(pv:Value)(older:List PanicEntry)(w:World)(hp:w.cell? ⟨p,0,none⟩=some x)(hq:w.cell? ⟨q,0,none⟩=some (r y))(fp:w.frozen? ⟨p,0,none⟩=false)(fq:w.frozen? ⟨q,0,none⟩=false)(hne:q≠p):
  CallsD prog 215 #[.pointer (some ⟨p,0,none⟩),.pointer (some ⟨q,0,none⟩)] (.panicking ({v:= .iface u pv,recovered:=false}::older)) w fun e u' w'=>
   e= J (I #[])/\u'= .panicking ({v:= .iface u pv,recovered:=true}::older)/\w'=(w.setCell ⟨p,0,none⟩ (n none 0 0)).setCell ⟨q,0,none⟩ (r false):=by
 have h0:(w.setCell ⟨p,0,none⟩ (n none 0 0)).cell? ⟨q,0,none⟩=some (r y):=(World.cell?_setCell_other _ _ _ _ (fun e=>by cases e;exact hne rfl)).trans hq;have h1:(w.setCell ⟨p,0,none⟩ (n none 0 0)).frozen? ⟨q,0,none⟩=false:=(World.frozen?_setCell _ _ _ _).trans fq;refine callsD_of_wpS func215 rfl fun c₀ cs hu=> ?_;apply wpS_seq;apply wpS_region;simp[wpOpsS,go_sem,recoverD,hu,ntmps215,Exit.thenS];refine wpS_cond (t:=true) (by simp[Act.eval,Array.replicate]) ?_
 simp only[if_true];apply wpS_region;simp[wpOpsS,go_sem,hp,fp,h0,h1,bodyPostS,E,results215]
theorem Qpt(p q:Addr)(w:World):
  CallsD prog 215 #[.pointer (some p),.pointer (some q)] .returning w fun e u' w'=>e= J (I #[])/\u'= .returning/\w'=w:=by
 refine callsD_of_wpS func215 rfl fun c₀ cs hu=> ?_;apply wpS_seq;apply wpS_region;simp[wpOpsS,go_sem,recoverD,hu,ntmps215,Exit.thenS];refine wpS_cond (t:=false) (by simp[Act.eval,Array.replicate]) ?_;simp only[Bool.false_eq_true,if_false];refine wpS_of_wp (wp_skip ?_)
 cases c₀
 simp_all [bodyPostS,E,results215]
def rwA(w:World):World:=(w.alloc (L #[n none 0 0] 129)).alloc (L #[r false] 4)
theorem Qch(w:World):(rwA w).heap.size=w.heap.size+2:=by unfold rwA;simp
theorem Qh8(w:World):(rwA w).cell? ⟨w.heap.size,0,none⟩=some (n none 0 0)/\(rwA w).cell? ⟨w.heap.size+1,0,none⟩=some (r false)/\(rwA w).frozen? ⟨w.heap.size,0,none⟩=false/\(rwA w).frozen? ⟨w.heap.size+1,0,none⟩=false:=by
 unfold rwA;have e1:(w.alloc (L #[n none 0 0] 129)).heap.size=w.heap.size+1:=by simp
 have a:=(((N (w.alloc (L #[n none 0 0] 129)).heap.size (w.alloc (L #[n none 0 0] 129))).alloc (Nat.le_refl _) (L #[r false] 4)));refine⟨(a.cell (p:=⟨w.heap.size,0,none⟩) (by simp)).trans (by simp),?_,(a.frozen (p:=⟨w.heap.size,0,none⟩) (by simp)).trans (by simp),?_⟩
 ·rw[<-e1];simp
 ·rw[<-e1];simp
theorem Bn(w:World):G w.heap.size w (rwA w):=by unfold rwA;go_grown
theorem Qj4{wx:World}(hb:G (rwA w).heap.size (rwA w) wx):(wx.cell? ⟨w.heap.size,0,none⟩=some (n none 0 0)/\wx.cell? ⟨w.heap.size+1,0,none⟩=some (r false)/\wx.frozen? ⟨w.heap.size,0,none⟩=false/\wx.frozen? ⟨w.heap.size+1,0,none⟩=false)/\G w.heap.size w wx:=by
 obtain⟨a,b,c,d⟩:=Qh8 w;have z:=Qch w;exact⟨⟨(hb.cell (p:=⟨w.heap.size,0,none⟩) (by simp only;omega)).trans a,(hb.cell (p:=⟨w.heap.size+1,0,none⟩) (by simp only;omega)).trans b,(hb.frozen (p:=⟨w.heap.size,0,none⟩) (by simp only;omega)).trans c,(hb.frozen (p:=⟨w.heap.size+1,0,none⟩) (by simp only;omega)).trans d⟩,Qb (Bn w) hb⟩
theorem JG{wx:World}(h:G w.heap.size w wx)(p o:Nat)(u:Value)(hp:w.heap.size<=p):G w.heap.size w (wx.setCell ⟨p,o,none⟩ u):=h.trans ((N _ _).setCell hp u)
theorem ER{p q:Nat}{x:Value}{y:Bool}(k1:w.cell? ⟨p,0,none⟩=some x)(k2:w.cell? ⟨q,0,none⟩=some (r y)):(w.setCell ⟨p,0,none⟩ (n none 0 0)).cell? ⟨p,0,none⟩=some (n none 0 0)/\((w.setCell ⟨p,0,none⟩ (n none 0 0)).setCell ⟨q,0,none⟩ (r false)).cell? ⟨q,0,none⟩=some (r false):=by
 refine⟨World.cell?_setCell_same _ _ _ k1,?_⟩;by_cases e:q=p
 ·subst e;exact World.cell?_setCell_same _ _ _ (World.cell?_setCell_same _ _ _ k1)
 ·exact World.cell?_setCell_same _ _ _ ((World.cell?_setCell_other _ _ _ _ (fun e9=>by injection e9 with e1;exact e e1.symm)).trans k2)
def Qvp(l:List UInt8)(w:World)(e:Ending)(w':World):Prop:=G w.heap.size w w'/\((rwF l=none/\e= J (I #[n none 0 0,r false]))\/ ∃out v ys,rwF l=some out/\e= J (I #[v,r true])/\w'.ownsRow w.heap.size 177 14 v out.length ys/\FnPart w' w.heap.size ys (ouF out) out.length/\KDR ys out.length/\(∀x∈out,smF x)/\out.length<=1000)
theorem Qij{W:World}{B:Nat}{v:Value}{ws:List (List UInt8)}(h:W.ownsRow B 9 1 v ws.length (pcV ws))(hl:ws.length<=1000): ∃A cap,v= n A ws.length cap/\PcRow W A ws:=by
 obtain⟨A,cap,rfl,_,hc⟩:=Qr h;refine⟨A,cap,rfl,hl,fun i hi=> ?_⟩;obtain⟨g,e,_,h0,d,_⟩:=hc i (by omega);cases e
 refine⟨g,0,rfl,h0,?_⟩;rw[Nat.zero_add,d];unfold pcV;rw[List.getElem?_map,D,F hi];rfl
theorem Nk(s:ByteArray)(w:World)(hs:s.size<=1000)(hg:GI w):Calls prog 181 #[U s] w (Qvp s.data.toList w):=by
 have HG:Hid (GI (rwA w)):=hg.below (Bn w);have g5:Hid (s.size<=1000):=hs;obtain⟨l,HL⟩: ∃l,Hid (s.data.toList=l):=⟨_,rfl⟩;have H4:Hid (l.length<=1000):=by show _<=_;rw[<-HL.out];exact hs
 rw[HL.out];clear hg;have hmf: ∀(fn:Fn) (first h3:Array Value) (w:World),(Instr.makeFunc fn first h3).run prog w= .ok (.func fn first h3) w:=fun _ _ _ _=>rfl;go_enter_defers func181,ntmps181
 go_wp2_with fail
 have h1:=DF s (rwA w) g5.out HG.out.gt.ot;rw[HL.out]at h1;refine h1.mono ?_;clear h1;rintro e w1 ⟨(⟨ws,v0,htk,rfl,h0⟩ | ⟨htk,rfl⟩),hb1⟩;rotate_left
 ·have HR:Hid (rwF l=none):=Qps H4.out htk;have H0:Hid (G (rwA w).heap.size (rwA w) w1):=hb1;clear htk hb1;go_wp2_with fail
  obtain⟨⟨k1,k2,k3,k4⟩,k5⟩:=Qj4 H0.out;obtain⟨c1,c2⟩:=ER k1 k2;refine M (f:=215) (args:= #[.pointer (some ⟨w.heap.size,0,none⟩),.pointer (some ⟨w.heap.size+1,0,none⟩)]) (by simp) (by simp[go_sem]) ?_;refine(Ov w.heap.size (w.heap.size+1) _ _ _ _ [] _ k1 k2 k3 k4 (by omega)).mono ?_;rintro e u' w'' ⟨rfl,rfl,rfl⟩;simp[Leaves,settle,E,results181,go_sem,c1,c2];exact⟨JG (JG k5 _ _ _ (Nat.le_refl _)) _ _ _ (Nat.le_succ _),K ⟨HR.out,rfl⟩⟩
 obtain⟨A,h3,rfl,H2⟩:=Qij h0 (Nat.le_trans (Ot _ _ _ htk) H4.out);have G6:Hid (PcRow w1 A ws):=H2;have h7:Hid (Txt ws (fun k=>txt k l)):=Qtf htk H4.out;have H0:Hid (G (rwA w).heap.size (rwA w) w1):=hb1;have G4:=hd (HG.out.below hb1)
 have g6:Hid (RdI w1 (fun _=>False) (w1.alloc (L #[n A ws.length h3,S T 0,n none 0 0] 247)) w1.heap.size A h3 ws 0 (n none 0 0) (w1.heap.size+1) []):=
  ⟨⟨Nat.zero_le _,⟨by simp,by simp,by simp⟩,by simp,by simp⟩,H2,G4.out,by go_grown,Nat.le_refl _,Nat.lt_succ_self _,by simp,fun b hb=>hb.elim,fun x hx=>(by cases hx),[],⟨rfl,K ⟨rfl,rfl⟩⟩,fun i hi=>absurd hi (Nat.not_lt_zero _),fun i j hi=>absurd hi (Nat.not_lt_zero _),fun i hi=>absurd hi (Nat.not_lt_zero _)⟩
 have H8:Hid (ws.length<=1000):=h7.out.few;obtain⟨y,HY⟩: ∃y,Hid (PB RF 1 1 0 [] l []=y):=⟨_,rfl⟩;have H7:Hid (rwF l=rwE y):=by show _=_;unfold rwF;rw[HY.out]
 clear h0 H2 hb1 htk;go_wp2_with fail
 have h2:=Qmi w1 w1.heap.size A h3 ws (fun k=>txt k l) (w1.heap.size+1) h7.out (fun _=>False) _ 0 _ [] 1 g6.out (Nat.zero_le _) (by omega) (by omega) (by have:=H8.out;omega);simp only[txt]at h2;rw[HY.out]at h2;refine h2.mono ?_;clear h2;rintro e w2 (⟨x,k2,v2,out2,e2,rfl,hs2,hk2,hl2⟩ | ⟨e2,rfl,hf2⟩);rotate_left
 ·have HR:Hid (rwF l=none):=by show _=_;rw[H7.out,e2];rfl
  have G5:=hd (Qb H0.out (OO hf2));clear e2 hf2;go_wp2_with fail
  obtain⟨⟨k1,k2,k3,k4⟩,k5⟩:=Qj4 G5.out;obtain⟨c1,c2⟩:=ER k1 k2;refine M (f:=215) (args:= #[.pointer (some ⟨w.heap.size,0,none⟩),.pointer (some ⟨w.heap.size+1,0,none⟩)]) (by simp) (by simp[go_sem]) ?_;refine(Ov w.heap.size (w.heap.size+1) _ _ _ _ [] _ k1 k2 k3 k4 (by omega)).mono ?_;rintro e u' w'' ⟨rfl,rfl,rfl⟩;simp[Leaves,settle,E,results181,go_sem,c1,c2];exact⟨JG (JG k5 _ _ _ (Nat.le_refl _)) _ _ _ (Nat.le_succ _),K ⟨HR.out,rfl⟩⟩
 have g9:Hid (SI w1 (fun _=>False) (w1.alloc (L #[n A ws.length h3,S T 0,n none 0 0] 247)) (n none 0 0) w1.heap.size A h3 ws (w1.heap.size+1) w2 k2 v2 out2):=hs2;have G2:Hid (out2.length<=1000):=by show _<=_;have a1:=hs2.st.ri.1;have a2:=H8.out;simp only[List.length_nil]at hl2;omega
 have H9:Hid (rwF l=rwE (some (x,sb (txt k2 l),out2))):=by show _=_;rw[H7.out,e2]
 have H3:Hid (pk (txt k2 l)=ZJ ws k2):=h7.out.tp k2 hs2.st.ri.1;clear e2 hs2 hk2 hl2;go_wp2_with fail
 refine(Kp (m:=0) g9.out (by omega)).mono ?_;rintro _ w3 ⟨rfl,hs3⟩;have H1:Hid (SI w1 (fun _=>False) (w1.alloc (L #[n A ws.length h3,S T 0,n none 0 0] 247)) (n none 0 0) w1.heap.size A h3 ws (w1.heap.size+1) w3 k2 v2 out2):=hs3;have g0:=hd (Qb H0.out (OO hs3.fr));clear hs3;rw[Nat.add_zero];obtain⟨q,HQ⟩: ∃q,Hid (ZJ ws k2=q):=⟨_,rfl⟩
 rw[HQ.out];obtain⟨b,H5⟩: ∃b,Hid (bs q=b):=⟨_,rfl⟩;rw[H5.out];by_cases hq:q= []
 ·have g4:b.toList.isEmpty=true:=by rw[<-H5.out,O,hq];rfl
  have g8:Hid (sb (txt k2 l)= []):=by
   show _=_;rcases Nat.lt_or_ge k2 ws.length with h9 | h9
   ·exact absurd (by rw[HQ.out];exact hq) (h7.out.ne k2 h9)
   ·have h8:k2=ws.length:=Nat.le_antisymm H1.out.st.ri.1 h9;rw[h8];exact h7.out.fin
  have HR:Hid (rwF l=some out2):=by show _=_;rw[H9.out];exact Qf6 g8.out
  obtain⟨ys,h0,h4,H6,_⟩:=H1.out.st.own;obtain⟨A2,h5,rfl,_,_⟩:=Qr h0;have G1:Hid (w3.ownsRow (w1.heap.size+1) 177 14 (n A2 out2.length h5) out2.length ys):=h0;have G0:Hid (FnPart w3 (w1.heap.size+1) ys (ouF out2) out2.length):=h4;have G3:Hid (KDR ys out2.length):=H6;have g7:Hid (∀x∈out2,smF x):=H1.out.st.sm;obtain⟨_,⟨d0,d1,d2⟩,g1,g2⟩:=H1.out.st.ri
  obtain⟨⟨k1,g3,k3,k4⟩,k5⟩:=Qj4 g0.out;have k6:(w3.setCell ⟨w.heap.size,0,none⟩ (n A2 out2.length h5)).cell? ⟨w.heap.size+1,0,none⟩=some (r false):=(World.cell?_setCell_other _ _ _ _ (fun e=>by injection e with e1;omega)).trans g3;have k7:(w3.setCell ⟨w.heap.size,0,none⟩ (n A2 out2.length h5)).frozen? ⟨w.heap.size+1,0,none⟩=false:=(World.frozen?_setCell _ _ _ _).trans k4;have K5:Hid (G w.heap.size w w3):=k5;have h6:Hid (w.heap.size+1<w1.heap.size+1):=by show _<_;have a1:=H0.out.size;have a2:=Qch w;omega
  clear h0 h4 H6 k5 hq;go_wp2_with fail
  refine M (f:=215) (args:= #[.pointer (some ⟨w.heap.size,0,none⟩),.pointer (some ⟨w.heap.size+1,0,none⟩)]) (by simp) (by simp[go_sem]) ?_;refine(Qpt _ _ _).mono ?_;rintro e u' w'' ⟨rfl,rfl,rfl⟩;have c1:((w3.setCell ⟨w.heap.size,0,none⟩ (n A2 out2.length h5)).setCell ⟨w.heap.size+1,0,none⟩ (r true)).cell? ⟨w.heap.size,0,none⟩=some (n A2 out2.length h5):=(World.cell?_setCell_other _ _ _ _ (fun e=>by injection e with e1;omega)).trans (World.cell?_setCell_same _ _ _ k1);have c2:((w3.setCell ⟨w.heap.size,0,none⟩ (n A2 out2.length h5)).setCell ⟨w.heap.size+1,0,none⟩ (r true)).cell? ⟨w.heap.size+1,0,none⟩=some (r true):=World.cell?_setCell_same _ _ _ k6;simp[Leaves,settle,E,results181,go_sem,c1,c2];refine⟨JG (JG K5.out _ _ _ (Nat.le_refl _)) _ _ _ (Nat.le_succ _),Or.inr ⟨out2,_,ys,HR.out,rfl,?_,fun i hi=> ?_,G3.out,g7.out,G2.out⟩⟩
  ·exact QU (C (C G1.out (by have:=h6.out;simp only;omega) _) h6.out _) (by have:=h6.out;omega)
  ·obtain⟨KA,kc,p1,p2⟩:=G0.out i hi;exact⟨KA,kc,p1,QU (C (C p2 (by have:=h6.out;simp only;omega) _) h6.out _) (by have:=h6.out;omega)⟩
 ·have g4:b.toList.isEmpty=false:=by
   rw[<-H5.out,O];show q.isEmpty=false;cases hz:q with
   | nil=>exact absurd hz hq
   | cons a t=>rfl
  have HR:Hid (rwF l=none):=by
   show _=_;rw[H9.out];refine Qff (fun e=>hq ?_);rw[<-HQ.out,<-H3.out];exact(Qa9 e).1
  clear hq;go_wp2_with fail
  refine(ZN _).mono ?_;rintro _ w4 ⟨rfl,hw4⟩;obtain rfl:=hw4.symm;clear hw4;go_wp2_with fail
  obtain⟨⟨k1,k2,k3,k4⟩,k5⟩:=Qj4 g0.out;obtain⟨c1,c2⟩:=ER k1 k2;refine M (f:=215) (args:= #[.pointer (some ⟨w.heap.size,0,none⟩),.pointer (some ⟨w.heap.size+1,0,none⟩)]) (by simp) (by simp[go_sem]) ?_;refine(Ov w.heap.size (w.heap.size+1) _ _ _ _ [] _ k1 k2 k3 k4 (by omega)).mono ?_;rintro e u' w'' ⟨rfl,rfl,rfl⟩;simp[Leaves,settle,E,results181,go_sem,c1,c2];exact⟨JG (JG k5 _ _ _ (Nat.le_refl _)) _ _ _ (Nat.le_succ _),K ⟨HR.out,rfl⟩⟩
theorem Qmo(h:Zb (ouF o) o.length=true):good o=true:=by
 unfold Zb MN at h;simp only[Q,R,List.mem_range,decide_eq_true_eq]at h;unfold good;rw[Q];refine⟨decide_eq_true h.1.1.1.1.2,R.2 fun x hx=> ?_⟩;obtain⟨i,hi,rfl⟩:=List.getElem_of_mem hx;have h9:=h.1.1.1.2 i hi
 unfold ouF at h9;rw[D,F hi]at h9;exact h9
theorem Qor(h:QJ s=true):rdF s=match rwF s.data.toList with
  | some o=>if Zb (ouF o) o.length=true then some o else none
  | none=>none:=by
 unfold rdF rwF;rw[h,pS rfl];obtain⟨y,hy⟩: ∃y,PB RF 1 1 0 [] s.data.toList []=y:=⟨_,rfl⟩;rw[hy];cases y with
 | none=>rfl
 | some z=>
  obtain⟨x,l,o⟩:=z;by_cases hl:l= []
  ·rw[Qf6 hl];simp only;by_cases hf:Zb (ouF o) o.length=true
   ·rw[pS hf,Ox hl (Qmo hf) hf]
   ·rw[nG hf,Ug (fun e=>hf e.2)]
  ·rw[Qff hl,Ug (fun e=>hl e.1)]
theorem Qqd(h:QJ s=true)(hr:rwF s.data.toList=none):rdF s=none:=by
 rw[Qor h,hr]
theorem Qt1(h:QJ s=true)(hr:rwF s.data.toList=some o)(hf:Zb (ouF o) o.length=true):rdF s=some o:=by
 rw[Qor h,hr];exact pS hf
theorem Qt3(h:QJ s=true)(hr:rwF s.data.toList=some o)(hf:Zb (ouF o) o.length=false):rdF s=none:=by
 rw[Qor h,hr];exact nG (by rw[hf];simp)
def Qvq(s:ByteArray)(w:World)(e:Ending)(w':World):Prop:=
 G w.heap.size w w'/\((rdF s=none/\e= J (I #[n none 0 0,r false]))\/ ∃out v ys,rdF s=some out/\e= J (I #[v,r true])/\w'.ownsRow w.heap.size 177 14 v out.length ys/\FnPart w' w.heap.size ys (ouF out) out.length/\KDR ys out.length)
theorem Qsn{out:List FN}(h: ∀x∈out,smF x)(i:Nat)(hi:i<out.length):(ouF out i).cs.size<=2000/\(ouF out i).kids.length<=2000:=by
 unfold ouF;rw[D,F hi,Option.getD_some];exact h _ (List.getElem_mem hi)
theorem JD(s:ByteArray)(w:World)(hs:s.size<=maxLen)(hg:GI w):Calls prog 154 #[U s] w (Qvq s w):=by
 have HG:Hid (GI w):=hg;have HS:Hid (s.size<=maxLen):=hs;clear hg;by_cases h0:s.size<=200
 rotate_left
 ·have q1:(200:Int)<(s.size:Int):=by omega
  have HN:Hid (rdF s=none):=Qfi (by unfold QJ;rw[decide_eq_false h0];rfl);go_enter func154,ntmps154;go_wp2_with fail
  refine H (v:= I #[n none 0 0,r false]) ?_ rfl ⟨N _ _,K ⟨HN.out,rfl⟩⟩;simp (maxDischargeDepth:=9) [E,results154,go_sem, *]
 have q1: ¬(200:Int)<(s.size:Int):=by omega
 have q1':decide ((200:Int)<(s.size:Int))=false:=by simpa using q1
 obtain⟨b,HB⟩: ∃b,Hid (Yb s.data.toList=b):=⟨_,rfl⟩;have h1:Hid (QJ s=b):=by show _=_;unfold QJ;rw[decide_eq_true h0,HB.out];rfl
 go_enter func154,ntmps154;go_wp2_with fail
 refine(Vi s _ HS.out).mono ?_;rintro _ w0 ⟨rfl,hw0⟩;obtain rfl:=hw0.symm;clear hw0;rw[HB.out];cases b
 ·have HN:Hid (rdF s=none):=Qfi h1.out;go_wp2_with fail
  refine H (v:= I #[n none 0 0,r false]) ?_ rfl ⟨N _ _,K ⟨HN.out,rfl⟩⟩;simp (maxDischargeDepth:=9) [E,results154,go_sem, *]
 go_wp2_with fail
 refine(Nk s _ (by omega) HG.out).mono ?_;rintro _ w1 ⟨hb1,(⟨hr,rfl⟩ | ⟨out,v,ys,hr,rfl,ho,hp,hkd,hsm,hol⟩)⟩
 ·have HN:Hid (rdF s=none):=Qqd h1.out hr;have h2:Hid (G w.heap.size w w1):=hb1;clear hb1 hr;go_wp2_with fail
  refine H (v:= I #[n none 0 0,r false]) ?_ rfl ⟨h2.out,K ⟨HN.out,rfl⟩⟩;simp (maxDischargeDepth:=9) [E,results154,go_sem, *]
 obtain⟨A,h4,rfl,h3⟩:=YF ho hp (fun i hi=>Nat.le_trans (Qsn hsm i hi).1 (by unfold maxLen;omega));have HO:Hid (w1.ownsRow w.heap.size 177 14 (n A out.length h4) out.length ys):=ho;have HP:Hid (FnPart w1 w.heap.size ys (ouF out) out.length):=hp;have h9:Hid (KDR ys out.length):=hkd;have H0:Hid (FnRow w1 A out.length (ouF out)):=h3;have h2:Hid (G w.heap.size w w1):=hb1;have HR:Hid (rwF s.data.toList=some out):=hr
 have h7:Hid (∀i,i<out.length->(ouF out i).kids.length<=1048576):=fun i hi=>Nat.le_trans (Qsn hsm i hi).2 (by omega);have h8:Hid (out.length<=1000):=hol;clear ho hp hkd h3 hb1 hr hsm hol;go_wp2_with fail
 refine(YU w1 H0.out (by have:=h8.out;omega) h7.out (HG.out.gt.ft.below h2.out)).mono ?_;rintro _ w2 ⟨rfl,hb2⟩;have h6:Hid (G w1.heap.size w1 w2):=hb2;have h5:=hd (Qb h2.out hb2);clear hb2;cases hf:Zb (ouF out) out.length
 ·have HN:Hid (rdF s=none):=Qt3 h1.out HR.out hf;go_wp2_with fail
  refine H (v:= I #[n none 0 0,r false]) ?_ rfl ⟨h5.out,K ⟨HN.out,rfl⟩⟩;simp (maxDischargeDepth:=9) [E,results154,go_sem, *]
 ·have HY:Hid (rdF s=some out):=Qt1 h1.out HR.out hf;go_wp2_with fail
  refine H (v:= I #[n A out.length h4,r true]) ?_ rfl ⟨h5.out,Or.inr ⟨out,_,ys,HY.out,rfl,Qd HO.out h6.out,HP.out.below h6.out,h9.out⟩⟩;simp (maxDischargeDepth:=9) [E,results154,go_sem, *]
end Go.Proofs.YtomadadmakdkgaaGreatDoor
