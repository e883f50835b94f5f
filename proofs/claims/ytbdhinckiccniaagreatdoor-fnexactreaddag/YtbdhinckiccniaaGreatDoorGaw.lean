import Derived.Test.YtbdhinckiccniaaGreatDoorGav
set_option linter.unusedSimpArgs false
set_option linter.unusedVariables false
set_option maxHeartbeats 8000000
set_option maxRecDepth 100000
namespace Go.Proofs.YtbdhinckiccniaaGreatDoor
open Go.RowKit
section
variable {W0:World} {Z:Nat→Prop} {r:Nat} {A:Option Addr} {cap:Nat} {ps:List (List UInt8)} {T:Nat→List UInt8} {B:Nat}
theorem Ql4 {m:Nat} (hm:m≤20000) (hF:Nd W0 Z r A cap ps T B m) (hT:Txt ps T):Qi5 W0 Z r A cap ps T B (m+1):=by
 intro W k v out h ho hk;have HS:Hid (SI W0 Z W v r A cap ps B W k v out):=SI.start h;have HF:Hid (Nd W0 Z r A cap ps T B m):=hF;have HT:Hid (Txt ps T):=hT;have HFW:Hid (ps.length≤1000):=hT.few;have HKL:Hid (k≤ps.length):=h.ri.1;have HO:Hid (out.length≤30000):=by show _≤_;have:=hT.few;have:=h.ri.1;omega
 have HLN:Hid ((T k).length≤1000):=hT.len k;obtain⟨res,HRES⟩: ∃res,Hid (PB RF 6 0 0 [] (T k) out=res):=⟨_,rfl⟩;rw [HRES.out];have HPK:Hid (pk (T k)=Zl ps k):=hT.pkk h;obtain⟨l,HL⟩: ∃l,Hid (Zl ps (k+1)=l):=⟨_,rfl⟩;obtain⟨s,HX⟩: ∃s,Hid (bs l=s):=⟨_,rfl⟩
 have HCC:Hid ((pk (T k)≠ []∧pk (nx (T k))= [58])↔l= [58]):=by
  show _↔_;rw [←HL.out];constructor
  ·rintro⟨h1,h2⟩;rw [HPK.out]at h1;have h3:=Zj h1;rw [hT.tn k h3,hT.tp (k+1) h3]at h2;exact h2
  ·intro h2;have h3:k+1<ps.length:=Zj (by rw [h2];simp);exact⟨by rw [HPK.out];exact hT.ne k (by omega),by rw [hT.tn k (by omega),hT.tp (k+1) (by omega)];exact h2⟩
 clear h hF hT;go_enter Tryz.func331,Tryz.ntmps331;go_wp2_with fail
 refine(Va (m:=1) HS.out (by omega)).mono ?_;rintro _ w1 ⟨rfl,hs1⟩;have HS1:Hid (SI W0 Z W v r A cap ps B w1 k v out):=hs1;clear hs1 HS;rw [HL.out,HX.out];by_cases h58:l= [58]
 ·have hb:(s.toList== [58])=true:=Uz (by rw [←HX.out,h58];rfl);have hcc:=HCC.out.2 h58;have HK1:Hid (k+1<ps.length):=Zj (by rw [HL.out,h58];simp);have HPC:Hid (Zl ps k≠ []):=by show _≠_;rw [←HPK.out];exact hcc.1
  have HNX:Hid (nx (T k)=T (k+1)):=HT.out.tn k (by have:=HK1.out;omega);have HNX2:Hid (nx (T (k+1))=T (k+2)):=HT.out.tn (k+1) HK1.out;have HPK2:Hid (pk (T (k+2))=Zl ps (k+2)):=HT.out.tp (k+2) HK1.out;have HP58:Hid (Zl ps (k+1)= [58]):=by show _=_;rw [HL.out];exact h58
  obtain⟨x,HPX⟩: ∃x,Hid (rpL (Zl ps k)=x):=⟨_,rfl⟩;obtain⟨y,HPY⟩: ∃y,Hid (rpL (Zl ps (k+2))=y):=⟨_,rfl⟩
  have HR:Hid (res=Qvy x y (fun p q=>some ((out.length:Int),sb (nx (T (k+2))),out++ [RF.are p q]))):=by
   show _=_;rw [←HRES.out,Qah (x:=x) (y:=y) HLN.out hcc (by rw [HPK.out];exact HPX.out) (by rw [HNX.out,HNX2.out,HPK2.out];exact HPY.out),HNX.out,HNX2.out]
  have HL1:Hid ((Zl ps k).length≤1048576∧(Zl ps (k+2)).length≤1048576):=by
   have key: ∀j,j≤ps.length→(Zl ps j).length≤1048576:=fun j hj=>by
    rw [←HT.out.tp j hj];by_cases e:pk (T j)= []
    ·rw [e];exact Nat.zero_le _
    ·have h9:=congrArg List.length (Hh e);rw [List.length_append]at h9;have h8:=YD (T j);have h7:=HT.out.len j;omega
   exact⟨key k (by have:=HK1.out;omega),key (k+2) (by have:=HK1.out;omega)⟩
  clear h58 hcc;go_wp2_with fail
  refine(Gg HS1.out).mono ?_;rintro e w2 (⟨hn,rfl,hfr⟩ | ⟨hn,rfl,hs2⟩)
  ·exact absurd hn HPC.out
  have HS2:Hid (SI W0 Z W v r A cap ps B w2 (k+1) v out):=hs2;have HG2:Hid (GI w2):=hs2.st.gir;clear hs2 hn HS1;obtain⟨s1,HX1⟩: ∃s,Hid (bs (Zl ps k)=s):=⟨_,rfl⟩;rw [HX1.out];go_wp2_with fail
  refine(Jl (Zl ps k) s1 HX1.out _ HL1.out.1 HG2.out.vs).mono ?_;rw [HPX.out];rintro e w3 ⟨(⟨p,rfl,rfl⟩ | ⟨rfl,rfl⟩),hb3⟩;rotate_left
  ·have HF3:Hid (Fr r v W w3):=(HS2.out.bel hb3).fr;have HR2:Hid (res=none):=by show _=_;rw [HR.out];cases y<;>rfl
   clear hb3;go_wp2_with fail
   exact⟨rfl,Or.inr ⟨HR2.out,rfl,HF3.out⟩⟩
  have HS3:Hid (SI W0 Z W v r A cap ps B w3 (k+1) v out):=HS2.out.bel hb3;have HRW:Hid (r<w3.heap.size):=HS3.out.st.ri.lt;clear hb3;obtain⟨p1,p2,p3,p4⟩:=p;simp only at HR ⊢;go_wp2_with fail
  have HS4:Hid (SI W0 Z W v r A cap ps B (w3.alloc (.cells #[.int .i64 p1,.int .i64 p2,.bool p3,.bool p4] 74)) (k+1) v out):=HS3.out.bel (by go_grown);have d0:(w3.alloc (.cells #[.int .i64 p1,.int .i64 p2,.bool p3,.bool p4] 74)).cell? ⟨w3.heap.size,0,none⟩=some (.int .i64 p1):=by simp
  have d1:(w3.alloc (.cells #[.int .i64 p1,.int .i64 p2,.bool p3,.bool p4] 74)).cell? ⟨w3.heap.size,1,none⟩=some (.int .i64 p2):=by simp
  have d2:(w3.alloc (.cells #[.int .i64 p1,.int .i64 p2,.bool p3,.bool p4] 74)).cell? ⟨w3.heap.size,2,none⟩=some (.bool p3):=by simp
  have d3:(w3.alloc (.cells #[.int .i64 p1,.int .i64 p2,.bool p3,.bool p4] 74)).cell? ⟨w3.heap.size,3,none⟩=some (.bool p4):=by simp
  have hne:some w3.heap.size≠some r:=fun e=>by have:=HRW.out;cases e;omega
  have HL3:Hid (w3.heap.size<(w3.alloc (.cells #[.int .i64 p1,.int .i64 p2,.bool p3,.bool p4] 74)).heap.size):=by show _<_;simp
  refine(Di 58 r A cap ps (k+1) v _ HS4.out.st.ri HS4.out.st.pcr).mono ?_;rintro e w5 (⟨h9,⟨z,rfl⟩,n5,rfl⟩ | ⟨h9,rfl,hg5⟩);rotate_left
  ·exact absurd HP58.out h9
  generalize hw5:((w3.alloc (.cells #[.int .i64 p1,.int .i64 p2,.bool p3,.bool p4] 74)).drewN n5).setCell ⟨r,1,none⟩ (.int .i64 (((k+1:Nat):Int)+1))=w5
  have hg5:(w3.alloc (.cells #[.int .i64 p1,.int .i64 p2,.bool p3,.bool p4] 74)).grownBy w5 (some r):=by rw [←hw5];exact Qm (Qq _ _ n5) (QQ _ _ _ _)
  have HS5:Hid (SI W0 Z W v r A cap ps B w5 (k+2) v out):=HS4.out.gb (by rw [←hw5];exact(HS4.out.draws n5).st.ri.at1 (k+2) HK1.out _ (by omega)) hg5;have d0:=hg5.cell d0 hne;have d1:=hg5.cell d1 hne;have d2:=hg5.cell d2 hne;have d3:=hg5.cell d3 hne;clear hg5 hw5 h9 HL3 HS4;go_wp2_with fail
  refine(Ee r A cap ps (k+2) v _ HS5.out.st.ri HS5.out.st.pcr).mono ?_;rintro e w6 (⟨hn,rfl,n6,rfl⟩ | ⟨hn,rfl,n6,rfl⟩)
  ·have HF6:Hid (Fr r v W (w5.drewN n6)):=(HS5.out.draws n6).fr
   have HR2:Hid (res=none):=by
    show _=_;have h9:y=none:=by rw [←HPY.out,hn];exact JH
    rw [HR.out,h9];rfl
   clear hn d0 d1 d2 d3;go_wp2_with fail
   exact⟨rfl,Or.inr ⟨HR2.out,rfl,HF6.out⟩⟩
  have HK2:Hid (k+2<ps.length):=Zj hn;generalize hw6:(w5.drewN n6).setCell ⟨r,1,none⟩ (.int .i64 (((k+2:Nat):Int)+1))=w6
  have hg6:w5.grownBy w6 (some r):=by rw [←hw6];exact Qm (Qq _ _ n6) (QQ _ _ _ _)
  have HS6:Hid (SI W0 Z W v r A cap ps B w6 (k+3) v out):=HS5.out.gb (by rw [←hw6];exact(HS5.out.draws n6).st.ri.at1 (k+3) HK2.out _ (by omega)) hg6;have HG6:Hid (GI w6):=HS6.out.st.gir;have d0:=hg6.cell d0 hne;have d1:=hg6.cell d1 hne;have d2:=hg6.cell d2 hne;have d3:=hg6.cell d3 hne;have HNX3:Hid (nx (T (k+2))=T (k+3)):=HT.out.tn (k+2) HK2.out
  clear hg6 hw6 hn HS5;obtain⟨s2,HX2⟩: ∃s,Hid (bs (Zl ps (k+2))=s):=⟨_,rfl⟩;rw [HX2.out];go_wp2_with fail
  refine(Jl (Zl ps (k+2)) s2 HX2.out _ HL1.out.2 HG6.out.vs).mono ?_;rw [HPY.out];rintro e w7 ⟨(⟨q,rfl,rfl⟩ | ⟨rfl,rfl⟩),hb7⟩;rotate_left
  ·have HF7:Hid (Fr r v W w7):=(HS6.out.bel hb7).fr;have HR2:Hid (res=none):=by show _=_;rw [HR.out];rfl
   clear hb7 d0 d1 d2 d3;go_wp2_with fail
   exact⟨rfl,Or.inr ⟨HR2.out,rfl,HF7.out⟩⟩
  have HS7:Hid (SI W0 Z W v r A cap ps B w7 (k+3) v out):=HS6.out.bel hb7;have l7:w3.heap.size<w6.heap.size:=World.block_lt_of_cell? w6 ⟨w3.heap.size,0,none⟩ d0;have d0:=(hb7.cell (p:=⟨w3.heap.size,0,none⟩) l7).trans d0;have d1:=(hb7.cell (p:=⟨w3.heap.size,1,none⟩) l7).trans d1;have d2:=(hb7.cell (p:=⟨w3.heap.size,2,none⟩) l7).trans d2;have d3:=(hb7.cell (p:=⟨w3.heap.size,3,none⟩) l7).trans d3;have l8:w3.heap.size<w7.heap.size:=World.block_lt_of_cell? w7 ⟨w3.heap.size,0,none⟩ d0
  obtain⟨q1,q2,q3,q4⟩:=q;have HR2:Hid (res=some ((out.length:Int),sb (T (k+3)),out++ [RF.are (p1,p2,p3,p4) (q1,q2,q3,q4)])):=by show _=_;rw [HR.out,HNX3.out];rfl
  clear hb7 l7;simp only;go_wp2_with fail
  refine(Hd (RF.are (p1,p2,p3,p4) (q1,q2,q3,q4)) none 0 (HS7.out.bel (by go_grown)).nil (Yc _ _) (fun _ h=>by cases h) (smA _ _) HO.out).mono ?_;rintro e w8 ⟨rfl,v8,hs8⟩;have HS8:Hid (SI W0 Z W v r A cap ps B w8 (k+3) v8 (out++ [RF.are (p1,p2,p3,p4) (q1,q2,q3,q4)])):=hs8;clear hs8 d0 d1 d2 d3;go_wp2_with fail
  go_ret;exact Or.inl ⟨_,k+3,v8,_,HR2.out,rfl,HS8.out,by omega,by rw [List.length_append];simp only [List.length_cons,List.length_nil];omega⟩
 ·have hb:(s.toList== [58])=false:=ZQ (by rw [←HX.out];intro e;exact h58 (by have:=congrArg (fun z:ByteArray=>z.data.toList) e;exact this));have HR:Hid (res=PB RF 1 1 0 [] (T k) out):=by show _=_;rw [←HRES.out,PB6 HLN.out,if_neg (fun e=>h58 (HCC.out.1 e))]
  clear h58;go_wp2_with fail
  refine(HF.out w1 k v out 1 HS1.out.st ho (by omega) (by omega) (by omega)).mono ?_;rw [←HR.out];rintro e w3 (⟨x,k3,v3,out3,e3,rfl,hs3,hk3,hl3⟩ | ⟨e3,rfl,hf3⟩)
  ·have HS3:Hid (SI W0 Z W v r A cap ps B w3 k3 v3 out3):=HS1.out.on hs3;have HE3:Hid (res=some (x,sb (T k3),out3)∧k≤k3∧out3.length+k≤out.length+k3):=⟨e3,hk3,hl3⟩;clear e3 hs3 hk3 hl3;go_wp2_with fail
   go_ret;exact Or.inl ⟨x,k3,v3,out3,HE3.out.1,rfl,HS3.out,HE3.out.2.1,HE3.out.2.2⟩
  ·have HE3:Hid (res=none):=e3;have HF3:Hid (Fr r v W w3):=HS1.out.fr.trans HS1.out.nb hf3;clear e3 hf3;go_wp2_with fail
   exact⟨rfl,Or.inr ⟨HE3.out,rfl,HF3.out⟩⟩
end
section
variable {W0:World} {Z:Nat→Prop} {r:Nat} {A:Option Addr} {cap:Nat} {ps:List (List UInt8)} {T:Nat→List UInt8} {B:Nat}
theorem Qof {W:World} {v:Value} (fn:Int) (ks:List Int) (n:Nat) (hn:ks.length=n) (KB:Option Addr) (kb:Nat) {wr:World} {v1:Value} {k:Nat} {out:List FN} (h:SI W0 (ZK Z (.slice KB n kb)) W v r A cap ps B wr k v1 out)
  (hkk:wr.ownsRow B 2 1 (.slice KB n kb) n (ks.map (Value.int .i64))) (hkz: ∀b,(Value.slice KB n kb).ownBlock=some b→ ¬Z b) (hl:out.length≤30000) (hk2:n≤2000):
  Calls Tryz.prog 307 #[.pointer (some ⟨r,0,none⟩),.agg #[.int .i64 6,.int .i64 fn,.int .i64 0,.int .i64 0,.string ⟨#[]⟩,.int .i64 0,.int .i64 0,.bool false,.bool false,.int .i64 0,.int .i64 0,.bool false,.bool false,.slice KB n kb]] wr fun e w'=>e= .returned (.int .i64 out.length)∧ ∃v',SI W0 Z W v r A cap ps B w' k v' (out++ [RF.cal fn ks]):=by
 subst hn;exact Hd (RF.cal fn ks) KB kb h hkk hkz ⟨Nat.zero_le _,hk2⟩ hl
def Qe3 (W0:World) (Z:Nat→Prop) (r:Nat) (A:Option Addr) (cap:Nat) (ps:List (List UInt8)) (T:Nat→List UInt8) (B:Nat) (W:World) (v:Value) (k:Nat) (out:List FN) (fn:Int) (res:Option (Int × List UInt8 × List FN)) (g n cp:Nat) (ks:List Int) (wr:World) (k1:Nat) (v1:Value) (out1:List FN):Prop:=
 SI W0 (ZK Z (.slice (some ⟨g,0,none⟩) n cp)) W v r A cap ps B wr k1 v1 out1∧wr.ownsRow W.heap.size 2 1 (.slice (some ⟨g,0,none⟩) n cp) n (ks.map (Value.int .i64))∧ks.length=n∧k+n≤k1∧out1.length+k≤out.length+k1∧res=PB RF 5 fn 0 ks (T k1) out1
theorem SI.own {W:World} {v:Value} {w1 w3:World} {v1:Value} {k:Nat} {out:List FN} {kv:Value} {n gg n' cap':Nat} {xs:List Value} (h:SI W0 (ZK Z kv) W v r A cap ps B w1 k v1 out) (hk:w1.ownsRow W.heap.size 2 1 kv n xs) (hr:r<W.heap.size) (hg:w1.grownBy w3 kv.ownBlock) (hat:kv.ownBlock=some gg∨gg=w1.heap.size) (hlt:gg<w3.heap.size):
  SI W0 (ZK Z (.slice (some ⟨gg,0,none⟩) n' cap')) W v r A cap ps B w3 k v1 out:=⟨RdI.kids h.st hk hr hg hat hlt,h.nb,Fr.own h.fr hk hg⟩
theorem Qiu {m:Nat} (hm:m≤20000) (hA: ∀Z',Qi5 W0 Z' r A cap ps T B m) (hT:Txt ps T):Qrz W0 Z r A cap ps T B (m+1):=by
 intro W k v out fn h ho hk;have HS:Hid (SI W0 Z W v r A cap ps B W k v out):=SI.start h;have HA:Hid (∀Z',Qi5 W0 Z' r A cap ps T B m):=hA;have HT:Hid (Txt ps T):=hT;have HFW:Hid (ps.length≤1000):=hT.few;have HKL:Hid (k≤ps.length):=h.ri.1;have HLN:Hid ((T k).length≤1000):=hT.len k
 have HRB:Hid (r<B∧B≤W.heap.size):=⟨h.rb,h.bw⟩;have HZL:Hid (∀b,Z b→b<W.heap.size):=h.zl;obtain⟨res,HRES⟩: ∃res,Hid ((if pk (T k)= [40]then Zv (PB RF 6 0 0 [] (nx (T k)) out) (fun a l1 o1=>PB RF 5 fn 0 [a] l1 o1)else none)=res):=⟨_,rfl⟩;rw [HRES.out];have HPK:Hid (pk (T k)=Zl ps k):=hT.pkk h;clear h hA hT;go_enter Tryz.func328,Tryz.ntmps328
 go_wp2_with fail
 refine(GE 40 HS.out).mono ?_;rintro e w1 (⟨h9,⟨z,rfl⟩,hs1⟩ | ⟨h9,rfl,hf1⟩);rotate_left
 ·have HR:Hid (res=none):=by show _=_;rw [←HRES.out,if_neg (by rw [HPK.out];exact h9)]
  have HF1:Hid (Fr r v W w1):=hf1;clear h9 hf1;go_wp2_with fail
  exact⟨rfl,Or.inr ⟨HR.out,rfl,HF1.out⟩⟩
 have HS1:Hid (SI W0 Z W v r A cap ps B w1 (k+1) v out):=hs1;have HKP:Hid (k<ps.length):=Zj (by rw [h9];simp);have HNX:Hid (nx (T k)=T (k+1)):=HT.out.tn k HKP.out;have HR1:Hid (res=Zv (PB RF 6 0 0 [] (T (k+1)) out) (fun a l1 o1=>PB RF 5 fn 0 [a] l1 o1)):=by show _=_;rw [←HRES.out,if_pos (by rw [HPK.out];exact h9),HNX.out]
 clear h9 hs1 HS;go_wp2_with fail
 refine(HA.out Z w1 (k+1) v out HS1.out.st (by omega) (by have:=HKP.out;omega)).mono ?_;rintro e w2 (⟨x,k2,v2,out2,e2,rfl,hs2,hk2,hl2⟩ | ⟨e2,rfl,hf2⟩);rotate_left
 ·have HR:Hid (res=none):=by show _=_;rw [HR1.out,e2];rfl
  have HF2:Hid (Fr r v W w2):=HS1.out.fr.trans HS1.out.nb hf2;clear e2 hf2;go_wp2_with fail
  exact⟨rfl,Or.inr ⟨HR.out,rfl,HF2.out⟩⟩
 have HS2:Hid (SI W0 Z W v r A cap ps B w2 k2 v2 out2):=HS1.out.on hs2
 have HR2:Hid (res=PB RF 5 fn 0 [x] (T k2) out2):=by
  show _=_;rw [HR1.out,e2];exact Kz (Ze _)
 have HKK:Hid (k+1≤k2∧out2.length+(k+1)≤out.length+k2):=⟨hk2,hl2⟩;have HWS:Hid (W.heap.size≤w2.heap.size):=HS2.out.fr.2.2.2.1
 have HI:Hid (Qe3 W0 Z r A cap ps T B W v k out fn res w2.heap.size 1 1 [x] (w2.alloc (.cells #[.int .i64 x] 2)) k2 v2 out2):=by
  refine⟨⟨RdI.new HS2.out.st (by go_grown) (Nat.le_refl _) (by simp),HS2.out.nb,HS2.out.fr.trans HS2.out.nb (Fr.bel (by go_grown))⟩,Nj w2 _ x HWS.out,rfl,hk2,by omega,HR2.out⟩
 clear e2 hs2 hk2 hl2;go_wp2_with fail
 go_loopw [5] (fun a wr=> ∃g n cp ks k1 v1 out1,a= .slice (some ⟨g,0,none⟩) n cp∧Qe3 W0 Z r A cap ps T B W v k out fn res g n cp ks wr k1 v1 out1) (fun _ wr=>ps.length-atI wr r)
 case atStart=>exact⟨_,_,_,_,_,_,_,rfl,HI.out⟩
 case round=>
  clear HI;obtain⟨g,n,cp,ks,k1,v1,out1,rfl,hi⟩:=hrel;have HI:Hid (Qe3 W0 Z r A cap ps T B W v k out fn res g n cp ks wr k1 v1 out1):=hi;have HMS:Hid (atI wr r=k1):=Qae hi.1.st.ri;have HK1:Hid (k1≤ps.length):=hi.1.st.ri.1;obtain⟨l,HL⟩: ∃l,Hid (Zl ps k1=l):=⟨_,rfl⟩;have HPK1:Hid (pk (T k1)=l):=by show _=_;rw [HT.out.pkk hi.1.st,HL.out]
  have HP5:Hid (res=if l= [44]then Zv (PB RF 6 0 0 [] (nx (T k1)) out1) (fun k l1 o1=>PB RF 5 fn 0 (ks++ [k]) l1 o1)else if l= [41]then some ((out1.length:Int),sb (nx (T k1)),out1++ [RF.cal fn ks])else none):=by
   show _=_;rw [←HPK1.out,hi.2.2.2.2.2];exact PB5 (HT.out.len k1)
  obtain⟨s,HX⟩: ∃s,Hid (bs l=s):=⟨_,rfl⟩;have HNN:Hid (n≤1000∧out1.length≤1000):=⟨by have a1:=hi.2.2.2.1;have a2:=HK1.out;have a3:=HFW.out;omega,by have a1:=hi.2.2.2.2.1;have a2:=HK1.out;have a3:=HFW.out;omega⟩;clear hi;go_wp2_with fail
  refine(Va (m:=0) (SI.start HI.out.1.st) (by omega)).mono ?_;rintro _ w3 ⟨rfl,hs3⟩;have HS3:Hid (SI W0 (ZK Z (.slice (some ⟨g,0,none⟩) n cp)) W v r A cap ps B w3 k1 v1 out1):=HI.out.1.on hs3
  have HOW3:Hid (w3.ownsRow W.heap.size 2 1 (.slice (some ⟨g,0,none⟩) n cp) n (ks.map (Value.int .i64))):=by
   obtain⟨ys,hoy,_,_⟩:=HI.out.1.st.own;exact NW HI.out.2.1 (Nat.lt_of_lt_of_le HRB.out.1 HRB.out.2) hoy hs3.fr
  clear hs3;rw [Nat.add_zero,HL.out,HX.out];by_cases h44:l= [44]
  ·have hb:(s.toList== [44])=true:=Uz (by rw [←HX.out,h44];rfl);have HPC:Hid (Zl ps k1≠ []):=by show _≠_;rw [HL.out,h44];simp
   have HNX1:Hid (nx (T k1)=T (k1+1)):=HT.out.tn k1 (Zj HPC.out);have HR3:Hid (res=Zv (PB RF 6 0 0 [] (T (k1+1)) out1) (fun k l1 o1=>PB RF 5 fn 0 (ks++ [k]) l1 o1)):=by show _=_;rw [HP5.out,if_pos h44,HNX1.out]
   clear h44;go_wp2_with fail
   refine(Gg (SI.start HS3.out.st)).mono ?_;rintro e w4 (⟨hn,rfl,hfr⟩ | ⟨hn,rfl,hs4⟩)
   ·exact absurd hn HPC.out
   have HS4:Hid (SI W0 (ZK Z (.slice (some ⟨g,0,none⟩) n cp)) W v r A cap ps B w4 (k1+1) v1 out1):=HS3.out.on hs4
   have HOW4:Hid (w4.ownsRow W.heap.size 2 1 (.slice (some ⟨g,0,none⟩) n cp) n (ks.map (Value.int .i64))):=by
    obtain⟨ys,hoy,_⟩:=HS3.out.st.own;exact NW HOW3.out (Nat.lt_of_lt_of_le HRB.out.1 HRB.out.2) hoy hs4.fr
   clear hs4 hn HS3 HOW3;go_wp2_with fail
   refine(HA.out (ZK Z (.slice (some ⟨g,0,none⟩) n cp)) w4 (k1+1) v1 out1 HS4.out.st (by have a1:=HI.out.2.2.2.2.1;have a2:=HI.out.2.2.2.1;omega) (by have a1:=Zj HPC.out;have a2:=HI.out.2.2.2.1;omega)).mono ?_;rintro e w5 (⟨x,k5,v5,out5,e5,rfl,hs5,hk5,hl5⟩ | ⟨e5,rfl,hf5⟩);rotate_left
   ·have HR:Hid (res=none):=by show _=_;rw [HR3.out,e5];rfl
    have HF5:Hid (Fr r v W w5):=HS4.out.fr.trans HS4.out.nb hf5;clear e5 hf5;go_wp2_with fail
    exact⟨rfl,Or.inr ⟨HR.out,rfl,HF5.out⟩⟩
   have HS5:Hid (SI W0 (ZK Z (.slice (some ⟨g,0,none⟩) n cp)) W v r A cap ps B w5 k5 v5 out5):=HS4.out.on hs5
   have HOW5:Hid (w5.ownsRow W.heap.size 2 1 (.slice (some ⟨g,0,none⟩) n cp) n (ks.map (Value.int .i64))):=by
    obtain⟨ys,hoy,_⟩:=HS4.out.st.own;exact NW HOW4.out (Nat.lt_of_lt_of_le HRB.out.1 HRB.out.2) hoy hs5.fr
   have HR5:Hid (res=PB RF 5 fn 0 (ks++ [x]) (T k5) out5):=by
    show _=_;rw [HR3.out,e5];exact Kz (Ze _)
   have HK5:Hid (k1+1≤k5∧out5.length+(k1+1)≤out1.length+k5):=⟨hk5,hl5⟩;have HWS5:Hid (W.heap.size≤w5.heap.size):=HS5.out.fr.2.2.2.1;have HNB:Hid (n≤30000):=by show _≤_;have:=HNN.out.1;omega
   clear e5 hs5 hk5 hl5;go_wp2_with (at_builtin;refine Qg0 _ rfl _ _ rfl (.slice (some ⟨g,0,none⟩) n cp) rfl W.heap.size ?hb n (ks.map (Value.int .i64)) ?hw x w5.heap.size rfl ?hc HNB.out ?_)
   case hb=>have:=HWS5.out;simp;omega
   case hw=>exact HOW5.out.alloc _
   case hc=>exact heap_alloc_new _ _
   intro gg gcap w6 hown6 hgrow hat hlt6
   have HOW6:Hid (w6.ownsRow W.heap.size 2 1 (.slice (some ⟨gg,0,none⟩) (n+1) gcap) (n+1) ((ks++ [x]).map (Value.int .i64))):=by
    show World.ownsRow _ _ _ _ _ _ _;rw [List.map_append];exact hown6
   have HS6:Hid (SI W0 (ZK Z (.slice (some ⟨gg,0,none⟩) (n+1) gcap)) W v r A cap ps B w6 k5 v5 out5):=
    SI.own (HS5.out.bel (by go_grown)) (HOW5.out.alloc (.cells #[.int .i64 x] 2)) (Nat.lt_of_lt_of_le HRB.out.1 HRB.out.2) hgrow (by simpa using hat) hlt6
   clear hown6 hgrow hat hlt6;go_wp2_with fail
   refine⟨⟨gg,n+1,gcap,ks++ [x],k5,v5,out5,rfl,HS6.out,HOW6.out,?_,?_,?_,HR5.out⟩,?_⟩
   ·rw [List.length_append,HI.out.2.2.1];rfl
   ·have a1:=HI.out.2.2.2.1;have a2:=HK5.out.1;omega
   ·have a1:=HI.out.2.2.2.2.1;have a2:=HK5.out.2;omega
   ·rw [Qae HS6.out.st.ri,HMS.out];have a1:=HK5.out.1;have a2:=HS6.out.st.ri.1;omega
  ·have hb:(s.toList== [44])=false:=ZQ (by rw [←HX.out];intro e;exact h44 (by have:=congrArg (fun z:ByteArray=>z.data.toList) e;exact this));have HR3:Hid (res=if l= [41]then some ((out1.length:Int),sb (nx (T k1)),out1++ [RF.cal fn ks])else none):=by show _=_;rw [HP5.out,if_neg h44]
   clear h44;go_wp2_with fail
   refine(GE 41 (SI.start HS3.out.st)).mono ?_;rintro e w4 (⟨h9,⟨y,rfl⟩,hs4⟩ | ⟨h9,rfl,hf4⟩)
   ·have HNX1:Hid (nx (T k1)=T (k1+1)):=HT.out.tn k1 (Zj (by rw [h9];simp));have HR:Hid (res=some ((out1.length:Int),sb (T (k1+1)),out1++ [RF.cal fn ks])):=by show _=_;rw [HR3.out,if_pos (by rw [←HL.out];exact h9),HNX1.out]
    have HS4:Hid (SI W0 (ZK Z (.slice (some ⟨g,0,none⟩) n cp)) W v r A cap ps B w4 (k1+1) v1 out1):=HS3.out.on hs4
    have HOW4:Hid (w4.ownsRow W.heap.size 2 1 (.slice (some ⟨g,0,none⟩) n cp) n (ks.map (Value.int .i64))):=by
     obtain⟨ys,hoy,_⟩:=HS3.out.st.own;exact NW HOW3.out (Nat.lt_of_lt_of_le HRB.out.1 HRB.out.2) hoy hs4.fr
    have HOB:Hid (∀b,(Value.slice (some ⟨g,0,none⟩) n cp).ownBlock=some b→ ¬Z b):=fun b hb hz=>by
     have h2:=(HOW4.out.lt b hb).1;have h3:=HZL.out b hz;omega
    clear h9 hs4;go_wp2_with fail
    refine(Qof fn ks n HI.out.2.2.1 (some ⟨g,0,none⟩) cp HS4.out (Yv HOW4.out HRB.out.2) HOB.out (by have:=HNN.out.2;omega) (by have:=HNN.out.1;omega)).mono ?_;rintro e w5 ⟨rfl,v5,hs5⟩;have HS5:Hid (SI W0 Z W v r A cap ps B w5 (k1+1) v5 (out1++ [RF.cal fn ks])):=hs5;clear hs5;go_wp2_with fail
    go_ret;exact Or.inl ⟨_,k1+1,v5,_,HR.out,rfl,HS5.out,by have:=HI.out.2.2.2.1;omega,by rw [List.length_append];have:=HI.out.2.2.2.2.1;simp only [List.length_cons,List.length_nil];omega⟩
   ·have HR:Hid (res=none):=by show _=_;rw [HR3.out,if_neg (by rw [←HL.out];exact h9)]
    have HF4:Hid (Fr r v W w4):=HS3.out.fr.trans HS3.out.nb hf4;clear h9 hf4;go_wp2_with fail
    exact⟨rfl,Or.inr ⟨HR.out,rfl,HF4.out⟩⟩
end
structure AllI (W0:World) (r:Nat) (A:Option Addr) (cap:Nat) (ps:List (List UInt8)) (T:Nat→List UInt8) (B m:Nat):Prop where
 form: ∀Z,Nd W0 Z r A cap ps T B m
 neg: ∀Z,Qnn W0 Z r A cap ps T B m
 sin: ∀Z,Qrt W0 Z r A cap ps T B m
 call: ∀Z,Qrz W0 Z r A cap ps T B m
 arg: ∀Z,Qi5 W0 Z r A cap ps T B m
theorem Qg2 (W0:World) (r:Nat) (A:Option Addr) (cap:Nat) (ps:List (List UInt8)) (T:Nat→List UInt8) (B:Nat) (hT:Txt ps T): ∀m,m≤20001→ ∀m',m'≤m→AllI W0 r A cap ps T B m'
 | 0,_,m',h=>by
  obtain rfl:m'=0:=by omega
  exact⟨fun Z W k v out lv _ _ h1 h5 hk=>by omega,fun Z W k v out _ _ hk=>by omega,fun Z W k v out _ _ hk=>by omega,fun Z W k v out fn _ _ hk=>by omega,fun Z W k v out _ _ hk=>by omega⟩
 | m+1,hm,m',h=>by
  have ih:=Qg2 W0 r A cap ps T B hT m (by omega);by_cases hq:m'≤m
  ·exact ih m' hq
  obtain rfl:m'=m+1:=by omega
  have im:=ih m (Nat.le_refl _);refine⟨fun Z=> ?_,fun Z=>Qps (by omega) (im.neg Z) (im.sin Z) hT,fun Z=>Qoe (by omega) (im.form Z) (im.call Z) hT,fun Z=>Qiu (by omega) im.arg hT,fun Z=>Ql4 (by omega) (im.form Z) hT⟩;intro W k v out lv h ho h1 h5 hk;by_cases h5':lv=5
  ·subst h5';exact Qij (im.neg Z) hT W k v out h ho (by omega)
  ·exact Qld (by omega) (fun m' hm'=>(ih m' hm').form Z) hT W k v out lv h ho h1 (by omega) hk
theorem Qle (W0:World) (r:Nat) (A:Option Addr) (cap:Nat) (ps:List (List UInt8)) (T:Nat→List UInt8) (B:Nat) (hT:Txt ps T) (Z:Nat→Prop):Nd W0 Z r A cap ps T B 20000:=(Qg2 W0 r A cap ps T B hT 20000 (by omega) 20000 (Nat.le_refl _)).form Z
end Go.Proofs.YtbdhinckiccniaaGreatDoor
