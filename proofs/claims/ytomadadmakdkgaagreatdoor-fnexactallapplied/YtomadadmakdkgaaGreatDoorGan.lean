import Derived.Test.YtomadadmakdkgaaGreatDoorGam
open Go.Proofs.Tryz
open Go.Value renaming slice → A, int → D, bool → Y, string → jb, agg → jc
open Go.IntKind renaming i64 → E
open List renaming length_append → G, length_cons → I, length_nil → L
open Go renaming World → H, heap_alloc_new → T
open Nat renaming lt_of_lt_of_le → J, le_succ_of_le → N, lt_succ_of_le → O, le_refl → S, zero_le → V
open Or renaming inr → K, inl → R
open List.cons renaming inj → M
open Bool renaming false_eq_true → U
open Go.Obj renaming cells → X
open Go.Ending renaming returned → ja
set_option linter.unusedSimpArgs false
set_option linter.unusedVariables false
set_option maxHeartbeats 8000000
set_option maxRecDepth 100000
namespace Go.Proofs.YtomadadmakdkgaaGreatDoor
open Go.RowKit
variable {Z:Nat->Prop} {W:H} {r k B n m:Nat} {s:ByteArray} {bad:Bool} {v:Value} {out o:List FN} {x:Int} {l t:List UInt8} {c:UInt8}
def ZK(Z:Nat->Prop)(kv:Value)(b:Nat):Prop:=Z b\/kv.ownBlock=some b
theorem RdS.weak{Z':Nat->Prop}(h:RdS Z' W r s k bad v B out)(hz: ∀b,Z b->Z' b):RdS Z W r s k bad v B out:=by
 obtain⟨ys,ho,hp,h0⟩:=h.own;exact⟨h.rs,h.rb,h.bw,fun b hb=>h.zl b (hz b hb),ys,ho,hp,fun i hi b hb hzb=>h0 i hi b hb (hz b hzb)⟩
theorem OM{W:H}{B:Nat}{ys:List Value}{F:Nat->FN}{i:Nat}{KA:Option Addr}{kc:Nat}(h1: ∀j,j<14->ys[i*14+j]? =(Qx (F i) KA kc)[j]?):kbR ys i=(Value.slice KA (F i).kids.length kc).ownBlock:=by
 unfold kbR;rw[h1 13 (by omega)];rfl
theorem Qbb{ys:List Value}{F:Nat->FN}{i b:Nat}(hp:FnPart W B ys F n)(hi:i<n)(hb:kbR ys i=some b):b<W.heap.size:=by
 obtain⟨KA,kc,h1,h2⟩:=hp i hi;rw[OM (W:=W) (B:=B) h1]at hb;exact(h2.lt b hb).2
theorem RdS.new{W':H}{g cap:Nat}(h:RdS Z W r s k bad v B out)(hb:Below W.heap.size W W')(hg:W.heap.size<=g)(hl:g<W'.heap.size):RdS (ZK Z (A (some ⟨g,0,none⟩) n cap)) W' r s k bad v B out:=by
 obtain⟨ys,ho,hp,h0⟩:=h.own;have h':=h.bel hb;refine⟨h'.rs,h'.rb,h'.bw,fun b hb=> ?_,ys,Qd ho hb,hp.below hb,fun i hi b hb2 hzb=> ?_⟩
 ·rcases hb with hb | hb
  ·exact h'.zl b hb
  ·cases hb;exact hl
 ·rcases hzb with hz | hz
  ·exact h0 i hi b hb2 hz
  ·cases hz
   have:g<W.heap.size:=Qbb hp hi hb2;omega
theorem RdS.kids{w3:H}{C gg n' cap':Nat}{kv:Value}{xs:List Value}(h:RdS (ZK Z kv) W r s k bad v B out)(hk:W.ownsRow C 2 1 kv n xs)(hC:r<C)(hg:W.grownBy w3 kv.ownBlock)(hat:kv.ownBlock=some gg\/gg=W.heap.size)(hlt:gg<w3.heap.size):
  RdS (ZK Z (A (some ⟨gg,0,none⟩) n' cap')) w3 r s k bad v B out:=by
 obtain⟨ys,ho,hp,h6⟩:=h.own;have h7:=h.rs.lt;have h8:kv.ownBlock≠some r:=fun e=>by have:=(hk.lt r e).1;omega
 have h5:w3.heap[r]? =W.heap[r]?:=hg.block r h7 (fun e=>h8 e.symm);have h3: ∀o,w3.cell? ⟨r,o,none⟩=W.cell? ⟨r,o,none⟩:=fun o=>by unfold World.cell?;simp only[h5]
 have h4: ∀o,w3.frozen? ⟨r,o,none⟩=W.frozen? ⟨r,o,none⟩:=fun o=>by unfold World.frozen?;simp only[h5]
 obtain⟨h0,⟨c0,c1,c2,c3⟩,f1,f2,f3⟩:=h.rs;refine⟨⟨h0,⟨(h3 _).trans c0,(h3 _).trans c1,(h3 _).trans c2,(h3 _).trans c3⟩,(h4 _).trans f1,(h4 _).trans f2,(h4 _).trans f3⟩,h.rb,Nat.le_trans h.bw hg.size,fun b hb=> ?_,ys,?_,?_,fun i hi b hb hzb=> ?_⟩
 ·rcases hb with hb | hb
  ·exact J (h.zl b (R hb)) hg.size
  ·cases hb;exact hlt
 ·exact ho.kept hg (YX ho hk (by decide))
 ·intro i hi;obtain⟨KA,kc,h1,h2⟩:=hp i hi;refine⟨KA,kc,h1,h2.kept hg ?_⟩;cases hq:(Value.slice KA (ouF out i).kids.length kc).ownBlock with
  | none=>exact R rfl
  | some b=>
   right
   intro e;exact h6 i hi b (by rw[OM (W:=W) (B:=B) h1];exact hq) (K e.symm)
 ·rcases hzb with hz | hz
  ·exact h6 i hi b hb (R hz)
  ·cases hz
   rcases hat with e | e
   ·exact h6 i hi gg hb (K e)
   ·have:gg<W.heap.size:=Qbb hp hi hb;omega
theorem Fr.own{kv:Value}{W1 w3:H}{xs:List Value}(hf:Fr r v W W1)(hk:W1.ownsRow W.heap.size 2 1 kv n xs)(hg:W1.grownBy w3 kv.ownBlock):Fr r v W w3:=by
 obtain⟨a1,a2,a3,a4,a5⟩:=hf;refine⟨hg.os.trans a1,hg.tape.trans a2,hg.output.trans a3,Nat.le_trans a4 hg.size,fun q hq hr hv=> ?_⟩;rw[hg.block q (J hq a4) (fun e=>by have:=(hk.lt q e.symm).1;omega)];exact a5 q hq hr hv
theorem Qhr{ops:Array Oper}{rest:List Oper}{o:Oper}{a:Act}{Q:Exit->Act->H->Prop}(w:H)(hgd:o.guard=none)(s x:Operand)
  (ho:o.op= .call {callee:= .builtin .append,args:= #[s,x],argTypes:= #[161,161]}) (v:Value) (hs:a.eval s=v) (base:Nat) (hb:base<=w.heap.size) (n:Nat) (ys:List Value) (hown:w.ownsRow base 2 1 v n ys)
  (z:Int) (g:Nat) (hx:a.eval x= A (some ⟨g,0,none⟩) 1 1) (hc:w.heap[g]? =some (X #[D E z] 2 (0,0))) (hk:n<=30000)
  (h: ∀gg cap w',w'.ownsRow base 2 1 (A (some ⟨gg,0,none⟩) (n+1) cap) (n+1) (ys++ [D E z])->w.grownBy w' v.ownBlock->(v.ownBlock=some gg\/gg=w.heap.size)->gg<w'.heap.size->wpList prog ops Q rest (a.put o.dst (A (some ⟨gg,0,none⟩) (n+1) cap)) w'):wpList prog ops Q (o::rest) a w:=by
 obtain⟨i0,h3,h2,h1,h0⟩:=info_parts Qah;refine wpList_append_lies w hgd s x 161 ho base 2 i0 _ 1 8 underlying161 h3 h2 h1 h0 rfl (by decide) v n ys hs hown ⟨g,0,none⟩ 1 1 [D E z] hx rfl ?_ ?_ (by decide) ?_ ?_ hb w.heap.size rfl h
 ·exact World.news_of_block hc
 ·intro u hu;simp only[List.mem_cons,List.not_mem_nil,or_false]at hu;rw[hu];rfl
 ·unfold maxLen;omega
 ·omega
theorem Qla(W:H)(C:Nat)(hC:C<=W.heap.size):(W.alloc (X #[] 2)).ownsRow C 2 1 (A (some ⟨W.heap.size,0,none⟩) 0 0) 0 []:=
 ⟨rfl,.inr ⟨W.heap.size,0,_,rfl,hC,T W _,S _,V _,by simp,by simp⟩⟩
theorem Qp2(fn:Int)(ks:List Int)(n:Nat)(hn:ks.length=n)(KB:Option Addr)(kb r:Nat)(s:ByteArray)(k:Nat)(bad:Bool)(v:Value)(B:Nat)(out:List FN)(W:H)(h:RdS Z W r s k bad v B out)
  (hkk:W.ownsRow B 2 1 (A KB n kb) n (ks.map (Value.int .i64))) (hkz: ∀b,(Value.slice KB n kb).ownBlock=some b-> ¬Z b) (hl:out.length<=30000):
  Calls prog 166 #[.pointer (some ⟨r,0,none⟩),jc #[D E 6,D E fn,D E 0,D E 0,jb ⟨#[]⟩,D E 0,D E 0,Y false,Y false,D E 0,D E 0,Y false,Y false,A KB n kb]] W fun e w'=>
   ∃v',e= ja (D E out.length)/\RdS Z w' r s k (bad || !(decide (out.length+1<=60)&&Qp (RF.cal fn ks))) v' B (out++ [RF.cal fn ks])/\NB W v v'/\Fr r v W w':=by
 subst hn;exact VH (RF.cal fn ks) KB kb r s k bad v B out W h hkk hkz (by show(⟨#[]⟩:ByteArray).size<=maxLen;exact V _) hl
def Qtc(Z:Nat->Prop)(r:Nat)(s:ByteArray)(B m:Nat)(W:H)(v:Value)(fn:Int)(res:Option (Int × List UInt8 × List FN))(n0:Nat)(kv:Value)(ks:List Int)(wr:H)(k:Nat)(bad:Bool)(v1:Value)(out:List FN):Prop:=
 St (ZK Z kv) W v r s B wr k bad v1 out/\wr.ownsRow W.heap.size 2 1 kv ks.length (ks.map (Value.int .i64))/\out.length<=61+m/\(bad=false->good out=true/\ks.length+QV s k<=n0/\res=Yg (PB RF 6 0 0 [] (rest s k) out) (fun a l1 o1=>PB RF 5 fn 0 (ks++ [a]) l1 o1))/\(bad=true->Ej res)
theorem St.weak{Z':Nat->Prop}{w1:H}{v1:Value}(h:St Z' W v r s B w1 k bad v1 out)(hz: ∀b,Z b->Z' b):St Z W v r s B w1 k bad v1 out:=⟨h.st.weak hz,h.nb,h.fr⟩
def Qtb(s:ByteArray)(fn:Int)(res:Option (Int × List UInt8 × List FN))(n0 n1:Nat)(ks:List Int)(k:Nat)(bad:Bool)(out:List FN):Prop:=
 (bad=true->Ej res)/\(bad=false->good out=true/\(pk (rest s k)= [41]->res=some ((out.length:Int),sb (nx (rest s k)),out++ [RF.cal fn ks]))/\
  (pk (rest s k)= [44]->ks.length+QV s k<=n0/\QV s k<n1/\res=Yg (PB RF 6 0 0 [] (nx (rest s k)) out) (fun a l1 o1=>PB RF 5 fn 0 (ks++ [a]) l1 o1))/\(pk (rest s k)≠ [41]->pk (rest s k)≠ [44]->res=none))
theorem Qvh{fn:Int}{res:Option (Int × List UInt8 × List FN)}{n0:Nat}{ks:List Int}{k2:Nat}{bad2:Bool}{out2:List FN}(hs:s.size<=1000)(hl:ks.length+QV s k<=n0)(hr:res=Yg (PB RF 6 0 0 [] (rest s k) out) (fun a l1 o1=>PB RF 5 fn 0 (ks++ [a]) l1 o1))
  (ha:YC (PB RF 6 0 0 [] (rest s k) out) bad2 x (rest s k2) out2\/(bad2=false/\pk (rest s k2)= [58]/\PB RF 6 0 0 [] (rest s k) out=none)) (hg:bad2=false->good out2=true):Qtb s fn res n0 (QV s k) (ks++ [x]) k2 bad2 out2:=by
 refine⟨fun hb=> ?_,fun hb=>⟨hg hb,?_⟩⟩
 ·rcases ha with ha | ⟨h1,_⟩
  ·rw[hr];exact JM (ha.2 hb) (fun x l o=>Qbn 5 fn 0 _ l o)
  ·rw[h1]at hb;cases hb
 ·rcases ha with ha | ⟨_,h2,h3⟩
  ·obtain⟨e1,e2⟩:=ha.1 hb
   have e3:res=PB RF 5 fn 0 (ks++ [x]) (rest s k2) out2:=by
    rw[hr,e1];exact JJ (Zj _)
   rw[PB5 (YN s k2 hs).2]at e3;have h9:PB RF 6 0 0 [] (sb (rest s k)) out=some (x,sb (rest s k2),out2):=by rw[<-e1];exact JJ (Zj _)
   have h8:=(DX h9).2 (by omega);refine⟨fun hp=> ?_,fun hp=>⟨?_,h8,?_⟩,fun hp hq=> ?_⟩
   ·rw[e3,nG (by rw[hp];decide),pS hp]
   ·rw[G];unfold QV at*;simp only[I,L];omega
   ·rw[e3,pS hp]
   ·rw[e3,nG hq,nG hp]
  ·have e:res=none:=by rw[hr,h3];rfl
   exact⟨fun hp=>by rw[h2]at hp;exact absurd hp (by decide),fun hp=>by rw[h2]at hp;exact absurd hp (by decide),fun _ _=>e⟩
theorem Qm3(hm:m<=20000)(hA: ∀Z',Qte Z' r s B m)(hs:s.size<=1000):Qe8 Z r s B (m+1):=by
 intro W k v out fn h hg hf1 hf2 hk;have HA:Hid (∀Z',Qte Z' r s B m):=hA;have HG:Hid (good out=true):=hg;have HS:Hid (RdS Z W r s k false v B out):=h;obtain⟨H1,g6⟩: ∃H1,Hid (Yg (PB RF 6 0 0 [] (rest s k) out) (fun a l1 o1=>PB RF 5 fn 0 [a] l1 o1)=H1):=⟨_,rfl⟩;rw[g6.out];obtain⟨n0,G2⟩: ∃n0,Hid (QV s k=n0):=⟨_,rfl⟩
 have X3:Hid (n0<=1000):=by show _<=_;rw[<-G2.out];exact(YN s k hs).1
 have HM:Hid (12*n0+9<=m+1):=by show _<=_;rw[<-G2.out];exact hk
 have H2:Hid (r<B/\B<=W.heap.size):=⟨h.rb,h.bw⟩;have y0:Hid (out.length<=60):=Yn hg;obtain⟨_,⟨c0,c1,c2,c3⟩,f1,f2,f3⟩:=h.rs;clear h hg hA hk;go_enter func206,ntmps206;go_wp2_with fail
 go_loopw [5] (fun kv wr=> ∃ks k1 h8 v1 h3,Qtc Z r s B m W v fn H1 n0 kv ks wr k1 h8 v1 h3) (fun _ wr=>msr s r wr)
 case atStart=>
  refine⟨[],k,false,v,out,?_,Qla W _ (S _),by have:=y0.out;omega,fun _=>⟨HG.out,by rw[G2.out];exact Nat.le_of_eq (Nat.zero_add _),g6.out.symm⟩,fun e=>(by cases e)⟩;exact⟨RdS.new HS.out (by go_grown) (S _) (by simp),NB.refl _ _,Fr.bel (by go_grown)⟩
 case round=>
  obtain⟨ks,k1,h8,v1,h3,hi⟩:=hrel;have HI:Hid (Qtc Z r s B m W v fn H1 n0 u5 ks wr k1 h8 v1 h3):=hi;have x6:Hid (msr s r wr=if h8 then 0 else 1+QV s k1):=Dx hi.1.st;obtain⟨_,⟨c0,c1,c2,c3⟩,f1,f2,f3⟩:=hi.1.st.rs;clear hi;cases h8
  rotate_left
  ·go_wp2_with fail
   go_ret;exact⟨0,k1,true,v1,h3,rfl,HI.out.1.weak (fun b h=>R h),⟨fun e=>(by cases e),fun _=>HI.out.2.2.2.2 rfl⟩,N HI.out.2.2.1⟩
  ·obtain⟨x4,G8,g3⟩:=HI.out.2.2.2.1 rfl;have X0:Hid (good h3=true):=x4;have G4:Hid (ks.length+QV s k1<=n0):=G8;have x5:Hid (H1=Yg (PB RF 6 0 0 [] (rest s k1) h3) (fun a l1 o1=>PB RF 5 fn 0 (ks++ [a]) l1 o1)):=g3;clear x4 G8 g3;go_wp2_with fail
   refine(HA.out (ZK Z u5) wr k1 v1 h3 HI.out.1.st X0.out (by have a1:=G4.out;have a2:=HM.out;omega)).mono ?_;rintro e w2 ⟨x,k2,bad2,v2,out2,rfl,hst2,hag2,hlen2,hgo2⟩;have H7:Hid (St (ZK Z u5) W v r s B w2 k2 bad2 v2 out2):=HI.out.1.step hst2.st hst2.nb hst2.fr
   have H5:Hid (w2.ownsRow W.heap.size 2 1 u5 ks.length (ks.map (Value.int .i64))):=by
    obtain⟨ys,ho,_⟩:=HI.out.1.st.own;exact Dw HI.out.2.1 (J H2.out.1 H2.out.2) ho hst2.fr
   have H6:Hid (Qtb s fn H1 n0 (QV s k1) (ks++ [x]) k2 bad2 out2):=Qvh hs G4.out x5.out hag2 hgo2;have g9:Hid (out2.length<=61+m):=hlen2;have X7:Hid (ks.length<=1000):=by show _<=_;have a1:=G4.out;have a2:=X3.out;omega
   have X1:Hid (W.heap.size<=w2.heap.size):=H7.out.fr.2.2.2.1;obtain⟨n,HN⟩: ∃n,Hid (ks.length=n):=⟨_,rfl⟩;rw[HN.out]at H5;have X4:Hid (n<=30000):=by show _<=_;rw[<-HN.out];have:=X7.out;omega
   clear hst2 hag2 hlen2 hgo2 c0 c1 c2 c3 f1 f2 f3;go_wp2_with (at_builtin;refine Qhr _ rfl _ _ rfl u5 rfl W.heap.size ?hb n (ks.map (Value.int .i64)) ?hw x w2.heap.size rfl ?hc X4.out ?_)
   case hb=>have:=X1.out;simp;omega
   case hw=>exact H5.out.alloc _
   case hc=>exact T _ _
   intro gg gcap w3 hown3 hgrow hat hlt3;obtain⟨h0,G6⟩: ∃h0,Hid (ks++ [x]=h0):=⟨_,rfl⟩;have G3:Hid (h0.length=n+1):=by show _=_;rw[<-G6.out,G,HN.out];rfl
   have h6:Hid (w3.ownsRow W.heap.size 2 1 (A (some ⟨gg,0,none⟩) (n+1) gcap) (n+1) (h0.map (Value.int .i64))):=by
    show World.ownsRow _ _ _ _ _ _ _;rw[<-G6.out,List.map_append];exact hown3
   have H3:Hid (St (ZK Z (A (some ⟨gg,0,none⟩) (n+1) gcap)) W v r s B w3 k2 bad2 v2 out2):=by
    have h1:St (ZK Z u5) W v r s B (w2.alloc (X #[D E x] 2)) k2 bad2 v2 out2:=H7.out.bel (by go_grown);have h2:=H5.out.alloc (X #[D E x] 2);exact⟨RdS.kids h1.st h2 (J H2.out.1 H2.out.2) hgrow (by simpa using hat) hlt3,h1.nb,Fr.own h1.fr h2 hgrow⟩
   rw[G6.out]at H6;clear hown3 hgrow hat hlt3 H7 H5 X0 x5;have H8:Hid (Rs w3 r s k2 bad2 v2):=H3.out.st.rs
   have G1:Hid (∀b,(Value.slice (some ⟨gg,0,none⟩) (n+1) gcap).ownBlock=some b-> ¬Z b):=fun b hb hz=>by
    have h1:=HS.out.zl b hz;have h2:=(h6.out.lt b hb).1;omega
   clear HS HG;by_cases hA:bad2=false/\pk (rest s k2)= [41]
   ·obtain⟨rfl,hp⟩:=hA;obtain⟨h7,x3,_,_⟩:=H6.out.2 rfl;have g1:Hid (good out2=true):=h7;have H9:Hid (H1=some ((out2.length:Int),sb (nx (rest s k2)),out2++ [RF.cal fn h0])):=x3 hp;have g2:Hid (isB false (bs [41]) (rest s k2)=true):=by show _=_;rw[Vz _ 41 (by simp),hp];rfl
    have g8:Hid (isR false (bs [41]) (rest s k2)=nx (rest s k2)):=UJ (by simp) hp;clear h7 x3 hp H6;go_wp2_with fail
    refine(Yq r s (bs [41]) k2 false v2 _ H8.out hs (by decide)).mono ?_;rintro e w4 ⟨rfl,j4,hrj4,hre4,hgb4⟩;rw[g2.out];rw[g8.out]at hre4;have H0:Hid (St (ZK Z (A (some ⟨gg,0,none⟩) (n+1) gcap)) W v r s B w4 j4 false v2 out2):=H3.out.gb hrj4 hgb4;have g7:Hid (rest s j4=nx (rest s k2)):=hre4;have h5:Hid (w4.ownsRow W.heap.size 2 1 (A (some ⟨gg,0,none⟩) (n+1) gcap) (n+1) (h0.map (Value.int .i64))):=h6.out.kept hgb4 (K (fun e=>by have h1:=(h6.out.lt r e).1;have h2:=H2.out;omega))
    clear hrj4 hre4 hgb4;go_wp2_with fail
    refine(Qp2 fn h0 (n+1) G3.out (some ⟨gg,0,none⟩) gcap r s j4 false v2 B out2 _ (H0.out.st.weak (fun b h=>R h)) (QU h5.out H2.out.2) G1.out (by have:=g9.out;omega)).mono ?_;rintro e w5 ⟨v5,rfl,hs5,hnb5,hfr5⟩;have h4:Hid (St Z W v r s B w5 j4 (false || !(decide (out2.length+1<=60)&&Qp (RF.cal fn h0))) v5 (out2++ [RF.cal fn h0])):=(H0.out.weak (fun b h=>R h)).step hs5 hnb5 hfr5;clear hs5 hnb5 hfr5;go_wp2_with fail
    go_ret;refine⟨_,j4,_,v5,_,rfl,h4.out,?_,?_⟩
    ·rw[H9.out,<-g7.out];exact Xz g1.out
    ·rw[G];have:=g9.out;simp only[I,L];omega
   ·have g2:Hid (isB bad2 (bs [41]) (rest s k2)=false):=by
     show _=_;cases bad2
     ·exact(UK (by simp) (fun e=>hA ⟨rfl,e⟩)).1
     ·rfl
    have g8:Hid (isR bad2 (bs [41]) (rest s k2)=sb (rest s k2)):=Ua g2.out;have X5:Hid (¬(bad2=false/\pk (rest s k2)= [41])):=hA;clear hA;go_wp2_with fail
    refine(Yq r s (bs [41]) k2 bad2 v2 _ H8.out hs (by decide)).mono ?_;rintro e w4 ⟨rfl,j4,hrj4,hre4,hgb4⟩;rw[g2.out];rw[g8.out]at hre4;have H0:Hid (St (ZK Z (A (some ⟨gg,0,none⟩) (n+1) gcap)) W v r s B w4 j4 bad2 v2 out2):=H3.out.gb hrj4 hgb4;have g7:Hid (rest s j4=sb (rest s k2)):=hre4;have h5:Hid (w4.ownsRow W.heap.size 2 1 (A (some ⟨gg,0,none⟩) (n+1) gcap) (n+1) (h0.map (Value.int .i64))):=h6.out.kept hgb4 (K (fun e=>by have h1:=(h6.out.lt r e).1;have h2:=H2.out;omega))
    have g5:Hid (Rs w4 r s j4 bad2 v2):=hrj4;clear hrj4 hre4 hgb4 H3 h6 H8;by_cases hB:bad2=false/\pk (rest s k2)= [44]
    ·obtain⟨rfl,hp⟩:=hB;obtain⟨h7,_,x2,_⟩:=H6.out.2 rfl;obtain⟨x1,G9,x0⟩:=x2 hp;have G5:Hid (QV s k2<QV s k1):=G9;have g1:Hid (good out2=true):=h7;have G0:Hid (pk (rest s j4)= [44]):=by show _=_;rw[g7.out,Jd,hp]
     have X2:Hid (nx (rest s j4)=nx (rest s k2)):=VL (by rw[g7.out,Zj]) (by rw[G0.out];simp);have H9:Hid (H1=Yg (PB RF 6 0 0 [] (nx (rest s k2)) out2) (fun a l1 o1=>PB RF 5 fn 0 (h0++ [a]) l1 o1)):=x0;have X8:Hid (h0.length+QV s k2<=n0):=x1;have g0:Hid (isB false (bs [44]) (rest s j4)=true):=by show _=_;rw[Vz _ 44 (by simp),G0.out];rfl
     have G7:Hid (isR false (bs [44]) (rest s j4)=nx (rest s k2)):=by show _=_;rw[UJ (by simp) G0.out,X2.out]
     have X6:Hid ((nx (rest s k2)).length<QV s k2):=Qsu (by rw[hp];simp);clear h7 x2 x1 x0 G9 hp H6 g2 g8;go_wp2_with fail
     refine(Yq r s (bs [44]) j4 false v2 _ g5.out hs (by decide)).mono ?_;rintro e w5 ⟨rfl,j5,hrj5,hre5,hgb5⟩;rw[g0.out];rw[G7.out]at hre5;have h4:Hid (St (ZK Z (A (some ⟨gg,0,none⟩) (n+1) gcap)) W v r s B w5 j5 false v2 out2):=H0.out.gb hrj5 hgb5;have x8:Hid (rest s j5=nx (rest s k2)):=hre5;have H4:Hid (w5.ownsRow W.heap.size 2 1 (A (some ⟨gg,0,none⟩) (n+1) gcap) (n+1) (h0.map (Value.int .i64))):=h5.out.kept hgb5 (K (fun e=>by have h1:=(h5.out.lt r e).1;have h2:=H2.out;omega))
     have x7:Hid (QV s j5<QV s k2):=by
      show(sb (rest s j5)).length<QV s k2;rw[x8.out];exact Nat.lt_of_le_of_lt (Xr _) X6.out
     clear hrj5 hre5 hgb5;go_wp2_with fail
     refine⟨⟨h0,j5,false,v2,out2,h4.out,by rw[G3.out];exact H4.out,g9.out,fun _=>⟨g1.out,by have a1:=x7.out;have a2:=X8.out;omega,by rw[x8.out];exact H9.out⟩,fun e=>(by cases e)⟩,?_⟩;rw[Dx h4.out.st,x6.out];simp only[U,if_false];have a1:=x7.out;have a2:=G5.out;omega
    ·have g0:Hid (isB bad2 (bs [44]) (rest s j4)=false):=by
      show _=_;cases bad2
      ·exact(UK (by simp) (fun e=>hB ⟨rfl,by rw[g7.out,Jd]at e;exact e⟩)).1
      ·rfl
     have HF:Hid (Ej H1):=by
      show Ej H1;cases hb:bad2
      ·have h9:=(H6.out.2 hb).2.2.2 (fun e=>X5.out ⟨hb,e⟩) (fun e=>hB ⟨hb,e⟩);rw[h9];exact Ys
      ·exact H6.out.1 hb
     clear hB H6 g2 g8;go_wp2_with fail
     refine(Yq r s (bs [44]) j4 bad2 v2 _ g5.out hs (by decide)).mono ?_;rintro e w5 ⟨rfl,j5,hrj5,hre5,hgb5⟩;rw[g0.out];have h4:Hid (St (ZK Z (A (some ⟨gg,0,none⟩) (n+1) gcap)) W v r s B w5 j5 bad2 v2 out2):=H0.out.gb hrj5 hgb5;have H4:Hid (w5.ownsRow W.heap.size 2 1 (A (some ⟨gg,0,none⟩) (n+1) gcap) (n+1) (h0.map (Value.int .i64))):=h5.out.kept hgb5 (K (fun e=>by have h1:=(h5.out.lt r e).1;have h2:=H2.out;omega));obtain⟨_,⟨c0,c1,c2,c3⟩,f1,f2,f3⟩:=hrj5;clear hre5 hgb5
     go_wp2_with fail
     have g4:Hid (St (ZK Z (A (some ⟨gg,0,none⟩) (n+1) gcap)) W v r s B (w5.setCell ⟨r,2,none⟩ (Y true)) j5 true v2 out2):=h4.out.mad;refine⟨⟨h0,j5,true,v2,out2,g4.out,?_,g9.out,fun e=>(by cases e),fun _=>HF.out⟩,?_⟩
     ·rw[G3.out];exact H4.out.kept (Ze _ _ _ _) (K (fun e=>by have h1:=(H4.out.lt r e).1;have h2:=H2.out;omega))
     ·rw[Dx g4.out.st,x6.out];simp only[U,if_false,if_true];omega
theorem Qn1(l:List UInt8)(c:UInt8):isB false (bs [c]) l=decide ((sb l).head? =some c):=by
 unfold isB;show(!false&& [c].isPrefixOf (sb l))=_;cases hs:sb l with
 | nil=>simp
 | cons b t=>
  rw[Bool.eq_iff_iff];simp only[Bool.not_false,Bool.true_and,List.isPrefixOf,Bool.and_true,beq_iff_eq,List.head?_cons,Option.some.injEq,decide_eq_true_eq];exact eq_comm
theorem Um(h:(sb l).head?≠some c):isB false (bs [c]) l=false/\isR false (bs [c]) l=sb l:=by
 have e:isB false (bs [c]) l=false:=by rw[Qn1];simp[h]
 exact⟨e,Ua e⟩
theorem Qbe(h:sb l=c::t):isB false (bs [c]) l=true/\isR false (bs [c]) l=t:=by
 have e:isB false (bs [c]) l=true:=by rw[Qn1,h];simp
 refine⟨e,?_⟩;rw[NT e,h];rfl
theorem Qgp(hn:l.length<=1000)(h:sb l=45::t):PB RF 3 0 0 [] l out=Yg (PB RF 3 0 0 [] t out) (fun k l1 o1=>some ((o1.length:Int),sb l1,o1++ [RF.neg k])):=by
 obtain⟨e1,e2⟩:=Dv h (by simp);rw[PB3 hn,pS e1,e2]
theorem Qac(hn:l.length<=1000)(h:sb l=40::t):PB RF 3 0 0 [] l out=Yg (PB RF 1 1 0 [] t out) (fun x l1 o1=>if pk l1= [41]then some (x,sb (nx l1),o1)else none):=by
 obtain⟨e1,e2⟩:=Dv h (by simp);rw[PB3 hn,nG (by rw[e1];decide),Qay e1 hn,e2]
theorem Qgo{q r:List UInt8}(hn:l.length<=1000)(h:sb l=34::t)(hq:ZE t=some (q,r)):PB RF 3 0 0 [] l out=some ((out.length:Int),sb r,out++ [RF.cst 2 0 q]):=by
 obtain⟨e1,e2,e3⟩:=Oz h hq;rw[PB3 hn,nG (by rw[e1];intro e;cases e),Qax (by rw[e1];rfl) e3,e2]
theorem EZ(h:tok l=none):pk l= []:=by unfold pk;rw[h]
theorem NP(hn:l.length<=1000)(h:pk l= []):PB RF 3 0 0 [] l out=none:=by
 rw[PB3 hn,nG (by rw[h];simp),Qaz h]
theorem Qmq: ∀k:Fin 5,erL (k.val+1)≠ []/\erL (k.val+1)≠ [40]/\erL (k.val+1)≠ [45]/\(erL (k.val+1)).head?≠some 34/\Xc (erL (k.val+1))=0:=by decide
theorem Qu2(l:List UInt8):Xd l<=5:=by
 unfold Xd;repeat' split
 all_goals omega
theorem Qtv(k:Nat)(h1:1<=k)(h5:k<=5):rvL (erL k)=some (4,(k:Int),[]):=by
 have hk:k=1\/k=2\/k=3\/k=4\/k=5:=by omega
 rcases hk with rfl | rfl | rfl | rfl | rfl
 ·exact rv_er.1
 ·exact rv_er.2.1
 ·exact rv_er.2.2.1
 ·exact rv_er.2.2.2.1
 ·exact rv_er.2.2.2.2
def Qnp(x:Option (Int × Int × List UInt8))(y:Option (Int × Int × Bool × Bool))(r:List UInt8)(out:List FN):Option (Int × List UInt8 × List FN):=match x with
 | some v=>some ((out.length:Int),sb r,out++ [RF.cst v.1 v.2.1 v.2.2])
 | none=>(match y with
  | some p=>some ((out.length:Int),sb r,out++ [RF.cel p])
  | none=>none)
theorem Vw{x:Option (Int × Int × List UInt8)}{y:Option (Int × Int × Bool × Bool)}(hn:l.length<=1000)(h0:pk l≠ [])(h1:pk l≠ [40])(h45:pk l≠ [45])(h2:(pk l).head?≠some 34)(hf:Xc (pk l)=0)(hx:rvL (pk l)=x)(hy:rpL (pk l)=y):
  PB RF 3 0 0 [] l out=Qnp x y (nx l) out:=by
 rw[PB3 hn,nG h45,Uy h0 h1 h2 hf,Qs9,Qbl,hx,hy];cases x<;>cases y<;>rfl
theorem Qgr(hn:l.length<=1000)(h:sb l=35::t)(he:Xd (sb l)=k)(hk:1<=k):PB RF 3 0 0 [] l out=some ((out.length:Int),sb ((sb l).drop (erL k).length),out++ [RF.cst 4 (k:Int) []]):=by
 obtain⟨e1,e2,e3⟩:=Qnl h (by rw[he];omega);rw[he]at e1 e2;have h5:k<=5:=by rw[<-he];exact Qu2 _
 obtain⟨f1,f2,f3,f4,f5⟩:=Qmq ⟨k-1,by omega⟩;simp only[show k-1+1=k by omega]at f1 f2 f3 f4 f5;rw[Vw (x:=some (4,(k:Int),[])) (y:=rpL (pk l)) hn e3 (by rw[e1];exact f2) (by rw[e1];exact f3) (by rw[e1];exact f4) (by rw[e1];exact f5) (by rw[e1];exact Qtv k hk h5) rfl]
 have e4:(sb l).drop (erL k).length=nx l:=by
  conv=>lhs;rw[e2]
  exact List.drop_left
 rw[e4];rfl
theorem Qed(hn:l.length<=1000)(h:sb l=35::t)(he:Xd (sb l)=0):PB RF 3 0 0 [] l out=none:=NP hn (EZ (Qdm h he))
theorem Qbc(h:isW c=true):c≠34/\c≠40/\c≠45/\c≠35:=by
 refine⟨fun e=> ?_,fun e=> ?_,fun e=> ?_,fun e=> ?_⟩<;>(subst e;revert h;decide)
theorem Qfs(h:sb l=c::t)(hc:isW c=true):pk l≠ []/\pk l≠ [40]/\pk l≠ [45]/\(pk l).head?≠some 34/\pk l=(sb l).takeWhile isW/\nx l=(sb l).dropWhile isW:=by
 obtain⟨e1,e2,e3⟩:=NL h hc;obtain⟨n1,n2,n3,n4⟩:=Qbc hc;have e4:pk l=c::t.takeWhile isW:=by rw[e1,h,List.takeWhile_cons,pS hc]
 refine⟨e3,fun e=> ?_,fun e=> ?_,fun e=> ?_,e1,e2⟩
 ·rw[e4]at e;exact n2 (M e).1
 ·rw[e4]at e;exact n3 (M e).1
 ·rw[e4]at e;exact n1 (by simpa using e)
theorem Qno(hn:l.length<=1000)(h:sb l=c::t)(hc:isW c=true)(hf:Xc ((sb l).takeWhile isW)≠0):
  PB RF 3 0 0 [] l out=if pk ((sb l).dropWhile isW)= [40]then Yg (PB RF 6 0 0 [] (nx ((sb l).dropWhile isW)) out) (fun k l1 o1=>PB RF 5 (Xc ((sb l).takeWhile isW)) 0 [k] l1 o1)else none:=by
 obtain⟨e0,e1,e2,e3,e4,e5⟩:=Qfs h hc;rw[PB3 hn,nG e2,Qbp e0 e1 e3 (by rw[e4];exact hf) hn,e4,e5]
theorem Qlg{x:Option (Int × Int × List UInt8)}{y:Option (Int × Int × Bool × Bool)}(hn:l.length<=1000)(h:sb l=c::t)(hc:isW c=true)(hf:Xc ((sb l).takeWhile isW)=0)(hx:rvL ((sb l).takeWhile isW)=x)(hy:rpL ((sb l).takeWhile isW)=y):
  PB RF 3 0 0 [] l out=Qnp x y ((sb l).dropWhile isW) out:=by
 obtain⟨e0,e1,e2,e3,e4,e5⟩:=Qfs h hc;rw[Vw (x:=x) (y:=y) hn e0 e1 e2 e3 (by rw[e4];exact hf) (by rw[e4];exact hx) (by rw[e4];exact hy),e5]
theorem Qkw: ∀k:Fin 11,k.val≠1->sgT ((k.val:Int)+1)≠ []/\sgT ((k.val:Int)+1)≠ [40]/\sgT ((k.val:Int)+1)≠ [45]/\(sgT ((k.val:Int)+1)).head?≠some 34/\Xc (sgT ((k.val:Int)+1))=0:=by decide
theorem Qv9: ∀k:Fin 11,rvL (sgT ((k.val:Int)+1))=none:=by decide+kernel
theorem Qgq: ∀k:Fin 10,rvL (fnT ((k.val:Int)+1))=none/\rpL (fnT ((k.val:Int)+1))=none:=by decide+kernel
theorem Qqu(hn:l.length<=1000)(h45:(sb l).head?≠some 45)(h40:(sb l).head?≠some 40)(h34:(sb l).head?≠some 34)(h35:(sb l).head?≠some 35)(hw: ∀c t,sb l=c::t->isW c=false):PB RF 3 0 0 [] l out=none/\(sb l).takeWhile isW= []:=by
 cases hs:sb l with
 | nil=>exact⟨NP hn (Qa9 hs).1,rfl⟩
 | cons c t=>
  have hc:=hw c t hs;refine⟨?_,by simp[List.takeWhile,hc]⟩;rw[hs]at h45 h40 h34 h35;have h1:c≠45:=fun e=>h45 (by rw[e];rfl);have h2:c≠40:=fun e=>h40 (by rw[e];rfl);have h4:c≠34:=fun e=>h34 (by rw[e];rfl);have h5:c≠35:=fun e=>h35 (by rw[e];rfl)
  by_cases h3:c=41\/c=44\/c=58
  ·obtain⟨e1,e2⟩:=Dv hs (by rcases h3 with e | e | e<;>simp[e]);have h0:rpL (pk l)=none:=by rw[e1];exact Nz hc
   have h6:rvL (pk l)=none:=by
    rw[e1];rcases h3 with e | e | e<;>rw[e]
    ·exact rv_sg.1
    ·exact rv_sg.2.1
    ·exact rv_sg.2.2.1
   have hf:Xc (pk l)=0:=by rw[e1];rcases h3 with e | e | e<;>(rw[e];decide)
   rw[Vw hn (by rw[e1];simp) (by rw[e1];simpa using h2) (by rw[e1];simpa using h1) (by rw[e1];simpa using h4) hf h6 h0];rfl
  ·by_cases ho:Zg (sb l)=0
   ·refine NP hn (EZ ?_);unfold tok
    have e:XA (sb l)=0:=by
     conv=>lhs;rw[hs]
     rw[ZD,nG h4,nG h5,nG (by rw[hc];simp),nG (fun e=>by rcases e with e | e | e | e;exact h2 e;exact h3 (R e);exact h3 (K (R e));exact h3 (K (K e))),<-hs,ho];rfl
    rw[e,pS rfl]
   ·obtain⟨e1,e2⟩:=Qot ho;obtain⟨o,h7⟩: ∃o,Zg (sb l)=o:=⟨_,rfl⟩;have hb:=Qnn (sb l);rw[h7]at e1 e2 ho hb
    have ho3:o≠2:=fun e=>by
     rw[e]at e2;rw[e2]at hs;exact h1 (M hs).1.symm
    obtain⟨f1,f2,f3,f4,f5⟩:=Qkw ⟨(o-1).toNat,by omega⟩ (by simp only;omega);have f6:=Qv9 ⟨(o-1).toNat,by omega⟩;simp only[show(((o-1).toNat:Nat):Int)+1=o by omega]at f1 f2 f3 f4 f5 f6
    have h0:rpL (pk l)=none:=by
     rw[e1];cases hq:sgT o with
     | nil=>exact absurd hq f1
     | cons d u=>
      rw[hq]at e2;rw[e2]at hs;have:d=c:=(M hs).1;rw[this];exact Nz hc
    rw[Vw (x:=none) (y:=none) hn (by rw[e1];exact f1) (by rw[e1];exact f2) (by rw[e1];exact f3) (by rw[e1];exact f4) (by rw[e1];exact f5) (by rw[e1];exact f6) h0];rfl
theorem OE(W:H)(B:Nat)(x:Int)(hB:B<=W.heap.size):(W.alloc (X #[D E x] 2)).ownsRow B 2 1 (A (some ⟨W.heap.size,0,none⟩) 1 1) 1 [D E x]:=
 ⟨rfl,.inr ⟨W.heap.size,1,_,rfl,hB,T W _,S _,by unfold maxLen;omega,by simp,by simp⟩⟩
theorem Qjt{res:Option (Int × List UInt8 × List FN)}{f:Int->FN}(h:YC res bad x l o):YC (Yg res (fun k l1 o1=>some ((o1.length:Int),sb l1,o1++ [f k]))) (bad || !(decide (o.length+1<=60)&&Qp (f x))) (o.length:Int) l (o++ [f x]):=by
 cases hb:bad
 ·obtain⟨e1,e2⟩:=h.1 hb;rw[e1];show YC (some ((o.length:Int),sb (sb l),o++ [f x])) _ _ _ _;rw[Zj];exact Xz e2
 ·refine⟨fun e=>(by cases e),fun _=>JM (h.2 hb) (fun x l o=>Qmp)⟩
theorem Qjs{res:Option (Int × List UInt8 × List FN)}{l':List UInt8}(h:YC res false x l o)(hp:pk l= [41])(hn:l'=nx l):YC (Yg res (fun x l1 o1=>if pk l1= [41]then some (x,sb (nx l1),o1)else none)) false x l' o:=by
 obtain⟨e1,e2⟩:=h.1 rfl;refine⟨fun _=>⟨?_,e2⟩,fun e=>(by cases e)⟩;rw[e1];show(if pk (sb l)= [41]then some (x,sb (nx (sb l)),o)else none)=_;rw[pS (by rw[Jd];exact hp),VL (Zj l) (by rw[Jd,hp];simp),hn]
theorem EO{res:Option (Int × List UInt8 × List FN)}{y:Int}{l':List UInt8}(h:YC res bad x l o)(hp: ¬(bad=false/\pk l= [41])):YC (Yg res (fun x l1 o1=>if pk l1= [41]then some (x,sb (nx l1),o1)else none)) true y l' o:=by
 refine⟨fun e=>(by cases e),fun _=> ?_⟩;cases hb:bad
 ·obtain⟨e1,e2⟩:=h.1 hb;rw[e1];show Ej (if pk (sb l)= [41]then some (x,sb (nx (sb l)),o)else none);rw[nG (by rw[Jd];exact fun e=>hp ⟨hb,e⟩)];exact Ys
 ·refine JM (h.2 hb) (fun x l o y hy=> ?_);split at hy
  ·cases hy;exact⟨[],by simp⟩
  ·cases hy
theorem Qit(hm:m<=20000)(hR:Qaw Z r s B m)(hs:s.size<=1000)(W:H)(k:Nat)(v:Value)(out:List FN)(t:List UInt8)(h:RdS Z W r s k false v B out)(hg:good out=true)(hk:12*QV s k+2<=m+1)(hsb:sb (rest s k)=45::t):
  Calls prog 164 #[.pointer (some ⟨r,0,none⟩)] W (Qdh Z r s B (m+1) W v (PB RF 3 0 0 [] (rest s k) out)):=by
 have HR:Hid (Qaw Z r s B m):=hR;clear hR;have HG:Hid (good out=true):=hg;have h3:Hid (St Z W v r s B W k false v out):=St.start h;obtain⟨l,HL⟩: ∃l,Hid (rest s k=l):=⟨_,rfl⟩;have h7:Hid (l.length<=1000):=by show _<=_;rw[<-HL.out];exact(YN s k hs).2
 have H3:Hid (QV s k=(sb l).length):=by show _=_;unfold QV;rw[HL.out]
 rw[HL.out]at hsb ⊢;have h1:Hid (sb l=45::t):=hsb;have H5:Hid (out.length<=60):=Yn hg;have H4:Hid (sb (rest s k)=sb l):=by show _=_;rw[HL.out]
 clear h hg hsb;go_enter func164,ntmps164;go_wp2_with fail
 have HY:Hid (isB false (bs [45]) (rest s k)=true/\isR false (bs [45]) (rest s k)=t):=Qbe (by rw[H4.out];exact h1.out);refine(Yq r s (bs [45]) k false v W h3.out.st.rs hs (by decide)).mono ?_;rintro e w1 ⟨rfl,j1,hrj,hre,hgb⟩;rw[HY.out.1];rw[HY.out.2]at hre;have h5:Hid (St Z W v r s B w1 j1 false v out):=h3.out.gb hrj hgb;have h6:Hid (rest s j1=t):=hre
 have H2:Hid (QV s j1<QV s k):=by
  show(sb (rest s j1)).length<QV s k;rw[H3.out,h1.out,h6.out];exact O (Xr t)
 clear hrj hre hgb h3 HY;go_wp2_with fail
 refine(HR.out w1 j1 v out 5 h5.out.st HG.out (by omega) (by omega) (by have a1:=H2.out;omega)).mono ?_;rintro e w3 ⟨x,k3,bad3,v3,out3,rfl,hst3,hag3,hlen3⟩;have h0:Hid (St Z W v r s B w3 k3 bad3 v3 out3):=h5.out.step hst3.st hst3.nb hst3.fr
 have h4:Hid (YC (PB RF 3 0 0 [] t out) bad3 x (rest s k3) out3):=by
  show YC _ _ _ _ _;rw[h6.out,Qe7 (by have:=h7.out;have h9:=Xr l;rw[h1.out]at h9;simp only[I]at h9;omega)]at hag3;exact hag3
 have H0:Hid (out3.length<=61+m):=hlen3;have H1:B<=w3.heap.size:=hst3.st.bw;clear hst3 hag3 hlen3;go_wp2_with fail
 refine(VH (RF.neg x) (some ⟨w3.heap.size,0,none⟩) 1 r s k3 bad3 v3 B out3 _ (h0.out.st.bel (by go_grown)) (OE w3 B x H1) (fun b9 h9 hz9=>by have h8:=h0.out.st.zl b9 hz9;cases h9;exact absurd h8 (Nat.lt_irrefl _)) (by show(⟨#[]⟩:ByteArray).size<=maxLen;exact V _) (by have:=H0.out;omega)).mono ?_;rintro e w4 ⟨v4,rfl,hs4,hnb4,hfr4⟩;have h2:Hid (St Z W v r s B w4 k3 (bad3 || !(decide (out3.length+1<=60)&&Qp (RF.neg x))) v4 (out3++ [RF.neg x])):=(h0.out.bel (by go_grown)).step hs4 hnb4 hfr4;clear hs4 hnb4 hfr4;go_wp2_with fail
 go_ret;refine⟨_,k3,_,v4,_,rfl,h2.out,?_,?_⟩
 ·rw[Qgp h7.out h1.out];exact Qjt h4.out
 ·rw[G];have:=H0.out;simp only[I,L];omega
theorem Qis(hm:m<=20000)(hR:Qaw Z r s B m)(hs:s.size<=1000)(W:H)(k:Nat)(v:Value)(out:List FN)(t:List UInt8)(h:RdS Z W r s k false v B out)(hg:good out=true)(hk:12*QV s k+2<=m+1)(hsb:sb (rest s k)=40::t):
  Calls prog 164 #[.pointer (some ⟨r,0,none⟩)] W (Qdh Z r s B (m+1) W v (PB RF 3 0 0 [] (rest s k) out)):=by
 have HR:Hid (Qaw Z r s B m):=hR;clear hR;have HG:Hid (good out=true):=hg;have h5:Hid (St Z W v r s B W k false v out):=St.start h;obtain⟨l,HL⟩: ∃l,Hid (rest s k=l):=⟨_,rfl⟩;have H0:Hid (l.length<=1000):=by show _<=_;rw[<-HL.out];exact(YN s k hs).2
 have H6:Hid (QV s k=(sb l).length):=by show _=_;unfold QV;rw[HL.out]
 rw[HL.out]at hsb ⊢;have h2:Hid (sb l=40::t):=hsb;have g0:Hid (out.length<=60):=Yn hg;have H2:Hid (sb (rest s k)=sb l):=by show _=_;rw[HL.out]
 clear h hg hsb;go_enter func164,ntmps164;go_wp2_with fail
 have h6:Hid (isB false (bs [45]) (rest s k)=false/\isR false (bs [45]) (rest s k)=sb (rest s k)):=Um (by rw[H2.out];rw[h2.out];simp);refine(Yq r s (bs [45]) k false v W h5.out.st.rs hs (by decide)).mono ?_;rintro e w1 ⟨rfl,j1,hrj,hre,hgb⟩;rw[h6.out.1];rw[h6.out.2,H2.out]at hre;have h4:Hid (St Z W v r s B w1 j1 false v out):=h5.out.gb hrj hgb;have H3:Hid (rest s j1=sb l):=hre
 have H8:Hid (sb (rest s j1)=sb l):=by show _=_;rw[H3.out,Zj]
 clear hrj hre hgb h5 h6;go_wp2_with fail
 have HY:Hid (isB false (bs [40]) (rest s j1)=true/\isR false (bs [40]) (rest s j1)=t):=Qbe (by rw[H8.out];exact h2.out);refine(Yq r s (bs [40]) j1 false v w1 h4.out.st.rs hs (by decide)).mono ?_;rintro e w2 ⟨rfl,j2,hrj,hre,hgb⟩;rw[HY.out.1];rw[HY.out.2]at hre;have h8:Hid (St Z W v r s B w2 j2 false v out):=h4.out.gb hrj hgb;have h9:Hid (rest s j2=t):=hre
 have H5:Hid (QV s j2<QV s k):=by
  show(sb (rest s j2)).length<QV s k;rw[H6.out,h2.out,h9.out];exact O (Xr t)
 clear hrj hre hgb h4 HY;go_wp2_with fail
 refine(HR.out w2 j2 v out 1 h8.out.st HG.out (by omega) (by omega) (by have a1:=H5.out;omega)).mono ?_;rintro e w3 ⟨x,k3,bad3,v3,out3,rfl,hst3,hag3,hlen3⟩;have h0:Hid (St Z W v r s B w3 k3 bad3 v3 out3):=h8.out.step hst3.st hst3.nb hst3.fr
 have h3:Hid (YC (PB RF 1 1 0 [] t out) bad3 x (rest s k3) out3):=by
  show YC _ _ _ _ _;rw[h9.out]at hag3;exact hag3
 have H1:Hid (out3.length<=61+m):=hlen3;clear hst3 hag3 hlen3;go_wp2_with fail
 by_cases hA:bad3=false/\pk (rest s k3)= [41]
 ·obtain⟨rfl,hp⟩:=hA;have HP:Hid (pk (rest s k3)= [41]):=hp;have h7:Hid (isB false (bs [41]) (rest s k3)=true):=by show _=_;rw[Vz _ 41 (by simp),hp];rfl
  have H9:Hid (isR false (bs [41]) (rest s k3)=nx (rest s k3)):=UJ (by simp) hp;clear hp;refine(Yq r s (bs [41]) k3 false v3 _ h0.out.st.rs hs (by decide)).mono ?_;rintro e w4 ⟨rfl,j4,hrj4,hre4,hgb4⟩;rw[h7.out];rw[H9.out]at hre4;have h1:Hid (St Z W v r s B w4 j4 false v3 out3):=h0.out.gb hrj4 hgb4
  have H7:Hid (rest s j4=nx (rest s k3)):=hre4;clear hrj4 hre4 hgb4;go_wp2_with fail
  go_ret;refine⟨_,j4,_,v3,_,rfl,h1.out,?_,N H1.out⟩;rw[Qac H0.out h2.out];exact Qjs h3.out HP.out H7.out
 ·have h7:Hid (isB bad3 (bs [41]) (rest s k3)=false):=by
   show _=_;cases bad3
   ·exact(UK (by simp) (fun e=>hA ⟨rfl,e⟩)).1
   ·rfl
  have H4:Hid (¬(bad3=false/\pk (rest s k3)= [41])):=hA;clear hA;refine(Yq r s (bs [41]) k3 bad3 v3 _ h0.out.st.rs hs (by decide)).mono ?_;rintro e w4 ⟨rfl,j4,hrj4,hre4,hgb4⟩;rw[h7.out];have h1:Hid (St Z W v r s B w4 j4 bad3 v3 out3):=h0.out.gb hrj4 hgb4;obtain⟨_,⟨c0,c1,c2,c3⟩,f1,f2,f3⟩:=hrj4
  clear hre4 hgb4;go_wp2_with fail
  go_ret;refine⟨_,j4,_,v3,_,rfl,h1.out.mad,?_,N H1.out⟩;rw[Qac H0.out h2.out];exact EO h3.out H4.out
theorem Qir(hm:m<=20000)(hs:s.size<=1000)(W:H)(k:Nat)(v:Value)(out:List FN)(t:List UInt8)(h:RdS Z W r s k false v B out)(hg:good out=true)(hk:12*QV s k+2<=m+1)(hsb:sb (rest s k)=34::t):
  Calls prog 164 #[.pointer (some ⟨r,0,none⟩)] W (Qdh Z r s B (m+1) W v (PB RF 3 0 0 [] (rest s k) out)):=by
 have HG:Hid (good out=true):=hg;have h4:Hid (St Z W v r s B W k false v out):=St.start h;obtain⟨l,HL⟩: ∃l,Hid (rest s k=l):=⟨_,rfl⟩;have H1:Hid (l.length<=1000):=by show _<=_;rw[<-HL.out];exact(YN s k hs).2
 have H8:Hid (QV s k=(sb l).length):=by show _=_;unfold QV;rw[HL.out]
 rw[HL.out]at hsb ⊢;have h0:Hid (sb l=34::t):=hsb;have h7:Hid (out.length<=60):=Yn hg;have H3:Hid (sb (rest s k)=sb l):=by show _=_;rw[HL.out]
 clear h hg hsb;go_enter func164,ntmps164;go_wp2_with fail
 have h6:Hid (isB false (bs [45]) (rest s k)=false/\isR false (bs [45]) (rest s k)=sb (rest s k)):=Um (by rw[H3.out];rw[h0.out];simp);refine(Yq r s (bs [45]) k false v W h4.out.st.rs hs (by decide)).mono ?_;rintro e w1 ⟨rfl,j1,hrj,hre,hgb⟩;rw[h6.out.1];rw[h6.out.2,H3.out]at hre;have h3:Hid (St Z W v r s B w1 j1 false v out):=h4.out.gb hrj hgb;have H5:Hid (rest s j1=sb l):=hre
 have H2:Hid (sb (rest s j1)=sb l):=by show _=_;rw[H5.out,Zj]
 clear hrj hre hgb h4 h6;go_wp2_with fail
 have h5:Hid (isB false (bs [40]) (rest s j1)=false/\isR false (bs [40]) (rest s j1)=sb (rest s j1)):=Um (by rw[H2.out];rw[h0.out];simp);refine(Yq r s (bs [40]) j1 false v w1 h3.out.st.rs hs (by decide)).mono ?_;rintro e w2 ⟨rfl,j2,hrj,hre,hgb⟩;rw[h5.out.1];rw[h5.out.2,H2.out]at hre;have h2:Hid (St Z W v r s B w2 j2 false v out):=h3.out.gb hrj hgb;have H4:Hid (rest s j2=sb l):=hre
 have H9:Hid (sb (rest s j2)=sb l):=by show _=_;rw[H4.out,Zj]
 clear hrj hre hgb h3 h5;go_wp2_with fail
 have HY:Hid (isB false (bs [34]) (rest s j2)=true/\isR false (bs [34]) (rest s j2)=t):=Qbe (by rw[H9.out];exact h0.out);refine(Yq r s (bs [34]) j2 false v w2 h2.out.st.rs hs (by decide)).mono ?_;rintro e w3 ⟨rfl,j3,hrj,hre,hgb⟩;rw[HY.out.1];rw[HY.out.2]at hre;have h8:Hid (St Z W v r s B w3 j3 false v out):=h2.out.gb hrj hgb;have H0:Hid (rest s j3=t):=hre
 have g0:Hid (QV s j3<QV s k):=by
  show(sb (rest s j3)).length<QV s k;rw[H8.out,h0.out,H0.out];exact O (Xr t)
 clear hrj hre hgb h2 HY;go_wp2_with fail
 refine(Qp1 r s j3 v B out w3 h8.out.st hs (by have:=h7.out;omega)).mono ?_;rintro e w4 ⟨x,k4,bad4,v4,out4,rfl,hs4,hnb4,hfr4,hq1,hq2⟩;rw[H0.out]at hq1 hq2;have h1:Hid (St Z W v r s B w4 k4 bad4 v4 out4):=h8.out.step hs4 hnb4 hfr4;have H7:=(show Hid _ from hq1);have H6:=(show Hid _ from hq2);clear hs4 hnb4 hfr4 hq1 hq2
 go_wp2_with fail
 go_ret;cases hq:ZE t with
 | none=>
  obtain⟨rfl,rfl⟩:=H6.out hq;refine⟨_,k4,_,v4,_,rfl,h1.out,?_,by have:=h7.out;omega⟩;rw[NP H1.out (EZ (GN h0.out hq))];exact⟨fun e=>(by cases e),fun _=>Ys⟩
 | some y=>
  obtain⟨q,l1⟩:=y;obtain⟨e1,e2,e3,e4⟩:=H7.out q l1 hq;subst e2 e3 e4;refine⟨_,k4,_,v4,_,rfl,h1.out,?_,by rw[G];have:=h7.out;simp only[I,L];omega⟩;rw[Qgo H1.out h0.out hq,<-e1];have h9:=Xz (o:=out) (x:=RF.cst 2 0 q) (l:=rest s k4) HG.out;rw[Bool.false_or]at h9
  exact h9
end Go.Proofs.YtomadadmakdkgaaGreatDoor
