import Derived.Test.YtbdhinckiccniaaGreatDoorGam
set_option linter.unusedSimpArgs false
set_option linter.unusedVariables false
set_option maxHeartbeats 8000000
set_option maxRecDepth 100000
namespace Go.Proofs.YtbdhinckiccniaaGreatDoor
open Go.RowKit
def ZK (Z:Nat→Prop) (kv:Value) (b:Nat):Prop:=Z b∨kv.ownBlock=some b
theorem RdS.weak {Z Z':Nat→Prop} {W:World} {r:Nat} {s:ByteArray} {k:Nat} {bad:Bool} {v:Value} {B:Nat} {out:List FN} (h:RdS Z' W r s k bad v B out) (hz: ∀b,Z b→Z' b):RdS Z W r s k bad v B out:=by
 obtain⟨ys,ho,hp,hav⟩:=h.own;exact⟨h.rs,h.rb,h.bw,fun b hb=>h.zl b (hz b hb),ys,ho,hp,fun i hi b hb hzb=>hav i hi b hb (hz b hzb)⟩
theorem Nk {W:World} {B:Nat} {ys:List Value} {F:Nat→FN} {i:Nat} {KA:Option Addr} {kc:Nat} (h1: ∀j,j<14→ys[i*14+j]? =(Yn (F i) KA kc)[j]?):kbR ys i=(Value.slice KA (F i).kids.length kc).ownBlock:=by
 unfold kbR;rw [h1 13 (by omega)];rfl
theorem EZ {W:World} {B n:Nat} {ys:List Value} {F:Nat→FN} {i b:Nat} (hp:FnPart W B ys F n) (hi:i<n) (hb:kbR ys i=some b):b<W.heap.size:=by
 obtain⟨KA,kc,h1,h2⟩:=hp i hi;rw [Nk (W:=W) (B:=B) h1]at hb;exact(h2.lt b hb).2
theorem RdS.new {Z:Nat→Prop} {W W':World} {r:Nat} {s:ByteArray} {k:Nat} {bad:Bool} {v:Value} {B:Nat} {out:List FN} {g n cap:Nat} (h:RdS Z W r s k bad v B out) (hb:Below W.heap.size W W') (hg:W.heap.size≤g) (hl:g<W'.heap.size):RdS (ZK Z (.slice (some ⟨g,0,none⟩) n cap)) W' r s k bad v B out:=by
 obtain⟨ys,ho,hp,hav⟩:=h.own;have h':=h.bel hb;refine⟨h'.rs,h'.rb,h'.bw,fun b hb=> ?_,ys,Qf ho hb,hp.below hb,fun i hi b hb2 hzb=> ?_⟩
 ·rcases hb with hb | hb
  ·exact h'.zl b hb
  ·cases hb;exact hl
 ·rcases hzb with hz | hz
  ·exact hav i hi b hb2 hz
  ·cases hz
   have:g<W.heap.size:=EZ hp hi hb2;omega
theorem RdS.kids {Z:Nat→Prop} {W w3:World} {r:Nat} {s:ByteArray} {k:Nat} {bad:Bool} {v:Value} {B:Nat} {out:List FN} {C n gg n' cap':Nat} {kv:Value} {xs:List Value} (h:RdS (ZK Z kv) W r s k bad v B out) (hk:W.ownsRow C 2 1 kv n xs) (hC:r<C) (hg:W.grownBy w3 kv.ownBlock) (hat:kv.ownBlock=some gg∨gg=W.heap.size) (hlt:gg<w3.heap.size):
  RdS (ZK Z (.slice (some ⟨gg,0,none⟩) n' cap')) w3 r s k bad v B out:=by
 obtain⟨ys,ho,hp,hav⟩:=h.own;have hrl:=h.rs.lt;have hne:kv.ownBlock≠some r:=fun e=>by have:=(hk.lt r e).1;omega
 have hblk:w3.heap[r]? =W.heap[r]?:=hg.block r hrl (fun e=>hne e.symm);have cellr: ∀o,w3.cell? ⟨r,o,none⟩=W.cell? ⟨r,o,none⟩:=fun o=>by unfold World.cell?;simp only [hblk]
 have frzr: ∀o,w3.frozen? ⟨r,o,none⟩=W.frozen? ⟨r,o,none⟩:=fun o=>by unfold World.frozen?;simp only [hblk]
 obtain⟨h0,⟨c0,c1,c2,c3⟩,f1,f2,f3⟩:=h.rs;refine⟨⟨h0,⟨(cellr _).trans c0,(cellr _).trans c1,(cellr _).trans c2,(cellr _).trans c3⟩,(frzr _).trans f1,(frzr _).trans f2,(frzr _).trans f3⟩,h.rb,Nat.le_trans h.bw hg.size,fun b hb=> ?_,ys,?_,?_,fun i hi b hb hzb=> ?_⟩
 ·rcases hb with hb | hb
  ·exact Nat.lt_of_lt_of_le (h.zl b (Or.inl hb)) hg.size
  ·cases hb;exact hlt
 ·exact ho.kept hg (Yq ho hk (by decide))
 ·intro i hi;obtain⟨KA,kc,h1,h2⟩:=hp i hi;refine⟨KA,kc,h1,h2.kept hg ?_⟩;cases hq:(Value.slice KA (ouF out i).kids.length kc).ownBlock with
  | none=>exact Or.inl rfl
  | some b=>
   right
   intro e;exact hav i hi b (by rw [Nk (W:=W) (B:=B) h1];exact hq) (Or.inr e.symm)
 ·rcases hzb with hz | hz
  ·exact hav i hi b hb (Or.inl hz)
  ·cases hz
   rcases hat with e | e
   ·exact hav i hi gg hb (Or.inr e)
   ·have:gg<W.heap.size:=EZ hp hi hb;omega
theorem Fr.own {r:Nat} {v kv:Value} {W W1 w3:World} {n:Nat} {xs:List Value} (hf:Fr r v W W1) (hk:W1.ownsRow W.heap.size 2 1 kv n xs) (hg:W1.grownBy w3 kv.ownBlock):Fr r v W w3:=by
 obtain⟨a1,a2,a3,a4,a5⟩:=hf;refine⟨hg.os.trans a1,hg.tape.trans a2,hg.output.trans a3,Nat.le_trans a4 hg.size,fun q hq hr hv=> ?_⟩;rw [hg.block q (Nat.lt_of_lt_of_le hq a4) (fun e=>by have:=(hk.lt q e.symm).1;omega)];exact a5 q hq hr hv
theorem Qg0 {ops:Array Oper} {rest:List Oper} {o:Oper} {a:Act} {Q:Exit→Act→World→Prop} (w:World) (hgd:o.guard=none) (s x:Operand)
  (ho:o.op= .call {callee:= .builtin .append,args:= #[s,x],argTypes:= #[70,70]}) (v:Value) (hs:a.eval s=v) (base:Nat) (hb:base≤w.heap.size) (n:Nat) (ys:List Value) (hown:w.ownsRow base 2 1 v n ys)
  (z:Int) (g:Nat) (hx:a.eval x= .slice (some ⟨g,0,none⟩) 1 1) (hc:w.heap[g]? =some (.cells #[.int .i64 z] 2 (0,0))) (hk:n≤30000)
  (h: ∀gg cap w',w'.ownsRow base 2 1 (.slice (some ⟨gg,0,none⟩) (n+1) cap) (n+1) (ys++ [.int .i64 z])→w.grownBy w' v.ownBlock→(v.ownBlock=some gg∨gg=w.heap.size)→gg<w'.heap.size→wpList Tryz.prog ops Q rest (a.put o.dst (.slice (some ⟨gg,0,none⟩) (n+1) cap)) w'):wpList Tryz.prog ops Q (o::rest) a w:=by
 obtain⟨i0,hi0,hz0,hz1,hz2⟩:=info_parts Qgg;refine wpList_append_lies w hgd s x 70 ho base 2 i0 _ 1 8 Tryz.underlying70 hi0 hz0 hz1 hz2 rfl (by decide) v n ys hs hown ⟨g,0,none⟩ 1 1 [.int .i64 z] hx rfl ?_ ?_ (by decide) ?_ ?_ hb w.heap.size rfl h
 ·exact World.news_of_block hc
 ·intro u hu;simp only [List.mem_cons,List.not_mem_nil,or_false]at hu;rw [hu];rfl
 ·unfold maxLen;omega
 ·omega
theorem Qkb (W:World) (C:Nat) (hC:C≤W.heap.size):(W.alloc (.cells #[] 2)).ownsRow C 2 1 (.slice (some ⟨W.heap.size,0,none⟩) 0 0) 0 []:=
 ⟨rfl,.inr ⟨W.heap.size,0,_,rfl,hC,heap_alloc_new W _,Nat.le_refl _,Nat.zero_le _,by simp,by simp⟩⟩
theorem Qor {Z:Nat→Prop} (fn:Int) (ks:List Int) (n:Nat) (hn:ks.length=n) (KB:Option Addr) (kb r:Nat) (s:ByteArray) (k:Nat) (bad:Bool) (v:Value) (B:Nat) (out:List FN) (W:World) (h:RdS Z W r s k bad v B out)
  (hkk:W.ownsRow B 2 1 (.slice KB n kb) n (ks.map (Value.int .i64))) (hkz: ∀b,(Value.slice KB n kb).ownBlock=some b→ ¬Z b) (hl:out.length≤30000):
  Calls Tryz.prog 217 #[.pointer (some ⟨r,0,none⟩),.agg #[.int .i64 6,.int .i64 fn,.int .i64 0,.int .i64 0,.string ⟨#[]⟩,.int .i64 0,.int .i64 0,.bool false,.bool false,.int .i64 0,.int .i64 0,.bool false,.bool false,.slice KB n kb]] W fun e w'=>
   ∃v',e= .returned (.int .i64 out.length)∧RdS Z w' r s k (bad || !(decide (out.length+1≤60)&&QN (RF.cal fn ks))) v' B (out++ [RF.cal fn ks])∧NB W v v'∧Fr r v W w':=by
 subst hn;exact JG (RF.cal fn ks) KB kb r s k bad v B out W h hkk hkz (by show(⟨#[]⟩:ByteArray).size≤maxLen;exact Nat.zero_le _) hl
def Qry (Z:Nat→Prop) (r:Nat) (s:ByteArray) (B m:Nat) (W:World) (v:Value) (fn:Int) (res:Option (Int × List UInt8 × List FN)) (n0:Nat) (kv:Value) (ks:List Int) (wr:World) (k:Nat) (bad:Bool) (v1:Value) (out:List FN):Prop:=
 St (ZK Z kv) W v r s B wr k bad v1 out∧wr.ownsRow W.heap.size 2 1 kv ks.length (ks.map (Value.int .i64))∧out.length≤61+m∧(bad=false→good out=true∧ks.length+QJ s k≤n0∧res=Zv (PB RF 6 0 0 [] (rest s k) out) (fun a l1 o1=>PB RF 5 fn 0 (ks++ [a]) l1 o1))∧(bad=true→Bb res)
theorem St.weak {Z Z':Nat→Prop} {W w1:World} {v v1:Value} {r:Nat} {s:ByteArray} {B k:Nat} {bad:Bool} {out:List FN} (h:St Z' W v r s B w1 k bad v1 out) (hz: ∀b,Z b→Z' b):St Z W v r s B w1 k bad v1 out:=⟨h.st.weak hz,h.nb,h.fr⟩
def Qrx (s:ByteArray) (fn:Int) (res:Option (Int × List UInt8 × List FN)) (n0 n1:Nat) (ks:List Int) (k:Nat) (bad:Bool) (out:List FN):Prop:=
 (bad=true→Bb res)∧(bad=false→good out=true∧(pk (rest s k)= [41]→res=some ((out.length:Int),sb (nx (rest s k)),out++ [RF.cal fn ks]))∧
  (pk (rest s k)= [44]→ks.length+QJ s k≤n0∧QJ s k<n1∧res=Zv (PB RF 6 0 0 [] (nx (rest s k)) out) (fun a l1 o1=>PB RF 5 fn 0 (ks++ [a]) l1 o1))∧(pk (rest s k)≠ [41]→pk (rest s k)≠ [44]→res=none))
theorem Qtr {s:ByteArray} {fn:Int} {res:Option (Int × List UInt8 × List FN)} {n0:Nat} {ks:List Int} {k k2:Nat} {bad2:Bool} {x:Int} {out out2:List FN} (hs:s.size≤1000) (hl:ks.length+QJ s k≤n0) (hr:res=Zv (PB RF 6 0 0 [] (rest s k) out) (fun a l1 o1=>PB RF 5 fn 0 (ks++ [a]) l1 o1))
  (ha:ZR (PB RF 6 0 0 [] (rest s k) out) bad2 x (rest s k2) out2∨(bad2=false∧pk (rest s k2)= [58]∧PB RF 6 0 0 [] (rest s k) out=none)) (hg:bad2=false→good out2=true):Qrx s fn res n0 (QJ s k) (ks++ [x]) k2 bad2 out2:=by
 refine⟨fun hb=> ?_,fun hb=>⟨hg hb,?_⟩⟩
 ·rcases ha with ha | ⟨h1,_⟩
  ·rw [hr];exact XU (ha.2 hb) (fun x l o=>Qag 5 fn 0 _ l o)
  ·rw [h1]at hb;cases hb
 ·rcases ha with ha | ⟨_,h2,h3⟩
  ·obtain⟨e1,e2⟩:=ha.1 hb
   have e3:res=PB RF 5 fn 0 (ks++ [x]) (rest s k2) out2:=by
    rw [hr,e1];exact Kz (Ze _)
   rw [PB5 (Yj s k2 hs).2]at e3;have h9:PB RF 6 0 0 [] (sb (rest s k)) out=some (x,sb (rest s k2),out2):=by rw [←e1];exact Kz (Ze _)
   have h8:=(Oq h9).2 (by omega);refine⟨fun hp=> ?_,fun hp=>⟨?_,h8,?_⟩,fun hp hq=> ?_⟩
   ·rw [e3,if_neg (by rw [hp];decide),if_pos hp]
   ·rw [List.length_append];unfold QJ at*;simp only [List.length_cons,List.length_nil];omega
   ·rw [e3,if_pos hp]
   ·rw [e3,if_neg hq,if_neg hp]
  ·have e:res=none:=by rw [hr,h3];rfl
   exact⟨fun hp=>by rw [h2]at hp;exact absurd hp (by decide),fun hp=>by rw [h2]at hp;exact absurd hp (by decide),fun _ _=>e⟩
theorem Ql1 {Z:Nat→Prop} {r:Nat} {s:ByteArray} {B m:Nat} (hm:m≤20000) (hA: ∀Z',Qr0 Z' r s B m) (hs:s.size≤1000):Qek Z r s B (m+1):=by
 intro W k v out fn h hg hf1 hf2 hk;have HA:Hid (∀Z',Qr0 Z' r s B m):=hA;have HG:Hid (good out=true):=hg;have HS:Hid (RdS Z W r s k false v B out):=h;obtain⟨res,HRES⟩: ∃res,Hid (Zv (PB RF 6 0 0 [] (rest s k) out) (fun a l1 o1=>PB RF 5 fn 0 [a] l1 o1)=res):=⟨_,rfl⟩;rw [HRES.out];obtain⟨n0,HN0⟩: ∃n0,Hid (QJ s k=n0):=⟨_,rfl⟩
 have HNL:Hid (n0≤1000):=by show _≤_;rw [←HN0.out];exact(Yj s k hs).1
 have HM:Hid (12*n0+9≤m+1):=by show _≤_;rw [←HN0.out];exact hk
 have HRB:Hid (r<B∧B≤W.heap.size):=⟨h.rb,h.bw⟩;have HGL:Hid (out.length≤60):=Yd hg;obtain⟨_,⟨c0,c1,c2,c3⟩,f1,f2,f3⟩:=h.rs;clear h hg hA hk;go_enter Tryz.func270,Tryz.ntmps270;go_wp2_with fail
 go_loopw [5] (fun kv wr=> ∃ks k1 bad1 v1 out1,Qry Z r s B m W v fn res n0 kv ks wr k1 bad1 v1 out1) (fun _ wr=>msr s r wr)
 case atStart=>
  refine⟨[],k,false,v,out,?_,Qkb W _ (Nat.le_refl _),by have:=HGL.out;omega,fun _=>⟨HG.out,by rw [HN0.out];exact Nat.le_of_eq (Nat.zero_add _),HRES.out.symm⟩,fun e=>(by cases e)⟩;exact⟨RdS.new HS.out (by go_grown) (Nat.le_refl _) (by simp),NB.refl _ _,Fr.bel (by go_grown)⟩
 case round=>
  obtain⟨ks,k1,bad1,v1,out1,hi⟩:=hrel;have HI:Hid (Qry Z r s B m W v fn res n0 u5 ks wr k1 bad1 v1 out1):=hi;have HMS:Hid (msr s r wr=if bad1 then 0 else 1+QJ s k1):=NY hi.1.st;obtain⟨_,⟨c0,c1,c2,c3⟩,f1,f2,f3⟩:=hi.1.st.rs;clear hi;cases bad1
  rotate_left
  ·go_wp2_with fail
   go_ret;exact⟨0,k1,true,v1,out1,rfl,HI.out.1.weak (fun b h=>Or.inl h),⟨fun e=>(by cases e),fun _=>HI.out.2.2.2.2 rfl⟩,Nat.le_succ_of_le HI.out.2.2.1⟩
  ·obtain⟨hgd,hln,hres⟩:=HI.out.2.2.2.1 rfl;have HGD:Hid (good out1=true):=hgd;have HLN:Hid (ks.length+QJ s k1≤n0):=hln;have HRE:Hid (res=Zv (PB RF 6 0 0 [] (rest s k1) out1) (fun a l1 o1=>PB RF 5 fn 0 (ks++ [a]) l1 o1)):=hres;clear hgd hln hres;go_wp2_with fail
   refine(HA.out (ZK Z u5) wr k1 v1 out1 HI.out.1.st HGD.out (by have a1:=HLN.out;have a2:=HM.out;omega)).mono ?_;rintro e w2 ⟨x,k2,bad2,v2,out2,rfl,hst2,hag2,hlen2,hgo2⟩;have HST2:Hid (St (ZK Z u5) W v r s B w2 k2 bad2 v2 out2):=HI.out.1.step hst2.st hst2.nb hst2.fr
   have HOW2:Hid (w2.ownsRow W.heap.size 2 1 u5 ks.length (ks.map (Value.int .i64))):=by
    obtain⟨ys,ho,_⟩:=HI.out.1.st.own;exact NW HI.out.2.1 (Nat.lt_of_lt_of_le HRB.out.1 HRB.out.2) ho hst2.fr
   have HCJ:Hid (Qrx s fn res n0 (QJ s k1) (ks++ [x]) k2 bad2 out2):=Qtr hs HLN.out HRE.out hag2 hgo2;have HL2:Hid (out2.length≤61+m):=hlen2;have HKL:Hid (ks.length≤1000):=by show _≤_;have a1:=HLN.out;have a2:=HNL.out;omega
   have HWS:Hid (W.heap.size≤w2.heap.size):=HST2.out.fr.2.2.2.1;obtain⟨n,HN⟩: ∃n,Hid (ks.length=n):=⟨_,rfl⟩;rw [HN.out]at HOW2;have HNB:Hid (n≤30000):=by show _≤_;rw [←HN.out];have:=HKL.out;omega
   clear hst2 hag2 hlen2 hgo2 c0 c1 c2 c3 f1 f2 f3;go_wp2_with (at_builtin;refine Qg0 _ rfl _ _ rfl u5 rfl W.heap.size ?hb n (ks.map (Value.int .i64)) ?hw x w2.heap.size rfl ?hc HNB.out ?_)
   case hb=>have:=HWS.out;simp;omega
   case hw=>exact HOW2.out.alloc _
   case hc=>exact heap_alloc_new _ _
   intro gg gcap w3 hown3 hgrow hat hlt3;obtain⟨ks',HKS⟩: ∃ks',Hid (ks++ [x]=ks'):=⟨_,rfl⟩;have HN':Hid (ks'.length=n+1):=by show _=_;rw [←HKS.out,List.length_append,HN.out];rfl
   have HOW3:Hid (w3.ownsRow W.heap.size 2 1 (.slice (some ⟨gg,0,none⟩) (n+1) gcap) (n+1) (ks'.map (Value.int .i64))):=by
    show World.ownsRow _ _ _ _ _ _ _;rw [←HKS.out,List.map_append];exact hown3
   have HST3:Hid (St (ZK Z (.slice (some ⟨gg,0,none⟩) (n+1) gcap)) W v r s B w3 k2 bad2 v2 out2):=by
    have h1:St (ZK Z u5) W v r s B (w2.alloc (.cells #[.int .i64 x] 2)) k2 bad2 v2 out2:=HST2.out.bel (by go_grown);have h2:=HOW2.out.alloc (.cells #[.int .i64 x] 2);exact⟨RdS.kids h1.st h2 (Nat.lt_of_lt_of_le HRB.out.1 HRB.out.2) hgrow (by simpa using hat) hlt3,h1.nb,Fr.own h1.fr h2 hgrow⟩
   rw [HKS.out]at HCJ;clear hown3 hgrow hat hlt3 HST2 HOW2 HGD HRE;have HRS3:Hid (Rs w3 r s k2 bad2 v2):=HST3.out.st.rs
   have HOB3:Hid (∀b,(Value.slice (some ⟨gg,0,none⟩) (n+1) gcap).ownBlock=some b→ ¬Z b):=fun b hb hz=>by
    have h1:=HS.out.zl b hz;have h2:=(HOW3.out.lt b hb).1;omega
   clear HS HG;by_cases hA:bad2=false∧pk (rest s k2)= [41]
   ·obtain⟨rfl,hp⟩:=hA;obtain⟨hgd2,hj1,_,_⟩:=HCJ.out.2 rfl;have HGD2:Hid (good out2=true):=hgd2;have HRE2:Hid (res=some ((out2.length:Int),sb (nx (rest s k2)),out2++ [RF.cal fn ks'])):=hj1 hp;have HIB:Hid (isB false (bs [41]) (rest s k2)=true):=by show _=_;rw [JB _ 41 (by simp),hp];rfl
    have HIR:Hid (isR false (bs [41]) (rest s k2)=nx (rest s k2)):=Gk (by simp) hp;clear hgd2 hj1 hp HCJ;go_wp2_with fail
    refine(ZF r s (bs [41]) k2 false v2 _ HRS3.out hs (by decide)).mono ?_;rintro e w4 ⟨rfl,j4,hrj4,hre4,hgb4⟩;rw [HIB.out];rw [HIR.out]at hre4;have HST4:Hid (St (ZK Z (.slice (some ⟨gg,0,none⟩) (n+1) gcap)) W v r s B w4 j4 false v2 out2):=HST3.out.gb hrj4 hgb4;have HJ4:Hid (rest s j4=nx (rest s k2)):=hre4;have HOW4:Hid (w4.ownsRow W.heap.size 2 1 (.slice (some ⟨gg,0,none⟩) (n+1) gcap) (n+1) (ks'.map (Value.int .i64))):=HOW3.out.kept hgb4 (Or.inr (fun e=>by have h1:=(HOW3.out.lt r e).1;have h2:=HRB.out;omega))
    clear hrj4 hre4 hgb4;go_wp2_with fail
    refine(Qor fn ks' (n+1) HN'.out (some ⟨gg,0,none⟩) gcap r s j4 false v2 B out2 _ (HST4.out.st.weak (fun b h=>Or.inl h)) (Yv HOW4.out HRB.out.2) HOB3.out (by have:=HL2.out;omega)).mono ?_;rintro e w5 ⟨v5,rfl,hs5,hnb5,hfr5⟩;have HST5:Hid (St Z W v r s B w5 j4 (false || !(decide (out2.length+1≤60)&&QN (RF.cal fn ks'))) v5 (out2++ [RF.cal fn ks'])):=(HST4.out.weak (fun b h=>Or.inl h)).step hs5 hnb5 hfr5;clear hs5 hnb5 hfr5;go_wp2_with fail
    go_ret;refine⟨_,j4,_,v5,_,rfl,HST5.out,?_,?_⟩
    ·rw [HRE2.out,←HJ4.out];exact YL HGD2.out
    ·rw [List.length_append];have:=HL2.out;simp only [List.length_cons,List.length_nil];omega
   ·have HIB:Hid (isB bad2 (bs [41]) (rest s k2)=false):=by
     show _=_;cases bad2
     ·exact(Gl (by simp) (fun e=>hA ⟨rfl,e⟩)).1
     ·rfl
    have HIR:Hid (isR bad2 (bs [41]) (rest s k2)=sb (rest s k2)):=Hf HIB.out;have HNA:Hid (¬(bad2=false∧pk (rest s k2)= [41])):=hA;clear hA;go_wp2_with fail
    refine(ZF r s (bs [41]) k2 bad2 v2 _ HRS3.out hs (by decide)).mono ?_;rintro e w4 ⟨rfl,j4,hrj4,hre4,hgb4⟩;rw [HIB.out];rw [HIR.out]at hre4;have HST4:Hid (St (ZK Z (.slice (some ⟨gg,0,none⟩) (n+1) gcap)) W v r s B w4 j4 bad2 v2 out2):=HST3.out.gb hrj4 hgb4;have HJ4:Hid (rest s j4=sb (rest s k2)):=hre4;have HOW4:Hid (w4.ownsRow W.heap.size 2 1 (.slice (some ⟨gg,0,none⟩) (n+1) gcap) (n+1) (ks'.map (Value.int .i64))):=HOW3.out.kept hgb4 (Or.inr (fun e=>by have h1:=(HOW3.out.lt r e).1;have h2:=HRB.out;omega))
    have HRS4:Hid (Rs w4 r s j4 bad2 v2):=hrj4;clear hrj4 hre4 hgb4 HST3 HOW3 HRS3;by_cases hB:bad2=false∧pk (rest s k2)= [44]
    ·obtain⟨rfl,hp⟩:=hB;obtain⟨hgd2,_,hj2,_⟩:=HCJ.out.2 rfl;obtain⟨hj3,hj5,hj4⟩:=hj2 hp;have HL21:Hid (QJ s k2<QJ s k1):=hj5;have HGD2:Hid (good out2=true):=hgd2;have HP4:Hid (pk (rest s j4)= [44]):=by show _=_;rw [HJ4.out,Xj,hp]
     have HNX:Hid (nx (rest s j4)=nx (rest s k2)):=JJ (by rw [HJ4.out,Ze]) (by rw [HP4.out];simp);have HRE2:Hid (res=Zv (PB RF 6 0 0 [] (nx (rest s k2)) out2) (fun a l1 o1=>PB RF 5 fn 0 (ks'++ [a]) l1 o1)):=hj4;have HJ3:Hid (ks'.length+QJ s k2≤n0):=hj3;have HIB2:Hid (isB false (bs [44]) (rest s j4)=true):=by show _=_;rw [JB _ 44 (by simp),HP4.out];rfl
     have HIR2:Hid (isR false (bs [44]) (rest s j4)=nx (rest s k2)):=by show _=_;rw [Gk (by simp) HP4.out,HNX.out]
     have HLT:Hid ((nx (rest s k2)).length<QJ s k2):=Qrk (by rw [hp];simp);clear hgd2 hj2 hj3 hj4 hj5 hp HCJ HIB HIR;go_wp2_with fail
     refine(ZF r s (bs [44]) j4 false v2 _ HRS4.out hs (by decide)).mono ?_;rintro e w5 ⟨rfl,j5,hrj5,hre5,hgb5⟩;rw [HIB2.out];rw [HIR2.out]at hre5;have HST5:Hid (St (ZK Z (.slice (some ⟨gg,0,none⟩) (n+1) gcap)) W v r s B w5 j5 false v2 out2):=HST4.out.gb hrj5 hgb5;have HJ5:Hid (rest s j5=nx (rest s k2)):=hre5;have HOW5:Hid (w5.ownsRow W.heap.size 2 1 (.slice (some ⟨gg,0,none⟩) (n+1) gcap) (n+1) (ks'.map (Value.int .i64))):=HOW4.out.kept hgb5 (Or.inr (fun e=>by have h1:=(HOW4.out.lt r e).1;have h2:=HRB.out;omega))
     have HLJ:Hid (QJ s j5<QJ s k2):=by
      show(sb (rest s j5)).length<QJ s k2;rw [HJ5.out];exact Nat.lt_of_le_of_lt (YD _) HLT.out
     clear hrj5 hre5 hgb5;go_wp2_with fail
     refine⟨⟨ks',j5,false,v2,out2,HST5.out,by rw [HN'.out];exact HOW5.out,HL2.out,fun _=>⟨HGD2.out,by have a1:=HLJ.out;have a2:=HJ3.out;omega,by rw [HJ5.out];exact HRE2.out⟩,fun e=>(by cases e)⟩,?_⟩;rw [NY HST5.out.st,HMS.out];simp only [Bool.false_eq_true,if_false];have a1:=HLJ.out;have a2:=HL21.out;omega
    ·have HIB2:Hid (isB bad2 (bs [44]) (rest s j4)=false):=by
      show _=_;cases bad2
      ·exact(Gl (by simp) (fun e=>hB ⟨rfl,by rw [HJ4.out,Xj]at e;exact e⟩)).1
      ·rfl
     have HF:Hid (Bb res):=by
      show Bb res;cases hb:bad2
      ·have h9:=(HCJ.out.2 hb).2.2.2 (fun e=>HNA.out ⟨hb,e⟩) (fun e=>hB ⟨hb,e⟩);rw [h9];exact ZH
      ·exact HCJ.out.1 hb
     clear hB HCJ HIB HIR;go_wp2_with fail
     refine(ZF r s (bs [44]) j4 bad2 v2 _ HRS4.out hs (by decide)).mono ?_;rintro e w5 ⟨rfl,j5,hrj5,hre5,hgb5⟩;rw [HIB2.out];have HST5:Hid (St (ZK Z (.slice (some ⟨gg,0,none⟩) (n+1) gcap)) W v r s B w5 j5 bad2 v2 out2):=HST4.out.gb hrj5 hgb5;have HOW5:Hid (w5.ownsRow W.heap.size 2 1 (.slice (some ⟨gg,0,none⟩) (n+1) gcap) (n+1) (ks'.map (Value.int .i64))):=HOW4.out.kept hgb5 (Or.inr (fun e=>by have h1:=(HOW4.out.lt r e).1;have h2:=HRB.out;omega));obtain⟨_,⟨c0,c1,c2,c3⟩,f1,f2,f3⟩:=hrj5;clear hre5 hgb5
     go_wp2_with fail
     have HST6:Hid (St (ZK Z (.slice (some ⟨gg,0,none⟩) (n+1) gcap)) W v r s B (w5.setCell ⟨r,2,none⟩ (.bool true)) j5 true v2 out2):=HST5.out.mad;refine⟨⟨ks',j5,true,v2,out2,HST6.out,?_,HL2.out,fun e=>(by cases e),fun _=>HF.out⟩,?_⟩
     ·rw [HN'.out];exact HOW5.out.kept (QQ _ _ _ _) (Or.inr (fun e=>by have h1:=(HOW5.out.lt r e).1;have h2:=HRB.out;omega))
     ·rw [NY HST6.out.st,HMS.out];simp only [Bool.false_eq_true,if_false,if_true];omega
theorem Qmw (l:List UInt8) (c:UInt8):isB false (bs [c]) l=decide ((sb l).head? =some c):=by
 unfold isB;show(!false&& [c].isPrefixOf (sb l))=_;cases hs:sb l with
 | nil=>simp
 | cons b t=>
  rw [Bool.eq_iff_iff];simp only [Bool.not_false,Bool.true_and,List.isPrefixOf,Bool.and_true,beq_iff_eq,List.head?_cons,Option.some.injEq,decide_eq_true_eq];exact eq_comm
theorem Ho {l:List UInt8} {c:UInt8} (h:(sb l).head?≠some c):isB false (bs [c]) l=false∧isR false (bs [c]) l=sb l:=by
 have e:isB false (bs [c]) l=false:=by rw [Qmw];simp [h]
 exact⟨e,Hf e⟩
theorem Qaa {l t:List UInt8} {c:UInt8} (h:sb l=c::t):isB false (bs [c]) l=true∧isR false (bs [c]) l=t:=by
 have e:isB false (bs [c]) l=true:=by rw [Qmw,h];simp
 refine⟨e,?_⟩;rw [MI e,h];rfl
theorem Qpk {l t:List UInt8} {out:List FN} (hn:l.length≤1000) (h:sb l=45::t):PB RF 3 0 0 [] l out=Zv (PB RF 3 0 0 [] t out) (fun k l1 o1=>some ((o1.length:Int),sb l1,o1++ [RF.neg k])):=by
 obtain⟨e1,e2⟩:=ES h (by simp);rw [PB3 hn,if_pos e1,e2]
theorem Qf2 {l t:List UInt8} {out:List FN} (hn:l.length≤1000) (h:sb l=40::t):PB RF 3 0 0 [] l out=Zv (PB RF 1 1 0 [] t out) (fun x l1 o1=>if pk l1= [41]then some (x,sb (nx l1),o1)else none):=by
 obtain⟨e1,e2⟩:=ES h (by simp);rw [PB3 hn,if_neg (by rw [e1];decide),EI e1 hn,e2]
theorem Qpi {l t q r:List UInt8} {out:List FN} (hn:l.length≤1000) (h:sb l=34::t) (hq:Zh t=some (q,r)):PB RF 3 0 0 [] l out=some ((out.length:Int),sb r,out++ [RF.cst 2 0 q]):=by
 obtain⟨e1,e2,e3⟩:=Qby h hq;rw [PB3 hn,if_neg (by rw [e1];intro e;cases e),EH (by rw [e1];rfl) e3,e2]
theorem Eh {l:List UInt8} (h:tok l=none):pk l= []:=by unfold pk;rw [h]
theorem Mw {l:List UInt8} {out:List FN} (hn:l.length≤1000) (h:pk l= []):PB RF 3 0 0 [] l out=none:=by
 rw [PB3 hn,if_neg (by rw [h];simp),EJ h]
theorem Qlm: ∀k:Fin 5,erL (k.val+1)≠ []∧erL (k.val+1)≠ [40]∧erL (k.val+1)≠ [45]∧(erL (k.val+1)).head?≠some 34∧Xc (erL (k.val+1))=0:=by decide
theorem Qtg (l:List UInt8):YJ l≤5:=by
 unfold YJ;repeat' split
 all_goals omega
theorem Qr9 (k:Nat) (h1:1≤k) (h5:k≤5):rvL (erL k)=some (4,(k:Int),[]):=by
 have hk:k=1∨k=2∨k=3∨k=4∨k=5:=by omega
 rcases hk with rfl | rfl | rfl | rfl | rfl
 ·exact rv_er.1
 ·exact rv_er.2.1
 ·exact rv_er.2.2.1
 ·exact rv_er.2.2.2.1
 ·exact rv_er.2.2.2.2
def Qml (x:Option (Int × Int × List UInt8)) (y:Option (Int × Int × Bool × Bool)) (r:List UInt8) (out:List FN):Option (Int × List UInt8 × List FN):=match x with
 | some v=>some ((out.length:Int),sb r,out++ [RF.cst v.1 v.2.1 v.2.2])
 | none=>(match y with
  | some p=>some ((out.length:Int),sb r,out++ [RF.cel p])
  | none=>none)
theorem Mx {l:List UInt8} {out:List FN} {x:Option (Int × Int × List UInt8)} {y:Option (Int × Int × Bool × Bool)} (hn:l.length≤1000) (h0:pk l≠ []) (h1:pk l≠ [40]) (h45:pk l≠ [45]) (h2:(pk l).head?≠some 34) (hf:Xc (pk l)=0) (hx:rvL (pk l)=x) (hy:rpL (pk l)=y):
  PB RF 3 0 0 [] l out=Qml x y (nx l) out:=by
 rw [PB3 hn,if_neg h45,Hw h0 h1 h2 hf,Qrv,Qi4,hx,hy];cases x<;>cases y<;>rfl
theorem Qpn {l t:List UInt8} {out:List FN} {k:Nat} (hn:l.length≤1000) (h:sb l=35::t) (he:YJ (sb l)=k) (hk:1≤k):PB RF 3 0 0 [] l out=some ((out.length:Int),sb ((sb l).drop (erL k).length),out++ [RF.cst 4 (k:Int) []]):=by
 obtain⟨e1,e2,e3⟩:=Qsm h (by rw [he];omega);rw [he]at e1 e2;have h5:k≤5:=by rw [←he];exact Qtg _
 obtain⟨f1,f2,f3,f4,f5⟩:=Qlm ⟨k-1,by omega⟩;simp only [show k-1+1=k by omega]at f1 f2 f3 f4 f5;rw [Mx (x:=some (4,(k:Int),[])) (y:=rpL (pk l)) hn e3 (by rw [e1];exact f2) (by rw [e1];exact f3) (by rw [e1];exact f4) (by rw [e1];exact f5) (by rw [e1];exact Qr9 k hk h5) rfl]
 have e4:(sb l).drop (erL k).length=nx l:=by
  conv=>lhs;rw [e2]
  exact List.drop_left
 rw [e4];rfl
theorem Qdn {l t:List UInt8} {out:List FN} (hn:l.length≤1000) (h:sb l=35::t) (he:YJ (sb l)=0):PB RF 3 0 0 [] l out=none:=Mw hn (Eh (Qcz h he))
theorem Qs5 {c:UInt8} (h:isW c=true):c≠34∧c≠40∧c≠45∧c≠35:=by
 refine⟨fun e=> ?_,fun e=> ?_,fun e=> ?_,fun e=> ?_⟩<;>(subst e;revert h;decide)
theorem Qe5 {l t:List UInt8} {c:UInt8} (h:sb l=c::t) (hc:isW c=true):pk l≠ []∧pk l≠ [40]∧pk l≠ [45]∧(pk l).head?≠some 34∧pk l=(sb l).takeWhile isW∧nx l=(sb l).dropWhile isW:=by
 obtain⟨e1,e2,e3⟩:=Eg h hc;obtain⟨n1,n2,n3,n4⟩:=Qs5 hc;have e4:pk l=c::t.takeWhile isW:=by rw [e1,h,List.takeWhile_cons,if_pos hc]
 refine⟨e3,fun e=> ?_,fun e=> ?_,fun e=> ?_,e1,e2⟩
 ·rw [e4]at e;exact n2 (List.cons.inj e).1
 ·rw [e4]at e;exact n3 (List.cons.inj e).1
 ·rw [e4]at e;exact n1 (by simpa using e)
theorem Qmk {l t:List UInt8} {c:UInt8} {out:List FN} (hn:l.length≤1000) (h:sb l=c::t) (hc:isW c=true) (hf:Xc ((sb l).takeWhile isW)≠0):
  PB RF 3 0 0 [] l out=if pk ((sb l).dropWhile isW)= [40]then Zv (PB RF 6 0 0 [] (nx ((sb l).dropWhile isW)) out) (fun k l1 o1=>PB RF 5 (Xc ((sb l).takeWhile isW)) 0 [k] l1 o1)else none:=by
 obtain⟨e0,e1,e2,e3,e4,e5⟩:=Qe5 h hc;rw [PB3 hn,if_neg e2,Qe2 e0 e1 e3 (by rw [e4];exact hf) hn,e4,e5]
theorem Qkj {l t:List UInt8} {c:UInt8} {out:List FN} {x:Option (Int × Int × List UInt8)} {y:Option (Int × Int × Bool × Bool)} (hn:l.length≤1000) (h:sb l=c::t) (hc:isW c=true) (hf:Xc ((sb l).takeWhile isW)=0) (hx:rvL ((sb l).takeWhile isW)=x) (hy:rpL ((sb l).takeWhile isW)=y):
  PB RF 3 0 0 [] l out=Qml x y ((sb l).dropWhile isW) out:=by
 obtain⟨e0,e1,e2,e3,e4,e5⟩:=Qe5 h hc;rw [Mx (x:=x) (y:=y) hn e0 e1 e2 e3 (by rw [e4];exact hf) (by rw [e4];exact hx) (by rw [e4];exact hy),e5]
theorem Qjw: ∀k:Fin 11,k.val≠1→sgT ((k.val:Int)+1)≠ []∧sgT ((k.val:Int)+1)≠ [40]∧sgT ((k.val:Int)+1)≠ [45]∧(sgT ((k.val:Int)+1)).head?≠some 34∧Xc (sgT ((k.val:Int)+1))=0:=by decide
theorem Quf: ∀k:Fin 11,rvL (sgT ((k.val:Int)+1))=none:=by decide+kernel
theorem Qpl: ∀k:Fin 10,rvL (fnT ((k.val:Int)+1))=none∧rpL (fnT ((k.val:Int)+1))=none:=by decide+kernel
theorem Qpj {l:List UInt8} {out:List FN} (hn:l.length≤1000) (h45:(sb l).head?≠some 45) (h40:(sb l).head?≠some 40) (h34:(sb l).head?≠some 34) (h35:(sb l).head?≠some 35) (hw: ∀c t,sb l=c::t→isW c=false):PB RF 3 0 0 [] l out=none∧(sb l).takeWhile isW= []:=by
 cases hs:sb l with
 | nil=>exact⟨Mw hn (ET hs).1,rfl⟩
 | cons c t=>
  have hc:=hw c t hs;refine⟨?_,by simp [List.takeWhile,hc]⟩;rw [hs]at h45 h40 h34 h35;have n45:c≠45:=fun e=>h45 (by rw [e];rfl);have n40:c≠40:=fun e=>h40 (by rw [e];rfl);have n34:c≠34:=fun e=>h34 (by rw [e];rfl);have n35:c≠35:=fun e=>h35 (by rw [e];rfl)
  by_cases h3:c=41∨c=44∨c=58
  ·obtain⟨e1,e2⟩:=ES hs (by rcases h3 with e | e | e<;>simp [e]);have hrp:rpL (pk l)=none:=by rw [e1];exact Mi hc
   have hrv:rvL (pk l)=none:=by
    rw [e1];rcases h3 with e | e | e<;>rw [e]
    ·exact rv_sg.1
    ·exact rv_sg.2.1
    ·exact rv_sg.2.2.1
   have hf:Xc (pk l)=0:=by rw [e1];rcases h3 with e | e | e<;>(rw [e];decide)
   rw [Mx hn (by rw [e1];simp) (by rw [e1];simpa using n40) (by rw [e1];simpa using n45) (by rw [e1];simpa using n34) hf hrv hrp];rfl
  ·by_cases ho:QV (sb l)=0
   ·refine Mw hn (Eh ?_);unfold tok
    have e:YM (sb l)=0:=by
     conv=>lhs;rw [hs]
     rw [Zf,if_neg n34,if_neg n35,if_neg (by rw [hc];simp),if_neg (fun e=>by rcases e with e | e | e | e;exact n40 e;exact h3 (Or.inl e);exact h3 (Or.inr (Or.inl e));exact h3 (Or.inr (Or.inr e))),←hs,ho];rfl
    rw [e,if_pos rfl]
   ·obtain⟨e1,e2⟩:=Qrj ho;obtain⟨o,ho2⟩: ∃o,QV (sb l)=o:=⟨_,rfl⟩;have hb:=Qmj (sb l);rw [ho2]at e1 e2 ho hb
    have ho3:o≠2:=fun e=>by
     rw [e]at e2;rw [e2]at hs;exact n45 (List.cons.inj hs).1.symm
    obtain⟨f1,f2,f3,f4,f5⟩:=Qjw ⟨(o-1).toNat,by omega⟩ (by simp only;omega);have f6:=Quf ⟨(o-1).toNat,by omega⟩;simp only [show(((o-1).toNat:Nat):Int)+1=o by omega]at f1 f2 f3 f4 f5 f6
    have hrp:rpL (pk l)=none:=by
     rw [e1];cases hq:sgT o with
     | nil=>exact absurd hq f1
     | cons d u=>
      rw [hq]at e2;rw [e2]at hs;have:d=c:=(List.cons.inj hs).1;rw [this];exact Mi hc
    rw [Mx (x:=none) (y:=none) hn (by rw [e1];exact f1) (by rw [e1];exact f2) (by rw [e1];exact f3) (by rw [e1];exact f4) (by rw [e1];exact f5) (by rw [e1];exact f6) hrp];rfl
theorem Nj (W:World) (B:Nat) (x:Int) (hB:B≤W.heap.size):(W.alloc (.cells #[.int .i64 x] 2)).ownsRow B 2 1 (.slice (some ⟨W.heap.size,0,none⟩) 1 1) 1 [.int .i64 x]:=
 ⟨rfl,.inr ⟨W.heap.size,1,_,rfl,hB,heap_alloc_new W _,Nat.le_refl _,by unfold maxLen;omega,by simp,by simp⟩⟩
theorem Qiz {res:Option (Int × List UInt8 × List FN)} {bad:Bool} {x:Int} {l:List UInt8} {o:List FN} {f:Int→FN} (h:ZR res bad x l o):ZR (Zv res (fun k l1 o1=>some ((o1.length:Int),sb l1,o1++ [f k]))) (bad || !(decide (o.length+1≤60)&&QN (f x))) (o.length:Int) l (o++ [f x]):=by
 cases hb:bad
 ·obtain⟨e1,e2⟩:=h.1 hb;rw [e1];show ZR (some ((o.length:Int),sb (sb l),o++ [f x])) _ _ _ _;rw [Ze];exact YL e2
 ·refine⟨fun e=>(by cases e),fun _=>XU (h.2 hb) (fun x l o=>Qll)⟩
theorem Qiy {res:Option (Int × List UInt8 × List FN)} {x:Int} {l l':List UInt8} {o:List FN} (h:ZR res false x l o) (hp:pk l= [41]) (hn:l'=nx l):ZR (Zv res (fun x l1 o1=>if pk l1= [41]then some (x,sb (nx l1),o1)else none)) false x l' o:=by
 obtain⟨e1,e2⟩:=h.1 rfl;refine⟨fun _=>⟨?_,e2⟩,fun e=>(by cases e)⟩;rw [e1];show(if pk (sb l)= [41]then some (x,sb (nx (sb l)),o)else none)=_;rw [if_pos (by rw [Xj];exact hp),JJ (Ze l) (by rw [Xj,hp];simp),hn]
theorem BO {res:Option (Int × List UInt8 × List FN)} {bad:Bool} {x y:Int} {l l':List UInt8} {o:List FN} (h:ZR res bad x l o) (hp: ¬(bad=false∧pk l= [41])):ZR (Zv res (fun x l1 o1=>if pk l1= [41]then some (x,sb (nx l1),o1)else none)) true y l' o:=by
 refine⟨fun e=>(by cases e),fun _=> ?_⟩;cases hb:bad
 ·obtain⟨e1,e2⟩:=h.1 hb;rw [e1];show Bb (if pk (sb l)= [41]then some (x,sb (nx (sb l)),o)else none);rw [if_neg (by rw [Xj];exact fun e=>hp ⟨hb,e⟩)];exact ZH
 ·refine XU (h.2 hb) (fun x l o y hy=> ?_);split at hy
  ·cases hy;exact⟨[],by simp⟩
  ·cases hy
theorem Qh0 {Z:Nat→Prop} {r:Nat} {s:ByteArray} {B m:Nat} (hm:m≤20000) (hR:EG Z r s B m) (hs:s.size≤1000) (W:World) (k:Nat) (v:Value) (out:List FN) (t:List UInt8) (h:RdS Z W r s k false v B out) (hg:good out=true) (hk:12*QJ s k+2≤m+1) (hsb:sb (rest s k)=45::t):
  Calls Tryz.prog 215 #[.pointer (some ⟨r,0,none⟩)] W (Qcx Z r s B (m+1) W v (PB RF 3 0 0 [] (rest s k) out)):=by
 have HR:Hid (EG Z r s B m):=hR;clear hR;have HG:Hid (good out=true):=hg;have HS0:Hid (St Z W v r s B W k false v out):=St.start h;obtain⟨l,HL⟩: ∃l,Hid (rest s k=l):=⟨_,rfl⟩;have HLN:Hid (l.length≤1000):=by show _≤_;rw [←HL.out];exact(Yj s k hs).2
 have HLK:Hid (QJ s k=(sb l).length):=by show _=_;unfold QJ;rw [HL.out]
 rw [HL.out]at hsb ⊢;have HSB:Hid (sb l=45::t):=hsb;have HGL:Hid (out.length≤60):=Yd hg;have HJ0:Hid (sb (rest s k)=sb l):=by show _=_;rw [HL.out]
 clear h hg hsb;go_enter Tryz.func215,Tryz.ntmps215;go_wp2_with fail
 have HY:Hid (isB false (bs [45]) (rest s k)=true∧isR false (bs [45]) (rest s k)=t):=Qaa (by rw [HJ0.out];exact HSB.out);refine(ZF r s (bs [45]) k false v W HS0.out.st.rs hs (by decide)).mono ?_;rintro e w1 ⟨rfl,j1,hrj,hre,hgb⟩;rw [HY.out.1];rw [HY.out.2]at hre;have HS1:Hid (St Z W v r s B w1 j1 false v out):=HS0.out.gb hrj hgb;have HR1:Hid (rest s j1=t):=hre
 have HLT:Hid (QJ s j1<QJ s k):=by
  show(sb (rest s j1)).length<QJ s k;rw [HLK.out,HSB.out,HR1.out];exact Nat.lt_succ_of_le (YD t)
 clear hrj hre hgb HS0 HY;go_wp2_with fail
 refine(HR.out w1 j1 v out 5 HS1.out.st HG.out (by omega) (by omega) (by have a1:=HLT.out;omega)).mono ?_;rintro e w3 ⟨x,k3,bad3,v3,out3,rfl,hst3,hag3,hlen3⟩;have HST3:Hid (St Z W v r s B w3 k3 bad3 v3 out3):=HS1.out.step hst3.st hst3.nb hst3.fr
 have HAG3:Hid (ZR (PB RF 3 0 0 [] t out) bad3 x (rest s k3) out3):=by
  show ZR _ _ _ _ _;rw [HR1.out,Qrb (by have:=HLN.out;have h9:=YD l;rw [HSB.out]at h9;simp only [List.length_cons]at h9;omega)]at hag3;exact hag3
 have HL3:Hid (out3.length≤61+m):=hlen3;have hB3:B≤w3.heap.size:=hst3.st.bw;clear hst3 hag3 hlen3;go_wp2_with fail
 refine(JG (RF.neg x) (some ⟨w3.heap.size,0,none⟩) 1 r s k3 bad3 v3 B out3 _ (HST3.out.st.bel (by go_grown)) (Nj w3 B x hB3) (fun b9 h9 hz9=>by have h8:=HST3.out.st.zl b9 hz9;cases h9;exact absurd h8 (Nat.lt_irrefl _)) (by show(⟨#[]⟩:ByteArray).size≤maxLen;exact Nat.zero_le _) (by have:=HL3.out;omega)).mono ?_;rintro e w4 ⟨v4,rfl,hs4,hnb4,hfr4⟩;have HST4:Hid (St Z W v r s B w4 k3 (bad3 || !(decide (out3.length+1≤60)&&QN (RF.neg x))) v4 (out3++ [RF.neg x])):=(HST3.out.bel (by go_grown)).step hs4 hnb4 hfr4;clear hs4 hnb4 hfr4;go_wp2_with fail
 go_ret;refine⟨_,k3,_,v4,_,rfl,HST4.out,?_,?_⟩
 ·rw [Qpk HLN.out HSB.out];exact Qiz HAG3.out
 ·rw [List.length_append];have:=HL3.out;simp only [List.length_cons,List.length_nil];omega
theorem Qhz {Z:Nat→Prop} {r:Nat} {s:ByteArray} {B m:Nat} (hm:m≤20000) (hR:EG Z r s B m) (hs:s.size≤1000) (W:World) (k:Nat) (v:Value) (out:List FN) (t:List UInt8) (h:RdS Z W r s k false v B out) (hg:good out=true) (hk:12*QJ s k+2≤m+1) (hsb:sb (rest s k)=40::t):
  Calls Tryz.prog 215 #[.pointer (some ⟨r,0,none⟩)] W (Qcx Z r s B (m+1) W v (PB RF 3 0 0 [] (rest s k) out)):=by
 have HR:Hid (EG Z r s B m):=hR;clear hR;have HG:Hid (good out=true):=hg;have HS0:Hid (St Z W v r s B W k false v out):=St.start h;obtain⟨l,HL⟩: ∃l,Hid (rest s k=l):=⟨_,rfl⟩;have HLN:Hid (l.length≤1000):=by show _≤_;rw [←HL.out];exact(Yj s k hs).2
 have HLK:Hid (QJ s k=(sb l).length):=by show _=_;unfold QJ;rw [HL.out]
 rw [HL.out]at hsb ⊢;have HSB:Hid (sb l=40::t):=hsb;have HGL:Hid (out.length≤60):=Yd hg;have HJ0:Hid (sb (rest s k)=sb l):=by show _=_;rw [HL.out]
 clear h hg hsb;go_enter Tryz.func215,Tryz.ntmps215;go_wp2_with fail
 have HN1:Hid (isB false (bs [45]) (rest s k)=false∧isR false (bs [45]) (rest s k)=sb (rest s k)):=Ho (by rw [HJ0.out];rw [HSB.out];simp);refine(ZF r s (bs [45]) k false v W HS0.out.st.rs hs (by decide)).mono ?_;rintro e w1 ⟨rfl,j1,hrj,hre,hgb⟩;rw [HN1.out.1];rw [HN1.out.2,HJ0.out]at hre;have HS1:Hid (St Z W v r s B w1 j1 false v out):=HS0.out.gb hrj hgb;have HR1:Hid (rest s j1=sb l):=hre
 have HJ1:Hid (sb (rest s j1)=sb l):=by show _=_;rw [HR1.out,Ze]
 clear hrj hre hgb HS0 HN1;go_wp2_with fail
 have HY:Hid (isB false (bs [40]) (rest s j1)=true∧isR false (bs [40]) (rest s j1)=t):=Qaa (by rw [HJ1.out];exact HSB.out);refine(ZF r s (bs [40]) j1 false v w1 HS1.out.st.rs hs (by decide)).mono ?_;rintro e w2 ⟨rfl,j2,hrj,hre,hgb⟩;rw [HY.out.1];rw [HY.out.2]at hre;have HS2:Hid (St Z W v r s B w2 j2 false v out):=HS1.out.gb hrj hgb;have HR2:Hid (rest s j2=t):=hre
 have HLT:Hid (QJ s j2<QJ s k):=by
  show(sb (rest s j2)).length<QJ s k;rw [HLK.out,HSB.out,HR2.out];exact Nat.lt_succ_of_le (YD t)
 clear hrj hre hgb HS1 HY;go_wp2_with fail
 refine(HR.out w2 j2 v out 1 HS2.out.st HG.out (by omega) (by omega) (by have a1:=HLT.out;omega)).mono ?_;rintro e w3 ⟨x,k3,bad3,v3,out3,rfl,hst3,hag3,hlen3⟩;have HST3:Hid (St Z W v r s B w3 k3 bad3 v3 out3):=HS2.out.step hst3.st hst3.nb hst3.fr
 have HAG3:Hid (ZR (PB RF 1 1 0 [] t out) bad3 x (rest s k3) out3):=by
  show ZR _ _ _ _ _;rw [HR2.out]at hag3;exact hag3
 have HL3:Hid (out3.length≤61+m):=hlen3;clear hst3 hag3 hlen3;go_wp2_with fail
 by_cases hA:bad3=false∧pk (rest s k3)= [41]
 ·obtain⟨rfl,hp⟩:=hA;have HP:Hid (pk (rest s k3)= [41]):=hp;have HIB:Hid (isB false (bs [41]) (rest s k3)=true):=by show _=_;rw [JB _ 41 (by simp),hp];rfl
  have HIR:Hid (isR false (bs [41]) (rest s k3)=nx (rest s k3)):=Gk (by simp) hp;clear hp;refine(ZF r s (bs [41]) k3 false v3 _ HST3.out.st.rs hs (by decide)).mono ?_;rintro e w4 ⟨rfl,j4,hrj4,hre4,hgb4⟩;rw [HIB.out];rw [HIR.out]at hre4;have HST4:Hid (St Z W v r s B w4 j4 false v3 out3):=HST3.out.gb hrj4 hgb4
  have HJ4:Hid (rest s j4=nx (rest s k3)):=hre4;clear hrj4 hre4 hgb4;go_wp2_with fail
  go_ret;refine⟨_,j4,_,v3,_,rfl,HST4.out,?_,Nat.le_succ_of_le HL3.out⟩;rw [Qf2 HLN.out HSB.out];exact Qiy HAG3.out HP.out HJ4.out
 ·have HIB:Hid (isB bad3 (bs [41]) (rest s k3)=false):=by
   show _=_;cases bad3
   ·exact(Gl (by simp) (fun e=>hA ⟨rfl,e⟩)).1
   ·rfl
  have HNA:Hid (¬(bad3=false∧pk (rest s k3)= [41])):=hA;clear hA;refine(ZF r s (bs [41]) k3 bad3 v3 _ HST3.out.st.rs hs (by decide)).mono ?_;rintro e w4 ⟨rfl,j4,hrj4,hre4,hgb4⟩;rw [HIB.out];have HST4:Hid (St Z W v r s B w4 j4 bad3 v3 out3):=HST3.out.gb hrj4 hgb4;obtain⟨_,⟨c0,c1,c2,c3⟩,f1,f2,f3⟩:=hrj4
  clear hre4 hgb4;go_wp2_with fail
  go_ret;refine⟨_,j4,_,v3,_,rfl,HST4.out.mad,?_,Nat.le_succ_of_le HL3.out⟩;rw [Qf2 HLN.out HSB.out];exact BO HAG3.out HNA.out
theorem Qhy {Z:Nat→Prop} {r:Nat} {s:ByteArray} {B m:Nat} (hm:m≤20000) (hs:s.size≤1000) (W:World) (k:Nat) (v:Value) (out:List FN) (t:List UInt8) (h:RdS Z W r s k false v B out) (hg:good out=true) (hk:12*QJ s k+2≤m+1) (hsb:sb (rest s k)=34::t):
  Calls Tryz.prog 215 #[.pointer (some ⟨r,0,none⟩)] W (Qcx Z r s B (m+1) W v (PB RF 3 0 0 [] (rest s k) out)):=by
 have HG:Hid (good out=true):=hg;have HS0:Hid (St Z W v r s B W k false v out):=St.start h;obtain⟨l,HL⟩: ∃l,Hid (rest s k=l):=⟨_,rfl⟩;have HLN:Hid (l.length≤1000):=by show _≤_;rw [←HL.out];exact(Yj s k hs).2
 have HLK:Hid (QJ s k=(sb l).length):=by show _=_;unfold QJ;rw [HL.out]
 rw [HL.out]at hsb ⊢;have HSB:Hid (sb l=34::t):=hsb;have HGL:Hid (out.length≤60):=Yd hg;have HJ0:Hid (sb (rest s k)=sb l):=by show _=_;rw [HL.out]
 clear h hg hsb;go_enter Tryz.func215,Tryz.ntmps215;go_wp2_with fail
 have HN1:Hid (isB false (bs [45]) (rest s k)=false∧isR false (bs [45]) (rest s k)=sb (rest s k)):=Ho (by rw [HJ0.out];rw [HSB.out];simp);refine(ZF r s (bs [45]) k false v W HS0.out.st.rs hs (by decide)).mono ?_;rintro e w1 ⟨rfl,j1,hrj,hre,hgb⟩;rw [HN1.out.1];rw [HN1.out.2,HJ0.out]at hre;have HS1:Hid (St Z W v r s B w1 j1 false v out):=HS0.out.gb hrj hgb;have HR1:Hid (rest s j1=sb l):=hre
 have HJ1:Hid (sb (rest s j1)=sb l):=by show _=_;rw [HR1.out,Ze]
 clear hrj hre hgb HS0 HN1;go_wp2_with fail
 have HN2:Hid (isB false (bs [40]) (rest s j1)=false∧isR false (bs [40]) (rest s j1)=sb (rest s j1)):=Ho (by rw [HJ1.out];rw [HSB.out];simp);refine(ZF r s (bs [40]) j1 false v w1 HS1.out.st.rs hs (by decide)).mono ?_;rintro e w2 ⟨rfl,j2,hrj,hre,hgb⟩;rw [HN2.out.1];rw [HN2.out.2,HJ1.out]at hre;have HS2:Hid (St Z W v r s B w2 j2 false v out):=HS1.out.gb hrj hgb;have HR2:Hid (rest s j2=sb l):=hre
 have HJ2:Hid (sb (rest s j2)=sb l):=by show _=_;rw [HR2.out,Ze]
 clear hrj hre hgb HS1 HN2;go_wp2_with fail
 have HY:Hid (isB false (bs [34]) (rest s j2)=true∧isR false (bs [34]) (rest s j2)=t):=Qaa (by rw [HJ2.out];exact HSB.out);refine(ZF r s (bs [34]) j2 false v w2 HS2.out.st.rs hs (by decide)).mono ?_;rintro e w3 ⟨rfl,j3,hrj,hre,hgb⟩;rw [HY.out.1];rw [HY.out.2]at hre;have HS3:Hid (St Z W v r s B w3 j3 false v out):=HS2.out.gb hrj hgb;have HR3:Hid (rest s j3=t):=hre
 have HLT:Hid (QJ s j3<QJ s k):=by
  show(sb (rest s j3)).length<QJ s k;rw [HLK.out,HSB.out,HR3.out];exact Nat.lt_succ_of_le (YD t)
 clear hrj hre hgb HS2 HY;go_wp2_with fail
 refine(Qoq r s j3 v B out w3 HS3.out.st hs (by have:=HGL.out;omega)).mono ?_;rintro e w4 ⟨x,k4,bad4,v4,out4,rfl,hs4,hnb4,hfr4,hq1,hq2⟩;rw [HR3.out]at hq1 hq2;have HST4:Hid (St Z W v r s B w4 k4 bad4 v4 out4):=HS3.out.step hs4 hnb4 hfr4;have HQ1:=(show Hid _ from hq1);have HQ2:=(show Hid _ from hq2);clear hs4 hnb4 hfr4 hq1 hq2
 go_wp2_with fail
 go_ret;cases hq:Zh t with
 | none=>
  obtain⟨rfl,rfl⟩:=HQ2.out hq;refine⟨_,k4,_,v4,_,rfl,HST4.out,?_,by have:=HGL.out;omega⟩;rw [Mw HLN.out (Eh (KN HSB.out hq))];exact⟨fun e=>(by cases e),fun _=>ZH⟩
 | some y=>
  obtain⟨q,l1⟩:=y;obtain⟨e1,e2,e3,e4⟩:=HQ1.out q l1 hq;subst e2 e3 e4;refine⟨_,k4,_,v4,_,rfl,HST4.out,?_,by rw [List.length_append];have:=HGL.out;simp only [List.length_cons,List.length_nil];omega⟩;rw [Qpi HLN.out HSB.out hq,←e1];have h9:=YL (o:=out) (x:=RF.cst 2 0 q) (l:=rest s k4) HG.out;rw [Bool.false_or]at h9
  exact h9
end Go.Proofs.YtbdhinckiccniaaGreatDoor
