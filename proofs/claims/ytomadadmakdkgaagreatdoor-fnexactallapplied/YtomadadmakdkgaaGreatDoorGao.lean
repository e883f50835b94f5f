import Derived.Test.YtomadadmakdkgaaGreatDoorGan
open Go.Proofs.Tryz
open Go.Value renaming int → d, string → A
open Go.IntKind renaming i64 → f, wrap_i64 → o
open List renaming length_append → g, length_cons → u, length_nil → z
open Go.Obj renaming cells → C
set_option linter.unusedSimpArgs false
set_option linter.unusedVariables false
set_option maxHeartbeats 8000000
set_option maxRecDepth 100000
namespace Go.Proofs.YtomadadmakdkgaaGreatDoor
open Go.RowKit
variable {l:List UInt8} {n k:Int} {Z:Nat->Prop} {r B:Nat} {s:ByteArray} {out:List FN}
theorem Qg7{n:Nat}(h1:1<=n)(h5:n<=5)(h:(erL n).isPrefixOf l=true)(hno: ∀i,1<=i->i<n->(erL i).isPrefixOf l=false):Xd l=n:=by
 have hk:n=1\/n=2\/n=3\/n=4\/n=5:=by omega
 unfold Xd;rcases hk with rfl | rfl | rfl | rfl | rfl
 ·rw[pS h]
 ·rw[nG (by rw[hno 1 (by omega) (by omega)];simp),pS h]
 ·rw[nG (by rw[hno 1 (by omega) (by omega)];simp),nG (by rw[hno 2 (by omega) (by omega)];simp),pS h]
 ·rw[nG (by rw[hno 1 (by omega) (by omega)];simp),nG (by rw[hno 2 (by omega) (by omega)];simp),nG (by rw[hno 3 (by omega) (by omega)];simp),pS h]
 ·rw[nG (by rw[hno 1 (by omega) (by omega)];simp),nG (by rw[hno 2 (by omega) (by omega)];simp),nG (by rw[hno 3 (by omega) (by omega)];simp),nG (by rw[hno 4 (by omega) (by omega)];simp),pS h]
theorem BT(hno: ∀i,1<=i->i<6->(erL i).isPrefixOf l=false):Xd l=0:=by
 unfold Xd;rw[nG (by rw[hno 1 (by omega) (by omega)];simp),nG (by rw[hno 2 (by omega) (by omega)];simp),nG (by rw[hno 3 (by omega) (by omega)];simp),nG (by rw[hno 4 (by omega) (by omega)];simp),nG (by rw[hno 5 (by omega) (by omega)];simp)]
theorem Qrv(n:Nat)(h1:1<=n)(h5:n<=5): ∃e nm:ByteArray,erT (n:Int)=e/\e.extract 1 e.size=nm/\1<=e.size/\e.size<=10/\nm.size<=10/\erL n=35::nm.data.toList:=by
 have hk:n=1\/n=2\/n=3\/n=4\/n=5:=by omega
 rcases hk with rfl | rfl | rfl | rfl | rfl
 ·exact⟨⟨#[35,68,73,86,33]⟩,⟨#[68,73,86,33]⟩,rfl,by decide,by decide,by decide,by decide,rfl⟩
 ·exact⟨⟨#[35,84,89,80,69,33]⟩,⟨#[84,89,80,69,33]⟩,rfl,by decide,by decide,by decide,by decide,rfl⟩
 ·exact⟨⟨#[35,82,69,70,33]⟩,⟨#[82,69,70,33]⟩,rfl,by decide,by decide,by decide,by decide,rfl⟩
 ·exact⟨⟨#[35,79,86,69,82,33]⟩,⟨#[79,86,69,82,33]⟩,rfl,by decide,by decide,by decide,by decide,rfl⟩
 ·exact⟨⟨#[35,67,89,67,76,69,33]⟩,⟨#[67,89,67,76,69,33]⟩,rfl,by decide,by decide,by decide,by decide,rfl⟩
theorem St.draws{W w1:World}{v v1:Value}{k:Nat}{bad:Bool}(h:St Z W v r s B w1 k bad v1 out)(n:Nat):St Z W v r s B (w1.drewN n) k bad v1 out:=
 h.gb (h.st.rs.draws n) (Qv _ _ n)
theorem Qiu{m:Nat}(hm:m<=20000)(hs:s.size<=1000)(W:World)(k:Nat)(v:Value)(out:List FN)(t:List UInt8)(h:RdS Z W r s k false v B out)(hg:good out=true)(hk:12*QV s k+2<=m+1)(hsb:sb (rest s k)=35::t):
  Calls prog 164 #[.pointer (some ⟨r,0,none⟩)] W (Qdh Z r s B (m+1) W v (PB RF 3 0 0 [] (rest s k) out)):=by
 have HG:Hid (good out=true):=hg;have H7:Hid (St Z W v r s B W k false v out):=St.start h;obtain⟨l,HL⟩: ∃l,Hid (rest s k=l):=⟨_,rfl⟩;have g9:Hid (l.length<=1000):=by show _<=_;rw[<-HL.out];exact(YN s k hs).2
 have x0:Hid (QV s k=(sb l).length):=by show _=_;unfold QV;rw[HL.out]
 rw[HL.out]at hsb ⊢;have h0:Hid (sb l=35::t):=hsb;have g1:Hid (out.length<=60):=Yn hg;have G2:Hid (sb (rest s k)=sb l):=by show _=_;rw[HL.out]
 clear h hg hsb;go_enter func164,ntmps164;go_wp2_with fail
 have h7:Hid (isB false (bs [45]) (rest s k)=false/\isR false (bs [45]) (rest s k)=sb (rest s k)):=Um (by rw[G2.out];rw[h0.out];simp);refine(Yq r s (bs [45]) k false v W H7.out.st.rs hs (by decide)).mono ?_;rintro e w1 ⟨rfl,j1,hrj,hre,hgb⟩;rw[h7.out.1];rw[h7.out.2,G2.out]at hre;have H6:Hid (St Z W v r s B w1 j1 false v out):=H7.out.gb hrj hgb;have G8:Hid (rest s j1=sb l):=hre
 have G1:Hid (sb (rest s j1)=sb l):=by show _=_;rw[G8.out,Zj]
 clear hrj hre hgb H7 h7;go_wp2_with fail
 have g0:Hid (isB false (bs [40]) (rest s j1)=false/\isR false (bs [40]) (rest s j1)=sb (rest s j1)):=Um (by rw[G1.out];rw[h0.out];simp);refine(Yq r s (bs [40]) j1 false v w1 H6.out.st.rs hs (by decide)).mono ?_;rintro e w2 ⟨rfl,j2,hrj,hre,hgb⟩;rw[g0.out.1];rw[g0.out.2,G1.out]at hre;have H5:Hid (St Z W v r s B w2 j2 false v out):=H6.out.gb hrj hgb;have G7:Hid (rest s j2=sb l):=hre
 have G0:Hid (sb (rest s j2)=sb l):=by show _=_;rw[G7.out,Zj]
 clear hrj hre hgb H6 g0;go_wp2_with fail
 have H9:Hid (isB false (bs [34]) (rest s j2)=false/\isR false (bs [34]) (rest s j2)=sb (rest s j2)):=Um (by rw[G0.out];rw[h0.out];simp);refine(Yq r s (bs [34]) j2 false v w2 H5.out.st.rs hs (by decide)).mono ?_;rintro e w3 ⟨rfl,j3,hrj,hre,hgb⟩;rw[H9.out.1];rw[H9.out.2,G0.out]at hre;have H4:Hid (St Z W v r s B w3 j3 false v out):=H5.out.gb hrj hgb;have G6:Hid (rest s j3=sb l):=hre
 have x1:Hid (sb (rest s j3)=sb l):=by show _=_;rw[G6.out,Zj]
 clear hrj hre hgb H5 H9;go_wp2_with fail
 have HY:Hid (isB false (bs [35]) (rest s j3)=true/\isR false (bs [35]) (rest s j3)=t):=Qbe (by rw[x1.out];exact h0.out);refine(Yq r s (bs [35]) j3 false v w3 H4.out.st.rs hs (by decide)).mono ?_;rintro e w4 ⟨rfl,j4,hrj,hre,hgb⟩;rw[HY.out.1];rw[HY.out.2]at hre;have g7:Hid (St Z W v r s B w4 j4 false v out):=H4.out.gb hrj hgb;have H8:Hid (rest s j4=t):=hre
 have x3:Hid (QV s j4<QV s k):=by
  show(sb (rest s j4)).length<QV s k;rw[x0.out,h0.out,H8.out];exact Nat.lt_succ_of_le (Xr t)
 clear hrj hre hgb H4 HY;go_wp2_with fail
 go_loopw [5] (fun a wr=> ∃n:Nat,a= d f n/\1<=n/\n<=6/\(∀i,1<=i->i<n->(erL i).isPrefixOf (35::t)=false)/\St Z W v r s B wr j4 false v out) (fun a _=>6-(intOf a).toNat)
 case atStart=>exact⟨1,rfl,by omega,by omega,fun i h1 h2=>by omega,g7.out⟩
 case round=>
  clear g7;obtain⟨n,rfl,H0,hn6,g2,h9⟩:=hrel;have g6:Hid (St Z W v r s B wr j4 false v out):=h9;have h8:Hid (∀i,1<=i->i<n->(erL i).isPrefixOf (35::t)=false):=g2;obtain⟨G4,⟨c0,c1,c2,c3⟩,f1,f2,f3⟩:=h9.st.rs;clear h9 g2;by_cases g4:n<=5
  rotate_left
  ·obtain rfl:n=6:=by omega
   have q: ¬((6:Nat):Int)<=5:=by omega
   go_wp2_with fail
   go_ret;refine⟨_,j4,_,v,_,rfl,g6.out.mad,?_,by have:=g1.out;omega⟩;rw[Qed g9.out h0.out (by rw[h0.out];exact BT h8.out)];exact⟨fun e=>(by cases e),fun _=>Ys⟩
  ·have q:(n:Int)<=5:=by omega
   obtain⟨e,nm,he,g3,he1,he10,hnl,g5⟩:=Qrv n H0 g4;have G9:Hid (e.extract 1 e.size=nm):=g3;have G3:Hid (erL n=35::nm.data.toList):=g5;have HE:Hid (erT (n:Int)=e):=he;have p0:(1:Int)<=(e.size:Int):=by omega
   clear g3 g5 he;go_wp2_with fail
   refine(Zo (n:Int) _ (by omega) (by omega)).mono ?_;rintro _ w5 ⟨rfl,hb5⟩;rw[HE.out];have h4:Hid (St Z W v r s B w5 j4 false v out):=g6.out.bel hb5;obtain⟨_,⟨c0,c1,c2,c3⟩,f1,f2,f3⟩:=h4.out.st.rs;clear hb5;go_wp2_with fail
   try rw[G9.out]
   have h5:Hid ((erL n).isPrefixOf (35::t)=nm.data.toList.isPrefixOf (rest s j4)):=by show _=_;rw[G3.out,H8.out];simp[List.isPrefixOf]
   have g8:Hid ((n:Int)+1=((n+1:Nat):Int)):=by show _=_;omega
   have hw1:IntKind.i64.wrap ((n:Int)+1)=(n:Int)+1:=by rw[o];omega
   have hwr:IntKind.i64.wrap ((j4:Int)+(nm.size:Int))=(j4:Int)+(nm.size:Int):=by rw[o];omega
   by_cases H1:s.size<j4+nm.size
   ·have q1: ¬(j4:Int)+(nm.size:Int)<=(s.size:Int):=by omega
    have q1':decide ((j4:Int)+(nm.size:Int)<=(s.size:Int))=false:=by simpa using q1
    have HB:Hid ((erL n).isPrefixOf (35::t)=false):=by show _=_;rw[h5.out,Qge G4 H1]
    go_quiet (fail)
    go_wp2_with fail
    exact⟨⟨n+1,by rw[g8.out],by omega,by omega,fun i h1 h2=>by rcases Nat.lt_succ_iff_lt_or_eq.1 h2 with h3 | rfl;exact h8.out i h1 h3;exact HB.out,h4.out.draws _⟩,by simp[intOf];omega⟩
   ·have q1:(j4:Int)+(nm.size:Int)<=(s.size:Int):=by omega
    have q2:(0:Int)<=(j4:Int):=by omega
    have q4:(j4:Int)<=(j4:Int)+(nm.size:Int):=by omega
    have q5:(0:Int)<=(j4:Int)+(nm.size:Int):=by omega
    have q6:((j4:Int)+(nm.size:Int)).toNat=j4+nm.size:=by omega
    have HP:Hid (nm.data.toList.isPrefixOf (rest s j4)=((s.extract j4 (j4+nm.size)).toList==nm.toList)):=Qgf (by omega);cases heq:((s.extract j4 (j4+nm.size)).toList==nm.toList)
    ·have HB:Hid ((erL n).isPrefixOf (35::t)=false):=by show _=_;rw[h5.out,HP.out,heq]
     go_quiet (fail)
     go_wp2_with fail
     exact⟨⟨n+1,by rw[g8.out],by omega,by omega,fun i h1 h2=>by rcases Nat.lt_succ_iff_lt_or_eq.1 h2 with h3 | rfl;exact h8.out i h1 h3;exact HB.out,h4.out.draws _⟩,by simp[intOf];omega⟩
    ·have HB:Hid ((erL n).isPrefixOf (35::t)=true):=by show _=_;rw[h5.out,HP.out,heq]
     go_quiet (fail)
     go_wp2_with fail
     have H3:Hid (St Z W v r s B ((w5.drewN nq).setCell ⟨r,1,none⟩ (d f ((j4:Int)+(nm.size:Int)))) (j4+nm.size) false v out):=(h4.out.draws nq).at (j4+nm.size) _ (by omega) (by omega)
     have G5:Hid (rest s (j4+nm.size)=(sb l).drop (erL n).length):=by
      show _=_;rw[Bt,H8.out,h0.out,G3.out];simp
     have x2:Hid (Xd (sb l)=n):=by show _=_;rw[h0.out];exact Qg7 H0 g4 HB.out h8.out
     have h7:Hid (1<=n):=H0;clear HB h5 HP heq c0 c1 c2 c3 f1 f2 f3;refine(GP (n:Int) _).mono ?_;rintro _ w7 ⟨rfl,hb7⟩;have h6:Hid (St Z W v r s B w7 (j4+nm.size) false v out):=H3.out.bel hb7;clear hb7;go_wp2_with fail
     refine(VH (RF.cst 4 (n:Int) []) none 0 r s (j4+nm.size) false v B out _ (h6.out.st) (YE _ _) (fun _ h=>by cases h) (by show(bs []).size<=maxLen;exact Nat.zero_le _) (by have:=g1.out;omega)).mono ?_;rintro _ w8 ⟨v8,rfl,hs8,hnb8,hfr8⟩;have H2:Hid (St Z W v r s B w8 (j4+nm.size) (false || !(decide (out.length+1<=60)&&Qp (RF.cst 4 (n:Int) []))) v8 (out++ [RF.cst 4 (n:Int) []])):=h6.out.step hs8 hnb8 hfr8;clear hs8 hnb8 hfr8;go_wp2_with fail
     go_ret;refine⟨_,_,_,v8,_,rfl,H2.out,?_,?_⟩
     ·rw[Qgr g9.out h0.out x2.out h7.out,<-G5.out];exact Xz HG.out
     ·rw[g];have:=g1.out;simp only[u,z];omega
theorem Qmj: ∀k:Fin 10,Xc (fnT ((k.val:Int)+1))=(k.val:Int)+1/\fnT ((k.val:Int)+1)≠ []:=by decide
theorem Qmm(n:Nat)(h1:1<=n)(h:n<=10):Xc (fnT (n:Int))=(n:Int)/\fnT (n:Int)≠ []:=by
 have h9:=Qmj ⟨n-1,by omega⟩;simp only[show((n-1:Nat):Int)+1=(n:Int) by omega]at h9;exact h9
theorem BP{w:List UInt8}(h:Xc w≠0): ∃n:Nat,1<=n/\n<=10/\fnT (n:Int)=w:=by
 revert h
 unfold Xc;repeat' split
 all_goals first
  | (intro h;exact absurd rfl h)
  | skip
 ·rename_i h;intro _;exact⟨1,by omega,by omega,h.symm⟩
 ·rename_i h;intro _;exact⟨2,by omega,by omega,h.symm⟩
 ·rename_i h;intro _;exact⟨3,by omega,by omega,h.symm⟩
 ·rename_i h;intro _;exact⟨4,by omega,by omega,h.symm⟩
 ·rename_i h;intro _;exact⟨5,by omega,by omega,h.symm⟩
 ·rename_i h;intro _;exact⟨6,by omega,by omega,h.symm⟩
 ·rename_i h;intro _;exact⟨7,by omega,by omega,h.symm⟩
 ·rename_i h;intro _;exact⟨8,by omega,by omega,h.symm⟩
 ·rename_i h;intro _;exact⟨9,by omega,by omega,h.symm⟩
 ·rename_i h;intro _;exact⟨10,by omega,by omega,h.symm⟩
theorem Qfu(h:l.takeWhile isW≠ []): ∃c t,l=c::t/\isW c=true:=by
 cases l with
 | nil=>exact absurd rfl h
 | cons c t=>
  refine⟨c,t,rfl,?_⟩;cases hc:isW c
  ·exact absurd (by simp[List.takeWhile,hc]) h
  ·rfl
theorem Qo4{k' n':Int}{s':ByteArray}(h:vlA k n s=vlA k' n' s'):s=s':=by
 unfold vlA at h;simp only[Value.tuple.injEq,Array.mk.injEq,List.cons.injEq,Value.agg.injEq,Value.string.injEq]at h;exact h.1.2.2.1
theorem Qf7{k' n':Int}{t:ByteArray}(h:rvB k n s=vlA k' n' t):t=s:=by
 rcases Bp k n s with e | e
 ·rw[e]at h;exact(Qo4 h).symm
 ·rw[e]at h;unfold Mo vlA at h;simp at h
theorem Qp0{t:ByteArray}(h:rvS s=vlA k n t):t.size<=s.size:=by
 have hz: ∀(k' n':Int),rvB k' n' ⟨#[]⟩=vlA k n t->t.size<=s.size:=fun k' n' h=>by rw[Qf7 h];exact Nat.zero_le _
 unfold rvS at h;split at h
 ·split at h
  ·rw[Qf7 h,ByteArray.size_extract];omega
  split at h
  ·exact hz _ _ h
  split at h
  ·exact hz _ _ h
  split at h
  ·exact hz _ _ h
  ·unfold rvO at h;split at h
   ·exact hz _ _ h
   ·unfold Mo vlA at h;simp at h
 ·exact hz _ _ h
theorem Qng{v:Int × Int × List UInt8}(h:rvL l=some v):(bs v.2.2).size<=l.length:=by
 have h1:=Qp0 (Qfg h);rw[QD]at h1;rw[QD]at h1;rw[QD];exact h1
def NH(l:List UInt8):Prop:=l.head?≠some 45/\l.head?≠some 40/\l.head?≠some 34/\l.head?≠some 35
def rvE(w:List UInt8):Option (Int × Int × List UInt8):=if w= []then none else rvL w
theorem Qqv(hn:l.length<=1000)(hh:NH (sb l))(hc: ∀i:Nat,1<=i->i<=10->fnT (i:Int)=(sb l).takeWhile isW->pk ((sb l).dropWhile isW)≠ [40]):
  PB RF 3 0 0 [] l out=Qnp (rvE ((sb l).takeWhile isW)) (rpL ((sb l).takeWhile isW)) ((sb l).dropWhile isW) out:=by
 by_cases hw:(sb l).takeWhile isW= []
 ·have h1:PB RF 3 0 0 [] l out=none:=(Qqu hn hh.1 hh.2.1 hh.2.2.1 hh.2.2.2 (fun c t hs=>by
   rw[hs]at hw;cases hq:isW c
   ·rfl
   ·rw[List.takeWhile_cons,pS hq]at hw;cases hw)).1
  rw[h1,hw,VI,rvE,pS rfl];rfl
 ·obtain⟨c,t,hs,hq⟩:=Qfu hw;by_cases hf:Xc ((sb l).takeWhile isW)=0
  ·rw[Qlg (x:=rvL ((sb l).takeWhile isW)) (y:=rpL ((sb l).takeWhile isW)) hn hs hq hf rfl rfl,rvE,nG hw]
  ·obtain⟨n,h1,h2,h0⟩:=BP hf;rw[Qno hn hs hq hf,nG (hc n h1 h2 h0)];obtain⟨g1,g2⟩:=Qgq ⟨n-1,by omega⟩;simp only[show((n-1:Nat):Int)+1=(n:Int) by omega]at g1 g2;rw[h0]at g1 g2;rw[rvE,nG hw,g1,g2];rfl
theorem Qqw{n:Nat}(hn:l.length<=1000)(h1:1<=n)(h10:n<=10)(hw:fnT (n:Int)=(sb l).takeWhile isW)(hp:pk ((sb l).dropWhile isW)= [40]):
  PB RF 3 0 0 [] l out=Yg (PB RF 6 0 0 [] (nx ((sb l).dropWhile isW)) out) (fun k l1 o1=>PB RF 5 (n:Int) 0 [k] l1 o1):=by
 obtain⟨g1,g2⟩:=Qmm n h1 h10;obtain⟨c,t,hs,hq⟩:=Qfu (l:=sb l) (by rw[<-hw];exact g2);have hf:Xc ((sb l).takeWhile isW)=(n:Int):=by rw[<-hw];exact g1
 rw[Qno hn hs hq (by rw[hf];omega),pS hp,hf]
theorem MR(a b:List UInt8):((bs a).toList==(bs b).toList)=decide (a=b):=by
 rw[ByteArray.toList_eq,ByteArray.toList_eq];show(a==b)=_;rw[Bool.eq_iff_iff];simp
theorem Qr0(h:pk (l.dropWhile isW)= [40]):(sb (nx (l.dropWhile isW))).length<l.length:=by
 have h1:=GV (l:=l.dropWhile isW) (by rw[h];simp);have h2:=Xr (nx (l.dropWhile isW));have h3:=(List.dropWhile_sublist isW (l:=l)).length_le;omega
theorem NN{m:Nat}(hm:m<=20000)(hRP:RPC)(hC:Qe8 Z r s B m)(hs:s.size<=1000)(W:World)(k:Nat)(v:Value)(out:List FN)(h:RdS Z W r s k false v B out)(hg:good out=true)(hk:12*QV s k+2<=m+1)(hsb:NH (sb (rest s k))):
  Calls prog 164 #[.pointer (some ⟨r,0,none⟩)] W (Qdh Z r s B (m+1) W v (PB RF 3 0 0 [] (rest s k) out)):=by
 have x1:Hid RPC:=hRP;have HC:Hid (Qe8 Z r s B m):=hC;clear hRP hC;have HG:Hid (good out=true):=hg;have g9:Hid (St Z W v r s B W k false v out):=St.start h;obtain⟨l,HL⟩: ∃l,Hid (rest s k=l):=⟨_,rfl⟩;have x4:Hid (l.length<=1000):=by show _<=_;rw[<-HL.out];exact(YN s k hs).2
 have y2:Hid (QV s k=(sb l).length):=by show _=_;unfold QV;rw[HL.out]
 rw[HL.out]at hsb ⊢;have H5:Hid (NH (sb l)):=hsb;have H4:Hid (out.length<=60):=Yn hg;have X1:Hid (sb (rest s k)=sb l):=by show _=_;rw[HL.out]
 clear h hg hsb;go_enter func164,ntmps164;go_wp2_with fail
 have G4:Hid (isB false (bs [45]) (rest s k)=false/\isR false (bs [45]) (rest s k)=sb (rest s k)):=Um (by rw[X1.out];exact H5.out.1);refine(Yq r s (bs [45]) k false v W g9.out.st.rs hs (by decide)).mono ?_;rintro e w1 ⟨rfl,j1,hrj,hre,hgb⟩;rw[G4.out.1];rw[G4.out.2,X1.out]at hre;have g8:Hid (St Z W v r s B w1 j1 false v out):=g9.out.gb hrj hgb;have y1:Hid (rest s j1=sb l):=hre
 have X0:Hid (sb (rest s j1)=sb l):=by show _=_;rw[y1.out,Zj]
 clear hrj hre hgb g9 G4;go_wp2_with fail
 have G3:Hid (isB false (bs [40]) (rest s j1)=false/\isR false (bs [40]) (rest s j1)=sb (rest s j1)):=Um (by rw[X0.out];exact H5.out.2.1);refine(Yq r s (bs [40]) j1 false v w1 g8.out.st.rs hs (by decide)).mono ?_;rintro e w2 ⟨rfl,j2,hrj,hre,hgb⟩;rw[G3.out.1];rw[G3.out.2,X0.out]at hre;have g7:Hid (St Z W v r s B w2 j2 false v out):=g8.out.gb hrj hgb;have y0:Hid (rest s j2=sb l):=hre
 have x7:Hid (sb (rest s j2)=sb l):=by show _=_;rw[y0.out,Zj]
 clear hrj hre hgb g8 G3;go_wp2_with fail
 have G2:Hid (isB false (bs [34]) (rest s j2)=false/\isR false (bs [34]) (rest s j2)=sb (rest s j2)):=Um (by rw[x7.out];exact H5.out.2.2.1);refine(Yq r s (bs [34]) j2 false v w2 g7.out.st.rs hs (by decide)).mono ?_;rintro e w3 ⟨rfl,j3,hrj,hre,hgb⟩;rw[G2.out.1];rw[G2.out.2,x7.out]at hre;have g6:Hid (St Z W v r s B w3 j3 false v out):=g7.out.gb hrj hgb;have X8:Hid (rest s j3=sb l):=hre
 have x6:Hid (sb (rest s j3)=sb l):=by show _=_;rw[X8.out,Zj]
 clear hrj hre hgb g7 G2;go_wp2_with fail
 have G1:Hid (isB false (bs [35]) (rest s j3)=false/\isR false (bs [35]) (rest s j3)=sb (rest s j3)):=Um (by rw[x6.out];exact H5.out.2.2.2);refine(Yq r s (bs [35]) j3 false v w3 g6.out.st.rs hs (by decide)).mono ?_;rintro e w4 ⟨rfl,j4,hrj,hre,hgb⟩;rw[G1.out.1];rw[G1.out.2,x6.out]at hre;have g5:Hid (St Z W v r s B w4 j4 false v out):=g6.out.gb hrj hgb;have x2:Hid (rest s j4=sb l):=hre
 have y6:Hid (sb (rest s j4)=sb l):=by show _=_;rw[x2.out,Zj]
 clear hrj hre hgb g6 G1;go_wp2_with fail
 refine(ET r s j4 false v w4 g5.out.st.rs hs).mono ?_;rintro e w5 ⟨rfl,j5,hrj5,hre5,hgb5⟩;have x0:Hid (St Z W v r s B w5 j5 false v out):=g5.out.gb hrj5 hgb5;have H3:Hid (((rest s j4).takeWhile isW).length<=1000):=EP s j4 hs;rw[x2.out]at hre5 H3 ⊢;obtain⟨wd,H7⟩: ∃wd,Hid ((sb l).takeWhile isW=wd):=⟨_,rfl⟩;obtain⟨dw,H2⟩: ∃dw,Hid ((sb l).dropWhile isW=dw):=⟨_,rfl⟩
 rw[H7.out]at H3 ⊢;obtain⟨wb,H0⟩: ∃wb,Hid ((⟨wd.toArray⟩:ByteArray)=wb):=⟨_,rfl⟩;rw[H0.out];have h7:Hid (bs wd=wb):=H0.out;clear H0;have X5:Hid (wb.size<=1000):=by show _<=_;rw[<-h7.out,QD];exact H3.out
 have x5:Hid (sb (rest s j5)=sb dw):=by show _=_;rw[hre5,H2.out]
 clear hrj5 hre5 hgb5 g5;go_wp2_with fail
 go_loopw [8] (fun a wr=> ∃(n j:Nat),a= d f n/\1<=n/\n<=11/\(∀i:Nat,1<=i->i<n->fnT (i:Int)=wd->pk dw≠ [40])/\sb (rest s j)=sb dw/\St Z W v r s B wr j false v out) (fun a _=>11-(intOf a).toNat)
 case atStart=>exact⟨1,j5,rfl,by omega,by omega,fun i h1 h2=>by omega,x5.out,x0.out⟩
 case round=>
  clear x0 x5;obtain⟨n,j,rfl,X2,hn11,G8,G9,G7⟩:=hrel;have H8:Hid (St Z W v r s B wr j false v out):=G7;have g0:Hid (∀i:Nat,1<=i->i<n->fnT (i:Int)=wd->pk dw≠ [40]):=G8;have HJ:Hid (sb (rest s j)=sb dw):=G9;clear G7 G8 G9;by_cases g4:n<=10
  ·have q:(n:Int)<=10:=by omega
   have x3:Hid ((n:Int)+1=((n+1:Nat):Int)):=by show _=_;omega
   have hw1:IntKind.i64.wrap ((n:Int)+1)=(n:Int)+1:=by rw[o];omega
   go_wp2_with fail
   refine(Bl (n:Int) _ (by omega) (by omega)).mono ?_;rintro _ w6 ⟨rfl,hb6⟩;have h6:Hid (St Z W v r s B w6 j false v out):=H8.out.bel hb6;obtain⟨fb,G5⟩: ∃fb,Hid (bs (fnT (n:Int))=fb):=⟨_,rfl⟩;rw[G5.out];clear hb6 H8;by_cases hf:fnT (n:Int)=wd
   ·have X3:(fb.toList==wb.toList)=true:=by rw[<-G5.out,<-h7.out,MR];simpa using hf
    have HF:Hid (fnT (n:Int)=wd):=hf;clear hf;go_wp2_with fail
    by_cases hp:pk dw= [40]
    ·have HP:Hid (pk dw= [40]):=hp;have H6:Hid (pk (rest s j)= [40]):=by show _=_;rw[<-Jd,HJ.out,Jd,hp]
     have G0:Hid (nx (rest s j)=nx dw):=VL HJ.out (by rw[H6.out];simp);have g2:Hid (isB false (bs [40]) (rest s j)=true):=by show _=_;rw[Vz _ 40 (by simp),H6.out];rfl
     have y5:Hid (isR false (bs [40]) (rest s j)=nx dw):=by show _=_;rw[UJ (by simp) H6.out,G0.out]
     clear hp;refine(Yq r s (bs [40]) j false v _ h6.out.st.rs hs (by decide)).mono ?_;rintro _ w7 ⟨rfl,j7,hrj7,hre7,hgb7⟩;rw[g2.out];rw[y5.out]at hre7;have h5:Hid (St Z W v r s B w7 j7 false v out):=h6.out.gb hrj7 hgb7;have g1:Hid (rest s j7=nx dw):=hre7
     have y4:Hid (QV s j7<QV s k):=by
      show(sb (rest s j7)).length<QV s k;rw[y2.out,g1.out,<-H2.out];exact Qr0 (by rw[H2.out];exact HP.out)
     clear hrj7 hre7 hgb7;go_wp2_with fail
     refine(HC.out w7 j7 v out (n:Int) h5.out.st HG.out (by omega) (by omega) (by have:=y4.out;omega)).mono ?_;rintro _ w8 ⟨x8,k8,bad8,v8,out8,rfl,hst8,hag8,hlen8⟩;have h0:Hid (St Z W v r s B w8 k8 bad8 v8 out8):=h5.out.step hst8.st hst8.nb hst8.fr
     have G6:Hid (YC (PB RF 3 0 0 [] l out) bad8 x8 (rest s k8) out8):=by
      show YC _ _ _ _ _;rw[Qqw x4.out X2 g4 (by rw[H7.out];exact HF.out) (by rw[H2.out];exact HP.out),H2.out,<-g1.out];exact hag8
     have y3:Hid (out8.length<=61+m):=hlen8;clear hst8 hag8 hlen8;go_wp2_with fail
     go_ret;exact⟨x8,k8,bad8,v8,out8,rfl,h0.out,G6.out,Nat.le_succ_of_le y3.out⟩
    ·have HP:Hid (¬pk dw= [40]):=hp;have H6:Hid (pk (rest s j)≠ [40]):=by show _≠_;rw[<-Jd,HJ.out,Jd];exact hp
     have g2:Hid (isB false (bs [40]) (rest s j)=false/\isR false (bs [40]) (rest s j)=sb (rest s j)):=UK (by simp) H6.out;clear hp;refine(Yq r s (bs [40]) j false v _ h6.out.st.rs hs (by decide)).mono ?_;rintro _ w7 ⟨rfl,j7,hrj7,hre7,hgb7⟩;rw[g2.out.1];rw[g2.out.2,HJ.out]at hre7;have h5:Hid (St Z W v r s B w7 j7 false v out):=h6.out.gb hrj7 hgb7
     have g1:Hid (sb (rest s j7)=sb dw):=by show _=_;rw[hre7,Zj]
     clear hrj7 hre7 hgb7;go_wp2_with fail
     exact⟨⟨n+1,j7,by rw[x3.out],by omega,by omega,fun i h1 h2 h3=>by rcases Nat.lt_succ_iff_lt_or_eq.1 h2 with h4 | rfl;exact g0.out i h1 h4 h3;exact HP.out,g1.out,h5.out⟩,by simp[intOf];omega⟩
   ·have X3:(fb.toList==wb.toList)=false:=by rw[<-G5.out,<-h7.out,MR];simpa using hf
    have HF:Hid (¬fnT (n:Int)=wd):=hf;clear hf;go_wp2_with fail
    exact⟨⟨n+1,j,by rw[x3.out],by omega,by omega,fun i h1 h2 h3=>by rcases Nat.lt_succ_iff_lt_or_eq.1 h2 with h4 | rfl;exact g0.out i h1 h4 h3;exact absurd h3 HF.out,HJ.out,h6.out⟩,by simp[intOf];omega⟩
  ·obtain rfl:n=11:=by omega
   have q: ¬((11:Nat):Int)<=10:=by omega
   have H9:Hid (PB RF 3 0 0 [] l out=Qnp (rvE wd) (rpL wd) dw out):=by
    show _=_;rw[Qqv x4.out H5.out (fun i h1 h2 h3=>by rw[H2.out];exact g0.out i h1 (by omega) (by rw[H7.out]at h3;exact h3)),H7.out,H2.out]
   clear g0;go_wp2_with fail
   refine(VW wb _ (by have:=X5.out;omega)).mono ?_;rintro _ w6 ⟨rfl,hb6⟩;have h6:Hid (St Z W v r s B w6 j false v out):=H8.out.bel hb6;clear hb6 H8;cases hx:rvL wd with
   | none=>
    rw[<-h7.out,Qsq hx];unfold Mo;try rw[h7.out]
    have HX:Hid (rvE wd=none):=by show _=_;unfold rvE;rw[hx];simp
    clear hx;go_wp2_with fail
    have h5:Hid (St Z W v r s B (w6.alloc (C #[d f 0,d f 0,A ⟨#[]⟩] 144)) j false v out):=h6.out.bel (by go_grown);have h9:=x1.out wd (w6.alloc (C #[d f 0,d f 0,A ⟨#[]⟩] 144)) (by have:=H3.out;omega);rw[h7.out]at h9;refine h9.mono ?_;clear h9;rintro _ w8 ⟨rfl,hb8⟩;have h0:Hid (St Z W v r s B w8 j false v out):=h5.out.bel hb8
    clear hb8 h5;cases hy:rpL wd with
    | none=>
     rw[Qd7 hy];have HN:Hid (PB RF 3 0 0 [] l out=none):=by show _=_;rw[H9.out,HX.out,hy];rfl
     obtain⟨_,⟨c0,c1,c2,c3⟩,f1,f2,f3⟩:=h0.out.st.rs;have g3:r<w8.heap.size:=h0.out.st.rs.lt;clear hy;go_wp2_with fail
     go_ret;exact⟨0,j,true,v,out,rfl,h0.out.mad.bel (by go_grown),by rw[HN.out];exact⟨fun e=>(by cases e),fun _=>Ys⟩,by have:=H4.out;omega⟩
    | some p=>
     rw[Qa4 hy];have HN:Hid (PB RF 3 0 0 [] l out=some ((out.length:Int),sb dw,out++ [RF.cel p])):=by show _=_;rw[H9.out,HX.out,hy];rfl
     clear hy;go_wp2_with fail
     refine(VH (RF.cel p) none 0 r s j false v B out _ (h0.out.st.bel (by go_grown)) (YE _ _) (fun _ h=>by cases h) (by show(⟨#[]⟩:ByteArray).size<=maxLen;exact Nat.zero_le _) (by have:=H4.out;omega)).mono ?_;rintro _ w9 ⟨v9,rfl,hs9,hnb9,hfr9⟩;have H1:Hid (St Z W v r s B w9 j (false || !(decide (out.length+1<=60)&&Qp (RF.cel p))) v9 (out++ [RF.cel p])):=(h0.out.bel (by go_grown)).step hs9 hnb9 hfr9;clear hs9 hnb9 hfr9;go_wp2_with fail
     go_ret;refine⟨_,j,_,v9,_,rfl,H1.out,?_,?_⟩
     ·rw[HN.out,<-HJ.out];exact Xz HG.out
     ·rw[g];have:=H4.out;simp only[u,z];omega
   | some vv=>
    have X7:Hid ((bs vv.2.2).size<=maxLen):=by show _<=_;have h1:=Qng hx;have h2:=H3.out;unfold maxLen;omega
    rw[<-h7.out,Qfg hx];unfold vlA;try rw[h7.out]
    by_cases h8:wd= []
    ·have X6:Hid (wd= []):=h8;have HX:Hid (rvE wd=none):=by show _=_;unfold rvE;rw[pS h8]
     have X4:wb.toList.isEmpty=true:=by rw[<-h7.out,ByteArray.toList_eq,h8];rfl
     clear hx h8;go_wp2_with fail
     have h5:Hid (St Z W v r s B (w6.alloc (C #[d f vv.1,d f vv.2.1,A (bs vv.2.2)] 144)) j false v out):=h6.out.bel (by go_grown);have h9:=x1.out wd (w6.alloc (C #[d f vv.1,d f vv.2.1,A (bs vv.2.2)] 144)) (by have:=H3.out;omega);rw[h7.out]at h9;refine h9.mono ?_;clear h9;rintro _ w8 ⟨rfl,hb8⟩;have h0:Hid (St Z W v r s B w8 j false v out):=h5.out.bel hb8
     clear hb8 h5;have hy:rpL wd=none:=by rw[X6.out];exact VI
     rw[Qd7 hy];have HN:Hid (PB RF 3 0 0 [] l out=none):=by show _=_;rw[H9.out,HX.out,hy];rfl
     obtain⟨_,⟨c0,c1,c2,c3⟩,f1,f2,f3⟩:=h0.out.st.rs;have g3:r<w8.heap.size:=h0.out.st.rs.lt;clear hy;go_wp2_with fail
     go_ret;exact⟨0,j,true,v,out,rfl,h0.out.mad.bel (by go_grown),by rw[HN.out];exact⟨fun e=>(by cases e),fun _=>Ys⟩,by have:=H4.out;omega⟩
    ·have HX:Hid (rvE wd=some vv):=by show _=_;unfold rvE;rw[nG h8,hx]
     have HN:Hid (PB RF 3 0 0 [] l out=some ((out.length:Int),sb dw,out++ [RF.cst vv.1 vv.2.1 vv.2.2])):=by show _=_;rw[H9.out,HX.out];rfl
     have X4:wb.toList.isEmpty=false:=by
      rw[<-h7.out,ByteArray.toList_eq];show wd.isEmpty=false;cases hq:wd with
      | nil=>exact absurd hq h8
      | cons a t=>rfl
     clear hx h8;go_wp2_with fail
     refine(VH (RF.cst vv.1 vv.2.1 vv.2.2) none 0 r s j false v B out _ (h6.out.st.bel (by go_grown)) (YE _ _) (fun _ h=>by cases h) (X7.out) (by have:=H4.out;omega)).mono ?_;rintro _ w9 ⟨v9,rfl,hs9,hnb9,hfr9⟩;have H1:Hid (St Z W v r s B w9 j (false || !(decide (out.length+1<=60)&&Qp (RF.cst vv.1 vv.2.1 vv.2.2))) v9 (out++ [RF.cst vv.1 vv.2.1 vv.2.2])):=(h6.out.bel (by go_grown)).step hs9 hnb9 hfr9;clear hs9 hnb9 hfr9;go_wp2_with fail
     go_ret;refine⟨_,j,_,v9,_,rfl,H1.out,?_,?_⟩
     ·rw[HN.out,<-HJ.out];exact Xz HG.out
     ·rw[g];have:=H4.out;simp only[u,z];omega
end Go.Proofs.YtomadadmakdkgaaGreatDoor
