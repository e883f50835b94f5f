import Derived.Test.YtbdhinckiccniaaGreatDoorMn
import Derived.Test.YtbdhinckiccniaaGreatDoorRa
import Derived.Test.YtbdhinckiccniaaGreatDoorSe
import Derived.Test.YtbdhinckiccniaaGreatDoorRc
import Derived.Test.YtbdhinckiccniaaGreatDoorRe
set_option linter.unusedSimpArgs false
set_option linter.unusedVariables false
set_option maxHeartbeats 16000000
set_option maxRecDepth 100000
namespace Go.Proofs.YtbdhinckiccniaaGreatDoor
open Go.RowKit Go.Maps
theorem Bv{W:World}{B B':Nat}{e:TypeId}{s n:Nat}{v v':Value}{xs:List Value}{us:List Int}(h:W.ownsRow B e s v n xs)(h':UpO W B' v' us)(hne:e≠2):v.ownBlock=none∨v.ownBlock≠v'.ownBlock:=by
 rcases h'.ne_ty h (fun e9=>hne e9.symm)with h9 | h9
 ·cases hv:v.ownBlock with
  | none=>exact Or.inl rfl
  | some k=>right;rw[h9];simp
 ·exact Or.inr fun e9=>h9 e9.symm
theorem FrX.up{lo hi:Nat}{w w':World}{v:Value}{us:List Int}(h:UpO w lo v us)(hh: ∀k,v.ownBlock=some k→k<hi)(hs:Shp w w')(hg:w.grownBy w' v.ownBlock):FrX lo hi w w':=
 ⟨hg.os,hg.tape,hg.output,hg.size,fun k hk ho=>hg.block k hk (fun e=>by
  have h1:=(h.lt e.symm).1;have h2:=hh k e.symm
  omega),hs⟩
theorem UpO.stored{W:World}{B g o n cap:Nat}{us:List Int}(h:UpO W B (.slice (some ⟨g,o,none⟩) n cap) us)(hn:us.length=n)(t:Nat)(ht:t<n)(z:Int):
  UpO (W.setCell ⟨g,o+t,none⟩ (.int .i64 z)) B (.slice (some ⟨g,o,none⟩) n cap) (us.set t z)∧W.grownBy (W.setCell ⟨g,o+t,none⟩ (.int .i64 z)) (some g)∧Shp W (W.setCell ⟨g,o+t,none⟩ (.int .i64 z))∧(∃u,W.cell? ⟨g,o+t,none⟩=some u)∧W.frozen? ⟨g,o+t,none⟩=false∧g<W.heap.size:=by
 subst hn;rcases h with⟨h8,_⟩ | ⟨g',o',cap',cur,e8,hb,hg,h1,h2,h3⟩
 ·cases h8
 ·cases e8
  have hs:=heap_setCell_same W g (o+t) cur 2 (.int .i64 z) hg;have hgr:W.grownBy (W.setCell ⟨g,o+t,none⟩ (.int .i64 z)) (some g):=⟨rfl,rfl,rfl,by simp,fun k hk hr=>Below.heap_setCell _ _ _ _ (fun e=>hr (by simp at e;rw[e]))⟩;refine⟨Or.inr ⟨g,o,cap,cur.setIfInBounds (o+t) (.int .i64 z),by rw[List.length_set],hb,hs,by rw[List.length_set];exact h1,by rw[List.length_set];simpa using h2,?_⟩,hgr,fun k e c hk=> ?_,?_,?_,(Array.getElem?_eq_some_iff.1 hg).1⟩
  ·rw[List.length_set,Array.toList_setIfInBounds,List.drop_set,if_neg (by omega),show o+t-o=t by omega,List.take_set,h3,List.map_set]
  ·by_cases e9:k=g
   ·subst e9;rw[hg]at hk;cases hk
    exact⟨_,hs,by simp⟩
   ·exact⟨c,by rw[Below.heap_setCell _ _ _ _ (fun e=>e9 (by simpa using e))];exact hk,rfl⟩
  ·refine⟨cur[o+t]'(by omega),?_⟩;unfold World.cell?;simp only[hg];exact Array.getElem?_eq_getElem (by omega)
  ·unfold World.frozen?;simp only[hg];simp
theorem Uu{B n:Nat}{v:Value}{us:List Int}(k:Int)(w:World)(h:UpO w B v us)(hul:us.length=n)(hn:n≤1048576)(h0:0≤k)(h1:k≤1099511627776000):
  Calls Tryz.prog 86 #[v,.int .i64 k] w fun e w'=>e= .returned (.int .i64 (k+(n:Int)))∧UpO w' B v (VO k n)∧w.grownBy w' v.ownBlock∧Shp w w':=by
 have HO:Hid (UpO w B v us):=h;obtain⟨A,cap,rfl,_⟩:=h.int;rw[hul]at HO ⊢;clear h;obtain⟨LL,HLL⟩: ∃LL,Hid (VO k n=LL):=⟨_,rfl⟩;have HLA:Hid (∀t:Nat,t<n→LL[t]? =some (k+(t:Int))):=fun t ht=>by rw[←HLL.out];exact itMk_at k ht
 have HLN:Hid (LL.length=n):=by show _=_;rw[←HLL.out,itMk_len]
 rw[HLL.out];go_enter Tryz.func86,Tryz.ntmps86;go_wp2_with fail
 go_loopw [1,5] (fun q i wr=> ∃t:Nat,t≤n∧i= .int .i64 t∧q= .int .i64 (k+(t:Int))∧(∃ys:List Int,UpO wr B (.slice A n cap) ys∧ys.length=n∧ ∀j,j<t→ys[j]? =LL[j]?)∧w.grownBy wr (Value.slice A n cap).ownBlock∧Shp w wr) (fun _ i _=>n-(intOf i).toNat)
 case atStart=>exact⟨0,Nat.zero_le _,rfl,by simp,⟨us,HO.out,hul,fun j hj=>by omega⟩,World.grownBy.refl _ _,Shp.refl _⟩
 case round=>
  clear HO;obtain⟨t,ht,rfl,rfl,⟨ys,hown,hyl,hys⟩,hgr,hsh⟩:=hrel;by_cases hlt:t<n
  ·obtain⟨g,o,rfl⟩: ∃g o,A=some ⟨g,o,none⟩:=by
    rcases hown with⟨h8,h9⟩ | ⟨g,o,cap',cur,e8,_⟩
    ·rw[h9]at hyl;simp at hyl;omega
    ·cases e8;exact⟨g,o,rfl⟩
   obtain⟨s1,s2,s3,⟨z,d0⟩,f0,hg⟩:=hown.stored hyl t hlt (k+(t:Int))
   have HT:Hid (∃zs:List Int,UpO (wr.setCell ⟨g,o+t,none⟩ (.int .i64 (k+(t:Int)))) B (.slice (some ⟨g,o,none⟩) n cap) zs∧zs.length=n∧(∀j,j<t+1→zs[j]? =LL[j]?)∧wr.grownBy (wr.setCell ⟨g,o+t,none⟩ (.int .i64 (k+(t:Int)))) (some g)∧Shp wr (wr.setCell ⟨g,o+t,none⟩ (.int .i64 (k+(t:Int))))):=by
    refine⟨_,s1,by rw[List.length_set];exact hyl,fun j hj=> ?_,s2,s3⟩;by_cases e:j=t
    ·subst e;rw[List.getElem?_set_self (by omega),HLA.out j hlt]
    ·rw[List.getElem?_set_ne (by omega)];exact hys j (by omega)
   have HG:Hid (w.grownBy wr (some g)):=hgr;have HS:Hid (Shp w wr):=hsh;clear hgr hsh hown hys s1 s2 s3;have q0:(0:Int)≤(t:Int):=by omega
   have q1:(t:Int)<(n:Int):=by omega
   go_wp2_with fail
   all_goals
    go_roundw
    case rel=>
     obtain⟨zs,z1,z0,z2,z3,z4⟩:=HT.out;exact⟨t+1,by omega,by simp,by first | rfl | (congr 1;omega),⟨zs,z1,z0,z2⟩,Qa0 HG.out z3,HS.out.trans z4⟩
    case measure=>simp[intOf];omega
  ·have h1: ¬(t:Int)<(n:Int):=by omega
   obtain rfl:t=n:=by omega
   have HE:Hid (ys=LL):=by
    show _=_;apply List.ext_getElem?;intro j;by_cases hj:j<t
    ·exact hys j hj
    ·rw[List.getElem?_eq_none (by omega),List.getElem?_eq_none (by have:=HLN.out;omega)]
   rw[HE.out]at hown;go_wp2_with fail
   go_ret;exact⟨rfl,hown,hgr,hsh⟩
theorem Qpa{ys zs:List Value}{n:Nat}(h:Qnv ys n)(he: ∀i,i<n→zs[i*3+1]? =ys[i*3+1]?∧zs[i*3+2]? =ys[i*3+2]?):Qnv zs n:=fun i j hi hj hij=>by
 have h1:=h i j hi hj hij;unfold Qno Ot at h1 ⊢;rw[(he i hi).1,(he i hi).2,(he j hj).1,(he j hj).2];exact h1
theorem Qq3{ys zs:List Value}{n hi:Nat}(h:Qvz ys n hi)(he: ∀i,i<n→zs[i*3+1]? =ys[i*3+1]?∧zs[i*3+2]? =ys[i*3+2]?):Qvz zs n hi:=fun i hi=>by
 have h1:=h i hi;unfold Ot at h1 ⊢;rw[(he i hi).1,(he i hi).2];exact h1
theorem VqP.ltB{W:World}{B n:Nat}{ys:List Value}{L:List RV}(h:VqP W B ys L)(hL:L.length=n):Qvz ys n W.heap.size:=fun i hi=>by
 obtain⟨x,hx⟩: ∃x,L[i]? =some x:=⟨_,List.getElem?_eq_getElem (by omega)⟩;obtain⟨u,v,_,y1,y2,k1,k2⟩:=h i x hx;rw[Jw y1,Jw y2];exact⟨fun q hq=>(k1.lt hq).2,fun q hq=>(k2.lt q hq).2⟩
def DqH(W:World)(B hi:Nat)(v:Value)(q:RQ):Prop:= ∃v1 v2 ys,v= .agg #[.int .i64 q.next,v1,v2]∧W.ownsRow B 72 3 v1 q.vs.length ys∧VqP W B ys q.vs∧Qnv ys q.vs.length∧W.ownsRow B 69 2 v2 q.bl.length (Za brL q.bl)∧(∀k,v1.ownBlock=some k→k<hi)∧Qvz ys q.vs.length hi∧ ∀k,v2.ownBlock=some k→k<hi
theorem DqV.toH{W:World}{B:Nat}{v:Value}{q:RQ}(h:DqV W B v q):DqH W B W.heap.size v q:=by
 obtain⟨v1,v2,ys,e,h1,h2,h3,h4⟩:=h;exact⟨v1,v2,ys,e,h1,h2,h3,h4,fun k hk=>(h1.lt k hk).2,h2.ltB rfl,fun k hk=>(h4.lt k hk).2⟩
theorem DqH.below{W W':World}{B hi:Nat}{v:Value}{q:RQ}(h:DqH W B hi v q)(hb:Below W.heap.size W W'):DqH W' B hi v q:=by
 obtain⟨v1,v2,ys,e,h1,h2,h3,h4,b⟩:=h;exact⟨v1,v2,ys,e,Qf h1 hb,h2.below hb,h3,Qf h4 hb,b⟩
def VqMk(W:World)(B:Nat)(zs:List Value)(L:List VR)(k0:Int)(a b c:Nat):Prop:=
 ∀(i:Nat) x,L[i]? =some x→(i<a→zs[i*3]? =some (.int .i64 (kvN L k0 i)))∧ ∃u uc s sc,zs[i*3+1]? =some (.slice u x.ups.length uc)∧zs[i*3+2]? =some (.slice s x.m sc)∧
  (∃us,UpO W B (.slice u x.ups.length uc) us∧us.length=x.ups.length∧(i<b→us=VO (kvN L k0 i+1) x.ups.length))∧
  (∃ss,W.ownsRow B 37 3 (.slice s x.m sc) x.m ss∧(i<c→ss=Za ceL (mkL Qvu 3 (kvN L k0 i+1+(x.ups.length:Int)) x.m)))
theorem VqMk.start{W:World}{B:Nat}{ys:List Value}{L:List RV}{k0:Int}(h:VqP W B ys L):VqMk W B ys (L.map vrQ) k0 0 0 0:=fun i x hx=>by
 rw[List.getElem?_map]at hx;obtain⟨z,hz,rfl⟩:=Option.map_eq_some_iff.1 hx;obtain⟨u,v,y0,y1,y2,k1,k2⟩:=h i z hz;obtain⟨UA,uc,rfl,_⟩:=k1.int;obtain⟨SA,sc,rfl,_,_⟩:=Qo k2;exact⟨fun h=>by omega,UA,uc,SA,sc,y1,y2,⟨_,k1,rfl,fun h=>by omega⟩,⟨_,k2,fun h=>by omega⟩⟩
theorem VqMk.below{W W':World}{B:Nat}{zs:List Value}{L:List VR}{k0:Int}{a b c:Nat}(h:VqMk W B zs L k0 a b c)(hb:Below W.heap.size W W'):VqMk W' B zs L k0 a b c:=fun i x hx=>by
 obtain⟨h0,u,uc,s,sc,y1,y2,⟨us,h1,e1⟩,⟨ss,h2,e2⟩⟩:=h i x hx;exact⟨h0,u,uc,s,sc,y1,y2,⟨us,h1.below hb,e1⟩,⟨ss,Qf h2 hb,e2⟩⟩
theorem VqMk.setId{W:World}{B g n cap t:Nat}{zs:List Value}{L:List VR}{k0:Int}{b c:Nat}(h:VqMk W B zs L k0 t b c)(ho:W.ownsRow B 72 3 (.slice (some ⟨g,0,none⟩) n cap) n zs)(hL:L.length=n)(ht:t<n):
  VqMk (W.setCell ⟨g,t*3,none⟩ (.int .i64 (kvN L k0 t))) B (zs.set (t*3) (.int .i64 (kvN L k0 t))) L k0 (t+1) b c:=fun i x hx=>by
 obtain⟨oq,gq⟩:=ho.stored (t*3) (.int .i64 (kvN L k0 t));have hl:=ho.1;obtain⟨h0,u,uc,s,sc,y1,y2,⟨us,h1,e1⟩,⟨ss,h2,e2⟩⟩:=h i x hx;refine⟨fun hi=> ?_,u,uc,s,sc,by rw[List.getElem?_set_ne (by omega)];exact y1,by rw[List.getElem?_set_ne (by omega)];exact y2,⟨us,h1.kept gq (h1.ne_ty ho (by decide)),e1⟩,⟨ss,h2.kept gq (Qht h2 ho (by decide)),e2⟩⟩;by_cases e:i=t
 ·subst e;rw[List.getElem?_set_self (by omega)]
 ·rw[List.getElem?_set_ne (by omega)];exact h0 (by omega)
theorem VqMk.setUps{W W':World}{B n t:Nat}{zs:List Value}{L:List VR}{k0:Int}{a c:Nat}{x:VR}{u:Option Addr}{uc:Nat}{us0:List Int}(h:VqMk W B zs L k0 a t c)(hp:Qnv zs n)(hL:L.length=n)(hx:L[t]? =some x)(hu:zs[t*3+1]? =some (.slice u x.ups.length uc))(h0:UpO W B (.slice u x.ups.length uc) us0)
  (ho:UpO W' B (.slice u x.ups.length uc) (VO (kvN L k0 t+1) x.ups.length)) (hg:W.grownBy W' (Value.slice u x.ups.length uc).ownBlock):VqMk W' B zs L k0 a (t+1) c:=fun i y hy=>by
 obtain⟨h1,u',uc',s,sc,y1,y2,⟨us,k1,e1⟩,⟨ss,k2,e2⟩⟩:=h i y hy;refine⟨h1,u',uc',s,sc,y1,y2,?_,⟨ss,k2.kept hg (Bv k2 h0 (by decide)),e2⟩⟩;by_cases e:i=t
 ·subst e;rw[hx]at hy;cases hy;rw[hu]at y1;cases y1;exact⟨_,ho,itMk_len _ _,fun _=>rfl⟩
 ·refine⟨us,k1.kept hg ?_,e1.1,fun hi=>e1.2 (by omega)⟩;have:=(hp i t (by rw[←hL];exact(List.getElem?_eq_some_iff.1 hy).1) (by rw[←hL];exact(List.getElem?_eq_some_iff.1 hx).1) e).1;unfold Qno at this;rw[Jw y1,Jw hu]at this;exact this
theorem VqMk.setCells{W W':World}{B n t:Nat}{zs:List Value}{L:List VR}{k0:Int}{a b:Nat}{x:VR}{s:Option Addr}{sc:Nat}{ss0:List Value}(h:VqMk W B zs L k0 a b t)(hp:Qnv zs n)(hL:L.length=n)(hx:L[t]? =some x)(hu:zs[t*3+2]? =some (.slice s x.m sc))(h0:W.ownsRow B 37 3 (.slice s x.m sc) x.m ss0)
  (ho:W'.ownsRow B 37 3 (.slice s x.m sc) x.m (Za ceL (mkL Qvu 3 (kvN L k0 t+1+(x.ups.length:Int)) x.m))) (hg:W.grownBy W' (Value.slice s x.m sc).ownBlock):VqMk W' B zs L k0 a b (t+1):=fun i y hy=>by
 obtain⟨h1,u',uc',s',sc',y1,y2,⟨us,k1,e1⟩,⟨ss,k2,e2⟩⟩:=h i y hy;refine⟨h1,u',uc',s',sc',y1,y2,⟨us,k1.kept hg (k1.ne_ty h0 (by decide)),e1⟩,?_⟩;by_cases e:i=t
 ·subst e;rw[hx]at hy;cases hy;rw[hu]at y2;cases y2;exact⟨_,ho,fun _=>rfl⟩
 ·refine⟨ss,k2.kept hg ?_,fun hi=>e2 (by omega)⟩;have:=(hp i t (by rw[←hL];exact(List.getElem?_eq_some_iff.1 hy).1) (by rw[←hL];exact(List.getElem?_eq_some_iff.1 hx).1) e).2;unfold Qno at this;rw[Jw y2,Jw hu]at this;exact this
theorem VU{B n hi:Nat}{v:Value}{ys:List Value}{L:List VR}(k0:Int)(w:World)(h:w.ownsRow B 72 3 v n ys)(hL:L.length=n)(hp:VqMk w B ys L k0 0 0 0)(ha:Qnv ys n)(hl: ∀x∈L,Qub x)(hn:n≤1048576)(hh: ∀k,v.ownBlock=some k→k<hi)(hlt:Qvz ys n hi)(h0:0<k0)(h1:k0≤1000):
  Calls Tryz.prog 39 #[v,.int .i64 k0] w fun e w'=>e= .returned (.int .i64 (kvN L k0 n))∧(∃zs,w'.ownsRow B 72 3 v n zs∧VqMk w' B zs L k0 n n n)∧FrX B hi w w':=by
 have HO:Hid (w.ownsRow B 72 3 v n ys):=h;have HL:Hid (L.length=n):=hL;have HP:Hid (VqMk w B ys L k0 0 0 0):=hp;have HA:Hid (Qnv ys n):=ha;have HI:Hid (∀x∈L,Qub x):=hl;have HH:Hid (∀k,v.ownBlock=some k→k<hi):=hh;have HLT:Hid (Qvz ys n hi):=hlt
 obtain⟨A,cap,rfl,_,_⟩:=Qo h;clear h hL hp ha hl hh hlt;go_enter Tryz.func39,Tryz.ntmps39;go_wp2_with fail
 go_loopw [1,5] (fun q i wr=> ∃(t:Nat) (zs:List Value),t≤n∧i= .int .i64 t∧q= .int .i64 (kvN L k0 t)∧wr.ownsRow B 72 3 (.slice A n cap) n zs∧VqMk wr B zs L k0 t t t∧Qnv zs n∧Qvz zs n hi∧FrX B hi w wr) (fun _ i _=>n-(intOf i).toNat)
 case atStart=>exact⟨0,ys,Nat.zero_le _,rfl,rfl,HO.out,HP.out,HA.out,HLT.out,FrX.refl _ _ _⟩
 case round=>
  obtain⟨t,zs,ht,rfl,rfl,hown,hmk,hap,hlz,hfr⟩:=hrel;by_cases hlt:t<n
  ·obtain⟨x,hx⟩:=Zw HL.out hlt;have HXT:Hid (L[t]? =some x):=hx;have HXL:Hid (Qub x):=HI.out x (List.mem_of_getElem? hx);obtain⟨k,HKV⟩: ∃k,Hid (kvN L k0 t=k):=⟨_,rfl⟩;have hkb:=kvN_bd (k0:=k0) HI.out t;rw[HKV.out]at hkb;have hk0:0<k:=by omega
   have hk1:k≤8796093022208:=by omega
   obtain⟨_,u,uc,s,sc,y1,y2,_,_⟩:=hmk t x hx;have Y1:Hid (zs[t*3+1]? =some (.slice u x.ups.length uc)):=y1;have Y2:Hid (zs[t*3+2]? =some (.slice s x.m sc)):=y2;obtain⟨un,HUN⟩: ∃un,Hid (x.ups.length=un):=⟨_,rfl⟩;obtain⟨mn,HMN⟩: ∃mn,Hid (x.m=mn):=⟨_,rfl⟩;have hun:un≤1048576:=by rw[←HUN.out];exact HXL.out.1
   have hmn:mn≤1048576:=by rw[←HMN.out];exact HXL.out.2
   obtain⟨A',cap',e,_,hc⟩:=Qo hown;cases e
   have hl9:=hown.1;obtain⟨g,rfl,_,hg,d0,f0⟩:=hc (t*3) (by omega);obtain⟨z0,hz0⟩: ∃z,zs[t*3]? =some z:=⟨_,List.getElem?_eq_getElem (by omega)⟩;rw[hz0]at d0;have d1:wr.cell? ⟨g,t*3+1,none⟩=some (.slice u un uc):=by rw[hown.cellAt (t*3+1) (by omega),y1,HUN.out]
   obtain⟨Y,HY⟩: ∃Y,Hid (wr.setCell ⟨g,t*3,none⟩ (.int .i64 k)=Y):=⟨_,rfl⟩;obtain⟨zs1,HZ1⟩: ∃zs1,Hid (zs.set (t*3) (.int .i64 k)=zs1):=⟨_,rfl⟩;obtain⟨oq,gq⟩:=hown.stored (t*3) (.int .i64 k);have O1:Hid (Y.ownsRow B 72 3 (.slice (some ⟨g,0,none⟩) n cap) n zs1):=by rw[←HY.out,←HZ1.out];exact oq
   have M1:Hid (VqMk Y B zs1 L k0 (t+1) t t):=by
    have h9:=hmk.setId hown HL.out hlt;rw[HKV.out,HY.out,HZ1.out]at h9;exact h9
   have P1:Hid (Qnv zs1 n):=Qpa hap (fun i hi=>by rw[←HZ1.out,List.getElem?_set_ne (by omega),List.getElem?_set_ne (by omega)];exact⟨rfl,rfl⟩);have F1:Hid (FrX B hi w Y):=hfr.trans (by rw[←HY.out];exact FrX.own hown HH.out oq gq);have L1:Hid (Qvz zs1 n hi):=Qq3 hlz (fun i hi=>by rw[←HZ1.out,List.getElem?_set_ne (by omega),List.getElem?_set_ne (by omega)];exact⟨rfl,rfl⟩);have Y1':Hid (zs1[t*3+1]? =some (.slice u x.ups.length uc)):=by rw[←HZ1.out,List.getElem?_set_ne (by omega)];exact y1
   have Y2':Hid (zs1[t*3+2]? =some (.slice s x.m sc)):=by rw[←HZ1.out,List.getElem?_set_ne (by omega)];exact y2
   clear hown hmk hap hfr hlz hc hz0 hx hl9 y1 y2 oq gq;have q0:(0:Int)≤(t:Int):=by omega
   have q1:(t:Int)<(n:Int):=by omega
   rw[HKV.out];go_wp2_with fail
   rw[HY.out];obtain⟨_,u',uc',s',sc',e1,e2,⟨us,hus,hul,_⟩,_⟩:=M1.out t x HXT.out;rw[Y1'.out]at e1;cases e1;have US:Hid (UpO Y B (.slice u x.ups.length uc) us):=hus;have US':Hid (UpO Y B (.slice u un uc) us):=by rw[←HUN.out];exact hus
   have HUL:Hid (us.length=un):=hul.trans HUN.out;clear hus hul e2;refine(Uu (k+1) Y US'.out HUL.out hun (by omega) (by omega)).mono ?_;rintro e w2 ⟨rfl,ho2,hg2,hsh2⟩;have ho2':UpO w2 B (.slice u x.ups.length uc) (VO (kvN L k0 t+1) x.ups.length):=by rw[HUN.out,HKV.out];exact ho2
   have hg2':Y.grownBy w2 (Value.slice u x.ups.length uc).ownBlock:=by rw[HUN.out];exact hg2
   have M2:Hid (VqMk w2 B zs1 L k0 (t+1) (t+1) t):=M1.out.setUps P1.out HL.out HXT.out Y1'.out US.out ho2' hg2';have F2:Hid (FrX B hi w w2):=F1.out.trans (FrX.up US.out (fun q hq=>(L1.out t hlt).1 q (by rw[Jw Y1'.out];exact hq)) hsh2 hg2');have O2:Hid (w2.ownsRow B 72 3 (.slice (some ⟨g,0,none⟩) n cap) n zs1):=O1.out.kept hg2 (Bv O1.out US'.out (by decide));have d2:w2.cell? ⟨g,t*3+2,none⟩=some (.slice s mn sc):=by rw[O2.out.cellAt (t*3+2) (by omega),Y2'.out,HMN.out]
   have hgz:g<w2.heap.size:=(O2.out.lt g rfl).2;clear ho2 hg2 hsh2 ho2' hg2' d1 d0 f0 hg O1 M1 F1 US US';go_wp2_with fail
   obtain⟨_,u',uc',s',sc',e1,e2,_,⟨ss,hss,_⟩⟩:=M2.out t x HXT.out;rw[Y2'.out]at e2;cases e2;have SS:Hid (w2.ownsRow B 37 3 (.slice s x.m sc) x.m ss):=hss;have SS':Hid (w2.ownsRow B 37 3 (.slice s mn sc) mn ss):=by rw[←HMN.out];exact hss
   clear hss e1;refine(laws_markCellS (k+1+(un:Int)) w2 SS'.out hmn (by omega) (by omega)).mono ?_;rintro e w3 ⟨rfl,ho3,hg3⟩;have ho3':w3.ownsRow B 37 3 (.slice s x.m sc) x.m (Za ceL (mkL Qvu 3 (kvN L k0 t+1+(x.ups.length:Int)) x.m)):=by rw[HMN.out,HKV.out,HUN.out];exact ho3
   have hg3':w2.grownBy w3 (Value.slice s x.m sc).ownBlock:=by rw[HMN.out];exact hg3
   have M3:Hid (VqMk w3 B zs1 L k0 (t+1) (t+1) (t+1)):=M2.out.setCells P1.out HL.out HXT.out Y2'.out SS.out ho3' hg3';have F3:Hid (FrX B hi w w3):=F2.out.trans (FrX.own SS.out (fun q hq=>(L1.out t hlt).2 q (by rw[Jw Y2'.out];exact hq)) ho3' hg3');have O3:Hid (w3.ownsRow B 72 3 (.slice (some ⟨g,0,none⟩) n cap) n zs1):=O2.out.kept hg3 (Qht O2.out SS'.out (by decide));have HKS:Hid (k+1+(un:Int)+(mn:Int)*3=kvN L k0 (t+1)):=by show _=_;rw[kvN_succ HXT.out,HKV.out,HUN.out,HMN.out]
   clear ho3 hg3 ho3' hg3' d2 hgz O2 M2 F2 SS SS';go_wp2_with fail
   go_roundw
   case rel=>exact⟨t+1,zs1,by omega,by go_num,by rw[←HKS.out],O3.out,M3.out,P1.out,L1.out,F3.out⟩
   case measure=>simp[intOf];omega
  ·have h1: ¬(t:Int)<(n:Int):=by omega
   obtain rfl:t=n:=by omega
   go_wp2_with fail
   go_ret;exact⟨rfl,⟨zs,hown,hmk⟩,hfr⟩
theorem Kx{B n cap:Nat}{A:Option Addr}{zs:List Value}{L:List VR}(k0:Int)(w:World)(h:w.ownsRow B 72 3 (.slice A n cap) n zs)(hL:L.length=n)(hm:VqMk w B zs L k0 n n n)(hl: ∀x∈L,Qub x)(hn:n≤1048576)(h0:0<k0)(h1:k0≤1000):
  Calls Tryz.prog 41 #[.slice A n cap,.int .i64 k0] w fun e w'=>e= .returned (.int .i64 (kvN L k0 n))∧Below w.heap.size w w':=by
 have HO:Hid (w.ownsRow B 72 3 (.slice A n cap) n zs):=h;have HL:Hid (L.length=n):=hL;have HM:Hid (VqMk w B zs L k0 n n n):=hm;have HI:Hid (∀x∈L,Qub x):=hl;clear h hL hm hl;go_enter Tryz.func41,Tryz.ntmps41;go_wp2_with fail
 go_loopw [1,5] (fun q i wr=> ∃t:Nat,t≤n∧i= .int .i64 t∧q= .int .i64 (kvN L k0 t)∧Below w.heap.size w wr) (fun _ i _=>n-(intOf i).toNat)
 case atStart=>exact⟨0,Nat.zero_le _,rfl,rfl,Below.refl _ _⟩
 case round=>
  obtain⟨t,ht,rfl,rfl,hbel⟩:=hrel;by_cases hlt:t<n
  ·obtain⟨x,hx⟩:=Zw HL.out hlt;have HXT:Hid (L[t]? =some x):=hx;have HXL:Hid (Qub x):=HI.out x (List.mem_of_getElem? hx);obtain⟨k,HKV⟩: ∃k,Hid (kvN L k0 t=k):=⟨_,rfl⟩;have hkb:=kvN_bd (k0:=k0) HI.out t;rw[HKV.out]at hkb;have hk0:0<k:=by omega
   have hk1:k≤8796093022208:=by omega
   obtain⟨y0,u,uc,s,sc,y1,y2,⟨us,hus,_,eus⟩,⟨ss,hss,ess⟩⟩:=HM.out t x hx;rw[eus hlt]at hus;rw[ess hlt]at hss;replace y0:=y0 hlt;obtain⟨un,HUN⟩: ∃un,Hid (x.ups.length=un):=⟨_,rfl⟩;obtain⟨mn,HMN⟩: ∃mn,Hid (x.m=mn):=⟨_,rfl⟩;rw[HKV.out,HUN.out]at hus
   rw[HKV.out,HUN.out,HMN.out]at hss;rw[HKV.out]at y0;rw[HUN.out]at y1;rw[HMN.out]at y2;have hun:un≤1048576:=by rw[←HUN.out];exact HXL.out.1
   have hmn:mn≤1048576:=by rw[←HMN.out];exact HXL.out.2
   have HUS:Hid (IntRow w u (VO (k+1) un)):=by
    obtain⟨A9,c9,e9,h9⟩:=hus.int;simp only[Value.slice.injEq]at e9;obtain⟨rfl,_,_⟩:=e9;exact h9
   have HSS:Hid (CeRow w s (mkL Qvu 3 (k+1+(un:Int)) mn)):=RowAt.of_own ceL_len hss (Qvq _ _ _ _);have O1:=hd (Qf HO.out hbel);obtain⟨A',cap',e,_,hc⟩:=Qo O1.out;cases e
   obtain⟨g,rfl,_,hg,d0,_⟩:=hc (t*3) (by omega);rw[y0]at d0;have d1:wr.cell? ⟨g,t*3+1,none⟩=some (.slice u un uc):=by rw[O1.out.cellAt (t*3+1) (by omega),y1]
   have d2:wr.cell? ⟨g,t*3+2,none⟩=some (.slice s mn sc):=by rw[O1.out.cellAt (t*3+2) (by omega),y2]
   have q0:(0:Int)≤(t:Int):=by omega
   have q1:(t:Int)<(n:Int):=by omega
   have HB:Hid (Below w.heap.size w wr):=hbel;have e0:(k !=k)=false:=by simp
   clear hx hus hss eus ess hc hbel y0 y1 y2;rw[HKV.out];go_wp2_with fail
   refine(laws_heldInt64S (k+1) _ (HUS.out.below HB.out) hun (by omega) (by omega)).mono ?_;rintro e w1 ⟨rfl,hw⟩;subst w1;have n1: ¬k+1+(un:Int)<0:=by omega
   go_wp2_with fail
   refine(laws_heldCellS (k+1+(un:Int)) _ (HSS.out.below HB.out) hmn (by omega) (by omega)).mono ?_;rintro e w2 ⟨rfl,hb⟩;have HB2:=hd (Qc HB.out hb);have n2: ¬k+1+(un:Int)+(mn:Int)*3<0:=by omega
   have HKS:Hid (k+1+(un:Int)+(mn:Int)*3=kvN L k0 (t+1)):=by show _=_;rw[kvN_succ HXT.out,HKV.out,HUN.out,HMN.out]
   clear hb;go_wp2_with fail
   go_roundw
   case rel=>exact⟨t+1,by omega,by go_num,by rw[←HKS.out],HB2.out⟩
   case measure=>simp[intOf];omega
  ·have h1: ¬(t:Int)<(n:Int):=by omega
   obtain rfl:t=n:=by omega
   go_wp2_with fail
   go_ret;exact⟨rfl,hbel⟩
def DqMk(W:World)(B:Nat)(v:Value)(d:DG):Prop:= ∃v1 v2 zs,v= .agg #[.int .i64 d.next,v1,v2]∧W.ownsRow B 72 3 v1 d.vs.length zs∧VqMk W B zs d.vs 1 d.vs.length d.vs.length d.vs.length∧W.ownsRow B 69 2 v2 d.bs.length (Za brL (mkL MW 2 (kvN d.vs 1 d.vs.length) d.bs.length))
theorem DqMk.below{W W':World}{B:Nat}{v:Value}{d:DG}(h:DqMk W B v d)(hb:Below W.heap.size W W'):DqMk W' B v d:=by
 obtain⟨v1,v2,zs,rfl,h1,h2,h3⟩:=h;exact⟨v1,v2,zs,rfl,Qf h1 hb,h2.below hb,Qf h3 hb⟩
theorem Ow{v:Value}{qd:RQ}{d:DG}{B hi:Nat}(w:World)(hdq:dgQ qd=d)(h:DqH w B hi v qd)(hw:hi≤w.heap.size)(hl:DgLil d):
  Calls Tryz.prog 16 #[v,.int .i64 1] w fun e w'=>e= .returned (.int .i64 (kdN d))∧DqMk w' B v d∧FrX B hi w w':=by
 obtain⟨v1,v2,ys,rfl,h1,h2',h4,h3,b1,b2,b3⟩:=h;have e1:d.vs.length=qd.vs.length:=by rw[←hdq];simp[dgQ]
 have e2:d.bs=qd.bl:=by rw[←hdq];rfl
 have e3:d.next=qd.next:=by rw[←hdq];rfl
 have h2:VqMk w B ys d.vs 1 0 0 0:=by rw[←hdq];exact VqMk.start h2'
 rw[←e1]at h1 h4 b2;rw[←e2]at h3;rw[←e3];clear h2' e1 e2 e3 hdq;obtain⟨n1,HN1⟩: ∃n1,Hid (d.vs.length=n1):=⟨_,rfl⟩;obtain⟨n2,HN2⟩: ∃n2,Hid (d.bs.length=n2):=⟨_,rfl⟩;have HZ1:Hid (n1≤1048576):=by rw[←HN1.out];exact hl.nv
 have HZ2:Hid (n2≤1048576):=by rw[←HN2.out];exact hl.nb
 rw[HN1.out]at h1 h4 b2;rw[HN2.out]at h3;have HLL:Hid (∀x∈d.vs,Qub x):=hl.v;have O1:Hid (w.ownsRow B 72 3 v1 n1 ys):=h1;have P1:Hid (VqMk w B ys d.vs 1 0 0 0):=h2;have Q1:Hid (Qnv ys n1):=h4;have O3:Hid (w.ownsRow B 69 2 v2 n2 (Za brL d.bs)):=h3
 have H1:Hid (∀k,v1.ownBlock=some k→k<hi):=b1;have H3:Hid (∀k,v2.ownBlock=some k→k<hi):=b3;have H2:Hid (Qvz ys n1 hi):=b2;have HHW:Hid (hi≤w.heap.size):=hw;obtain⟨A1,c1,rfl,_,_⟩:=Qo h1;obtain⟨A2,c2,rfl,_,_⟩:=Qo h3;obtain⟨kn,HKN⟩: ∃kn,Hid (kvN d.vs 1 n1=kn):=⟨_,rfl⟩
 have hkb:=kvN_bd (k0:=1) HLL.out n1;rw[HKN.out]at hkb;have hz1:=HZ1.out;have HE:Hid (kdN d=kn+(n2:Int)*2):=by show _=_;rw[kdN,HN1.out,HN2.out,HKN.out]
 rw[HE.out];clear h1 h2 h3 h4 hl b1 b2 b3 hw;go_enter Tryz.func16,Tryz.ntmps16;go_wp2_with fail
 obtain⟨X,HX⟩: ∃X,Hid (w.alloc (.cells #[.int .i64 d.next,.slice A1 n1 c1,.slice A2 n2 c2] 43)=X):=⟨_,rfl⟩;rw[HX.out];have x2:X.cell? ⟨w.heap.size,2,none⟩=some (.slice A2 n2 c2):=by rw[←HX.out];go_simp
 have zX:w.heap.size<X.heap.size:=by rw[←HX.out];simp
 have KX:Hid (Below w.heap.size w X):=by rw[←HX.out];show Below _ _ _;go_grown
 clear HX;refine(VU 1 X (Qf O1.out KX.out) HN1.out (P1.out.below KX.out) Q1.out HLL.out HZ1.out H1.out H2.out (by omega) (by omega)).mono ?_;rintro e w1 ⟨rfl,⟨zs,ho1,hm1⟩,hf⟩;have F1:Hid (FrX B hi w w1):=(FrX.below KX.out).trans hf;have M1:Hid (VqMk w1 B zs d.vs 1 n1 n1 n1):=hm1;have V1:Hid (w1.ownsRow B 72 3 (.slice A1 n1 c1) n1 zs):=ho1;replace x2:=hf.cell (Or.inr HHW.out) x2
 replace zX:w.heap.size<w1.heap.size:=Nat.lt_of_lt_of_le zX hf.size;clear hf KX ho1 hm1;rw[HKN.out];obtain⟨⟨bs,hbs⟩,_⟩:=(show OwnIn B hi w 69 2 (.slice A2 n2 c2) n2 from⟨⟨_,O3.out⟩,H3.out⟩).shp F1.out.shp;have OB:Hid (w1.ownsRow B 69 2 (.slice A2 n2 c2) n2 bs):=hbs;clear hbs;go_wp2_with fail
 refine(laws_markBranchS kn w1 OB.out HZ2.out (by omega) (by omega)).mono ?_;rintro e w2 ⟨rfl,ho,hg⟩;have F2:Hid (FrX B hi w w2):=F1.out.trans (FrX.own OB.out H3.out ho hg)
 have HMK:Hid (DqMk w2 B (.agg #[.int .i64 d.next,.slice A1 n1 c1,.slice A2 n2 c2]) d):=by
  refine⟨_,_,zs,rfl,?_,?_,?_⟩
  ·rw[HN1.out];exact V1.out.kept hg (Qht V1.out OB.out (by decide))
  ·rw[HN1.out];intro i x hx;obtain⟨h0,u,uc,s,sc,y1,y2,⟨us,k1,e1⟩,⟨ss,k2,e2⟩⟩:=M1.out i x hx;exact⟨h0,u,uc,s,sc,y1,y2,⟨us,k1.kept hg (k1.ne_ty OB.out (by decide)),e1⟩,⟨ss,k2.kept hg (Qht k2 OB.out (by decide)),e2⟩⟩
  ·rw[HN1.out,HN2.out,HKN.out];exact ho
 clear ho hg;go_wp2_with fail
 go_ret;exact⟨rfl,HMK.out,F2.out⟩
theorem Vv{v:Value}{d:DG}{B:Nat}(w:World)(h:DqMk w B v d)(hl:DgLil d):
  Calls Tryz.prog 17 #[v,.int .i64 1] w fun e w'=>e= .returned (.int .i64 (kdN d))∧Below w.heap.size w w':=by
 obtain⟨v1,v2,zs,rfl,h1,h2,h3⟩:=h;obtain⟨n1,HN1⟩: ∃n1,Hid (d.vs.length=n1):=⟨_,rfl⟩;obtain⟨n2,HN2⟩: ∃n2,Hid (d.bs.length=n2):=⟨_,rfl⟩;have HZ1:Hid (n1≤1048576):=by rw[←HN1.out];exact hl.nv
 have HZ2:Hid (n2≤1048576):=by rw[←HN2.out];exact hl.nb
 obtain⟨kn,HKN⟩: ∃kn,Hid (kvN d.vs 1 n1=kn):=⟨_,rfl⟩;rw[HN1.out]at h1 h2 h3;rw[HN2.out,HKN.out]at h3;have HLL:Hid (∀x∈d.vs,Qub x):=hl.v;have O1:Hid (w.ownsRow B 72 3 v1 n1 zs):=h1;have M1:Hid (VqMk w B zs d.vs 1 n1 n1 n1):=h2;obtain⟨A1,c1,rfl,_,_⟩:=Qo h1
 obtain⟨A2,c2,rfl,_,_⟩:=Qo h3;have O3:Hid (Xy w A2 (mkL MW 2 kn n2)):=RowAt.of_own Qgw h3 (Qvq _ _ _ _);have hkb:=kvN_bd (k0:=1) HLL.out n1;rw[HKN.out]at hkb;have hz1:=HZ1.out;have hz2:=HZ2.out;have HE:Hid (kdN d=kn+(n2:Int)*2):=by show _=_;rw[kdN,HN1.out,HN2.out,HKN.out]
 rw[HE.out];clear h1 h2 h3 hl;go_enter Tryz.func17,Tryz.ntmps17;go_wp2_with fail
 obtain⟨X,HX⟩: ∃X,Hid (w.alloc (.cells #[.int .i64 d.next,.slice A1 n1 c1,.slice A2 n2 c2] 43)=X):=⟨_,rfl⟩;rw[HX.out];have x2:X.cell? ⟨w.heap.size,2,none⟩=some (.slice A2 n2 c2):=by rw[←HX.out];go_simp
 have zX:w.heap.size<X.heap.size:=by rw[←HX.out];simp
 have KX:Hid (Below w.heap.size w X):=by rw[←HX.out];show Below _ _ _;go_grown
 clear HX;refine(Kx 1 X (Qf O1.out KX.out) HN1.out (M1.out.below KX.out) HLL.out HZ1.out (by omega) (by omega)).mono ?_;rintro e w1 ⟨rfl,hb⟩;replace x2:=cy hb x2;replace zX:w.heap.size<w1.heap.size:=Nat.lt_of_lt_of_le zX hb.size;replace KX:=hd (Qc KX.out hb);clear hb
 rw[HKN.out];have n1': ¬kn<0:=by omega
 go_wp2_with fail
 refine(laws_heldBranchS kn w1 (O3.out.below KX.out) HZ2.out (by omega) (by omega)).mono ?_;rintro e w2 ⟨rfl,hb⟩;have K2:=hd (Qc KX.out hb);have n2': ¬kn+(n2:Int)*2<0:=by omega
 clear hb;go_wp2_with fail
 go_ret;exact⟨rfl,K2.out⟩
theorem hyq{p:Prop}(h:p):Hid p:=h
def BxQ(W:World)(b:Nat)(x y z:Value):Prop:=W.cell? ⟨b,0,none⟩=some x∧W.cell? ⟨b,1,none⟩=some y∧W.cell? ⟨b,2,none⟩=some z∧b<W.heap.size
theorem BxQ.new{w:World}{t:TypeId}{x y z:Value}:BxQ (w.alloc (.cells #[x,y,z] t)) w.heap.size x y z:=by
 refine⟨?_,?_,?_,?_⟩<;>simp[go_sem]
theorem BxQ.below{W W':World}{b:Nat}{x y z:Value}(h:BxQ W b x y z)(hb:Below W.heap.size W W'):BxQ W' b x y z:=⟨cy hb h.1,cy hb h.2.1,cy hb h.2.2.1,Nat.lt_of_lt_of_le h.2.2.2 hb.size⟩
theorem GK{lo hi:Nat}{W W':World}(hf:FrX lo hi W W'){b o:Nat}{v:Value}(hk:b<lo∨hi≤b)(h:W.cell? ⟨b,o,none⟩=some v):W'.cell? ⟨b,o,none⟩=some v:=
 (World.cell?_of_block (hf.block b (World.block_lt_of_cell? W ⟨b,o,none⟩ h) hk)).trans h
theorem BxQ.frx{W W':World}{b lo hi:Nat}{x y z:Value}(h:BxQ W b x y z)(hf:FrX lo hi W W')(hk:b<lo∨hi≤b):BxQ W' b x y z:=⟨GK hf hk h.1,GK hf hk h.2.1,GK hf hk h.2.2.1,Nat.lt_of_lt_of_le h.2.2.2 hf.size⟩
theorem MB{lo hi B:Nat}{W W':World}(hf:FrX lo hi W W')(h1:B≤lo)(h2:B≤W.heap.size):Below B W W':=⟨hf.os,hf.tape,hf.output,hf.size,fun k hk=>hf.block k (Nat.lt_of_lt_of_le hk h2) (Or.inl (Nat.lt_of_lt_of_le hk h1))⟩
theorem NP{B:Nat}{o:Option RQ}{e:Ending}{w':World}(h:RgPost B o e w'): ∃v,e= .returned (.tuple #[v,.bool o.isSome])∧DqV w' B v (o.getD q0):=by
 cases o with
 | none=>exact⟨_,h,.slice none 0 0,.slice none 0 0,[],rfl,World.ownsRow_nil _ _ _ _,fun i x hx=>(nomatch hx),fun i j hi=>absurd hi (Nat.not_lt_zero _),World.ownsRow_nil _ _ _ _⟩
 | some q=>exact h
theorem Qnf{s:ByteArray}(hs:s.size≤1048576):LimQ 1048576 10001 ((VP s).getD q0):=by
 cases h:VP s with
 | none=>
  have:=LimQ.zero 1048576;exact⟨this.bl,fun x hx=>(nomatch hx),Nat.zero_le _,Nat.zero_le _⟩
 | some q=>
  unfold VP at h;split at h
  ·cases h
  ·rename_i hc
   have h9:=(ansG_some.1 h).1;obtain⟨z1,z2⟩:=Qfm s.data.toList;have h8:s.data.toList.length=s.size:=by simp
   have hcn:s.data.toList.count 10≤10000:=Nat.le_of_not_lt fun h7=>hc (Or.inr h7);have h7:=LimQ.run (m:=1048576) wfI (lnI s.data.toList) 0 q0 q (LimQ.zero _) (fun y hy=>Nat.le_trans (z1 y hy) (by omega)) h9;exact⟨h7.bl,fun x hx=>by obtain⟨a1,a2,a3,a4,a5⟩:=h7.vs x hx;exact⟨a1,a2,a3,by omega,a5⟩,by show q.bl.length≤10001;have:=h7.nb;omega,by show q.vs.length≤10001;have:=h7.nv;omega⟩
theorem Qdh(s:ByteArray)(w:World)(hg:GI w):Calls Tryz.prog 4 #[.string s] w fun e w'=>e= .returned (.bool true)∧Below w.heap.size w w':=by
 have HG:Hid (GI w):=hg;clear hg;by_cases hbig:1048576<s.size
 ·have h1:(1048576:Int)<(s.size:Int):=by omega
  go_enter Tryz.func4,Tryz.ntmps4;go_wp2_with fail
  go_ret;exact⟨rfl,Below.refl _ _⟩
 have hs:s.size≤1048576:=by omega
 have h1: ¬(1048576:Int)<(s.size:Int):=by omega
 have HLM:Hid (LimQ 1048576 10001 ((VP s).getD q0)):=Qnf hs;obtain⟨ok,HOK⟩: ∃b,Hid ((VP s).isSome=b):=⟨_,rfl⟩;obtain⟨q,HQ⟩: ∃q,Hid ((VP s).getD q0=q):=⟨_,rfl⟩;rw[HQ.out]at HLM;obtain⟨d,HD⟩: ∃d,Hid (dgQ q=d):=⟨_,rfl⟩;have HK:Hid (DgOk d):=by rw[←HD.out];exact HLM.out.ok (by omega)
 have HL:Hid (DgLil d):=by rw[←HD.out];exact HLM.out.lil (by omega) (by omega)
 have HSR:Hid (∀x∈q.vs,∀c∈x.cs,c.s.size≤maxLen):=HLM.out.srcs (by omega);have eb:(ok !=ok)=false:=by simp
 obtain⟨k,HKD⟩: ∃k,Hid (kdN d=k):=⟨_,rfl⟩;have hkp:=kdN_pos HL.out;rw[HKD.out]at hkp;have kb1: ¬k<0:=by omega
 have kb2:(k !=k)=false:=by simp
 clear hbig;go_enter Tryz.func4,Tryz.ntmps4;go_wp2_with fail
 refine(Qbk s w hs).mono ?_;rintro e u1 ⟨hp,hb⟩;rw[Qjv]at hp;obtain⟨v0,rfl,hv0⟩:=NP hp;rw[HQ.out]at hv0;rw[HOK.out];have hr0:=hv0.row HSR.out
 rw[HD.out]at hr0;obtain⟨a1,a2,a3,a4,a5,a6,rfl⟩:=hr0.agg;have KX:=hyq hb;have ZW:Hid (w.heap.size≤u1.heap.size):=hb.size;clear hb hp hv0;go_wp2_with fail
 obtain⟨Y1,HY⟩: ∃X,Hid (u1.alloc (.cells #[.int .i64 d.next,.slice a1 a2 a3,.slice a4 a5 a6] 43)=X):=⟨_,rfl⟩;rw[HY.out];have hb:Below u1.heap.size u1 Y1:=by rw[←HY.out];go_grown
 have C0:Hid (BxQ Y1 u1.heap.size (.int .i64 d.next) (.slice a1 a2 a3) (.slice a4 a5 a6)):=by rw[←HY.out];exact BxQ.new
 replace KX:=hyq (Qc KX.out hb);have R0:=hyq (hr0.below hb);have QW:=hyq (Below.refl Y1.heap.size Y1);have HZ1:Hid (u1.heap.size<Y1.heap.size):=C0.out.2.2.2;clear hb HY hr0;refine(Gf s Y1 hs (HG.out.below KX.out)).mono ?_;rintro e u2 ⟨hp,hb⟩
 obtain⟨v1,rfl,hv1⟩:=NP hp;rw[HQ.out]at hv1;rw[HOK.out];have hr1:=hv1.row HSR.out;rw[HD.out]at hr1;have DH:=hyq hv1.toH;obtain⟨b1,b2,b3,b4,b5,b6,rfl⟩:=hr1.agg
 have HZ2:Hid (Y1.heap.size≤u2.heap.size):=hb.size;replace C0:=hyq (C0.out.below hb);replace KX:=hyq (Qc KX.out hb);replace QW:=hyq (Qc QW.out hb);clear hb hp hv1;obtain⟨c0_0,c0_1,c0_2,c0_z⟩:=C0.out;go_wp2_with fail
 clear c0_0 c0_1 c0_2 c0_z;obtain⟨Y2,HY⟩: ∃X,Hid (u2.alloc (.cells #[.int .i64 d.next,.slice b1 b2 b3,.slice b4 b5 b6] 43)=X):=⟨_,rfl⟩;rw[HY.out];have hb:Below u2.heap.size u2 Y2:=by rw[←HY.out];go_grown
 have C1:Hid (BxQ Y2 u2.heap.size (.int .i64 d.next) (.slice b1 b2 b3) (.slice b4 b5 b6)):=by rw[←HY.out];exact BxQ.new
 have R1:=hyq (hr1.below hb);replace DH:=hyq (DH.out.below hb);replace C0:=hyq (C0.out.below hb);replace KX:=hyq (Qc KX.out hb);replace QW:=hyq (Qc QW.out hb);clear hb HY hr1;refine(Qrm _ R1.out (R0.out.below QW.out)).mono ?_
 rintro e u3 ⟨rfl,hb⟩;replace C0:=hyq (C0.out.below hb);replace KX:=hyq (Qc KX.out hb);replace QW:=hyq (Qc QW.out hb);replace C1:=hyq (C1.out.below hb);replace DH:=hyq (DH.out.below hb);clear hb R1
 obtain⟨c1_0,c1_1,c1_2,c1_z⟩:=C1.out;go_wp2_with fail
 clear c1_0 c1_1 c1_2 c1_z;have hhi:u2.heap.size≤u3.heap.size:=Nat.le_of_lt C1.out.2.2.2;refine(Ow _ HD.out DH.out hhi HL.out).mono ?_;rintro e u4 ⟨rfl,hmk,hf⟩;rw[HKD.out];have zz1:=HZ1.out;have zz2:=HZ2.out
 have zz3:=KX.out.size;replace C0:=hyq (C0.out.frx hf (Or.inl zz1));replace C1:=hyq (C1.out.frx hf (Or.inr (Nat.le_refl _)));replace QW:=hyq (QW.out.trans (MB (B:=Y1.heap.size) hf (Nat.le_refl _) QW.out.size));have zz4:w.heap.size≤u1.heap.size:=ZW.out;replace KX:=hyq (KX.out.trans (MB (B:=w.heap.size) hf (by omega) zz3));have MK:=hyq hmk
 clear hmk hf DH hhi zz1 zz2 zz3 zz4;obtain⟨c1_0,c1_1,c1_2,c1_z⟩:=C1.out;go_wp2_with fail
 clear c1_0 c1_1 c1_2 c1_z;refine(Vv _ MK.out HL.out).mono ?_;rintro e u5 ⟨rfl,hb⟩;rw[HKD.out];replace C0:=hyq (C0.out.below hb);replace C1:=hyq (C1.out.below hb);replace KX:=hyq (Qc KX.out hb)
 replace QW:=hyq (Qc QW.out hb);replace MK:=hyq (MK.out.below hb);clear hb;go_wp2_with fail
 refine(Gf s u5 hs (HG.out.below KX.out)).mono ?_;rintro e u6 ⟨hp,hb⟩;obtain⟨v2,rfl,hv2⟩:=NP hp;rw[HQ.out]at hv2;rw[HOK.out];have hr2:=hv2.row HSR.out;rw[HD.out]at hr2
 obtain⟨g1,g2,g3,g4,g5,g6,rfl⟩:=hr2.agg;replace C0:=hyq (C0.out.below hb);replace C1:=hyq (C1.out.below hb);replace KX:=hyq (Qc KX.out hb);replace QW:=hyq (Qc QW.out hb);replace MK:=hyq (MK.out.below hb);clear hb hp hv2
 obtain⟨c0_0,c0_1,c0_2,c0_z⟩:=C0.out;go_wp2_with fail
 clear c0_0 c0_1 c0_2 c0_z;obtain⟨Y3,HY⟩: ∃X,Hid (u6.alloc (.cells #[.int .i64 d.next,.slice g1 g2 g3,.slice g4 g5 g6] 43)=X):=⟨_,rfl⟩;rw[HY.out];have hb:Below u6.heap.size u6 Y3:=by rw[←HY.out];go_grown
 have C2:Hid (BxQ Y3 u6.heap.size (.int .i64 d.next) (.slice g1 g2 g3) (.slice g4 g5 g6)):=by rw[←HY.out];exact BxQ.new
 have R2:=hyq (hr2.below hb);replace C0:=hyq (C0.out.below hb);replace C1:=hyq (C1.out.below hb);replace KX:=hyq (Qc KX.out hb);replace QW:=hyq (Qc QW.out hb);replace MK:=hyq (MK.out.below hb);clear hb HY hr2
 refine(Qrm _ R2.out (R0.out.below QW.out)).mono ?_;rintro e u7 ⟨rfl,hb⟩;replace C0:=hyq (C0.out.below hb);replace C1:=hyq (C1.out.below hb);replace KX:=hyq (Qc KX.out hb);replace QW:=hyq (Qc QW.out hb);replace MK:=hyq (MK.out.below hb)
 clear hb R2 C2;obtain⟨c1_0,c1_1,c1_2,c1_z⟩:=C1.out;go_wp2_with fail
 clear c1_0 c1_1 c1_2 c1_z;refine(Vv _ MK.out HL.out).mono ?_;rintro e u8 ⟨rfl,hb⟩;rw[HKD.out];replace C0:=hyq (C0.out.below hb);replace C1:=hyq (C1.out.below hb);replace KX:=hyq (Qc KX.out hb)
 replace QW:=hyq (Qc QW.out hb);replace MK:=hyq (MK.out.below hb);clear hb;go_wp2_with fail
 go_ret;exact⟨rfl,KX.out⟩
end Go.Proofs.YtbdhinckiccniaaGreatDoor
