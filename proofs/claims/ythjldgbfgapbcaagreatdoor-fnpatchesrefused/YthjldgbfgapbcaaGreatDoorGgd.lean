import Derived.Test.YthjldgbfgapbcaaGreatDoorGgc
import Derived.Test.YthjldgbfgapbcaaGreatDoorGzj
import Derived.Test.YthjldgbfgapbcaaGreatDoorShelfC
import Derived.Shelf.SlSortCmp.WholeK
import Derived.Shelf.SlSortCmp.NoneTotal
set_option linter.unusedSimpArgs false
set_option linter.unusedVariables false
set_option maxHeartbeats 2000000
set_option maxRecDepth 100000
namespace Go.Proofs.YthjldgbfgapbcaaGreatDoor
open Go.RowKit Go.Maps
def ltC (x y:CL):Bool:=ZT x.c x.r y.c y.r
def clC (x y:CL):Int:=Qai x.c x.r y.c y.r
theorem Dx (x y:CL):ltOf clC x y=ltC x y:=by
 show decide (Qai x.c x.r y.c y.r<0)=ZT _ _ _ _;have h:=Ki x.c x.r y.c y.r;cases e:ZT x.c x.r y.c y.r with
 | false=>rw [e]at h;have:=h.2 rfl;exact decide_eq_false (by omega)
 | true=>rw [e]at h;have:=mt h.1 (by decide);exact decide_eq_true (by omega)
theorem Qmo:Go.Sort.SWO (ltOf clC) where
 irrefl x:=by rw [Dx];exact decide_eq_false (by omega)
 trans x y z h1 h2:=by
  rw [Dx]at*;have h1:=of_decide_eq_true h1;have h2:=of_decide_eq_true h2;exact decide_eq_true (by omega)
 ntrans x y z h1 h2:=by
  rw [Dx]at*;have h1:=of_decide_eq_false h1;have h2:=of_decide_eq_false h2;exact decide_eq_false (by omega)
theorem Jq (x:CL):(CL.cs x).length=3:=rfl
theorem Qaj (x y:CL) (W:World):Calls Tryz.prog 57 #[.agg (CL.cs x).toArray,.agg (CL.cs y).toArray] W fun e w'=>e= .returned (.int .i64 (clC x y))∧Grw W w':=by
 obtain⟨xc,xr,xs⟩:=x;obtain⟨yc,yr,ys⟩:=y;simp only [CL.cs,clC];obtain⟨r,HR⟩: ∃r,Hid (Qai xc xr yc yr=r):=⟨_,rfl⟩;rw [HR.out];go_enter Tryz.func57,Tryz.ntmps57;go_wp2_with (go_at_call 58;refine(Gw _ _ _ _ _).mono ?_;rintro e w' ⟨rfl,hg⟩;rw [HR.out])
 go_ret;exact⟨rfl,Grw.under (Grw.under hg)⟩
theorem BQ [Inhabited CL] (L:List CL):Go.Sort.flatK CL.cs 3 L.toArray=(Zb CL.cs L).toArray:=by
 refine Go.Sort.ext_get! (by simp [JX Jq]) fun t ht=> ?_;have ht':t<L.length*3:=by simpa using ht
 rw [Go.Sort.get_flatK _ _ _ t (by simpa using ht')];have hi:t/3<L.length:=by omega
 have e:t/3*3+t%3=t:=by omega
 have h9:=Qch Jq (t%3) (by omega) L (t/3);rw [e,List.getElem?_eq_getElem hi]at h9;have hl:t<(Zb CL.cs L).length:=by rw [JX Jq];exact ht'
 rw [List.getElem?_eq_getElem hl]at h9;have h8:t%3<(CL.cs L[t/3]).length:=by rw [Jq];omega
 simp only [Option.bind_some]at h9;rw [List.getElem?_eq_getElem h8]at h9;rw [getElem!_pos (Zb CL.cs L).toArray t (by simpa using hl),getElem!_pos L.toArray (t/3) (by simpa using hi)];simp only [List.getElem_toArray];rw [getElem!_pos (CL.cs L[t/3]) (t%3) h8];exact(Option.some.inj h9).symm
theorem EY {w:World} {g m:Nat} {os:Array Obj} {cur:Array Value} {e:TypeId} {fr:Nat × Nat} [Inhabited CL] (d:Array CL) (hb:w.heap[g]? =some (.cells cur e fr)):(sortWorldK CL.cs 3 w g 0 m d os).heap[g]? =some (.cells (Go.Sort.putCells id 0 (Go.Sort.flatK CL.cs 3 d) cur) e fr):=by
 have hg:g<w.heap.size:=(Array.getElem?_eq_some_iff.1 hb).1;unfold sortWorldK;rw [Go.Sort.heap_grow_old _ _ (by simpa [Go.Sort.putRowK]using hg)];simp [Go.Sort.putRowK,Go.Sort.putRow,Go.Sort.mapBlock,Go.Sort.ahead,Array.getElem?_modify,hb,Go.Sort.onCells]
theorem Bb {w:World} {g m:Nat} {os:Array Obj} [Inhabited CL] (d:Array CL):w.grownBy (sortWorldK CL.cs 3 w g 0 m d os) (some g):=by
 unfold sortWorldK;refine⟨rfl,rfl,rfl,by simp [Go.Sort.putRowK],fun k hk hne=> ?_⟩;rw [Go.Sort.heap_grow_old _ _ (by simpa [Go.Sort.putRowK]using hk)];have:g≠k:=fun e=>hne (by rw [e]);simp [Go.Sort.putRowK,Go.Sort.putRow,Go.Sort.mapBlock,Go.Sort.ahead,Array.getElem?_modify,this]
theorem Qc9 (cur:Array Value) (ts:List Value) (h:ts.length≤cur.size):(Go.Sort.putCells id 0 ts.toArray cur).toList.take ts.length=ts:=by
 apply List.ext_getElem?;intro j;by_cases hj:j<ts.length
 ·rw [List.getElem?_take_of_lt hj,Array.getElem?_toList];simp [Go.Sort.putCells,hj,show j<cur.size by omega]
 ·rw [List.getElem?_take_eq_none (by omega),List.getElem?_eq_none (by omega)]
theorem EF {W:World} {B g n cap:Nat} {L:List CL} (h:W.ownsRow B 49 3 (.slice (some ⟨g,0,none⟩) n cap) n (Zb CL.cs L)) (hL:L.length=n) (hn:n≤10000):
  Calls Tryz.prog 75 #[.slice (some ⟨g,0,none⟩) n cap,.func (.func 57) #[] #[]] W fun e w'=>e= .returned (.tuple #[])∧ ∃M:List CL,M.Perm L∧M.Pairwise (fun x y=>ltC y x=false)∧w'.ownsRow B 49 3 (.slice (some ⟨g,0,none⟩) n cap) n (Zb CL.cs M)∧W.grownBy w' (some g):=by
 haveI:Inhabited CL:=⟨⟨0,0,⟨#[]⟩⟩⟩
 rcases h.2 with⟨e,_⟩ | ⟨g',cap',cur,e,hB,hb,h1,h2,h3,h4⟩
 ·cases e
 cases e
 have eg: ∀args w,(callFunc 57 args).run Tryz.prog w= .ok (.enter 57 args) w:=enters_of Tryz.func57 (by kernel_rfl) rfl
 have hH:Go.Sort.HoldsK CL.cs 3 W g 0 L.toArray:=by
  unfold Go.Sort.HoldsK;rw [BQ];intro j hj;have hj':j<n*3:=by rw [←h.1];simpa using hj
  refine⟨?_,by rw [Nat.zero_add];exact h.frozenAt j⟩;rw [Nat.zero_add,h.cellAt j hj',getElem!_pos _ j hj];have hl:j<(Zb CL.cs L).length:=by simpa using hj
  rw [List.getElem?_eq_getElem hl];simp
 have hcmp:CmpLays Tryz.prog 57 #[] CL.cs 3 clC g 0 L.toArray.size W:=fun _ _ _ _ x y=>Qaj x y _;have hcon:=AnyQ.slices_SortFunc Tryz.sortCl 3 Tryz.isAgg49 Tryz.sizeOf49 CL.cs Jq (fun x v hv=>by simp [CL.cs]at hv;rcases hv with rfl | rfl | rfl<;>rfl) clC Qmo 57 #[] g 0 cap L.toArray W eg hcmp hH (Array.getElem?_eq_some_iff.1 hb).1 (by simp;omega);rw [show L.toArray.size=n by simp [hL]]at hcon;change Calls Tryz.prog 75 _ _ _ at hcon;refine hcon.mono ?_;rintro e w' ⟨rfl,d',m,os,⟨hs,_,hp⟩,hso,rfl⟩;have hs':d'.size=n:=by rw [hs];simp [hL]
 have hp':d'.toList.Perm L:=by
  have e1:(d'.extract 0 n)=d':=by rw [←hs'];simp
  have e2:(L.toArray.extract 0 n)=L.toArray:=by rw [←hL];simp
  rw [e1,e2]at hp;simpa using hp
 have ed:d'.toList.toArray=d':=by simp
 refine⟨rfl,d'.toList,hp',?_,?_,Bb d'⟩
 ·rw [List.pairwise_iff_getElem];intro i j hi hj hij;have h9:=hso i j (Nat.zero_le _) hij (by rw [←hs'];simpa using hj);rw [Dx,getElem!_pos d' j (by simpa using hj),getElem!_pos d' i (by simpa using hi)]at h9;simpa using h9
 ·refine⟨by rw [JX Jq];simp [hs'],.inr ⟨g,cap,_,rfl,hB,EY d' hb,h1,h2,by simp [Go.Sort.putCells,h3],?_⟩⟩;have hf:Go.Sort.flatK CL.cs 3 d'=(Zb CL.cs d'.toList).toArray:=by rw [←BQ,ed]
  have hl:(Zb CL.cs d'.toList).length=n*3:=by rw [JX Jq];simp [hs']
  rw [hf,←hl];refine Qc9 cur _ ?_;rw [hl,h3];exact Nat.mul_le_mul_right _ h1
end Go.Proofs.YthjldgbfgapbcaaGreatDoor
namespace Go.Proofs.YthjldgbfgapbcaaGreatDoor
open Go.RowKit Go.Maps Go.Sort Go.Shelf
theorem Qdd (p:Option Addr) (cap:Nat) (fv:Value) (W:World):Calls Tryz.prog 75 #[.slice p 0 cap,fv] W fun e w'=>e= .returned (.tuple #[])∧w'=W:=
 AnyF.slices_SortFunc_none Tryz.sortCl p cap fv W
theorem Qfm {W:World} {B n:Nat} {v:Value} {L:List CL} (h:W.ownsRow B 49 3 v n (L.flatMap CL.cs)) (hL:L.length=n) (hn:n≤10000):
  ∃A cap,v= .slice A n cap∧Calls Tryz.prog 75 #[.slice A n cap,.func (.func 57) #[] #[]] W fun e w'=>e= .returned (.tuple #[])∧ ∃M:List CL,M.Perm L∧M.Pairwise (fun x y=>ltC y x=false)∧w'.ownsRow B 49 3 (.slice A n cap) n (Zb CL.cs M)∧Below B W w':=by
 rcases h.2 with⟨e,h0⟩ | ⟨g,cap,cur,e,hB,hb,h1,h2,h3,h4⟩
 ·subst e;subst h0;have hl:L= []:=List.length_eq_zero_iff.1 hL;subst hl;refine⟨none,0,rfl,(Qdd none 0 _ W).mono ?_⟩;rintro e w' ⟨rfl,rfl⟩;exact⟨rfl,[],List.Perm.refl _,List.Pairwise.nil,h,Below.refl _ _⟩
 ·subst e;refine⟨some ⟨g,0,none⟩,cap,rfl,(EF h hL hn).mono ?_⟩;rintro e w' ⟨rfl,M,hp,hs,ho,hg⟩;have hlt:g<W.heap.size:=(Array.getElem?_eq_some_iff.1 hb).1;exact⟨rfl,M,hp,hs,ho,(Below.refl _ _).grown hg (by omega) (fun k e=>by cases e;exact hB)⟩
theorem Qgj {E M:List CL} (hp:M.Perm E) (nd:E.Pairwise (fun x y=>x.key≠y.key)) (hs:M.Pairwise (fun x y=>ltC y x=false)):M.Pairwise (fun x y=>ltC x y=true):=by
 have nd2:M.Pairwise (fun x y=>x.key≠y.key):=(hp.symm.pairwise_iff (fun{a b} h=>Ne.symm h)).1 nd;refine(hs.and nd2).imp ?_;rintro⟨xc,xr,xs⟩ ⟨yc,yr,ys⟩ ⟨h1,h2⟩;have h1:=of_decide_eq_false h1;refine decide_eq_true ?_;have h3: ¬(xc=yc∧xr=yr):=fun⟨e1,e2⟩=>h2 (by simp [CL.key,e1,e2]);simp only at h1 ⊢
 omega
theorem Qld: ∀{M M':List CL},M.Pairwise (fun x y=>ltC x y=true)→M'.Pairwise (fun x y=>ltC x y=true)→M.Perm M'→M=M':=fun{M M'} h1 h2 hp=>
 List.Perm.eq_of_pairwise (fun a b _ _ hab hba=>by
  have h1:=of_decide_eq_true hab;have h2:=of_decide_eq_true hba
  omega) h1 h2 hp
theorem Hg (g:Nat) (lb:Array Value) (eg: ∀args w,(callFunc g args).run Tryz.prog w= .ok (.enter g args) w)
  (S:List CL→Prop) (N:Nat) (hN:N≤10000) (hS: ∀ss,S ss→ss.length≤10000) (w:World) (hseq:SeqGives Fence.wide 5 Tryz.prog g lb CL.enc S N w):
  Calls Tryz.prog 55 #[.func (.func g) #[] lb,.func (.func 57) #[] #[]] w fun e w'=> ∃(v:Value) (ss M:List CL),e= .returned v∧S ss∧M.Perm ss∧M.Pairwise (fun x y=>ltC y x=false)∧w'.ownsRow w.heap.size 49 3 v M.length (Zb CL.cs M)∧Below w.heap.size w w':=by
 have HC:=fun W hW=>callsIn_wide.1 (Qam 7 (by omega) g lb eg S N hN W (hseq.later hW));have HC2:Hid (∀W,Below w.heap.size w W→Calls Tryz.prog 74 #[.func (.func g) #[] lb] W fun e w'=> ∃(v:Value) (ss:List CL),e= .returned v∧S ss∧w'.ownsRow W.heap.size 49 3 v ss.length (ss.flatMap CL.cs)∧Below W.heap.size W w'):=HC;have HS:Hid (∀ss,S ss→ss.length≤10000):=hS;clear HC hseq hS;go_enter Tryz.func55,Tryz.ntmps55
 go_wp2_with (first
  | (go_at_call 74;refine(HC2.out _ (Below.refl _ _)).mono ?_;rintro e w1 ⟨v,ss,rfl,hss,hrow,hb1⟩;obtain⟨A,cap,rfl,hso⟩:=Qfm hrow rfl (HS.out ss hss))
  | (go_at_call 75;refine hso.mono ?_;rintro e w2 ⟨rfl,M,hp,hpw,hrow2,hb2⟩))
 go_ret;exact⟨_,ss,M,rfl,hss,hp,hpw,by rw [hp.length_eq];exact hrow2,hb1.trans hb2⟩
theorem CL.key_eq {x y:CL}:x.key=y.key↔x.c=y.c∧x.r=y.r:=by simp [CL.key]
def Gj (p q:Int) (E:List CL):List CL:=E.filter (fun y=> !decide (y.c=p∧y.r=q))
theorem offP_mem {p q:Int} {E:List CL} {y:CL}:y∈Gj p q E↔y∈E∧ ¬(y.c=p∧y.r=q):=by
 unfold Gj;rw [List.mem_filter];simp only [Bool.not_eq_true',decide_eq_false_iff_not]
theorem CmD.nil:CmD (.map []) []:=⟨List.Pairwise.nil,fun x hx=>(by cases hx),fun kl h=>by simp [has_eq]at h⟩
theorem CmD.off {D:DataW Value} {E:List CL} (h:CmD D E) {p q:Int} {kl:Lit} (hk:keyOf Tryz.prog 38 (.agg #[.int .i64 p,.int .i64 q])=some kl):CmD (D.del kl) (Gj p q E) where
 nd:=h.nd.filter _
 into x hx:=by
  obtain⟨hm,hn⟩:=offP_mem.1 hx;obtain⟨k2,hk2,hat⟩:=h.into x hm;refine⟨k2,hk2,fun zd=> ?_⟩
  have hne:k2≠kl:=fun e=>hn (by
   subst e;have:=keyedRef.inj hk2 hk
   simpa [CL.key]using this)
  rw [atKey_del_other hne];exact hat zd
 back k2 hh:=by
  have hne:k2≠kl:=fun e=>by subst e;rw [has_del_same]at hh;cases hh
  rw [has_del_other hne]at hh;obtain⟨x,hx,hk2⟩:=h.back k2 hh;refine⟨x,offP_mem.2 ⟨hx,fun e=>hne ?_⟩,hk2⟩;have h2:x.key= .agg #[.int .i64 p,.int .i64 q]:=by simp [CL.key,e.1,e.2]
  rw [h2,hk]at hk2;exact(Option.some.inj hk2).symm
theorem CmD.on {D:DataW Value} {E:List CL} (h:CmD D E) (hm:IsMap D) {x:CL} {kl:Lit} (hk:keyOf Tryz.prog 38 x.key=some kl):CmD (D.put kl (.held x.enc)) (Gj x.c x.r E++ [x]) where
 nd:=List.pairwise_append.2 ⟨h.nd.filter _,List.pairwise_singleton _ _,fun a ha b hb e=>by
  rw [List.mem_singleton]at hb;subst hb
  exact(offP_mem.1 ha).2 (CL.key_eq.1 e)⟩
 into y hy:=by
  rcases List.mem_append.1 hy with hy | hy
  ·obtain⟨hm,hn⟩:=offP_mem.1 hy;obtain⟨k2,hk2,hat⟩:=h.into y hm;refine⟨k2,hk2,fun zd=> ?_⟩;have hne:k2≠kl:=fun e=>hn (by subst e;exact CL.key_eq.1 (keyedRef.inj hk2 hk));rw [atKey_put_other hne];exact hat zd
  ·rw [List.mem_singleton]at hy;subst hy;exact⟨kl,hk,fun zd=>atKey_put_same hm (keyedRef.key hk) _ _⟩
 back k2 hh:=by
  by_cases e:k2=kl
  ·subst e;exact⟨x,by simp,hk⟩
  ·rw [has_put_other e]at hh;obtain⟨y,hy,hk2⟩:=h.back k2 hh;refine⟨y,List.mem_append_left _ (offP_mem.2 ⟨hy,fun e2=>e ?_⟩),hk2⟩;rw [CL.key_eq.2 e2,hk]at hk2;exact(Option.some.inj hk2).symm
theorem CmD.size {w:World} {b n:Nat} {D:DataW Value} {E:List CL} (h:CmD D E) (ho:w.ownsMap Tryz.prog 38 YU b n D):Maps.size D=E.length:=by
 obtain⟨es,hD,hpw,_⟩:=ho.entries keyedRef;obtain⟨es',hD',hko⟩:=ho.keysOf;obtain rfl:es=es':=by rw [hD]at hD';simpa using hD'
 subst hD
 have h1:(E.map (fun x=>keyOf Tryz.prog 38 x.key)).Nodup:=by
  unfold List.Nodup;rw [List.pairwise_map];refine List.Pairwise.imp_of_mem (fun{x y} hx hy hne e=>hne ?_) h.nd;obtain⟨k1,hk1,_⟩:=h.into x hx;rw [hk1]at e;exact keyedRef.inj hk1 e.symm
 have h2:(es.map (fun p=>some p.1)).Nodup:=by
  unfold List.Nodup;rw [List.pairwise_map];exact hpw.imp (fun hne e=>hne (Option.some.inj e))
 have hp:=(List.perm_ext_iff_of_nodup h1 h2).2 fun o=>by
  rw [List.mem_map,List.mem_map];constructor
  ·rintro⟨x,hx,rfl⟩;obtain⟨k1,hk1,hat⟩:=h.into x hx;have hh:=has_true_of_atKey hat;rw [has_eq,List.any_eq_true]at hh;obtain⟨p,hp,hs⟩:=hh;exact⟨p,hp,by rw [hk1,WideAt.sameKey_eq hs]⟩
  ·rintro⟨p,hp,rfl⟩;obtain⟨v,hv⟩:=hko p hp;obtain⟨x,hx,hk⟩:=h.back p.1 (by rw [has_eq,List.any_eq_true];exact⟨p,hp,WideAt.sameKey_self (keyedRef.key hv)⟩);exact⟨x,hx,hk⟩
 have:=hp.length_eq;simp only [List.length_map]at this;exact this.symm
def clE (C R:Nat→Int) (S:Nat→ByteArray) (n:Nat):List CL:=(List.range n).map fun i=>⟨C i,R i,S i⟩
theorem Mm (C R:Nat→Int) (S:Nat→ByteArray) (n:Nat):clE C R S (n+1)=clE C R S n++ [⟨C n,R n,S n⟩]:=by simp [clE,List.range_succ]
theorem YP (C R:Nat→Int) (S:Nat→ByteArray) (n:Nat):(clE C R S n).length=n:=by simp [clE]
theorem Qmn {C R:Nat→Int} {S:Nat→ByteArray} {n:Nat} {p q:Int} (h: ∀i,i<n→ ¬(C i=p∧R i=q)):Gj p q (clE C R S n)=clE C R S n:=by
 unfold Gj clE;rw [List.filter_eq_self];intro y hy;obtain⟨i,hi,rfl⟩:=List.mem_map.1 hy;simp only [Bool.not_eq_true',decide_eq_false_iff_not];exact h i (List.mem_range.1 hi)
theorem Qi6 {C R:Nat→Int} {S:Nat→ByteArray} {kl:Nat→Lit}: ∀n:Nat,(∀i,i<n→keyOf Tryz.prog 38 (.agg #[.int .i64 (C i),.int .i64 (R i)])=some (kl i))→(∀i j,i<j→j<n→ ¬(C i=C j∧R i=R j))→CmD (clD kl C R S n) (clE C R S n)
 | 0,_,_=>CmD.nil
 | n+1,hk,hd=>by
  have h:=Qi6 (S:=S) n (fun i hi=>hk i (by omega)) (fun i j hij hj=>hd i j hij (by omega));have h2:=h.on (Gg kl C R S n) (x:=⟨C n,R n,S n⟩) (kl:=kl n) (hk n (by omega));rw [Qmn (fun i hi=>hd i n hi (by omega)),←Mm]at h2;exact h2
theorem Qgw {b n:Nat} {D:DataW Value} {p q:Int} {s:ByteArray} {kl:Lit} {B:Nat} (w:World) (h:w.ownsMap Tryz.prog 38 YU b n D) (hB:B≤b) (hn:n≤10000) (hk:keyOf Tryz.prog 38 (.agg #[.int .i64 p,.int .i64 q])=some kl):
  Calls Tryz.prog 35 #[.map (some b),.agg #[.int .i64 p,.int .i64 q],.string s] w fun e w'=>e= .returned (.tuple #[])∧(∃m,m≤n+1∧w'.ownsMap Tryz.prog 38 YU b m (if s.toList.isEmpty=true then D.del kl else D.put kl (.held (.agg #[.int .i64 p,.int .i64 q,.string s]))))∧Below B w w':=by
 have HO:Hid (w.ownsMap Tryz.prog 38 YU b n D):=h;have hbl:=h.lt;clear h;have hs9:B≤w.heap.size:=by omega
 cases e:s.toList.isEmpty
 ·rw [if_neg (by decide)];go_enter Tryz.func35,Tryz.ntmps35
  go_wp2_with (first
   | (at_mapUpdate;refine wpList_mapUpdate_own _ rfl _ _ _ 61 rfl 38 49 keyedRef Tryz.underlying61 YU b n _ rfl (HO.out.alloc _) (by unfold maxLen;omega) _ _ kl rfl rfl hk _ [] rfl ?_;intro w1 hown1 hg1)
   | go_in)
  go_end0
  exact⟨rfl,⟨n+1,Nat.le_refl _,hown1⟩,Below.grown ((Below.refl _ w).alloc hs9 _) hg1 (by simp;omega) (fun j hj=>by cases hj;exact hB)⟩
 ·rw [if_pos rfl];go_enter Tryz.func35,Tryz.ntmps35
  go_wp2_with (first
   | (at_delete;refine wpList_delete_own _ rfl _ _ 61 38 rfl 49 keyedRef Tryz.underlying61 YU b n _ rfl (HO.out.alloc _) _ kl rfl hk ?_;intro w1 hown1 ht1)
   | go_in)
  (try simp only [Exit.inBlock,Exit.then]);refine bodyPost_ret (results_none rfl _ _ _) rfl ?_
  exact⟨rfl,⟨n,by omega,hown1⟩,Below.grown ((Below.refl _ w).alloc hs9 _) ht1.grown (by simp;omega) (fun j hj=>by cases hj;exact hB)⟩
theorem NQ {b n:Nat} {D:DataW Value} {E:List CL} (w:World) (ho:w.ownsMap Tryz.prog 38 YU b n D) (hE:CmD D E) (hn:E.length≤10000):
  Calls Tryz.prog 36 #[.map (some b)] w fun e w'=> ∃A cap M,e= .returned (.slice A E.length cap)∧M.Perm E∧M.Pairwise (fun x y=>ltC x y=true)∧w'.ownsRow w.heap.size 49 3 (.slice A E.length cap) E.length (Zb CL.cs M)∧Below w.heap.size w w':=by
 have hbl:=ho.lt;have hsz:Maps.size D=E.length:=hE.size ho
 have hown':(w.alloc (.cells #[.map (some b)] 61)).ownsMap Tryz.prog 38 YU b n D:=by
  obtain⟨es,clock,hb,Ft,hs,hD⟩:=ho;exact⟨es,clock,(Below.heap_alloc _ _ b hbl).trans hb,Ft,hs,hD⟩
 have hseq:SeqGives Fence.wide 5 Tryz.prog 76 #[.pointer (some ⟨w.heap.size,0,none⟩)] CL.enc (fun ss=>ss.Perm E) (Maps.size D) (w.alloc (.cells #[.map (some b)] 61)):=
  NF 5 (by omega) w.heap.size b n D E hE _ (by simp) (by simp) hown'
 have hsf:=Hg 76 #[.pointer (some ⟨w.heap.size,0,none⟩)] (enters_of Tryz.func76 (by kernel_rfl) rfl) (fun ss=>ss.Perm E) (Maps.size D) (by omega) (fun ss h=>by rw [h.length_eq];exact hn) _ hseq;have hva:=callsIn_wide.1 (Qc4 5 (some b) w);have HND:Hid (E.Pairwise (fun x y=>x.key≠y.key)):=hE.nd;clear hseq hown' hE ho hsz;go_enter Tryz.func36,Tryz.ntmps36
 go_wp2_with (first
  | (go_at_call 56;refine hva.mono ?_;rintro e w1 ⟨rfl,rfl⟩)
  | (go_at_call 55;refine hsf.mono ?_;rintro e w2 ⟨v,ss,M,rfl,hss,hp,hpw,hrow,hb⟩))
 go_ret;have hp2:M.Perm E:=hp.trans hss;rw [hp2.length_eq]at hrow;obtain⟨A,cap,rfl,_⟩:=Qr hrow;refine⟨A,cap,M,rfl,hp2,Qgj hp2 HND.out hpw,ownsRow_base_a hrow (by simp),?_⟩;exact((Below.refl _ w).alloc (Nat.le_refl _) _).trans (hb.mono (by simp))
theorem Gb {α:Type} {p:List α→Prop} (h0:p []) (h1: ∀l x,p l→p (l++ [x])) (l:List α):p l:=by
 have: ∀n (l:List α),l.length=n→p l:=fun n=>by
  induction n with
  | zero=>intro l hl;rw [List.length_eq_zero_iff.1 hl];exact h0
  | succ n ih=>
   intro l hl;have hne:l≠ []:=fun e=>by subst e;cases hl
   rw [←List.dropLast_concat_getLast hne];exact h1 _ _ (ih _ (by rw [List.length_dropLast,hl];rfl))
 exact this _ l rfl
def Ug (x y:CL):Bool:=decide (y.c=x.c∧y.r=x.r)
def stC (x:CL) (a:List CL × Bool) (y:CL):List CL × Bool:=(a.1++(if(!a.2&& !ltC y x)=true then [x]else [])++(if Ug x y=true then []else [y]),a.2 || !ltC y x)
def XJ (x:CL) (d:Bool) (L:List CL):List CL × Bool:=L.foldl (stC x) ([],d)
theorem Vf (x:CL) (d:Bool) (L:List CL) (y:CL):XJ x d (L++ [y])=stC x (XJ x d L) y:=by simp [XJ,List.foldl_append]
theorem Qfs (x:CL) (d:Bool): ∀L:List CL,(XJ x d L).1.length≤L.length+(XJ x d L).2.toNat:=fun L=>by
 induction L using Gb with
 | h0=>simp [XJ]
 | h1 L y ih=>
  rw [Vf];obtain⟨⟨a,b⟩,hr⟩: ∃r,XJ x d L=r:=⟨_,rfl⟩;rw [hr]at ih ⊢;cases b<;>cases h3:ltC y x<;>cases h4:Ug x y<;>simp [stC,h3,h4]at ih ⊢ <;>omega
theorem Qdi (x:CL): ∀L:List CL,XJ x true L=(Gj x.c x.r L,true):=fun L=>by
 induction L using Gb with
 | h0=>rfl
 | h1 L y ih=>
  rw [Vf,ih];simp only [stC,Gj,Ug,List.filter_append,List.filter_cons,List.filter_nil];by_cases h:y.c=x.c∧y.r=x.r<;>simp [h]
def Qcv (x:CL) (L:List CL):List CL:=L.filter (fun y=>ltC y x)
def Gm (x:CL) (L:List CL):List CL:=L.filter (fun y=> !ltC y x&& !sameC x y)
theorem EH (x:CL): ∀L:List CL,L.Pairwise (fun a b=>ltC a b=true)→XJ x false L=(Qcv x L++(if L.any (fun y=> !ltC y x)=true then [x]else [])++Gm x L,L.any (fun y=> !ltC y x)):=fun L=>by
 induction L using Gb with
 | h0=>intro _;rfl
 | h1 L y ih=>
  intro hp;obtain⟨h1,_,h3⟩:=List.pairwise_append.1 hp;rw [Vf,ih h1];cases hy:ltC y x with
  | true=>
   have hall: ∀z∈L,ltC z x=true:=fun z hz=>by
    have h4:=of_decide_eq_true (h3 z hz y (by simp));have h5:=of_decide_eq_true hy;exact decide_eq_true (by omega)
   have hany:L.any (fun y=> !ltC y x)=false:=by
    rw [List.any_eq_false];intro z hz;simp [hall z hz]
   have haft:Gm x L= []:=by
    unfold Gm;rw [List.filter_eq_nil_iff];intro z hz;simp [hall z hz]
   have hns:Ug x y=false:=decide_eq_false (fun e=>by have h5:=of_decide_eq_true hy;omega);have haft2:=haft;unfold Gm at haft2;simp [stC,hany,hy,hns,Qcv,Gm,List.filter_append,haft2]
  | false=>
   cases hany:L.any (fun y=> !ltC y x)with
   | true=>
    cases hs:Ug x y<;>simp [stC,hany,hy,hs,Qcv,Gm,List.filter_append]
   | false=>
    have hall: ∀z∈L,ltC z x=true:=fun z hz=>by
     have:=List.any_eq_false.1 hany z hz;simpa using this
    have haft:Gm x L= []:=by
     unfold Gm;rw [List.filter_eq_nil_iff];intro z hz;simp [hall z hz]
    have haft2:=haft;unfold Gm at haft2;cases hs:Ug x y<;>simp [stC,hany,hy,hs,Qcv,Gm,List.filter_append,haft2]
def Xs (x:CL) (E:List CL):List CL:=if x.s.toList.isEmpty=true then Gj x.c x.r E else Qcv x E++ [x]++Gm x E
theorem Bn {x:CL} {E:List CL} (h:E.Pairwise (fun a b=>ltC a b=true)):Xs x E=(let a:=XJ x x.s.toList.isEmpty E;if a.2=true then a.1 else a.1++ [x]):=by
 unfold Xs;cases he:x.s.toList.isEmpty with
 | true=>rw [Qdi];rfl
 | false=>
  rw [EH x E h];cases hany:E.any (fun y=> !ltC y x)with
  | true=>simp
  | false=>
   have haft:Gm x E= []:=by
    unfold Gm;rw [List.filter_eq_nil_iff];intro z hz;have:=List.any_eq_false.1 hany z hz;simp at this;simp [this]
   simp [haft]
theorem Ve (x:CL) (E:List CL):(Xs x E).Perm (if x.s.toList.isEmpty=true then Gj x.c x.r E else Gj x.c x.r E++ [x]):=by
 unfold Xs;split
 ·exact List.Perm.refl _
 ·have h1:Qcv x E=(Gj x.c x.r E).filter (fun y=>ltC y x):=by
   unfold Qcv Gj;rw [List.filter_filter];refine List.filter_congr (fun y _=> ?_);cases h:ltC y x with
   | false=>rfl
   | true=>
    have h5:=of_decide_eq_true h;simp only [Bool.true_and];exact(by simp only [Bool.not_eq_true',decide_eq_false_iff_not];omega:(!decide (y.c=x.c∧y.r=x.r))=true).symm
  have h2:Gm x E=(Gj x.c x.r E).filter (fun y=> !ltC y x):=by
   unfold Gm Gj;rw [List.filter_filter];rfl
  rw [h1,h2,List.append_assoc];refine((List.perm_append_comm_assoc _ _ _).trans ?_);refine(List.Perm.append_left [x] (List.filter_append_perm _ _)).trans ?_;exact List.perm_append_comm
theorem Qde {x:CL} {E:List CL} (h:E.Pairwise (fun a b=>ltC a b=true)):(Xs x E).Pairwise (fun a b=>ltC a b=true):=by
 unfold Xs;split
 ·exact h.filter _
 ·have hb: ∀y∈Qcv x E,ltC y x=true:=fun y hy=>(List.mem_filter.1 hy).2
  have ha: ∀y∈Gm x E,ltC x y=true:=fun y hy=>by
   have h9:=(List.mem_filter.1 hy).2;simp only [Bool.and_eq_true,Bool.not_eq_true']at h9;have h1:=of_decide_eq_false h9.1;have h2:=of_decide_eq_false h9.2;exact decide_eq_true (by omega)
  refine List.pairwise_append.2 ⟨List.pairwise_append.2 ⟨h.filter _,List.pairwise_singleton _ _,fun a ha' b hb'=> ?_⟩,h.filter _,fun a ha' b hb'=> ?_⟩
  ·rw [List.mem_singleton]at hb';subst hb';exact hb a ha'
  ·have h2:=of_decide_eq_true (ha b hb');rcases List.mem_append.1 ha' with h3 | h3
   ·have h4:=of_decide_eq_true (hb a h3);exact decide_eq_true (by omega)
   ·rw [List.mem_singleton]at h3;subst h3;exact decide_eq_true h2
end Go.Proofs.YthjldgbfgapbcaaGreatDoor
