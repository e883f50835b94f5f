import Derived.Test.YthjldgbfgapbcaaGreatDoorMn
import Derived.Test.YthjldgbfgapbcaaGreatDoorGgc
import Derived.Test.YthjldgbfgapbcaaGreatDoorGzj
import Derived.Test.YthjldgbfgapbcaaGreatDoorShelfC
import Derived.Shelf.SlSortCmp.WholeK
import Derived.Shelf.SlSortCmp.NoneTotal
import Derived.Test.YthjldgbfgapbcaaGreatDoorGzeA
set_option linter.unusedSimpArgs false
set_option linter.unusedVariables false
set_option maxHeartbeats 8000000
set_option maxRecDepth 100000
namespace Go.Proofs.YthjldgbfgapbcaaGreatDoor
open Go.RowKit Go.Maps
def ltC (x y:CL):Bool:=QF x.c x.r y.c y.r
def clC (x y:CL):Int:=Qck x.c x.r y.c y.r
theorem Eb (x y:CL):ltOf clC x y=ltC x y:=by
 show decide (Qck x.c x.r y.c y.r<0)=QF _ _ _ _;have h:=KP x.c x.r y.c y.r;cases e:QF x.c x.r y.c y.r with
 | false=>rw [e]at h;have:=h.2 rfl;exact decide_eq_false (by omega)
 | true=>rw [e]at h;have:=mt h.1 (by decide);exact decide_eq_true (by omega)
theorem Qpf:Go.Sort.SWO (ltOf clC) where
 irrefl x:=by rw [Eb];exact decide_eq_false (by omega)
 trans x y z h1 h2:=by
  rw [Eb]at*;have h1:=of_decide_eq_true h1;have h2:=of_decide_eq_true h2;exact decide_eq_true (by omega)
 ntrans x y z h1 h2:=by
  rw [Eb]at*;have h1:=of_decide_eq_false h1;have h2:=of_decide_eq_false h2;exact decide_eq_false (by omega)
theorem JP (x:CL):(CL.cs x).length=3:=rfl
theorem Qcl (x y:CL) (W:World):Calls Tryz.prog 57 #[.agg (CL.cs x).toArray,.agg (CL.cs y).toArray] W fun e w'=>e= .returned (.int .i64 (clC x y))∧Grw W w':=by
 obtain⟨xc,xr,xs⟩:=x;obtain⟨yc,yr,ys⟩:=y;simp only [CL.cs,clC];obtain⟨r,HR⟩: ∃r,Hid (Qck xc xr yc yr=r):=⟨_,rfl⟩;rw [HR.out];go_enter Tryz.func57,Tryz.ntmps57;go_wp2_with (go_at_call 58;refine(UD _ _ _ _ _).mono ?_;rintro e w' ⟨rfl,hg⟩;rw [HR.out])
 go_ret;exact⟨rfl,Grw.under (Grw.under hg)⟩
theorem Qau [Inhabited CL] (L:List CL):Go.Sort.flatK CL.cs 3 L.toArray=(Qu CL.cs L).toArray:=by
 refine Go.Sort.ext_get! (by simp [Jy JP]) fun t ht=> ?_;have ht':t<L.length*3:=by simpa using ht
 rw [Go.Sort.get_flatK _ _ _ t (by simpa using ht')];have hi:t/3<L.length:=by omega
 have e:t/3*3+t%3=t:=by omega
 have h9:=Jb JP (t%3) (by omega) L (t/3);rw [e,List.getElem?_eq_getElem hi]at h9;have hl:t<(Qu CL.cs L).length:=by rw [Jy JP];exact ht'
 rw [List.getElem?_eq_getElem hl]at h9;have h8:t%3<(CL.cs L[t/3]).length:=by rw [JP];omega
 simp only [Option.bind_some]at h9;rw [List.getElem?_eq_getElem h8]at h9;rw [getElem!_pos (Qu CL.cs L).toArray t (by simpa using hl),getElem!_pos L.toArray (t/3) (by simpa using hi)];simp only [List.getElem_toArray];rw [getElem!_pos (CL.cs L[t/3]) (t%3) h8];exact(Option.some.inj h9).symm
theorem Qca {w:World} {g m:Nat} {os:Array Obj} {cur:Array Value} {e:TypeId} {fr:Nat × Nat} [Inhabited CL] (d:Array CL) (hb:w.heap[g]? =some (.cells cur e fr)):(sortWorldK CL.cs 3 w g 0 m d os).heap[g]? =some (.cells (Go.Sort.putCells id 0 (Go.Sort.flatK CL.cs 3 d) cur) e fr):=by
 have hg:g<w.heap.size:=(Array.getElem?_eq_some_iff.1 hb).1;unfold sortWorldK;rw [Go.Sort.heap_grow_old _ _ (by simpa [Go.Sort.putRowK]using hg)];simp [Go.Sort.putRowK,Go.Sort.putRow,Go.Sort.mapBlock,Go.Sort.ahead,Array.getElem?_modify,hb,Go.Sort.onCells]
theorem EA {w:World} {g m:Nat} {os:Array Obj} [Inhabited CL] (d:Array CL):w.grownBy (sortWorldK CL.cs 3 w g 0 m d os) (some g):=by
 unfold sortWorldK;refine⟨rfl,rfl,rfl,by simp [Go.Sort.putRowK],fun k hk hne=> ?_⟩;rw [Go.Sort.heap_grow_old _ _ (by simpa [Go.Sort.putRowK]using hk)];have:g≠k:=fun e=>hne (by rw [e]);simp [Go.Sort.putRowK,Go.Sort.putRow,Go.Sort.mapBlock,Go.Sort.ahead,Array.getElem?_modify,this]
theorem Qe9 (cur:Array Value) (ts:List Value) (h:ts.length≤cur.size):(Go.Sort.putCells id 0 ts.toArray cur).toList.take ts.length=ts:=by
 apply List.ext_getElem?;intro j;by_cases hj:j<ts.length
 ·rw [List.getElem?_take_of_lt hj,Array.getElem?_toList];simp [Go.Sort.putCells,hj,show j<cur.size by omega]
 ·rw [List.getElem?_take_eq_none (by omega),List.getElem?_eq_none (by omega)]
theorem Qbo {W:World} {B g n cap:Nat} {L:List CL} (h:W.ownsRow B 49 3 (.slice (some ⟨g,0,none⟩) n cap) n (Qu CL.cs L)) (hL:L.length=n) (hn:n≤10000):
  Calls Tryz.prog 75 #[.slice (some ⟨g,0,none⟩) n cap,.func (.func 57) #[] #[]] W fun e w'=>e= .returned (.tuple #[])∧ ∃M:List CL,M.Perm L∧M.Pairwise (fun x y=>ltC y x=false)∧w'.ownsRow B 49 3 (.slice (some ⟨g,0,none⟩) n cap) n (Qu CL.cs M)∧W.grownBy w' (some g):=by
 haveI:Inhabited CL:=⟨⟨0,0,⟨#[]⟩⟩⟩
 rcases h.2 with⟨e,_⟩ | ⟨g',cap',cur,e,hB,hb,h1,h2,h3,h4⟩
 ·cases e
 cases e
 have eg: ∀args w,(callFunc 57 args).run Tryz.prog w= .ok (.enter 57 args) w:=enters_of Tryz.func57 (by kernel_rfl) rfl
 have hH:Go.Sort.HoldsK CL.cs 3 W g 0 L.toArray:=by
  unfold Go.Sort.HoldsK;rw [Qau];intro j hj;have hj':j<n*3:=by rw [←h.1];simpa using hj
  refine⟨?_,by rw [Nat.zero_add];exact h.frozenAt j⟩;rw [Nat.zero_add,h.cellAt j hj',getElem!_pos _ j hj];have hl:j<(Qu CL.cs L).length:=by simpa using hj
  rw [List.getElem?_eq_getElem hl];simp
 have hcmp:CmpLays Tryz.prog 57 #[] CL.cs 3 clC g 0 L.toArray.size W:=fun _ _ _ _ x y=>Qcl x y _;have hcon:=AnyQ.slices_SortFunc Tryz.sortCl 3 Tryz.isAgg49 Tryz.sizeOf49 CL.cs JP (fun x v hv=>by simp [CL.cs]at hv;rcases hv with rfl | rfl | rfl<;>rfl) clC Qpf 57 #[] g 0 cap L.toArray W eg hcmp hH (Array.getElem?_eq_some_iff.1 hb).1 (by simp;omega);rw [show L.toArray.size=n by simp [hL]]at hcon;change Calls Tryz.prog 75 _ _ _ at hcon;refine hcon.mono ?_;rintro e w' ⟨rfl,d',m,os,⟨hs,_,hp⟩,hso,rfl⟩;have hs':d'.size=n:=by rw [hs];simp [hL]
 have hp':d'.toList.Perm L:=by
  have e1:(d'.extract 0 n)=d':=by rw [←hs'];simp
  have e2:(L.toArray.extract 0 n)=L.toArray:=by rw [←hL];simp
  rw [e1,e2]at hp;simpa using hp
 have ed:d'.toList.toArray=d':=by simp
 refine⟨rfl,d'.toList,hp',?_,?_,EA d'⟩
 ·rw [List.pairwise_iff_getElem];intro i j hi hj hij;have h9:=hso i j (Nat.zero_le _) hij (by rw [←hs'];simpa using hj);rw [Eb,getElem!_pos d' j (by simpa using hj),getElem!_pos d' i (by simpa using hi)]at h9;simpa using h9
 ·refine⟨by rw [Jy JP];simp [hs'],.inr ⟨g,cap,_,rfl,hB,Qca d' hb,h1,h2,by simp [Go.Sort.putCells,h3],?_⟩⟩;have hf:Go.Sort.flatK CL.cs 3 d'=(Qu CL.cs d'.toList).toArray:=by rw [←Qau,ed]
  have hl:(Qu CL.cs d'.toList).length=n*3:=by rw [Jy JP];simp [hs']
  rw [hf,←hl];refine Qe9 cur _ ?_;rw [hl,h3];exact Nat.mul_le_mul_right _ h1
end Go.Proofs.YthjldgbfgapbcaaGreatDoor
namespace Go.Proofs.YthjldgbfgapbcaaGreatDoor
open Go.RowKit Go.Maps Go.Sort Go.Shelf
theorem Qfg (p:Option Addr) (cap:Nat) (fv:Value) (W:World):Calls Tryz.prog 75 #[.slice p 0 cap,fv] W fun e w'=>e= .returned (.tuple #[])∧w'=W:=
 AnyF.slices_SortFunc_none Tryz.sortCl p cap fv W
theorem Qhy {W:World} {B n:Nat} {v:Value} {L:List CL} (h:W.ownsRow B 49 3 v n (L.flatMap CL.cs)) (hL:L.length=n) (hn:n≤10000):
  ∃A cap,v= .slice A n cap∧Calls Tryz.prog 75 #[.slice A n cap,.func (.func 57) #[] #[]] W fun e w'=>e= .returned (.tuple #[])∧ ∃M:List CL,M.Perm L∧M.Pairwise (fun x y=>ltC y x=false)∧w'.ownsRow B 49 3 (.slice A n cap) n (Qu CL.cs M)∧Below B W w':=by
 rcases h.2 with⟨e,h0⟩ | ⟨g,cap,cur,e,hB,hb,h1,h2,h3,h4⟩
 ·subst e;subst h0;have hl:L= []:=List.length_eq_zero_iff.1 hL;subst hl;refine⟨none,0,rfl,(Qfg none 0 _ W).mono ?_⟩;rintro e w' ⟨rfl,rfl⟩;exact⟨rfl,[],List.Perm.refl _,List.Pairwise.nil,h,Below.refl _ _⟩
 ·subst e;refine⟨some ⟨g,0,none⟩,cap,rfl,(Qbo h hL hn).mono ?_⟩;rintro e w' ⟨rfl,M,hp,hs,ho,hg⟩;have hlt:g<W.heap.size:=(Array.getElem?_eq_some_iff.1 hb).1;exact⟨rfl,M,hp,hs,ho,(Below.refl _ _).grown hg (by omega) (fun k e=>by cases e;exact hB)⟩
theorem Qiw {E M:List CL} (hp:M.Perm E) (nd:E.Pairwise (fun x y=>x.key≠y.key)) (hs:M.Pairwise (fun x y=>ltC y x=false)):M.Pairwise (fun x y=>ltC x y=true):=by
 have nd2:M.Pairwise (fun x y=>x.key≠y.key):=(hp.symm.pairwise_iff (fun{a b} h=>Ne.symm h)).1 nd;refine(hs.and nd2).imp ?_;rintro⟨xc,xr,xs⟩ ⟨yc,yr,ys⟩ ⟨h1,h2⟩;have h1:=of_decide_eq_false h1;refine decide_eq_true ?_;have h3: ¬(xc=yc∧xr=yr):=fun⟨e1,e2⟩=>h2 (by simp [CL.key,e1,e2]);simp only at h1 ⊢
 omega
theorem Qoa: ∀{M M':List CL},M.Pairwise (fun x y=>ltC x y=true)→M'.Pairwise (fun x y=>ltC x y=true)→M.Perm M'→M=M':=fun{M M'} h1 h2 hp=>
 List.Perm.eq_of_pairwise (fun a b _ _ hab hba=>by
  have h1:=of_decide_eq_true hab;have h2:=of_decide_eq_true hba
  omega) h1 h2 hp
theorem GA (g:Nat) (lb:Array Value) (eg: ∀args w,(callFunc g args).run Tryz.prog w= .ok (.enter g args) w)
  (S:List CL→Prop) (N:Nat) (hN:N≤10000) (hS: ∀ss,S ss→ss.length≤10000) (w:World) (hseq:SeqGives Fence.wide 5 Tryz.prog g lb CL.enc S N w):
  Calls Tryz.prog 55 #[.func (.func g) #[] lb,.func (.func 57) #[] #[]] w fun e w'=> ∃(v:Value) (ss M:List CL),e= .returned v∧S ss∧M.Perm ss∧M.Pairwise (fun x y=>ltC y x=false)∧w'.ownsRow w.heap.size 49 3 v M.length (Qu CL.cs M)∧Below w.heap.size w w':=by
 have HC:=fun W hW=>callsIn_wide.1 (Qcq 7 (by omega) g lb eg S N hN W (hseq.later hW));have HC2:Hid (∀W,Below w.heap.size w W→Calls Tryz.prog 74 #[.func (.func g) #[] lb] W fun e w'=> ∃(v:Value) (ss:List CL),e= .returned v∧S ss∧w'.ownsRow W.heap.size 49 3 v ss.length (ss.flatMap CL.cs)∧Below W.heap.size W w'):=HC;have HS:Hid (∀ss,S ss→ss.length≤10000):=hS;clear HC hseq hS;go_enter Tryz.func55,Tryz.ntmps55
 go_wp2_with (first
  | (go_at_call 74;refine(HC2.out _ (Below.refl _ _)).mono ?_;rintro e w1 ⟨v,ss,rfl,hss,hrow,hb1⟩;obtain⟨A,cap,rfl,hso⟩:=Qhy hrow rfl (HS.out ss hss))
  | (go_at_call 75;refine hso.mono ?_;rintro e w2 ⟨rfl,M,hp,hpw,hrow2,hb2⟩))
 go_ret;exact⟨_,ss,M,rfl,hss,hp,hpw,by rw [hp.length_eq];exact hrow2,hb1.trans hb2⟩
theorem CL.key_eq {x y:CL}:x.key=y.key↔x.c=y.c∧x.r=y.r:=by simp [CL.key]
def Hk (p q:Int) (E:List CL):List CL:=E.filter (fun y=> !decide (y.c=p∧y.r=q))
theorem offP_mem {p q:Int} {E:List CL} {y:CL}:y∈Hk p q E↔y∈E∧ ¬(y.c=p∧y.r=q):=by
 unfold Hk;rw [List.mem_filter];simp only [Bool.not_eq_true',decide_eq_false_iff_not]
theorem CmD.nil:CmD (.map []) []:=⟨List.Pairwise.nil,fun x hx=>(by cases hx),fun kl h=>by simp [has_eq]at h⟩
theorem CmD.off {D:DataW Value} {E:List CL} (h:CmD D E) {p q:Int} {kl:Lit} (hk:keyOf Tryz.prog 38 (.agg #[.int .i64 p,.int .i64 q])=some kl):CmD (D.del kl) (Hk p q E) where
 nd:=h.nd.filter _
 into x hx:=by
  obtain⟨hm,hn⟩:=offP_mem.1 hx;obtain⟨k2,hk2,hat⟩:=h.into x hm;refine⟨k2,hk2,fun zd=> ?_⟩
  have hne:k2≠kl:=fun e=>hn (by
   subst e;have:=keyedRef.inj hk2 hk
   simpa [CL.key]using this)
  rw [atKey_del_other hne];exact hat zd
 back k2 hh:=by
  have hne:k2≠kl:=fun e=>by subst e;rw [has_del_same]at hh;cases hh
  rw [has_del_other hne]at hh;obtain⟨x,hx,hk2⟩:=h.back k2 hh;refine⟨x,offP_mem.2 ⟨hx,fun e=>hne ?_⟩,hk2⟩;have h2:x.key= .agg #[.int .i64 p,.int .i64 q]:=by simp [CL.key,e.1,e.2]
  rw [h2,hk]at hk2;exact(Option.some.inj hk2).symm
theorem CmD.on {D:DataW Value} {E:List CL} (h:CmD D E) (hm:IsMap D) {x:CL} {kl:Lit} (hk:keyOf Tryz.prog 38 x.key=some kl):CmD (D.put kl (.held x.enc)) (Hk x.c x.r E++ [x]) where
 nd:=List.pairwise_append.2 ⟨h.nd.filter _,List.pairwise_singleton _ _,fun a ha b hb e=>by
  rw [List.mem_singleton]at hb;subst hb
  exact(offP_mem.1 ha).2 (CL.key_eq.1 e)⟩
 into y hy:=by
  rcases List.mem_append.1 hy with hy | hy
  ·obtain⟨hm,hn⟩:=offP_mem.1 hy;obtain⟨k2,hk2,hat⟩:=h.into y hm;refine⟨k2,hk2,fun zd=> ?_⟩;have hne:k2≠kl:=fun e=>hn (by subst e;exact CL.key_eq.1 (keyedRef.inj hk2 hk));rw [atKey_put_other hne];exact hat zd
  ·rw [List.mem_singleton]at hy;subst hy;exact⟨kl,hk,fun zd=>atKey_put_same hm (keyedRef.key hk) _ _⟩
 back k2 hh:=by
  by_cases e:k2=kl
  ·subst e;exact⟨x,by simp,hk⟩
  ·rw [has_put_other e]at hh;obtain⟨y,hy,hk2⟩:=h.back k2 hh;refine⟨y,List.mem_append_left _ (offP_mem.2 ⟨hy,fun e2=>e ?_⟩),hk2⟩;rw [CL.key_eq.2 e2,hk]at hk2;exact(Option.some.inj hk2).symm
theorem CmD.size {w:World} {b n:Nat} {D:DataW Value} {E:List CL} (h:CmD D E) (ho:w.ownsMap Tryz.prog 38 Zs b n D):Maps.size D=E.length:=by
 obtain⟨es,hD,hpw,_⟩:=ho.entries keyedRef;obtain⟨es',hD',hko⟩:=ho.keysOf;obtain rfl:es=es':=by rw [hD]at hD';simpa using hD'
 subst hD
 have h1:(E.map (fun x=>keyOf Tryz.prog 38 x.key)).Nodup:=by
  unfold List.Nodup;rw [List.pairwise_map];refine List.Pairwise.imp_of_mem (fun{x y} hx hy hne e=>hne ?_) h.nd;obtain⟨k1,hk1,_⟩:=h.into x hx;rw [hk1]at e;exact keyedRef.inj hk1 e.symm
 have h2:(es.map (fun p=>some p.1)).Nodup:=by
  unfold List.Nodup;rw [List.pairwise_map];exact hpw.imp (fun hne e=>hne (Option.some.inj e))
 have hp:=(List.perm_ext_iff_of_nodup h1 h2).2 fun o=>by
  rw [List.mem_map,List.mem_map];constructor
  ·rintro⟨x,hx,rfl⟩;obtain⟨k1,hk1,hat⟩:=h.into x hx;have hh:=has_true_of_atKey hat;rw [has_eq,List.any_eq_true]at hh;obtain⟨p,hp,hs⟩:=hh;exact⟨p,hp,by rw [hk1,WideAt.sameKey_eq hs]⟩
  ·rintro⟨p,hp,rfl⟩;obtain⟨v,hv⟩:=hko p hp;obtain⟨x,hx,hk⟩:=h.back p.1 (by rw [has_eq,List.any_eq_true];exact⟨p,hp,WideAt.sameKey_self (keyedRef.key hv)⟩);exact⟨x,hx,hk⟩
 have:=hp.length_eq;simp only [List.length_map]at this;exact this.symm
def clE (C R:Nat→Int) (S:Nat→ByteArray) (n:Nat):List CL:=(List.range n).map fun i=>⟨C i,R i,S i⟩
theorem Gs (C R:Nat→Int) (S:Nat→ByteArray) (n:Nat):clE C R S (n+1)=clE C R S n++ [⟨C n,R n,S n⟩]:=by simp [clE,List.range_succ]
theorem Ym (C R:Nat→Int) (S:Nat→ByteArray) (n:Nat):(clE C R S n).length=n:=by simp [clE]
theorem Qpe {C R:Nat→Int} {S:Nat→ByteArray} {n:Nat} {p q:Int} (h: ∀i,i<n→ ¬(C i=p∧R i=q)):Hk p q (clE C R S n)=clE C R S n:=by
 unfold Hk clE;rw [List.filter_eq_self];intro y hy;obtain⟨i,hi,rfl⟩:=List.mem_map.1 hy;simp only [Bool.not_eq_true',decide_eq_false_iff_not];exact h i (List.mem_range.1 hi)
theorem Qc4 {C R:Nat→Int} {S:Nat→ByteArray} {kl:Nat→Lit}: ∀n:Nat,(∀i,i<n→keyOf Tryz.prog 38 (.agg #[.int .i64 (C i),.int .i64 (R i)])=some (kl i))→(∀i j,i<j→j<n→ ¬(C i=C j∧R i=R j))→CmD (clD kl C R S n) (clE C R S n)
 | 0,_,_=>CmD.nil
 | n+1,hk,hd=>by
  have h:=Qc4 (S:=S) n (fun i hi=>hk i (by omega)) (fun i j hij hj=>hd i j hij (by omega));have h2:=h.on (Ui kl C R S n) (x:=⟨C n,R n,S n⟩) (kl:=kl n) (hk n (by omega));rw [Qpe (fun i hi=>hd i n hi (by omega)),←Gs]at h2;exact h2
theorem Qi9 {b n:Nat} {D:DataW Value} {p q:Int} {s:ByteArray} {kl:Lit} {B:Nat} (w:World) (h:w.ownsMap Tryz.prog 38 Zs b n D) (hB:B≤b) (hn:n≤10000) (hk:keyOf Tryz.prog 38 (.agg #[.int .i64 p,.int .i64 q])=some kl):
  Calls Tryz.prog 35 #[.map (some b),.agg #[.int .i64 p,.int .i64 q],.string s] w fun e w'=>e= .returned (.tuple #[])∧(∃m,m≤n+1∧w'.ownsMap Tryz.prog 38 Zs b m (if s.toList.isEmpty=true then D.del kl else D.put kl (.held (.agg #[.int .i64 p,.int .i64 q,.string s]))))∧Below B w w':=by
 have HO:Hid (w.ownsMap Tryz.prog 38 Zs b n D):=h;have hbl:=h.lt;clear h;have hs9:B≤w.heap.size:=by omega
 cases e:s.toList.isEmpty
 ·rw [if_neg (by decide)];go_enter Tryz.func35,Tryz.ntmps35
  go_wp2_with (first
   | (at_mapUpdate;refine wpList_mapUpdate_own _ rfl _ _ _ 61 rfl 38 49 keyedRef Tryz.underlying61 Zs b n _ rfl (HO.out.alloc _) (by unfold maxLen;omega) _ _ kl rfl rfl hk _ [] rfl ?_;intro w1 hown1 hg1)
   | go_in)
  go_end0
  exact⟨rfl,⟨n+1,Nat.le_refl _,hown1⟩,Below.grown ((Below.refl _ w).alloc hs9 _) hg1 (by simp;omega) (fun j hj=>by cases hj;exact hB)⟩
 ·rw [if_pos rfl];go_enter Tryz.func35,Tryz.ntmps35
  go_wp2_with (first
   | (at_delete;refine wpList_delete_own _ rfl _ _ 61 38 rfl 49 keyedRef Tryz.underlying61 Zs b n _ rfl (HO.out.alloc _) _ kl rfl hk ?_;intro w1 hown1 ht1)
   | go_in)
  (try simp only [Exit.inBlock,Exit.then]);refine bodyPost_ret (results_none rfl _ _ _) rfl ?_
  exact⟨rfl,⟨n,by omega,hown1⟩,Below.grown ((Below.refl _ w).alloc hs9 _) ht1.grown (by simp;omega) (fun j hj=>by cases hj;exact hB)⟩
theorem Hl {b n:Nat} {D:DataW Value} {E:List CL} (w:World) (ho:w.ownsMap Tryz.prog 38 Zs b n D) (hE:CmD D E) (hn:E.length≤10000):
  Calls Tryz.prog 36 #[.map (some b)] w fun e w'=> ∃A cap M,e= .returned (.slice A E.length cap)∧M.Perm E∧M.Pairwise (fun x y=>ltC x y=true)∧w'.ownsRow w.heap.size 49 3 (.slice A E.length cap) E.length (Qu CL.cs M)∧Below w.heap.size w w':=by
 have hbl:=ho.lt;have hsz:Maps.size D=E.length:=hE.size ho
 have hown':(w.alloc (.cells #[.map (some b)] 61)).ownsMap Tryz.prog 38 Zs b n D:=by
  obtain⟨es,clock,hb,Ft,hs,hD⟩:=ho;exact⟨es,clock,(Below.heap_alloc _ _ b hbl).trans hb,Ft,hs,hD⟩
 have hseq:SeqGives Fence.wide 5 Tryz.prog 76 #[.pointer (some ⟨w.heap.size,0,none⟩)] CL.enc (fun ss=>ss.Perm E) (Maps.size D) (w.alloc (.cells #[.map (some b)] 61)):=
  Dp 5 (by omega) w.heap.size b n D E hE _ (by simp) (by simp) hown'
 have hsf:=GA 76 #[.pointer (some ⟨w.heap.size,0,none⟩)] (enters_of Tryz.func76 (by kernel_rfl) rfl) (fun ss=>ss.Perm E) (Maps.size D) (by omega) (fun ss h=>by rw [h.length_eq];exact hn) _ hseq;have hva:=callsIn_wide.1 (Qe4 5 (some b) w);have HND:Hid (E.Pairwise (fun x y=>x.key≠y.key)):=hE.nd;clear hseq hown' hE ho hsz;go_enter Tryz.func36,Tryz.ntmps36
 go_wp2_with (first
  | (go_at_call 56;refine hva.mono ?_;rintro e w1 ⟨rfl,rfl⟩)
  | (go_at_call 55;refine hsf.mono ?_;rintro e w2 ⟨v,ss,M,rfl,hss,hp,hpw,hrow,hb⟩))
 go_ret;have hp2:M.Perm E:=hp.trans hss;rw [hp2.length_eq]at hrow;obtain⟨A,cap,rfl,_⟩:=Qh hrow;refine⟨A,cap,M,rfl,hp2,Qiw hp2 HND.out hpw,ownsRow_base_a hrow (by simp),?_⟩;exact((Below.refl _ w).alloc (Nat.le_refl _) _).trans (hb.mono (by simp))
theorem Ug {α:Type} {p:List α→Prop} (h0:p []) (h1: ∀l x,p l→p (l++ [x])) (l:List α):p l:=by
 have: ∀n (l:List α),l.length=n→p l:=fun n=>by
  induction n with
  | zero=>intro l hl;rw [List.length_eq_zero_iff.1 hl];exact h0
  | succ n ih=>
   intro l hl;have hne:l≠ []:=fun e=>by subst e;cases hl
   rw [←List.dropLast_concat_getLast hne];exact h1 _ _ (ih _ (by rw [List.length_dropLast,hl];rfl))
 exact this _ l rfl
def Mm (x y:CL):Bool:=decide (y.c=x.c∧y.r=x.r)
def stC (x:CL) (a:List CL × Bool) (y:CL):List CL × Bool:=(a.1++(if(!a.2&& !ltC y x)=true then [x]else [])++(if Mm x y=true then []else [y]),a.2 || !ltC y x)
def Jh (x:CL) (d:Bool) (L:List CL):List CL × Bool:=L.foldl (stC x) ([],d)
theorem Vx (x:CL) (d:Bool) (L:List CL) (y:CL):Jh x d (L++ [y])=stC x (Jh x d L) y:=by simp [Jh,List.foldl_append]
theorem Qh4 (x:CL) (d:Bool): ∀L:List CL,(Jh x d L).1.length≤L.length+(Jh x d L).2.toNat:=fun L=>by
 induction L using Ug with
 | h0=>simp [Jh]
 | h1 L y ih=>
  rw [Vx];obtain⟨⟨a,b⟩,hr⟩: ∃r,Jh x d L=r:=⟨_,rfl⟩;rw [hr]at ih ⊢;cases b<;>cases h3:ltC y x<;>cases h4:Mm x y<;>simp [stC,h3,h4]at ih ⊢ <;>omega
theorem Qfm (x:CL): ∀L:List CL,Jh x true L=(Hk x.c x.r L,true):=fun L=>by
 induction L using Ug with
 | h0=>rfl
 | h1 L y ih=>
  rw [Vx,ih];simp only [stC,Hk,Mm,List.filter_append,List.filter_cons,List.filter_nil];by_cases h:y.c=x.c∧y.r=x.r<;>simp [h]
def Qes (x:CL) (L:List CL):List CL:=L.filter (fun y=>ltC y x)
def Uu (x:CL) (L:List CL):List CL:=L.filter (fun y=> !ltC y x&& !Mm x y)
theorem Qbq (x:CL): ∀L:List CL,L.Pairwise (fun a b=>ltC a b=true)→Jh x false L=(Qes x L++(if L.any (fun y=> !ltC y x)=true then [x]else [])++Uu x L,L.any (fun y=> !ltC y x)):=fun L=>by
 induction L using Ug with
 | h0=>intro _;rfl
 | h1 L y ih=>
  intro hp;obtain⟨h1,_,h3⟩:=List.pairwise_append.1 hp;rw [Vx,ih h1];cases hy:ltC y x with
  | true=>
   have hall: ∀z∈L,ltC z x=true:=fun z hz=>by
    have h4:=of_decide_eq_true (h3 z hz y (by simp));have h5:=of_decide_eq_true hy;exact decide_eq_true (by omega)
   have hany:L.any (fun y=> !ltC y x)=false:=by
    rw [List.any_eq_false];intro z hz;simp [hall z hz]
   have haft:Uu x L= []:=by
    unfold Uu;rw [List.filter_eq_nil_iff];intro z hz;simp [hall z hz]
   have hns:Mm x y=false:=decide_eq_false (fun e=>by have h5:=of_decide_eq_true hy;omega);have haft2:=haft;unfold Uu at haft2;simp [stC,hany,hy,hns,Qes,Uu,List.filter_append,haft2]
  | false=>
   cases hany:L.any (fun y=> !ltC y x)with
   | true=>
    cases hs:Mm x y<;>simp [stC,hany,hy,hs,Qes,Uu,List.filter_append]
   | false=>
    have hall: ∀z∈L,ltC z x=true:=fun z hz=>by
     have:=List.any_eq_false.1 hany z hz;simpa using this
    have haft:Uu x L= []:=by
     unfold Uu;rw [List.filter_eq_nil_iff];intro z hz;simp [hall z hz]
    have haft2:=haft;unfold Uu at haft2;cases hs:Mm x y<;>simp [stC,hany,hy,hs,Qes,Uu,List.filter_append,haft2]
def YE (x:CL) (E:List CL):List CL:=if x.s.toList.isEmpty=true then Hk x.c x.r E else Qes x E++ [x]++Uu x E
theorem ES {x:CL} {E:List CL} (h:E.Pairwise (fun a b=>ltC a b=true)):YE x E=(let a:=Jh x x.s.toList.isEmpty E;if a.2=true then a.1 else a.1++ [x]):=by
 unfold YE;cases he:x.s.toList.isEmpty with
 | true=>rw [Qfm];rfl
 | false=>
  rw [Qbq x E h];cases hany:E.any (fun y=> !ltC y x)with
  | true=>simp
  | false=>
   have haft:Uu x E= []:=by
    unfold Uu;rw [List.filter_eq_nil_iff];intro z hz;have:=List.any_eq_false.1 hany z hz;simp at this;simp [this]
   simp [haft]
theorem Xo (x:CL) (E:List CL):(YE x E).Perm (if x.s.toList.isEmpty=true then Hk x.c x.r E else Hk x.c x.r E++ [x]):=by
 unfold YE;split
 ·exact List.Perm.refl _
 ·have h1:Qes x E=(Hk x.c x.r E).filter (fun y=>ltC y x):=by
   unfold Qes Hk;rw [List.filter_filter];refine List.filter_congr (fun y _=> ?_);cases h:ltC y x with
   | false=>rfl
   | true=>
    have h5:=of_decide_eq_true h;simp only [Bool.true_and];exact(by simp only [Bool.not_eq_true',decide_eq_false_iff_not];omega:(!decide (y.c=x.c∧y.r=x.r))=true).symm
  have h2:Uu x E=(Hk x.c x.r E).filter (fun y=> !ltC y x):=by
   unfold Uu Hk;rw [List.filter_filter];rfl
  rw [h1,h2,List.append_assoc];refine((List.perm_append_comm_assoc _ _ _).trans ?_);refine(List.Perm.append_left [x] (List.filter_append_perm _ _)).trans ?_;exact List.perm_append_comm
theorem Vw {x:CL} {E:List CL} (h:E.Pairwise (fun a b=>ltC a b=true)):(YE x E).Pairwise (fun a b=>ltC a b=true):=by
 unfold YE;split
 ·exact h.filter _
 ·have hb: ∀y∈Qes x E,ltC y x=true:=fun y hy=>(List.mem_filter.1 hy).2
  have ha: ∀y∈Uu x E,ltC x y=true:=fun y hy=>by
   have h9:=(List.mem_filter.1 hy).2;simp only [Bool.and_eq_true,Bool.not_eq_true']at h9;have h1:=of_decide_eq_false h9.1;have h2:=of_decide_eq_false h9.2;exact decide_eq_true (by omega)
  refine List.pairwise_append.2 ⟨List.pairwise_append.2 ⟨h.filter _,List.pairwise_singleton _ _,fun a ha' b hb'=> ?_⟩,h.filter _,fun a ha' b hb'=> ?_⟩
  ·rw [List.mem_singleton]at hb';subst hb';exact hb a ha'
  ·have h2:=of_decide_eq_true (ha b hb');rcases List.mem_append.1 ha' with h3 | h3
   ·have h4:=of_decide_eq_true (hb a h3);exact decide_eq_true (by omega)
   ·rw [List.mem_singleton]at h3;subst h3;exact decide_eq_true h2
end Go.Proofs.YthjldgbfgapbcaaGreatDoor
namespace Go.Proofs.YthjldgbfgapbcaaGreatDoor
open Go.RowKit Go.Maps
theorem QS {ops:Array Oper} {rest:List Oper} {o:Oper} {a:Act} {Q:Exit→Act→World→Prop} {W:World} (hgd:o.guard=none) (s x:Operand) (ho:o.op= .call {callee:= .builtin .append,args:= #[s,x],argTypes:= #[24,24]}) (B:Nat) (v:Value) (n:Nat) (L:List CL) (hs:a.eval s=v)
  (hown:W.ownsRow B 49 3 v n (Qu CL.cs L)) (c r:Int) (tx:ByteArray) (g:Nat) (hx:a.eval x= .slice (some ⟨g,0,none⟩) 1 1) (h0:W.cell? ⟨g,0,none⟩=some (.int .i64 c)) (h1:W.cell? ⟨g,1,none⟩=some (.int .i64 r)) (h2:W.cell? ⟨g,2,none⟩=some (.string tx)) (hn:n≤1099511627776) (hB:B≤W.heap.size)
  (h: ∀v' w',w'.ownsRow B 49 3 v' (n+1) (Qu CL.cs (L++ [⟨c,r,tx⟩]))→W.grownBy w' v.ownBlock→wpList Tryz.prog ops Q rest (a.put o.dst v') w'):wpList Tryz.prog ops Q (o::rest) a W:=by
 obtain⟨i0,hi,iz0,iz1,iz2⟩:=info_parts NM;refine wpList_append_own W hgd s x 24 ho B 49 i0 (.agg #[.int .i64 0,.int .i64 0,.string ⟨#[]⟩]) 3 32 Tryz.underlying24 hi iz0 iz1 iz2 rfl (by decide) v n _ hs hown ⟨g,0,none⟩ 1 1 [.int .i64 c,.int .i64 r,.string tx] hx rfl ?_ ?_ ?_ ?_ hB ?_
 ·intro q u hq;match q,hq with
  | 0,hq=>simp at hq;subst hq;simpa [Addr.add]using h0
  | 1,hq=>simp at hq;subst hq;simpa [Addr.add]using h1
  | 2,hq=>simp at hq;subst hq;simpa [Addr.add]using h2
 ·intro u hu;simp at hu;rcases hu with rfl | rfl | rfl<;>rfl
 ·unfold maxLen;omega
 ·omega
 ·intro v' w3 hown' hgrow _;refine h v' w3 ?_ hgrow;rw [Ye];exact hown'
def Qed (x:CL) (E:List CL):List CL:=if(Jh x x.s.toList.isEmpty E).2=true then(Jh x x.s.toList.isEmpty E).1 else(Jh x x.s.toList.isEmpty E).1++ [x]
theorem Mi {A:Option Addr} {n cap:Nat} {C R:Nat→Int} {S:Nat→ByteArray} {p q:Int} {s:ByteArray} (w:World) (h:ClRow w A n C R S) (hn:n≤10000):
  Calls Tryz.prog 40 #[.slice A n cap,.agg #[.int .i64 p,.int .i64 q],.string s] w fun e w'=> ∃A' c' m,e= .returned (.slice A' m c')∧(Qed ⟨p,q,s⟩ (clE C R S n)).length=m∧w'.ownsRow w.heap.size 49 3 (.slice A' m c') m (Qu CL.cs (Qed ⟨p,q,s⟩ (clE C R S n)))∧Below w.heap.size w w':=by
 have HR:Hid (ClRow w A n C R S):=h;clear h;obtain⟨x,HX⟩: ∃x:CL,Hid (x=⟨p,q,s⟩):=⟨_,rfl⟩;have HXE:Hid ((⟨p,q,s⟩:CL)=x):=HX.out.symm;rw [HXE.out];obtain⟨d0,HD0⟩: ∃d0:Bool,Hid (s.toList.isEmpty=d0):=⟨_,rfl⟩;have hd0:=HD0.out
 go_enter Tryz.func40,Tryz.ntmps40;go_wp2_with fail
 obtain⟨u,HU⟩: ∃u,Hid (w.alloc (.cells #[.int .i64 p,.int .i64 q] 38)=u):=⟨_,rfl⟩;have HBU:Hid (Below w.heap.size w u):=by rw [←HU.out];exact(Below.refl _ _).alloc (Nat.le_refl _) _
 have HUS:Hid (u.heap.size=w.heap.size+1):=by show _=_;rw [←HU.out];simp
 have p0:u.cell? ⟨w.heap.size,0,none⟩=some (.int .i64 p):=by rw [←HU.out];go_simp
 have p1:u.cell? ⟨w.heap.size,1,none⟩=some (.int .i64 q):=by rw [←HU.out];go_simp
 have P0:Hid (u.cell? ⟨w.heap.size,0,none⟩=some (.int .i64 p)):=p0;have P1:Hid (u.cell? ⟨w.heap.size,1,none⟩=some (.int .i64 q)):=p1;clear p0 p1;rw [HU.out];have HE0:Hid ((u.alloc (.cells #[] 49)).ownsRow u.heap.size 49 3 (.slice (some ⟨u.heap.size,0,none⟩) 0 0) 0 []):=Jj (Nat.le_refl _) rfl;go_loopw [7,8,9] (fun v b i wr=> ∃(t:Nat) (A':Option Addr) (k c:Nat),t≤n∧v= .slice A' k c∧b= .bool (Jh x d0 (clE C R S t)).2∧i= .int .i64 t∧(Jh x d0 (clE C R S t)).1.length=k∧wr.ownsRow u.heap.size 49 3 (.slice A' k c) k (Qu CL.cs (Jh x d0 (clE C R S t)).1)∧Below u.heap.size u wr) (fun _ _ i _=>n-(intOf i).toNat)
 case atStart=>exact⟨0,_,0,0,Nat.zero_le _,rfl,rfl,rfl,rfl,by have h9:=HE0.out;rw [HUS.out]at h9;rw [HUS.out];exact h9,(Below.refl _ _).alloc (Nat.le_refl _) _⟩
 case round=>
  obtain⟨t,A',k,c,ht,rfl,rfl,rfl,hkl,hown,hbel⟩:=hrel;obtain⟨⟨LT,dn⟩,HLT⟩: ∃r,Hid (Jh x d0 (clE C R S t)=r):=⟨_,rfl⟩;rw [HLT.out]at hkl hown ⊢;have HOW:Hid (wr.ownsRow u.heap.size 49 3 (.slice A' k c) k (Qu CL.cs LT)):=hown;have HKL:Hid (LT.length=k):=hkl
  have HKT:Hid (k≤t+1):=by
   have h9:=Qh4 x d0 (clE C R S t);rw [HLT.out,Ym]at h9;show k≤t+1;rw [←HKL.out];have h8:dn.toNat≤1:=by cases dn<;>decide
   simp only at h9;omega
  have hkt:=HKT.out;have KV:Hid (Below u.heap.size u wr):=hbel;have hsv:=hbel.size;have KA:Hid (Below w.heap.size w wr):=HBU.out.trans (hbel.mono (by have:=HUS.out;omega));have y0:=(hbel.cell (p:=⟨w.heap.size,0,none⟩) (by show w.heap.size<u.heap.size;have:=HUS.out;omega)).trans P0.out;have y1:=(hbel.cell (p:=⟨w.heap.size,1,none⟩) (by show w.heap.size<u.heap.size;have:=HUS.out;omega)).trans P1.out;have yz:w.heap.size<wr.heap.size:=by have:=HUS.out;omega
  clear hown hkl hbel;by_cases hlt:t<n
  ·obtain⟨b,o,rfl,hl,c0,c1,c2,_⟩:=HR.out.2 t hlt;rw [←KA.out.cell (p:=⟨_,_,none⟩) hl]at c0 c1 c2;have hl2:b<wr.heap.size:=Nat.lt_of_lt_of_le hl KA.out.size;have HBL:Hid (b<w.heap.size):=hl;have q0:(0:Int)≤(t:Int):=by omega
   have q1:(t:Int)<(n:Int):=by omega
   obtain⟨y,HY⟩: ∃y:CL,Hid (y=⟨C t,R t,S t⟩):=⟨_,rfl⟩;have HRN:Hid (Jh x d0 (clE C R S (t+1))=stC x (LT,dn) y):=by show _=_;rw [Gs,←HY.out,Vx,HLT.out]
   obtain⟨ah,HA⟩: ∃ah:Bool,Hid (QF (C t) (R t) p q=ah):=⟨_,rfl⟩;have HLA:Hid (ltC y x=ah):=by show _=_;rw [HY.out,HX.out];exact HA.out
   have SX:Hid (∀v,stC x (LT,dn) y=v→Jh x d0 (clE C R S (t+1))=v):=fun v h9=>HRN.out.trans h9;go_upto_region 6 with fail
   go_cut [30]from 13 to 50 (fun v wx=>v= .bool (!dn&& !ah)∧Below wr.heap.size wr wx)
   case first=>
    cases dn
    ·go_region_held3 (fun w'=>(∀bq oq,bq<wr.heap.size→w'.cell? ⟨bq,oq,none⟩=wr.cell? ⟨bq,oq,none⟩)∧wr.heap.size≤w'.heap.size∧Below wr.heap.size wr w')
      (exact Qk (Nat.le_refl _) (by go_grown))
      (first
      | (go_at_call 29;refine(ZS _ _ _ _ _).mono ?_;rintro e w1 ⟨rfl,hb⟩;rw [HA.out];obtain⟨hk1,hz1⟩:=Qg (B:=wr.heap.size) (X:=wr) (by go_grown) (by go_size) hb;have hC:=fun b o h=>hk1.cell (p:=⟨b,o,none⟩) h;clear hb))
     all_goals
      go_wp2_with fail
      go_meet;exact⟨rfl,by go_grown⟩
    ·go_quiet (fail)
     go_wp2_with fail
     go_meet;exact⟨rfl,below_drewN (Below.refl _ _) _⟩
   case rest=>
    obtain⟨rfl,hbx⟩:=hcut;have KC:Hid (Below u.heap.size u wc):=KV.out.trans (hbx.mono hsv);have HOc:=hd (Qe HOW.out hbx);replace y0:=(hbx.cell (p:=⟨w.heap.size,0,none⟩) yz).trans y0;replace y1:=(hbx.cell (p:=⟨w.heap.size,1,none⟩) yz).trans y1;replace c0:=(hbx.cell (p:=⟨b,_,none⟩) hl2).trans c0;replace c1:=(hbx.cell (p:=⟨b,_,none⟩) hl2).trans c1
    replace c2:=(hbx.cell (p:=⟨b,_,none⟩) hl2).trans c2;have zx:=hbx.size;replace yz:w.heap.size<wc.heap.size:=by omega
    replace hl2:b<wc.heap.size:=by omega
    have hsc:u.heap.size≤wc.heap.size:=by omega
    clear hbx KV KA HOW;have hor:(!dn&& !ah)=false→(dn || !ah)=dn:=by cases dn<;>cases ah<;>simp
    have hor2:(!dn&& !ah)=true→(dn || !ah)=true:=by cases dn<;>cases ah<;>simp
    have HOR:Hid ((!dn&& !ah)=false→(dn || !ah)=dn):=hor;have HOR2:Hid ((!dn&& !ah)=true→(dn || !ah)=true):=hor2;clear hor hor2;by_cases hsame:C t=p∧R t=q
    ·have HSM:Hid (Mm x y=true):=by show _=_;rw [HY.out,HX.out];exact decide_eq_true hsame
     cases hput:(!dn&& !ah)
     ·have HI:Hid (Jh x d0 (clE C R S (t+1))=(LT,dn)):=by
       show _=_;rw [HRN.out,stC,HLA.out,HSM.out,if_neg (by rw [hput];decide),if_pos rfl,List.append_nil,List.append_nil,HOR.out hput]
      go_wp2_with fail
      go_quiet (fail)
      go_wp2_with fail
      go_roundw
      case rel=>exact⟨t+1,A',k,c,by omega,rfl,by rw [HI.out],by go_num,by rw [HI.out];exact HKL.out,by rw [HI.out];exact Qe HOc.out (below_drewN (Below.refl _ _) _),below_drewN KC.out _⟩
      case measure=>simp [intOf];omega
     ·have HI:Hid (Jh x d0 (clE C R S (t+1))=(LT++ [⟨p,q,s⟩],true)):=by
       show _=_;rw [HRN.out,stC,HLA.out,HSM.out,if_pos hput,if_pos rfl,List.append_nil,HOR2.out hput,HXE.out]
      go_wp2_with (first
       | (at_builtin;refine QS rfl _ _ rfl u.heap.size (.slice A' k c) k LT rfl (HOc.out.alloc _) p q s wc.heap.size rfl (by simp [go_sem]) (by simp [go_sem]) (by simp [go_sem]) (by omega) (by simp;omega) ?_)
       | fail)
      intro va w6 ho hg;obtain⟨F6,h6,rfl,_,_⟩:=Qh ho;have hba:Below wc.heap.size wc (wc.alloc (.cells #[.int .i64 p,.int .i64 q,.string s] 49)):=(Below.refl _ _).alloc (Nat.le_refl _) _;have HO6:Hid (w6.ownsRow u.heap.size 49 3 (.slice F6 (k+1) h6) (k+1) (Qu CL.cs (LT++ [⟨p,q,s⟩]))):=ho;have K6:Hid (Below u.heap.size u w6):=(KC.out.alloc hsc _).grown hg (by simp;omega) (fun j hj=>(HOc.out.lt j hj).1);have nB:some b≠(Value.slice A' k c).ownBlock:=fun e=>by have h8:=(HOc.out.lt _ e.symm).1;have h9:=HBL.out;have:=HUS.out;omega
      have nW:some w.heap.size≠(Value.slice A' k c).ownBlock:=fun e=>by have h8:=(HOc.out.lt _ e.symm).1;have:=HUS.out;omega
      replace c0:=hg.cell ((hba.cell (p:=⟨b,_,none⟩) hl2).trans c0) nB;replace c1:=hg.cell ((hba.cell (p:=⟨b,_,none⟩) hl2).trans c1) nB;replace c2:=hg.cell ((hba.cell (p:=⟨b,_,none⟩) hl2).trans c2) nB;replace y0:=hg.cell ((hba.cell (p:=⟨w.heap.size,0,none⟩) yz).trans y0) nW;replace y1:=hg.cell ((hba.cell (p:=⟨w.heap.size,1,none⟩) yz).trans y1) nW;have sz6:wc.heap.size≤w6.heap.size:=Nat.le_trans hba.size hg.size;replace hl2:b<w6.heap.size:=Nat.lt_of_lt_of_le hl2 sz6
      replace yz:w.heap.size<w6.heap.size:=Nat.lt_of_lt_of_le yz sz6;have hs6:u.heap.size≤w6.heap.size:=Nat.le_trans hsc sz6;clear ho hg hba;go_wp2_with fail
      go_quiet (fail)
      go_wp2_with fail
      go_roundw
      case rel=>exact⟨t+1,F6,k+1,h6,by omega,rfl,by rw [HI.out],by go_num,by rw [HI.out];simp [HKL.out],by rw [HI.out];exact Qe HO6.out (below_drewN (Below.refl _ _) _),below_drewN K6.out _⟩
      case measure=>simp [intOf];omega
    ·have HSM:Hid (Mm x y=false):=by show _=_;rw [HY.out,HX.out];exact decide_eq_false hsame
     by_cases e1:C t=p
     ·have e1c:(C t==p)=true:=beq_iff_eq.2 e1;have e2: ¬R t=q:=fun e=>hsame ⟨e1,e⟩;have e2b:(R t==q)=false:=beq_eq_false_iff_ne.2 e2;clear hsame;cases hput:(!dn&& !ah)
      ·have HI:Hid (Jh x d0 (clE C R S (t+1))=(LT++ [⟨C t,R t,S t⟩],dn)):=by
        show _=_;rw [HRN.out,stC,HLA.out,HSM.out,if_neg (by rw [hput];decide),if_neg (by decide),List.append_nil,HOR.out hput,←HY.out]
       go_wp2_with fail
       go_quiet (fail)
       obtain⟨wq,HWQ⟩: ∃wq,Hid (wc.drewN nq=wq):=⟨_,rfl⟩;rw [HWQ.out];have hbq:Below wc.heap.size wc wq:=by rw [←HWQ.out];exact below_drewN (Below.refl _ _) _
       replace c0:=(hbq.cell (p:=⟨b,_,none⟩) hl2).trans c0;replace c1:=(hbq.cell (p:=⟨b,_,none⟩) hl2).trans c1;replace c2:=(hbq.cell (p:=⟨b,_,none⟩) hl2).trans c2;have HOd:=hd (Qe HOc.out hbq);have KQ:Hid (Below u.heap.size u wq):=KC.out.trans (hbq.mono hsc);have hsq:u.heap.size≤wq.heap.size:=Nat.le_trans hsc hbq.size;replace hl2:b<wq.heap.size:=Nat.lt_of_lt_of_le hl2 hbq.size
       clear hbq
       go_wp2_with (first
        | (at_builtin;refine QS rfl _ _ rfl u.heap.size (.slice A' (k) c) (k) (LT) rfl (HOd.out.alloc _) (C t) (R t) (S t) wq.heap.size rfl (by simp [go_sem, *]) (by simp [go_sem, *]) (by simp [go_sem, *]) (by omega) (by simp;omega) ?_)
        | fail)
       intro va w7 ho hg;obtain⟨F7,h7,rfl,_,_⟩:=Qh ho
       have HO7:Hid (w7.ownsRow u.heap.size 49 3 (.slice F7 (k+1) h7) (k+1) (Qu CL.cs (LT++ [⟨C t,R t,S t⟩]))):=by
        show w7.ownsRow u.heap.size 49 3 (.slice F7 (k+1) h7) (k+1) (Qu CL.cs (LT++ [⟨C t,R t,S t⟩]));first | exact ho | (rw [e1];exact ho) | (rw [List.append_assoc];exact ho) | (rw [List.append_assoc,e1];exact ho)
       have K7:Hid (Below u.heap.size u w7):=(KQ.out.alloc hsq _).grown hg (by simp;omega) (fun j hj=>(HOd.out.lt j hj).1);clear ho hg;go_wp2_with fail
       go_roundw
       case rel=>exact⟨t+1,F7,k+1,h7,by omega,rfl,by rw [HI.out],by go_num,by rw [HI.out];simp [HKL.out],by rw [HI.out];exact HO7.out,K7.out⟩
       case measure=>simp [intOf];omega
      ·have HI:Hid (Jh x d0 (clE C R S (t+1))=(LT++ [⟨p,q,s⟩]++ [⟨C t,R t,S t⟩],true)):=by
        show _=_;rw [HRN.out,stC,HLA.out,HSM.out,if_pos hput,if_neg (by decide),HOR2.out hput,HXE.out,←HY.out]
       go_wp2_with (first
        | (at_builtin;refine QS rfl _ _ rfl u.heap.size (.slice A' k c) k LT rfl (HOc.out.alloc _) p q s wc.heap.size rfl (by simp [go_sem]) (by simp [go_sem]) (by simp [go_sem]) (by omega) (by simp;omega) ?_)
        | fail)
       intro va w6 ho hg;obtain⟨F6,h6,rfl,_,_⟩:=Qh ho;have hba:Below wc.heap.size wc (wc.alloc (.cells #[.int .i64 p,.int .i64 q,.string s] 49)):=(Below.refl _ _).alloc (Nat.le_refl _) _;have HO6:Hid (w6.ownsRow u.heap.size 49 3 (.slice F6 (k+1) h6) (k+1) (Qu CL.cs (LT++ [⟨p,q,s⟩]))):=ho;have K6:Hid (Below u.heap.size u w6):=(KC.out.alloc hsc _).grown hg (by simp;omega) (fun j hj=>(HOc.out.lt j hj).1);have nB:some b≠(Value.slice A' k c).ownBlock:=fun e=>by have h8:=(HOc.out.lt _ e.symm).1;have h9:=HBL.out;have:=HUS.out;omega
       have nW:some w.heap.size≠(Value.slice A' k c).ownBlock:=fun e=>by have h8:=(HOc.out.lt _ e.symm).1;have:=HUS.out;omega
       replace c0:=hg.cell ((hba.cell (p:=⟨b,_,none⟩) hl2).trans c0) nB;replace c1:=hg.cell ((hba.cell (p:=⟨b,_,none⟩) hl2).trans c1) nB;replace c2:=hg.cell ((hba.cell (p:=⟨b,_,none⟩) hl2).trans c2) nB;replace y0:=hg.cell ((hba.cell (p:=⟨w.heap.size,0,none⟩) yz).trans y0) nW;replace y1:=hg.cell ((hba.cell (p:=⟨w.heap.size,1,none⟩) yz).trans y1) nW;have sz6:wc.heap.size≤w6.heap.size:=Nat.le_trans hba.size hg.size;replace hl2:b<w6.heap.size:=Nat.lt_of_lt_of_le hl2 sz6
       replace yz:w.heap.size<w6.heap.size:=Nat.lt_of_lt_of_le yz sz6;have hs6:u.heap.size≤w6.heap.size:=Nat.le_trans hsc sz6;clear ho hg hba;go_wp2_with fail
       go_quiet (fail)
       obtain⟨wq,HWQ⟩: ∃wq,Hid (w6.drewN nq=wq):=⟨_,rfl⟩;rw [HWQ.out];have hbq:Below w6.heap.size w6 wq:=by rw [←HWQ.out];exact below_drewN (Below.refl _ _) _
       replace c0:=(hbq.cell (p:=⟨b,_,none⟩) hl2).trans c0;replace c1:=(hbq.cell (p:=⟨b,_,none⟩) hl2).trans c1;replace c2:=(hbq.cell (p:=⟨b,_,none⟩) hl2).trans c2;have HOd:=hd (Qe HO6.out hbq);have KQ:Hid (Below u.heap.size u wq):=K6.out.trans (hbq.mono hs6);have hsq:u.heap.size≤wq.heap.size:=Nat.le_trans hs6 hbq.size;replace hl2:b<wq.heap.size:=Nat.lt_of_lt_of_le hl2 hbq.size
       clear hbq
       go_wp2_with (first
        | (at_builtin;refine QS rfl _ _ rfl u.heap.size (.slice F6 (k+1) h6) (k+1) (LT++ [⟨p,q,s⟩]) rfl (HOd.out.alloc _) (C t) (R t) (S t) wq.heap.size rfl (by simp [go_sem, *]) (by simp [go_sem, *]) (by simp [go_sem, *]) (by omega) (by simp;omega) ?_)
        | fail)
       intro va w7 ho hg;obtain⟨F7,h7,rfl,_,_⟩:=Qh ho
       have HO7:Hid (w7.ownsRow u.heap.size 49 3 (.slice F7 (k+1+1) h7) (k+1+1) (Qu CL.cs (LT++ [⟨p,q,s⟩]++ [⟨C t,R t,S t⟩]))):=by
        show w7.ownsRow u.heap.size 49 3 (.slice F7 (k+1+1) h7) (k+1+1) (Qu CL.cs (LT++ [⟨p,q,s⟩]++ [⟨C t,R t,S t⟩]));first | exact ho | (rw [e1];exact ho) | (rw [List.append_assoc];exact ho) | (rw [List.append_assoc,e1];exact ho)
       have K7:Hid (Below u.heap.size u w7):=(KQ.out.alloc hsq _).grown hg (by simp;omega) (fun j hj=>(HOd.out.lt j hj).1);clear ho hg;go_wp2_with fail
       go_roundw
       case rel=>exact⟨t+1,F7,k+1+1,h7,by omega,rfl,by rw [HI.out],by go_num,by rw [HI.out];simp [HKL.out],by rw [HI.out];exact HO7.out,K7.out⟩
       case measure=>simp [intOf];omega
     ·have e1b:(C t==p)=false:=beq_eq_false_iff_ne.2 e1;clear hsame;cases hput:(!dn&& !ah)
      ·have HI:Hid (Jh x d0 (clE C R S (t+1))=(LT++ [⟨C t,R t,S t⟩],dn)):=by
        show _=_;rw [HRN.out,stC,HLA.out,HSM.out,if_neg (by rw [hput];decide),if_neg (by decide),List.append_nil,HOR.out hput,←HY.out]
       go_wp2_with fail
       go_quiet (fail)
       obtain⟨wq,HWQ⟩: ∃wq,Hid (wc.drewN nq=wq):=⟨_,rfl⟩;rw [HWQ.out];have hbq:Below wc.heap.size wc wq:=by rw [←HWQ.out];exact below_drewN (Below.refl _ _) _
       replace c0:=(hbq.cell (p:=⟨b,_,none⟩) hl2).trans c0;replace c1:=(hbq.cell (p:=⟨b,_,none⟩) hl2).trans c1;replace c2:=(hbq.cell (p:=⟨b,_,none⟩) hl2).trans c2;have HOd:=hd (Qe HOc.out hbq);have KQ:Hid (Below u.heap.size u wq):=KC.out.trans (hbq.mono hsc);have hsq:u.heap.size≤wq.heap.size:=Nat.le_trans hsc hbq.size;replace hl2:b<wq.heap.size:=Nat.lt_of_lt_of_le hl2 hbq.size
       clear hbq
       go_wp2_with (first
        | (at_builtin;refine QS rfl _ _ rfl u.heap.size (.slice A' (k) c) (k) (LT) rfl (HOd.out.alloc _) (C t) (R t) (S t) wq.heap.size rfl (by simp [go_sem, *]) (by simp [go_sem, *]) (by simp [go_sem, *]) (by omega) (by simp;omega) ?_)
        | fail)
       intro va w7 ho hg;obtain⟨F7,h7,rfl,_,_⟩:=Qh ho
       have HO7:Hid (w7.ownsRow u.heap.size 49 3 (.slice F7 (k+1) h7) (k+1) (Qu CL.cs (LT++ [⟨C t,R t,S t⟩]))):=by
        show w7.ownsRow u.heap.size 49 3 (.slice F7 (k+1) h7) (k+1) (Qu CL.cs (LT++ [⟨C t,R t,S t⟩]));first | exact ho | (rw [e1];exact ho) | (rw [List.append_assoc];exact ho) | (rw [List.append_assoc,e1];exact ho)
       have K7:Hid (Below u.heap.size u w7):=(KQ.out.alloc hsq _).grown hg (by simp;omega) (fun j hj=>(HOd.out.lt j hj).1);clear ho hg;go_wp2_with fail
       go_roundw
       case rel=>exact⟨t+1,F7,k+1,h7,by omega,rfl,by rw [HI.out],by go_num,by rw [HI.out];simp [HKL.out],by rw [HI.out];exact HO7.out,K7.out⟩
       case measure=>simp [intOf];omega
      ·have HI:Hid (Jh x d0 (clE C R S (t+1))=(LT++ [⟨p,q,s⟩]++ [⟨C t,R t,S t⟩],true)):=by
        show _=_;rw [HRN.out,stC,HLA.out,HSM.out,if_pos hput,if_neg (by decide),HOR2.out hput,HXE.out,←HY.out]
       go_wp2_with (first
        | (at_builtin;refine QS rfl _ _ rfl u.heap.size (.slice A' k c) k LT rfl (HOc.out.alloc _) p q s wc.heap.size rfl (by simp [go_sem]) (by simp [go_sem]) (by simp [go_sem]) (by omega) (by simp;omega) ?_)
        | fail)
       intro va w6 ho hg;obtain⟨F6,h6,rfl,_,_⟩:=Qh ho;have hba:Below wc.heap.size wc (wc.alloc (.cells #[.int .i64 p,.int .i64 q,.string s] 49)):=(Below.refl _ _).alloc (Nat.le_refl _) _;have HO6:Hid (w6.ownsRow u.heap.size 49 3 (.slice F6 (k+1) h6) (k+1) (Qu CL.cs (LT++ [⟨p,q,s⟩]))):=ho;have K6:Hid (Below u.heap.size u w6):=(KC.out.alloc hsc _).grown hg (by simp;omega) (fun j hj=>(HOc.out.lt j hj).1);have nB:some b≠(Value.slice A' k c).ownBlock:=fun e=>by have h8:=(HOc.out.lt _ e.symm).1;have h9:=HBL.out;have:=HUS.out;omega
       have nW:some w.heap.size≠(Value.slice A' k c).ownBlock:=fun e=>by have h8:=(HOc.out.lt _ e.symm).1;have:=HUS.out;omega
       replace c0:=hg.cell ((hba.cell (p:=⟨b,_,none⟩) hl2).trans c0) nB;replace c1:=hg.cell ((hba.cell (p:=⟨b,_,none⟩) hl2).trans c1) nB;replace c2:=hg.cell ((hba.cell (p:=⟨b,_,none⟩) hl2).trans c2) nB;replace y0:=hg.cell ((hba.cell (p:=⟨w.heap.size,0,none⟩) yz).trans y0) nW;replace y1:=hg.cell ((hba.cell (p:=⟨w.heap.size,1,none⟩) yz).trans y1) nW;have sz6:wc.heap.size≤w6.heap.size:=Nat.le_trans hba.size hg.size;replace hl2:b<w6.heap.size:=Nat.lt_of_lt_of_le hl2 sz6
       replace yz:w.heap.size<w6.heap.size:=Nat.lt_of_lt_of_le yz sz6;have hs6:u.heap.size≤w6.heap.size:=Nat.le_trans hsc sz6;clear ho hg hba;go_wp2_with fail
       go_quiet (fail)
       obtain⟨wq,HWQ⟩: ∃wq,Hid (w6.drewN nq=wq):=⟨_,rfl⟩;rw [HWQ.out];have hbq:Below w6.heap.size w6 wq:=by rw [←HWQ.out];exact below_drewN (Below.refl _ _) _
       replace c0:=(hbq.cell (p:=⟨b,_,none⟩) hl2).trans c0;replace c1:=(hbq.cell (p:=⟨b,_,none⟩) hl2).trans c1;replace c2:=(hbq.cell (p:=⟨b,_,none⟩) hl2).trans c2;have HOd:=hd (Qe HO6.out hbq);have KQ:Hid (Below u.heap.size u wq):=K6.out.trans (hbq.mono hs6);have hsq:u.heap.size≤wq.heap.size:=Nat.le_trans hs6 hbq.size;replace hl2:b<wq.heap.size:=Nat.lt_of_lt_of_le hl2 hbq.size
       clear hbq
       go_wp2_with (first
        | (at_builtin;refine QS rfl _ _ rfl u.heap.size (.slice F6 (k+1) h6) (k+1) (LT++ [⟨p,q,s⟩]) rfl (HOd.out.alloc _) (C t) (R t) (S t) wq.heap.size rfl (by simp [go_sem, *]) (by simp [go_sem, *]) (by simp [go_sem, *]) (by omega) (by simp;omega) ?_)
        | fail)
       intro va w7 ho hg;obtain⟨F7,h7,rfl,_,_⟩:=Qh ho
       have HO7:Hid (w7.ownsRow u.heap.size 49 3 (.slice F7 (k+1+1) h7) (k+1+1) (Qu CL.cs (LT++ [⟨p,q,s⟩]++ [⟨C t,R t,S t⟩]))):=by
        show w7.ownsRow u.heap.size 49 3 (.slice F7 (k+1+1) h7) (k+1+1) (Qu CL.cs (LT++ [⟨p,q,s⟩]++ [⟨C t,R t,S t⟩]));first | exact ho | (rw [e1];exact ho) | (rw [List.append_assoc];exact ho) | (rw [List.append_assoc,e1];exact ho)
       have K7:Hid (Below u.heap.size u w7):=(KQ.out.alloc hsq _).grown hg (by simp;omega) (fun j hj=>(HOd.out.lt j hj).1);clear ho hg;go_wp2_with fail
       go_roundw
       case rel=>exact⟨t+1,F7,k+1+1,h7,by omega,rfl,by rw [HI.out],by go_num,by rw [HI.out];simp [HKL.out],by rw [HI.out];exact HO7.out,K7.out⟩
       case measure=>simp [intOf];omega
  ·have h1: ¬(t:Int)<(n:Int):=by omega
   obtain rfl:n=t:=by omega
   have HXS:Hid (x.s.toList.isEmpty=d0):=by show _=_;rw [HX.out];exact HD0.out
   cases dn
   ·have HI:Hid (Qed x (clE C R S n)=LT++ [⟨p,q,s⟩]):=by show _=_;rw [Qed,HXS.out,HLT.out,if_neg (fun e=>by cases e),HXE.out]
    go_wp2_with (first
     | (at_builtin;refine QS rfl _ _ rfl u.heap.size (.slice A' k c) k LT rfl (HOW.out.alloc _) p q s wr.heap.size rfl (by simp [go_sem]) (by simp [go_sem]) (by simp [go_sem]) (by omega) (by simp;omega) ?_)
     | fail)
    intro va w6 ho hg;obtain⟨F6,h6,rfl,_,_⟩:=Qh ho;have HO6:Hid (w6.ownsRow u.heap.size 49 3 (.slice F6 (k+1) h6) (k+1) (Qu CL.cs (LT++ [⟨p,q,s⟩]))):=ho;have K6:Hid (Below u.heap.size u w6):=(KV.out.alloc hsv _).grown hg (by simp;omega) (fun j hj=>(HOW.out.lt j hj).1);clear ho hg;go_wp2_with fail
    go_ret;refine⟨F6,h6,k+1,rfl,by rw [HI.out];simp [HKL.out],?_,HBU.out.trans (K6.out.mono (by have:=HUS.out;omega))⟩;rw [HI.out];exact ownsRow_base_a HO6.out (by have:=HUS.out;omega)
   ·have HI:Hid (Qed x (clE C R S n)=LT):=by show _=_;rw [Qed,HXS.out,HLT.out,if_pos rfl]
    go_wp2_with fail
    go_ret;refine⟨A',c,k,rfl,by rw [HI.out];exact HKL.out,?_,KA.out⟩;rw [HI.out];exact ownsRow_base_a HOW.out (by have:=HUS.out;omega)
theorem Qm0 {C R:Nat→Int} {S:Nat→ByteArray} {n:Nat} (h:Jd C R n=true):(∀i,i<n→Qi (C i) (R i)=true)∧(clE C R S n).Pairwise (fun a b=>ltC a b=true):=by
 have hr: ∀i,i<n→Za C R i=true:=fun i hi=>List.all_eq_true.1 h i (List.mem_range.2 hi)
 have hs: ∀i,i+1<n→QF (C i) (R i) (C (i+1)) (R (i+1))=true:=fun i hi=>by
  have h9:=hr (i+1) hi;simp only [Za,Bool.and_eq_true,Bool.or_eq_true,decide_eq_true_eq]at h9;rcases h9.2 with e | e
  ·omega
  ·exact e
 have ht: ∀i j,i<j→j<n→QF (C i) (R i) (C j) (R j)=true:=fun i j=>by
  induction j with
  | zero=>intro hi;omega
  | succ j ih=>
   intro hi hj;have h1:=hs j hj;by_cases e:i=j
   ·subst e;exact h1
   ·have h2:=of_decide_eq_true (ih (by omega) (by omega));have h3:=of_decide_eq_true h1;exact decide_eq_true (by omega)
 refine⟨fun i hi=> ?_,?_⟩
 ·have h9:=hr i hi;simp only [Za,Bool.and_eq_true]at h9;exact h9.1
 ·rw [List.pairwise_iff_getElem];intro i j hi hj hij;rw [Ym]at hi hj;simp only [clE,List.getElem_map,List.getElem_range];exact ht i j hij hj
end Go.Proofs.YthjldgbfgapbcaaGreatDoor
