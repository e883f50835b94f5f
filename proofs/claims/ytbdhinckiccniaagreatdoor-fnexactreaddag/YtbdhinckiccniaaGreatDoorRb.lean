import Derived.Test.YtbdhinckiccniaaGreatDoorMn
import Derived.Test.YtbdhinckiccniaaGreatDoorRa
import Derived.Test.YtbdhinckiccniaaGreatDoorSc
import Derived.Test.YtbdhinckiccniaaGreatDoorPlaceJK
import Derived.Test.YtbdhinckiccniaaGreatDoorSf
import Derived.Deep.RegionHeld3
import Derived.Deep.MidRow
import Derived.Test.YtbdhinckiccniaaGreatDoorShelfS
import Derived.Test.YtbdhinckiccniaaGreatDoorSd
import Derived.Test.YtbdhinckiccniaaGreatDoorGag
import Derived.Test.YtbdhinckiccniaaGreatDoorSb
import Derived.Test.YtbdhinckiccniaaGreatDoorGze
set_option linter.unusedSimpArgs false
set_option linter.unusedVariables false
namespace Go.Proofs.YtbdhinckiccniaaGreatDoor
open Go.RowKit
def nS(l:List UInt8):Int:=(((lX l).getD 0:Nat):Int)
theorem Qtq{l:List UInt8}{m:Nat}(h:lX l=some m):m<10000000000:=by
 unfold lX at h;split at h
 ·rename_i hl
  have hd:Zm l 0=some m:=by
   unfold l16 at h;split at h
   ·cases h
   ·exact h
  have h9:=Qgn l 0 m hd;have h8:10^l.length≤10^10:=Nat.pow_le_pow_right (by omega) hl;have e:(10:Nat)^10=10000000000:=rfl;omega
 ·cases h
theorem Qlv(l:List UInt8):(Lit.int .i64 (nS l)).wf=true:=by
 unfold nS;cases h:lX l with
 | none=>rfl
 | some m=>
  have:=Qtq h;exact WalkArith.wf_i64 (by simp;omega)
theorem Qcr{f:List UInt8→Int}(hf: ∀l,(Lit.int .i64 (f l)).wf=true): ∀(k:Nat) (l:List UInt8),∀u∈JD f k l,(Lit.int .i64 u).wf=true
 | 0,l,u,hu=>(nomatch hu)
 | k+1,l,u,hu=>by
  unfold JD at hu;split at hu
  ·cases hu
  ·rcases List.mem_cons.1 hu with rfl | hu
   ·exact hf _
   ·exact Qcr hf k _ u hu
theorem Np(f:List UInt8→Int): ∀(k:Nat) (l:List UInt8),(JD f k l).length≤k
 | 0,l=>Nat.le_refl _
 | k+1,l=>by
  unfold JD;split
  ·exact Nat.zero_le _
  ·rw[List.length_cons];exact Nat.succ_le_succ (Np f k _)
def Om:XA:=fun l=>some (sl (Xa (rpC (bs l)) (l1I (rp3 (bs l)))) (rpC (bs l)),sl (Xa (rpC (bs l)) (l1I (rp3 (bs l)))) ((l1I (rp3 (bs l))).getD 0))
def XT:Zp:=fun l=>some (nS l)
def XG:Yo:=Qpw nS
theorem Yg(s:ByteArray)(w:World)(hs:s.size≤1048576):Calls Tryz.prog 29 #[.string s,.int .i64 10] w fun e w'=>(∃f:Bool,e= .returned (.tuple #[.int .i64 (nS s.data.toList),.bool f]))∧w'=w:=by
 refine(Qa4 s w (by omega)).mono ?_;rintro e w' ⟨rfl,rfl⟩;exact⟨⟨_,rfl⟩,rfl⟩
theorem Uh(s:ByteArray)(w:World)(hs:s.size≤1048576):Calls Tryz.prog 30 #[.string s] w fun e w'=> ∃a b x y f,Om s.data.toList=some (a,b)∧e= .returned (.tuple #[.agg #[.int .i64 a,.int .i64 b,.bool x,.bool y],.bool f])∧Below w.heap.size w w':=by
 refine(YZ s w hs).mono ?_;rintro e w' ⟨rfl,hb⟩;exact⟨_,_,_,_,_,rfl,rfl,hb⟩
def Qa1(num:Zp)(ids:Yo)(pl:XA)(s:ByteArray)(ls:List (List UInt8)):Option RQ:=(Qy num ids pl q0 ls).bind fun q=>if((Qgq (dgQ q)).toList==s.toList&& !s.toList.isEmpty)=true then some q else none
def UI(s:ByteArray):Option RQ:=if(ln s.data.toList).2= []∧(ln s.data.toList).1.length≤10000 then Qa1 XT XG Om s (ln s.data.toList).1 else none
def RgPost(B:Nat)(o:Option RQ)(e:Ending)(w':World):Prop:=match o with
 | none=>e= .returned (.tuple #[.agg #[.int .i64 0,.slice none 0 0,.slice none 0 0],.bool false])
 | some q=> ∃v,e= .returned (.tuple #[v,.bool true])∧DqV w' B v q
theorem Qiv{num:Zp}{ids:Yo}{pl:XA}{ls:List (List UInt8)}{k:Nat}{q:RQ}{l:List UInt8}(hr:Qy num ids pl q0 (ls.take k)=some q)(hl:ls[k]? =some l):Qy num ids pl q0 (ls.take (k+1))=stG num ids pl q l:=by
 rw[List.take_add_one,hl];show Qy num ids pl q0 (ls.take k++ [l])=_;rw[Br,hr];rfl
theorem Qis{num:Zp}{ids:Yo}{pl:XA}{ls:List (List UInt8)}{k:Nat}(hr:Qy num ids pl q0 (ls.take k)=none):Qy num ids pl q0 ls=none:=by
 conv=>lhs;rw[←List.take_append_drop k ls]
 rw[ZE,hr];rfl
theorem wfS:WfG XT XG:=⟨fun l b h=>by cases h;exact Qlv _,fun l p h=>by
 cases h
 refine⟨Qlv _,?_,?_⟩
 ·exact Qcr Qlv _ _
 ·exact Nat.le_trans (Np _ _ _) (Nat.le_refl _)⟩
theorem DqP.new(W:World):DqP (W.alloc (.cells #[.int .i64 0,.slice none 0 0,.slice none 0 0] 43)) W.heap.size W.heap.size q0 (.slice none 0 0) (.slice none 0 0) []:=
 ⟨⟨rfl,.inr ⟨W.heap.size,1,_,rfl,Nat.le_refl _,heap_alloc_new W _,Nat.le_refl _,by decide,rfl,rfl⟩⟩,World.ownsRow_nil _ _ _ _,fun i x hx=>(nomatch hx),fun i j hi=>absurd hi (Nat.not_lt_zero _),World.ownsRow_nil _ _ _ _⟩
def Qun:Value→Nat
 | .string s=>s.size
 | _=>0
theorem ba_tlQ{a b:ByteArray}:(a.toList==b.toList)=true↔a=b:=by
 rw[beq_iff_eq];constructor
 ·intro h;apply ByteArray.ext;rw[ByteArray.toList_eq,ByteArray.toList_eq]at h;exact Array.toList_inj.1 h
 ·rintro rfl;rfl
theorem Qjo{s:ByteArray}(h:s.toList.isEmpty=true):s=⟨#[]⟩:=by
 have h1:s.toList= []:=List.isEmpty_iff.1 h;refine ba_tlQ.1 ?_;rw[h1];simp
theorem Vo{x y:ByteArray}{l:List UInt8}(e:y.data.toList=l)(h: ¬x.data.toList=l):(x.toList==y.toList)=false:=by
 cases h9:x.toList==y.toList
 ·rfl
 ·exact absurd (by rw[ba_tlQ.1 h9];exact e) h
theorem BN{s:ByteArray}(h:s.toList.isEmpty=false):s.data.toList≠ []:=fun e=>by
 rw[ByteArray.toList_eq,e]at h;cases h
theorem Qdf{num:Zp}{ids:Yo}{pl:XA}{s:ByteArray}{ls:List (List UInt8)}(h:Qy num ids pl q0 ls=none):Qa1 num ids pl s ls=none:=by unfold Qa1;rw[h];rfl
theorem Qeb{num:Zp}{ids:Yo}{pl:XA}{s:ByteArray}{ls:List (List UInt8)}{q:RQ}(h:Qy num ids pl q0 ls=some q)(hn:((Qgq (dgQ q)).toList==s.toList)=false∨s.toList.isEmpty=true):Qa1 num ids pl s ls=none:=by
 unfold Qa1;rw[h,Option.bind_some];refine if_neg ?_;rcases hn with hn | hn
 ·rw[hn];simp
 ·rw[hn];simp
theorem Qgf{num:Zp}{ids:Yo}{pl:XA}{s:ByteArray}{ls:List (List UInt8)}{q:RQ}(h:Qy num ids pl q0 ls=some q)(h1:((Qgq (dgQ q)).toList==s.toList)=true)(h2:s.toList.isEmpty=false):Qa1 num ids pl s ls=some q:=by
 unfold Qa1;rw[h,Option.bind_some];refine if_pos ?_;rw[h1,h2];rfl
theorem RgPost.no{B:Nat}{o:Option RQ}{e:Ending}{w':World}(h:o=none)(he:e= .returned (.tuple #[.agg #[.int .i64 0,.slice none 0 0,.slice none 0 0],.bool false])):RgPost B o e w':=by subst h;exact he
theorem RgPost.yes{B:Nat}{o:Option RQ}{q:RQ}{v:Value}{e:Ending}{w':World}(h:o=some q)(he:e= .returned (.tuple #[v,.bool true]))(hv:DqV w' B v q):RgPost B o e w':=by subst h;exact⟨v,he,hv⟩
theorem Qeg{l:List UInt8}{n:Int}(h:Yt l=some n):(Lit.int .i64 n).wf=true:=by
 unfold Yt at h;split at h
 ·rename_i v hv
  split at h
  ·cases h
   have h9:=Lib.parseIntB_bounds hv;exact WalkArith.wf_i64 (by simp at h9;omega)
  ·cases h
 ·cases h
def Qk:Yo:=Qke Yt
def QH:XA:=fun l=>if Xa (rpC (bs l)) (Yt (rp3 (bs l)).data.toList)=true then some (rpC (bs l),(Yt (rp3 (bs l)).data.toList).getD 0)else none
theorem QC(s:ByteArray)(w:World)(hs:s.size≤1048576)(hg:GI w):Calls Tryz.prog 75 #[.string s] w fun e w'=>
  e= .returned (.tuple #[.int .i64 ((Yt s.data.toList).getD 0),.bool (Yt s.data.toList).isSome])∧Below w.heap.size w w':=Yy s w (by omega) hg.vs
theorem Ux(s:ByteArray)(w:World)(hs:s.size≤1048576)(hg:GI w):Calls Tryz.prog 137 #[.string s] w fun e w'=>
  ∃a c x y f,(f=true∧QH s.data.toList=some (a,c)∨f=false∧QH s.data.toList=none)∧e= .returned (.tuple #[.agg #[.int .i64 a,.int .i64 c,.bool x,.bool y],.bool f])∧Below w.heap.size w w':=by
 refine(JU s w hs hg.vs).mono ?_;rintro e w' ⟨rfl,hb⟩;refine⟨_,_,_,_,_,?_,rfl,hb⟩;have e9:bs s.data.toList=s:=rfl;cases ho:Xa (rpC s) (Yt (rp3 s).data.toList)
 ·exact Or.inr ⟨rfl,by unfold QH;rw[e9,ho];rfl⟩
 ·refine Or.inl ⟨rfl,?_⟩;unfold QH sl;rw[e9,ho];rfl
theorem Qdb(s:ByteArray)(w:World)(hs:s.size≤1048576)(hg:GI w):Calls Tryz.prog 74 #[.string s,.string ⟨#[32]⟩] w fun e w'=>
  (∃f:Bool,e= .returned (.tuple #[.string (bs (cw 32 s.data.toList)),.string (bs (cr 32 s.data.toList)),.bool f]))∧Below w.heap.size w w':=by
 refine(Qkp s 32 w hs hg.gt.mx).mono ?_;rintro e w' ⟨he,n,rfl⟩;exact⟨he,Ug (Below.refl _ _) n⟩
theorem Bp(s:ByteArray):Lib.splitB ⟨#[32]⟩ 0 (Lib.countB s ⟨#[32]⟩) s=(spl s.data.toList).map bs:=by
 have h:=Lib.splitB_data ⟨#[32]⟩ 0 (Lib.countB s ⟨#[32]⟩) s;have e:(spl s.data.toList)=(Lib.splitB ⟨#[32]⟩ 0 (Lib.countB s ⟨#[32]⟩) s).map (·.data.toList):=h.symm;rw[e,List.map_map];conv=>lhs;rw[←List.map_id (Lib.splitB ⟨#[32]⟩ 0 (Lib.countB s ⟨#[32]⟩) s)]
 rfl
theorem Qdm(s:ByteArray)(w:World)(hs:s.size≤1048576)(hg:GI w):Calls Tryz.prog 136 #[.string s,.string ⟨#[32]⟩] w fun e w'=>
  e= .returned (.slice (some ⟨w.heap.size,0,none⟩) (spl s.data.toList).length (spl s.data.toList).length)∧w'=w.alloc (.cells ((spl s.data.toList).map fun l=>Value.string (bs l)).toArray 9):=by
 obtain⟨m,hm⟩:=hg.gt.mx;refine(Tryz.strings_Split s ⟨#[32]⟩ m w (by omega) hm (by decide)).mono ?_;rintro e w' ⟨rfl,rfl⟩
 have hl:(spl s.data.toList).length=Lib.countB s ⟨#[32]⟩+1:=by
  have h:=Lib.splitB_all ⟨#[32]⟩ (by decide) 0 _ s rfl;rw[Bp,List.length_map]at h;exact h
 rw[hl,Bp,List.map_map];exact⟨rfl,rfl⟩
theorem Bd: ∀(k:Nat) (l:List UInt8),(Lib.splitK [32] 0 k l).length≤k+1∧ ∀x∈Lib.splitK [32] 0 k l,x.length≤l.length
 | 0,l=>⟨Nat.le_refl _,fun x hx=>by simp[Lib.splitK]at hx;subst hx;exact Nat.le_refl _⟩
 | k+1,l=>by
  unfold Lib.splitK;split
  ·exact⟨by simp,fun x hx=>by simp at hx;subst hx;exact Nat.le_refl _⟩
  ·obtain⟨h1,h2⟩:=Bd k (l.drop ((Lib.index l [32]).toNat+ [(32:UInt8)].length));refine⟨by rw[List.length_cons];omega,fun x hx=> ?_⟩;rcases List.mem_cons.1 hx with rfl | hx
   ·exact List.length_take_le' _ _
   ·exact Nat.le_trans (h2 x hx) (by rw[List.length_drop];omega)
theorem Qj0(l:List UInt8):(spl l).length≤l.length+1∧ ∀x∈spl l,x.length≤l.length:=by
 obtain⟨h1,h2⟩:=Bd (Lib.count l [32]) l;refine⟨?_,h2⟩;have:Lib.count l [32]≤l.length:=by rw[Lib.count_one];exact List.count_le_length
 unfold spl;omega
theorem wfI:WfG Yt Qk:=⟨fun l b h=>Qeg h,fun l p h=>by
 unfold Qk Qke at h;obtain⟨t,ht,h⟩:=Option.bind_eq_some_iff.1 h;cases t with
 | nil=>cases h
 | cons a r=>
  cases h
  have hl:=BK _ _ ht;have hz:=(Qj0 l).1
  have hw: ∀(L:List (List UInt8)) (t:List Int),Qn Yt L=some t→ ∀u∈t,(Lit.int .i64 u).wf=true:=by
   intro L;induction L with
   | nil=>intro t h u hu;cases h;cases hu
   | cons x L ih=>
    intro t h u hu;unfold Qn at h;obtain⟨a,ha,h⟩:=Option.bind_eq_some_iff.1 h;obtain⟨r,hr,rfl⟩:=Option.map_eq_some_iff.1 h;rcases List.mem_cons.1 hu with rfl | hu
    ·exact Qeg ha
    ·exact ih r hr u hu
  have h9:=hw _ _ ht;refine⟨h9 a (List.mem_cons_self ..),fun u hu=>h9 u (List.mem_cons_of_mem _ hu),?_⟩;show r.length≤_;rw[List.length_cons]at hl
  omega⟩
theorem Mm{b:Int}(h0:0≤b)(h1:b≤1000000000):Yt (itB b).data.toList=some b∧nS (itB b).data.toList=b:=by
 refine⟨Qnc (decide_eq_true ⟨by omega,by omega⟩),?_⟩;obtain⟨m,rfl⟩: ∃m:Nat,b=(m:Int):=⟨b.toNat,by omega⟩;have e:(itB (m:Int)).data.toList=Lib.decDigits m:=by rw[Qbr (by omega)];rfl
 unfold nS lX;rw[e,if_pos (Ex 9 m (by have:(10:Nat)^(9+1)=10000000000:=rfl;omega)),Ey m (by omega)];rfl
theorem Qc1{c r:Int}(h:Qh c r=true){o:Option Int}(ho: ∀i:Nat,r=(i:Int)→o=some (i:Int)):Xa (rpC (plB c r)) o=true∧rpC (plB c r)=c∧o.getD 0=r:=by
 obtain⟨i,rfl,h1,h2⟩:=Qbq h;have hc:=h;simp only[Qh,decide_eq_true_eq]at hc;obtain⟨_,e2,_,_⟩:=Qmd c i false false (by omega) (by omega);have ep:plB c (i:Int)=Qw c i false false:=by unfold plB;rw[if_pos h,Int.toNat_natCast]
 rw[ep,e2,ho i rfl];refine⟨?_,rfl,rfl⟩;unfold Xa;simpa using h
theorem Qej{c r:Int}(h:Qh c r=true): ∀i:Nat,r=(i:Int)→l1I (rp3 (plB c r))=some (i:Int)∧Yt (rp3 (plB c r)).data.toList=some (i:Int):=by
 rintro i rfl;have hc:=h;simp only[Qh,decide_eq_true_eq]at hc;obtain⟨_,_,_,e4⟩:=Qmd c i false false (by omega) (by omega);have ep:plB c (i:Int)=Qw c i false false:=by unfold plB;rw[if_pos h,Int.toNat_natCast]
 rw[ep];exact⟨e4,Qdk (by rw[←Qrn];exact e4) (by omega)⟩
theorem Qua:GoodG XT XG Om:=by
 refine⟨fun b h0 h1=> ?_,fun b ups hb hu=>Qhf (fun b h0 h1=>(Mm h0 h1).2) b ups hb hu,fun c r h=> ?_⟩
 ·show some (nS _)=_;rw[(Mm h0 h1).2]
 ·obtain⟨a1,a2,a3⟩:=Qc1 h (fun i hi=>(Qej h i hi).1);show some (sl _ _,sl _ _)=_;have e9:bs (plB c r).data.toList=plB c r:=rfl;rw[e9,a1,a2,a3];rfl
theorem Qug:GoodG Yt Qk QH:=by
 refine⟨fun b h0 h1=>(Mm h0 h1).1,fun b ups hb hu=>Qhg (fun b h0 h1=>(Mm h0 h1).1) b ups hb hu,fun c r h=> ?_⟩;obtain⟨a1,a2,a3⟩:=Qc1 h (fun i hi=>(Qej h i hi).2);have e9:bs (plB c r).data.toList=plB c r:=rfl;unfold QH;rw[e9,a1,a2,a3];rfl
theorem Qtc{q:RQ}(h:YW (dgQ q)=true):RqOk q:=by
 have T:=Qm4 h;refine⟨⟨T.n0,T.nx⟩,fun x hx=>⟨?_,T.bh x hx⟩,fun x hx=> ?_⟩
 ·cases hn:nmB x.n with
  | true=>exact Qjb hn
  | false=>
   obtain⟨t,ht,e⟩:=List.mem_iff_getElem.1 hx;have h9:=Qev (d:=dgQ q) (t:=t) (x:=x) (by show q.bl[t]? =_;rw[List.getElem?_eq_getElem ht,e]) (Or.inl hn);rw[h9]at h;cases h
 ·have hv:vrQ x∈(dgQ q).vs:=List.mem_map.2 ⟨x,hx,rfl⟩;refine⟨T.id _ hv,T.up _ hv,fun c hc=> ?_⟩
  have hcl:Qx (qC x.cs) (qR x.cs) (qS x.cs) x.cs.length=true:=by
   cases hn:Qx (qC x.cs) (qR x.cs) (qS x.cs) x.cs.length with
   | true=>rfl
   | false=>
    obtain⟨t,ht,e⟩:=List.mem_iff_getElem.1 hv;have h9:=DJ (d:=dgQ q) (t:=t) (x:=vrQ x) (by rw[List.getElem?_eq_getElem ht,e]) hn;rw[h9]at h;cases h
  unfold Qx at hcl;simp only[Bool.and_eq_true,decide_eq_true_eq]at hcl;obtain⟨i,hi,e⟩:=List.mem_iff_getElem.1 hc;obtain⟨e1,e2,e3⟩:=Qkn (show x.cs[i]? =some c by rw[List.getElem?_eq_getElem hi,e]);have hr:=Qj2 hcl.1.2 i hi;rw[e1,e2]at hr;refine⟨hr,?_⟩
  have hs:=List.all_eq_true.1 hcl.2 i (List.mem_range.2 hi);unfold Yl at hs;simp only[Bool.and_eq_true]at hs;rw[e3]at hs;exact(own_plain hs.2).1
def VP(s:ByteArray):Option RQ:=if s.toList.isEmpty=true∨10000<s.data.toList.count 10 then none else Qa1 Yt Qk QH s (lnI s.data.toList)
theorem ansG_some{num:Zp}{ids:Yo}{pl:XA}{s:ByteArray}{ls:List (List UInt8)}{q:RQ}:Qa1 num ids pl s ls=some q↔Qy num ids pl q0 ls=some q∧Qgq (dgQ q)=s∧s.toList.isEmpty=false:=by
 unfold Qa1;constructor
 ·intro h;obtain⟨q',h1,h2⟩:=Option.bind_eq_some_iff.1 h;split at h2
  ·rename_i hc
   cases h2
   simp only[Bool.and_eq_true,Bool.not_eq_true']at hc;exact⟨h1,ba_tlQ.1 hc.1,hc.2⟩
  ·cases h2
 ·rintro⟨h1,h2,h3⟩;rw[h1,Option.bind_some];refine if_pos ?_;rw[ba_tlQ.2 h2,h3];rfl
theorem Qee{q:RQ}{s:ByteArray}(h1:Qgq (dgQ q)=s)(h2:s.toList.isEmpty=false):RqOk q∧ln s.data.toList=(tl (Qec (dgQ q)),[]):=by
 unfold Qgq at h1;by_cases hd:YW (dgQ q)=true
 ·rw[if_pos hd]at h1;have hq:=Qtc hd;refine⟨hq,?_⟩;rw[←h1];exact Qq5 hq
 ·rw[if_neg hd]at h1;subst h1;simp at h2
theorem Qq7{l:List UInt8}{xs:List (List UInt8)}(h:ln l=(xs,[])):lnI l=xs:=by unfold lnI;rw[h];simp
theorem Qjv(s:ByteArray):UI s=VP s:=by
 have hSI: ∀q,UI s=some q→VP s=some q:=fun q h=>by
  unfold UI at h;split at h
  ·rename_i hc
   obtain⟨_,h2,h3⟩:=ansG_some.1 h;obtain⟨hq,hl⟩:=Qee h2 h3;have hcnt:=Qb5 s.data.toList;unfold VP;rw[if_neg (by rw[h3];intro h9;rcases h9 with h9 | h9;cases h9;omega)];exact ansG_some.2 ⟨by rw[Qq7 hl];exact Qef Qug hq,h2,h3⟩
  ·cases h
 have hIS: ∀q,VP s=some q→UI s=some q:=fun q h=>by
  unfold VP at h;split at h
  ·cases h
  ·rename_i hc
   obtain⟨_,h2,h3⟩:=ansG_some.1 h;obtain⟨hq,hl⟩:=Qee h2 h3;have hcnt:=Qb5 s.data.toList;unfold UI;rw[if_pos ⟨by rw[hl],by have: ¬10000<s.data.toList.count 10:=fun h9=>hc (Or.inr h9);omega⟩];exact ansG_some.2 ⟨by rw[hl];exact Qef Qua hq,h2,h3⟩
 cases h1:UI s with
 | some q=>rw[hSI q h1]
 | none=>
  cases h2:VP s with
  | none=>rfl
  | some q=>rw[hIS q h2]at h1;cases h1
end Go.Proofs.YtbdhinckiccniaaGreatDoor
