import PyProof.Rows.All
import Wide.All
import OpenK.AllK
import Wide.FinOn
import Lean
import PyProof.EqAt
import PyProof.EqKinds
import PyProof.TupleCall
import PyProof.ReprLen
import PyProof.ReprRoads
import PyProof.P3Eq
import PyProof.SetRoads
import PyProof.IsRules
import PyProof.ListRange
import PyProof.ConsumeWalk
import PyProof.NeKinds
import PyProof.DictTable
import PyProof.Draws
import PyProof.EnumMake
import KE.BitLaws
import KE.KIntText
import KE.KRevIter
import PyProof.Rows.SumAny
import PyProof.StrLawsRepr
import PyProof.Rows.SortStrRead
import PyProof.DictCompW
import PyProof.StrOps2
import PyProof.DictWalks
import OpenK.KOwn
import PyProof.NsDelKeeps
import PyProof.RulesAs
import KE.KIsAll
import PyProof.ExcArgsOwn
import PyProof.ExcAttrAll.ValueError
import PyProof.TupleKey
import PyProof.DictRoadsH
import KE.KSortTup
import KE.KDictSum
import PyProof.Rows.TupDisplay
import PyProof.ZipIter
import PyProof.FactsAll.tuple_1
import PyProof.AutoSeq1
import PyProof.Dict
import PyProof.DictWalks
import PyProof.FactsAll.set_1
import PyProof.FactsAll.tuple_2
import PyProof.FactsAll.tuple_3
import PyProof.ListOps
import PyProof.MeetsSeq
import PyProof.Rows.FStr
import PyProof.Rows.RuleM_int
import PyProof.Rows.SetFrom
import PyProof.Rows.StrItems
import PyProof.Rows.StrNews2
import PyProof.SetRoads
import PyProof.StrWalks
import PyProof.TupleOfSeq
import PyProof.WalksMore
import PyProof.ZipIter
import KE.KLam
import KE.KNestM
import KE.KSortKey
import PySem.Challenge.RW_opencells_k11_greatest_lots
set_option Elab.async false
set_option maxHeartbeats 4000000
set_option maxRecDepth 100000
set_option linter.unusedSimpArgs false
set_option linter.unusedVariables false
noncomputable section
set_option compiler.extract_closed false
set_option hygiene false
local macro_rules|`('!')=>`((by lia))
local macro_rules|`('#')=>`((model X.prog X.w))
local macro_rules|`('$')=>`((by decide))
local macro_rules|`('%')=>`(Inv X pins σ H s)
local macro_rules|`('&')=>`((model prog w))
local macro_rules|`('(')=>`(List (Addr×Obj))
local macro_rules|`(')')=>`((cxD X N' scope C s H fp pins))
local macro_rules|`('*')=>`((by simp))
set_option hygiene true
theorem qwb {α β:Type}{M:PySem.Model}{A:PySem.Around}{E:PySem.Value->PySem.Shared->Prop}{s:PySem.Shared}{m:PySem.Sem α}{f:α->PySem.Sem β}{Q:β->PySem.Shared->Prop}(h:PySem.wpAny M A m (λa s'=>PySem.wpAny M A (f a) Q E s') E s):PySem.wpAny M A (m>>=f) Q E s:=PySem.wpAny_bind h
theorem qwp {α:Type}{M:PySem.Model}{A:PySem.Around}{E:PySem.Value->PySem.Shared->Prop}{s:PySem.Shared}{a:α}{Q:α->PySem.Shared->Prop}(h:Q a s):PySem.wpAny M A (pure a) Q E s:=PySem.wpAny_pure h
theorem qbf:(false=true)=False:=Bool.false_eq_true
theorem qme {α:Type _}{l:List α}{i:Nat}{a:α}(h:l[i]?=some a):∃h:i<l.length,l[i]=a:=List.getElem?_eq_some_iff.mp h
theorem qge {α:Type _}{l:List α}{i:Nat}(h:i<l.length):l[i]?=some l[i]:=List.getElem?_eq_getElem h
abbrev QFg:=PySem.W.Frag
theorem qps {h:PySem.Heap}{a:PySem.Addr}{o1:PySem.Obj}(o:PySem.Obj) (e:h.get? a=some o1):(h.push o).get? a=some o1:=PySem.Heap.get?_push_of_some o e
theorem qlm {α β:Type _}{as:List α}(f:α->β):(as.map f).length=as.length:=List.length_map f
theorem qgm {α β:Type _}{f:α->β}{l:List α}{i:Nat}:(l.map f)[i]?=l[i]?.map f:=List.getElem?_map
theorem qoi {α:Type _}{a b:α}(h:some a=some b):a=b:=Option.some.inj h
theorem qem {α:Type _}{l:List α}{n:Nat}(h:n<l.length):l[n]∈l:=List.getElem_mem h
theorem qmg {α:Type _}{l:List α}{i:Nat}{a:α}(e:l[i]?=some a):a∈l:=List.mem_of_getElem? e
theorem qlr (n:Nat):n<=n:=Nat.le_refl n
theorem qla {α:Type _}{as bs:List α}:(as++bs).length=as.length+bs.length:=List.length_append
theorem qaa {α:Type _}(as bs cs:List α):(as++bs)++cs=as++(bs++cs):=List.append_assoc as bs cs
namespace TS
open PySem PySem.SetTable
noncomputable def F:Nat->Nat->Nat
 |0,x=>x
 |n+1,x=>5*F n x+1
noncomputable def adv (mask:Nat) (p:Probe):Probe :=
 if p.more>0 then {p with j:=p.j+1,more:=p.more-1} else
 let (i,perturb):=leap mask p.i p.perturb
 {p with j:=i,more:=runEnd mask i-i,i,perturb}
noncomputable def st0 (mask:Nat) (h:Int):Probe:={j:=bits h%(mask+1),more:=runEnd mask (bits h%(mask+1))-bits h%(mask+1),i:=bits h%(mask+1),perturb:=bits h,dummy:=none}
noncomputable def pn (mask:Nat) (h:Int):Nat->Probe
 |0=>st0 mask h
 |n+1=>adv mask (pn mask h n)
noncomputable def bl (mask:Nat) (h:Int):Nat->Nat×Nat
 |0=>(bits h%(mask+1),bits h)
 |n+1=>leap mask (bl mask h n).1 (bl mask h n).2
noncomputable def ss (mask:Nat) (h:Int):Nat->Nat
 |0=>0
 |n+1=>ss mask h n+(runEnd mask (bl mask h n).1-(bl mask h n).1)+1
noncomputable def blk (mask:Nat) (b:Nat×Nat):Probe:={j:=b.1,more:=runEnd mask b.1-b.1,i:=b.1,perturb:=b.2,dummy:=none}
def Ris (xs:Array Nat):Prop:=∀i j,i<j->j<xs.size->xs.getD i 0<xs.getD j 0
def In (t:SetTable) (j:Nat):Prop:=∃i:Nat,t.place[i]?=some j
structure TOk (t:SetTable) (es:Array (Int×Value)):Prop where
 dm:t.dummies=#[]
 sz:t.place.size=es.size
 pw:∃k,t.mask+1=2^k/\3<=k
 ris:Ris t.place
 le:∀j,In t j->j<=t.mask
 ro:es.size*5<t.mask*3
 sm:t.mask<8192
 pr:∀(i:Nat) (h:Int) (v:Value),es[i]?=some (h,v)->∃n,t.place[i]?=some (pn t.mask h n).j/\∀m,m<n->In t (pn t.mask h m).j
theorem pigeon:∀(n:Nat) (f:Nat->Option Nat) ,(∀j,j<n+1->∃i,f j=some i/\i<n)->(∀j j' i,j<n+1->j'<n+1->f j=some i->f j'=some i->j=j')->False
 |0,f,h,_=>by obtain ⟨i,_,hi⟩:=h 0 '!';lia
 | n+1,f,h,inj=>by
  obtain ⟨a,ha,hal⟩:=h (n+1) '!';refine pigeon n (λj=>(f j).map λi=>if i=n then a else i) (λj hj=>?_) λj j' i l1 l2 h1 h2=>?_
  ·obtain ⟨i,hi,hil⟩:=h j '!';refine ⟨if i=n then a else i,by simp [hi],?_⟩;split
   ·rename_i e;rcases Nat.lt_or_ge a n with h' | h'
    ·exact h'
    ·have:a=n:=(by lia);have:=inj (n+1) j n '!' '!' (by rw [ha,this]) (by rw [hi,e]);lia
   ·lia
  ·cases e1:f j with
   |none=>rw [e1] at h1;cases h1
   | some i1 =>
    cases e2:f j' with
    |none=>rw [e2] at h2;cases h2
    |some i2=>
     rw [e1] at h1;rw [e2] at h2;have h1:(if i1=n then a else i1)=i:=(by simpa using h1);have h2:(if i2=n then a else i2)=i:=(by simpa using h2);by_cases c1:i1=n<;>by_cases c2:i2=n
     ·exact inj j j' n '!' '!' (by rw [e1,c1]) (by rw [e2,c2])
     ·rw [if_pos c1] at h1;rw [if_neg c2] at h2;have:=inj (n+1) j' i '!' '!' (by rw [ha,h1]) (by rw [e2,h2]);lia
     ·rw [if_neg c1] at h1;rw [if_pos c2] at h2;have:=inj (n+1) j i '!' '!' (by rw [ha,h2]) (by rw [e1,h1]);lia
     ·rw [if_neg c1] at h1;rw [if_neg c2] at h2;exact inj j j' i '!' '!' (by rw [e1,h1]) (by rw [e2,h2])
def Occ (ow:Array (Option Nat)) (j:Nat):Prop:=∃i,ow[j]?=some (some i)
instance (ow:Array (Option Nat)):DecidablePred (Occ ow):=λj=>match h:ow[j]? with
 |some (some i)=>.isTrue ⟨i,h⟩
 |some none=>.isFalse λhx1_=>by obtain ⟨i,z⟩:=hx1_;rw [h] at z;cases z
 |none=>.isFalse λhx2_=>by obtain ⟨i,z⟩:=hx2_;rw [h] at z;cases z
structure Own (mask:Nat) (ow:Array (Option Nat)) (hs:List Int):Prop where
 size:ow.size=mask+1
 pr:∀(j i:Nat),ow[j]?=some (some i)->∃h,hs[i]?=some h/\∃n,(pn mask h n).j=j/\∀m,m<n->Occ ow (pn mask h m).j
 all:∀i,i<hs.length->∃j:Nat,ow[j]?=some (some i)
 inj:∀(j j' i:Nat),ow[j]?=some (some i)->ow[j']?=some (some i)->j=j'
noncomputable def lv (mask:Nat) (ow:Array (Option Nat)):List (Nat×Nat):=(List.range (mask+1)).filterMap λj=>(ow.getD j none).map (j,·)
noncomputable def zms (ks:List Int):Int:=reduceHash (Builtin.Tuple.tupleHashOf (ks.map hashInt))
section
structure Els (es:Array (Int×Value)) (xs:List (List Int×Addr)):Prop where
 sub:∀e∈es.toList,∃p∈xs,e=(zms p.1,.ref p.2)
 sup:∀p∈xs,(zms p.1,Value.ref p.2)∈es.toList
 len:es.size=xs.length
end
def ztd (o:Obj) (xs:List (List Int×Addr)):Prop:=o.ExactSet/\∃es ep t,o.data=.set es ep t/\TOk t es/\Els es xs
def TSet (a:Addr) (xs:List (List Int×Addr)) (h:Heap):Prop:=∃o,h.get? a=some o/\ztd o xs
section
variable {prog:Program}{w:World}{A:Around}{E:Value->Shared->Prop}{s:Shared}{a x:Addr}{k:List Int}{xs:List (List Int×Addr)}
end
end TS
namespace BF
def lx:List Nat->List Nat->Prop
 |a::u,b::v=>a<b\/(a=b/\lx u v)
 |_,_=>False
def sl (u v:List Nat):Prop:=u.length<v.length\/(u.length=v.length/\lx u v)
def le (u v:List Nat):Prop:=sl u v\/u=v
abbrev P:=Nat×Nat
section
variable (A:Nat) (step:P->Nat->Option P) (fail:P->Nat->Bool)
noncomputable def walk:P->List Nat->Option P
 |p,[]=>some p
 |p,a::w=>(step p a).bind λq=>walk q w
def Fails (p:P) (w:List Nat):Prop:=∃u b q,w=u++[b]/\b<A/\(∀a∈u,a<A)/\walk step p u=some q/\fail q b=true
def yie (p:P) (w:List Nat):Prop:=Fails A step fail p w/\∀v,Fails A step fail p v->¬sl v w
end
section
structure Bf (A:Nat) (step:P->Nat->Option P) (fail:P->Nat->Bool) (p0:P) (ps:List P) (ws:List (List Nat)) (i c:Nat):Prop where
 len:ws.length=ps.length
 z:ps[0]?=some p0/\ws[0]?=some []
 wk:∀(k:Nat) q w,ps[k]?=some q->ws[k]?=some w->walk step p0 w=some q/\∀a∈w,a<A
 inc:∀(k l:Nat) u v,k<l->ws[k]?=some u->ws[l]?=some v->sl u v
 cl:∀(k:Nat) q w a q',((k<i/\a<A)\/(k=i/\a<c))->ps[k]?=some q->ws[k]?=some w->step q a=some q'->∃(l:Nat) (u:List Nat),ps[l]?=some q'/\ws[l]?=some u/\le u (w++[a])
 nf:∀(k:Nat) q a,((k<i/\a<A)\/(k=i/\a<c))->ps[k]?=some q->fail q a=false
 top:∀(k:Nat) w u,ws[k]?=some w->ws[i]?=some u->sl w (u++[c])
 nd:ps.Nodup
section
end
def Fn (A:Nat) (step:P->Nat->Option P) (fail:P->Nat->Bool) (n:Nat) (p:P):Prop:=∃w,Fails A step fail p w/\w.length=n
def Ds (A:Nat) (step:P->Nat->Option P) (fail:P->Nat->Bool) (p:P) (n:Nat):Prop:=Fn A step fail n p/\∀m,m<n->¬Fn A step fail m p
theorem fails_cons {p q:P}{a:Nat}{w:List Nat}(ha:a<A) (hs:step p a=some q) (h:Fails A step fail q w):Fails A step fail p (a::w):=by
 obtain ⟨u,b,r,rfl,h1,h2,h3,h4⟩:=h;refine ⟨a::u,b,r,rfl,h1,λx hx=>?_,by show (step p a).bind _=_;rw [hs];exact h3,h4⟩;rcases List.mem_cons.mp hx with rfl|hx
 ·exact ha
 ·exact h2 x hx
theorem fails_inv {p:P}{a:Nat}{w:List Nat}(h:Fails A step fail p (a::w)):(w=[]/\a<A/\fail p a=true)\/∃q,a<A/\step p a=some q/\Fails A step fail q w:=by
 obtain ⟨u,b,r,e,h1,h2,h3,h4⟩:=h;cases u with
 |nil=>cases e;cases h3;exact .inl ⟨rfl,h1,h4⟩
 |cons x u=>
  cases e;cases hs:step p a with
  |none=>rw [show walk step p (a::u)=(step p a).bind _ from rfl,hs] at h3;cases h3
  |some q=>rw [show walk step p (a::u)=(step p a).bind _ from rfl,hs] at h3;exact .inr ⟨q,h2 a '*',rfl,u,b,r,rfl,h1,λx hx=>h2 x (by simp [hx]),h3,h4⟩
theorem fails_ne {p:P}:¬Fails A step fail p []:=by rintro ⟨u,b,r,e,_⟩;simp at e
theorem Fn.one {p:P}:Fn A step fail 1 p↔∃a,a<A/\fail p a=true:=by
 constructor
 ·rintro ⟨w,h,hl⟩;cases w with
  |nil=>simp at hl
  |cons a w=>
   have:w=[]:=List.length_eq_zero_iff.mp (by simpa using hl);subst this;rcases fails_inv h with ⟨_,h1,h2⟩|⟨q,_,_,h3⟩
   ·exact ⟨a,h1,h2⟩
   ·exact absurd h3 fails_ne
 ·rintro ⟨a,h1,h2⟩;exact ⟨[a],⟨[],a,p,rfl,h1,λx hx=>by simp at hx,rfl,h2⟩,rfl⟩
theorem Fn.zero {p:P}:¬Fn A step fail 0 p:=by rintro ⟨w,h,hl⟩;have:w=[]:=List.length_eq_zero_iff.mp hl;subst this;exact fails_ne h
theorem Ds.one {p:P}:Ds A step fail p 1↔∃a,a<A/\fail p a=true:=by
 constructor
 ·exact λh=>Fn.one.mp h.1
 ·refine λh=>⟨Fn.one.mpr h,λm hm=>?_⟩;have:m=0:=by lia
  subst this;exact Fn.zero
theorem zte {Q:Nat->Prop}{n:Nat}(h:Q n):∃m,m<=n/\Q m/\∀k,k<m->¬Q k:=by
 induction n using Nat.strongRecOn with
 |_ n ih=>
  by_cases c:∃k,k<n/\Q k
  ·obtain ⟨k,hk,q⟩:=c;obtain ⟨m,h1,h2⟩:=ih k hk q;exact ⟨m,by lia,h2⟩
  ·exact ⟨n,qlr _,h,λk hk q=>c ⟨k,hk,q⟩⟩
theorem Ds.of {p:P}{n:Nat}(h:Fn A step fail n p):∃m,m<=n/\Ds A step fail p m:=by obtain ⟨m,h1,h2,h3⟩:=zte (Q:=λn=>Fn A step fail n p) h;exact ⟨m,h1,h2,h3⟩
end
theorem few {n:Nat}:∀(l:List Nat),l.Nodup->(∀x∈l,x<n)->l.length<=n:=by
 intro l hd hl;rcases Nat.lt_or_ge n l.length with h|h
 ·exfalso;refine TS.pigeon n (λa=>l[a]?) (λa ha=>?_) λa b i l1 l2 e1 e2=>?_
  ·have:a<l.length:=(by lia);exact ⟨l[a],qge this,hl _ (qem this)⟩
  ·have h1:a<l.length:=(by lia);exact (List.getElem?_inj h1 hd).mp (e1.trans e2.symm)
 ·exact h
theorem few2 {n m:Nat}(l:List P) (hd:l.Nodup) (hl:∀x∈l,x.1<n/\x.2<m):l.length<=n*m:=by
 have:=few (n:=n*m) (l.map λx=>x.1*m+x.2) (by
  unfold List.Nodup;rw [List.pairwise_map];refine List.Pairwise.imp_of_mem (λ{x y} hx hy hne e=>hne ?_) hd
  ·skip
   obtain ⟨h1,h2⟩:=hl x hx;obtain ⟨h3,h4⟩:=hl y hy;have e1:x.2=y.2:=(by have a1:(x.1*m+x.2)%m=x.2:=(by rw [Nat.mul_comm,Nat.mul_add_mod];exact Nat.mod_eq_of_lt h2);have a2:(y.1*m+y.2)%m=y.2:=(by rw [Nat.mul_comm,Nat.mul_add_mod];exact Nat.mod_eq_of_lt h4);rw [<-a1,<-a2];exact congrArg (· % m) e);have e2:x.1=y.1:=(by have:x.1*m=y.1*m:=(by lia);exact Nat.eq_of_mul_eq_mul_right '!' this);exact Prod.ext e2 e1) (λz hz=>by
  obtain ⟨x,hx,rfl⟩:=List.mem_map.mp hz;obtain ⟨h1,h2⟩:=hl x hx
  calc x.1*m+x.2<x.1*m+m:=by lia
   _=(x.1+1)*m:=by rw [Nat.add_mul,Nat.one_mul]
   _<=n*m:=Nat.mul_le_mul_right m h1)
 simpa using this
end BF
namespace SP
open PySem PySem.W PyProof.Rows
inductive Ok (lt:Nat->Nat->Bool) (n:Nat) {α:Type} (G:α->Prop):KasT α->Prop where
 |ret {a:α} (h:G a):Ok lt n G (.ret a)
 |ask {i j:Nat} {k:Bool->KasT α} (hi:i<n) (hj:j<n) (h:Ok lt n G (k (lt i j))):Ok lt n G (.ask i j k)
section
noncomputable def lt (r:Nat->Int) (i j:Nat):Bool:=decide (r i<r j)
noncomputable def at' (r:Nat->Int) (p:Array Nat) (k:Nat):Int:=r (p.getD k 0)
def Pm (n:Nat) (p:Array Nat):Prop:=p.Perm (List.range n).toArray
def Up (r:Nat->Int) (p:Array Nat) (m:Nat):Prop:=∀i j,i<j->j<m->at' r p i<at' r p j
def Inj (r:Nat->Int) (n:Nat):Prop:=∀i j,i<n->j<n->r i=r j->i=j
theorem Pm.size {p:Array Nat}(h:Pm n p):p.size=n:=by have:=h.size_eq;simpa using this
theorem Pm.lt {p:Array Nat}(h:Pm n p) {k:Nat}(hk:k<n):p.getD k 0<n:=by
 have hs:=h.size;have e:p.getD k 0=p[k]'(by lia):=by simp [Array.getD,hs,hk]
 have:=(Array.perm_iff_toList_perm.mp h).mem_iff (a:=p[k]'(by lia));rw [e];have h1:p[k]'(by lia)∈p.toList:=by simp
 simpa using this.mp h1
theorem at_of {p q:Array Nat}{i j:Nat}(h:p[i]?=q[j]?):at' r p i=at' r q j:=by
 unfold at';have:p.getD i 0=q.getD j 0:=by simp only [Array.getD_eq_getD_getElem?,h]
 rw [this]
def Dn (r:Nat->Int) (p:Array Nat) (m:Nat):Prop:=∀i j,i<j->j<m->at' r p j<at' r p i
def yif (r:Nat->Int) (n:Nat) (z:Nat×Array Nat):Prop:=1<=z.1/\z.1<=n/\Pm n z.2/\Up r z.2 z.1
end
end SP
namespace SG
open PySem PySem.W PyProof.Rows SP
noncomputable def zc0:Bool->Keyed->Array Keyed->Nat->Nat->Nat->StateT SortSt Sem (Option Nat):=sortPriv% PySem.Builtin.gallop
theorem ztf (left:Bool) (key:Keyed) (arr:Array Keyed) (base n hint:Nat):zc0 left key arr base n hint=(do
 let beyond (i:Nat):StateT SortSt Sem (Option Bool):=do
  let x <-elem' arr (base+i)
  if left then lt' x key else return (<-lt' key x).map (!·)
 let mut lastofs:=0
 let mut ofs:=1
 let mut lo:=0
 let mut hi:=0
 let some right <-beyond hint|return none
 if right then
  let maxofs:=n-hint
  for _ in [0:n] do
   if ofs≥maxofs then break
   let some more <-beyond (hint+ofs)|return none
   if !more then break
   lastofs:=ofs
   ofs:=2*ofs+1
  lo:=hint+lastofs+1
  hi:=hint+min ofs maxofs
 else
  let maxofs:=hint+1
  for _ in [0:n] do
   if ofs≥maxofs then break
   let some found <-beyond (hint-ofs)|return none
   if found then break
   lastofs:=ofs
   ofs:=2*ofs+1
  lo:=hint+1-min ofs maxofs
  hi:=hint-lastofs
 for _ in [0:n] do
  if lo≥hi then break
  let m:=lo+(hi-lo)/2
  let some more <-beyond m|return none
  if more then lo:=m+1 else hi:=m
 return some hi):=rfl
section
variable {M:Model}{A:Around}{E:Value->Shared->Prop}{σ β:Type}
theorem zax {c:Prop} [Decidable c] {a b:StateT σ Sem β}{Q:β->σ->Shared->Prop}{st:σ}(h1:c->kasC M A E a Q st s) (h2:¬c->kasC M A E b Q st s):kasC M A E (if c then a else b) Q st s:=by
 by_cases h:c
 ·rw [if_pos h];exact h1 h
 ·rw [if_neg h];exact h2 h
theorem zcg (I:Nat->β->σ->Prop)
  (step:∀k x b st,I (k+1) b st->kasC M A E (f x b) (λr st' s'=>s'=s/\match r with | .done b'=>Q b' st' s | .yield b'=>I k b' st') st s)
  (fin:∀b st,I 0 b st->Q b st s) {n:Nat} {b:β} {st:σ} (h:I n b st):kasC M A E (forIn [0:n] b f) Q st s:=by
 refine kasC_range ?_;have go:∀(k:Nat) (l:List Nat) (b:β) (st:σ),l.length=k->I k b st->kasC M A E (forIn l b f) Q st s:=by
  intro k;induction k with
  |zero=>
   intro l b st hl h;cases l with
   |nil=>exact kasC_nil (fin b st h)
   |cons _ _=>simp at hl
  | succ k ih =>
   intro l b st hl h;cases l with
   |nil=>simp at hl
   |cons x l=>
    refine kasC_cons ?_;have:=step k x b st h;unfold kasC at this ⊢;refine wpAny_mono this (λr s' hr=>?_) λ_ _ e=>e;obtain ⟨rfl,hr⟩:=hr;obtain ⟨r,st'⟩:=r;cases r with
    |done b'=>exact hr
    |yield b'=>exact ih l b' st' (by simpa using hl) hr
 exact go n _ b st (by rw [List.length_range'];lia) h
end
section
variable {M:Model}{A:Around}{E:Value->Shared->Prop}{σ α:Type}
theorem za0 {m:StateT σ Sem α}{Q Q':α->σ->Shared->Prop}{st:σ}(h:kasC M A E m Q' st s) (k:∀a st' s',Q' a st' s'->Q a st' s'):kasC M A E m Q st s:=by unfold kasC at h ⊢;exact wpAny_mono h (λr s' hr=>k r.1 r.2 s' hr) λ_ _ e=>e
end
section
def Asks (prog:Program) (w:World) (A:Around) (κ:SortKind) (it:Array Keyed) (N:Nat) (r:Nat->Int) (s:Shared):Prop:=∀i j (C:Bool->Shared->Prop),i<N->j<N->C (SP.lt r i j) s->kas_cmp prog w A κ it i j C s
theorem zf4 (hc:Asks prog w A κ it N r s) {i j:Nat}(hi:i<N) (hj:j<N) {st:SortSt}(hk:kindOf st=κ) {Q:Option Bool->SortSt->Shared->Prop}(h:Q (some (decide (r i<r j))) st s):kasC '&' A E (lt' (kas_item it i) (kas_item it j)) Q st s:=by rw [lt'_eq];refine kasC_bind (kasC_get ?_);have h1:=hc i j (λc s'=>Q (some c) st s') hi hj h;unfold kas_cmp at h1;rw [<-hk] at h1;refine kasC_bind (kasC_lift (wpAny_attempt (wpAny_mono h1 (λc s' hc=>?_) λ_ _ hF=>hF.elim)));exact kasC_pure hc
theorem zhy {q:Array Nat}{i:Nat}(hi:i<q.size) {st:SortSt}{Q:Keyed->SortSt->Shared->Prop}(h:Q (kas_item it (q.getD i 0)) st s):kasC '&' A E (elem' (q.map (kas_item it)) i) Q st s:=by
 rw [elem'_eq];have e:(q.map (kas_item it))[i]?=some (kas_item it (q.getD i 0)):=by
  have e:q.getD i 0=q[i]:=by simp [Array.getD,hi]
  rw [e];simp [hi]
 rw [e];exact kasC_pure h
structure Seg (N:Nat) (r:Nat->Int) (q:Array Nat) (base n:Nat):Prop where
 sz:base+n<=q.size
 lt:∀i,i<q.size->q.getD i 0<N
 up:∀i j,i<j->j<n->SP.at' r q (base+i)<SP.at' r q (base+j)
theorem ztg (x y:Int) (h:x≠y):(!decide (y<x))=decide (x<y):=by
 by_cases z:y<x
 ·rw [decide_eq_true z,decide_eq_false '!'];rfl
 ·rw [decide_eq_false z,decide_eq_true '!'];rfl
theorem zf5 (hc:Asks prog w A κ it N r s) {q:Array Nat}{base n key i:Nat}{left:Bool}(sg:Seg N r q base n) (hk:key<N) (hi:i<n) (hne:SP.at' r q (base+i)≠r key) {st:SortSt}(hκ:kindOf st=κ) {Q:Option Bool->SortSt->Shared->Prop}(h:Q (some (decide (SP.at' r q (base+i)<r key))) st s) :
  kasC '&' A E (do
   let x <-elem' (q.map (kas_item it)) (base+i)
   if left then lt' x (kas_item it key) else return (<-lt' (kas_item it key) x).map (!·)) Q st s:=by
 have sz:=sg.sz;refine kasC_bind (zhy '!' ?_);have hq:=sg.lt (base+i) '!';cases left with
 |true=>exact zf4 hc hq hk hκ h
 |false=>refine kasC_bind (zf4 hc hk hq hκ (kasC_pure ?_));have e:(!decide (r key<r (q.getD (base+i) 0)))=decide (SP.at' r q (base+i)<r key):=ztg _ _ hne;show Q (some (!decide (r key<r (q.getD (base+i) 0)))) st s;rw [e];exact h
theorem zjw (hc:Asks prog w A κ it N r s) {q:Array Nat}{base n hint key:Nat}{left:Bool}(sg:Seg N r q base n) (hk:key<N) (hh:hint<n) (hne:∀i,i<n->SP.at' r q (base+i)≠r key) {st:SortSt}(hκ:kindOf st=κ) {Q:Option Nat->SortSt->Shared->Prop}
  (h:∀k,k<=n->(∀i,i<k->SP.at' r q (base+i)<r key)->(∀i,k<=i->i<n->r key<SP.at' r q (base+i))->Q (some k) st s):kasC '&' A E (zc0 left (kas_item it key) (q.map (kas_item it)) base n hint) Q st s:=by
 rw [ztf];dsimp only;refine kasC_bind (zf5 hc sg hk hh (hne hint hh) hκ ?_);dsimp only;obtain ⟨B,hB⟩:∃B:Nat->Prop,B=λi=>SP.at' r q (base+i)<r key:=⟨_,rfl⟩;have hBi:∀i,B i=(SP.at' r q (base+i)<r key):=λi=>by rw [hB]
 have mono:∀i j,i<j->j<n->B j->B i:=λi j h1 h2 h3=>by rw [hBi] at h3 ⊢;exact Int.lt_trans (sg.up i j h1 h2) h3
 have not_B:∀i,i<n->¬B i->r key<SP.at' r q (base+i):=λi h1 h2=>by rw [hBi] at h2;have:=hne i h1;lia
 simp only [<-hBi] at h;by_cases hb0:B hint
 ·rw [if_pos (decide_eq_true (by rw [<-hBi];exact hb0))];refine kasC_bind (za0 (zcg (s:=s) (λk (b:Option (Option Nat) × Nat × Nat) st'=>st' = st/\b.1=none/\b.2.1<b.2.2/\hint+b.2.1<n/\B (hint+b.2.1)/\n+1<=b.2.2+k) (Q:=λ(b:Option (Option Nat) × Nat × Nat) st' s'=>s' = s/\st' = st/\b.1=none/\b.2.1<b.2.2/\hint+b.2.1<n/\B (hint+b.2.1)/\(n-hint<=b.2.2\/(hint+b.2.2<n/\¬B (hint+b.2.2)))) ?_ ?_ (n:=n) (b:=(none,0,1)) (st:=st) ⟨rfl,rfl,Nat.zero_lt_one,hh,hb0,by show n+1<=1+n;lia⟩) ?_)
  ·rintro k x ⟨b1,la,of⟩ st' ⟨rfl,rfl,h1,h2,h3,h4⟩;dsimp only at h1 h2 h3 h4 ⊢;refine zax (λhge=>?_) (λhge=>?_)
   ·exact kasC_pure ⟨rfl,rfl,rfl,rfl,h1,h2,h3,.inl hge⟩
   ·have hm:hint+of<n:=(by lia);refine kasC_bind (zf5 hc sg hk hm (hne _ hm) hκ ?_);dsimp only;by_cases hb:B (hint+of)
    ·rw [decide_eq_true (by rw [<-hBi];exact hb),if_neg '*'];exact kasC_pure ⟨rfl,rfl,rfl,(by show of<2*of+1;lia),hm,hb,(by show n+1<=2*of+1+k;lia)⟩
    ·rw [decide_eq_false (by rw [<-hBi];exact hb),if_pos (by rfl)];exact kasC_pure ⟨rfl,rfl,rfl,rfl,h1,h2,h3,.inr ⟨hm,hb⟩⟩
  ·rintro ⟨b1,la,of⟩ st' ⟨rfl,rfl,h1,h2,h3,h4⟩;dsimp only at h1 h2 h3 h4;exact ⟨rfl,rfl,rfl,h1,h2,h3,.inl (by show n-hint<=of;lia)⟩
  ·rintro ⟨b1,la,of⟩ st' s' ⟨hs,hst,hb1,h1,h2,h3,h4⟩;dsimp only at hb1 h1 h2 h3 h4 ⊢;subst hb1;rw [hs,hst];have l1:hint+la+1<=hint+min of (n-hint):=(by lia);have l2:hint+min of (n-hint)<=n:=(by lia);have l3:∀i,i<hint+la+1->B i:=λi hi=>by
    by_cases e:i=hint+la
    ·rw [e];exact h3
    ·exact mono i _ '!' h2 h3
   have l4:∀i,hint+min of (n-hint)<=i->i<n->¬B i:=λi hi1 hi2 hb=>by
    rcases h4 with z|⟨z1,z2⟩
    ·lia
    ·by_cases e:i=hint+of
     ·rw [e] at hb;exact z2 hb
     ·exact z2 (mono _ i '!' hi2 hb)
   refine kasC_bind (za0 (zcg (s:=s) (λk (b:Option (Option Nat)×Nat×Nat) st'=>st'=st/\b.1=none/\b.2.1<=b.2.2/\b.2.2<=n/\(∀i,i<b.2.1->B i)/\(∀i,b.2.2<=i->i<n->¬B i)/\b.2.2<=b.2.1+k) (Q:=λ(b:Option (Option Nat)×Nat×Nat) st' s'=>s'=s/\st'=st/\b.1=none/\b.2.1=b.2.2/\b.2.2<=n/\(∀i,i<b.2.1->B i)/\(∀i,b.2.2<=i->i<n->¬B i)) ?_ ?_ ⟨rfl,rfl,l1,l2,l3,l4,Nat.le_trans l2 (Nat.le_add_left _ _)⟩) ?_)
   ·rintro k x ⟨b1,lo,hi⟩ st' ⟨rfl,rfl,h1,h2,h3,h4,h5⟩;dsimp only at h1 h2 h3 h4 h5 ⊢;refine zax (λhge=>?_) (λhge=>?_)
    ·exact kasC_pure ⟨rfl,rfl,rfl,rfl,(by show lo=hi;lia),h2,h3,h4⟩
    ·have hm:lo+(hi-lo)/2<n:=(by lia);refine kasC_bind (zf5 hc sg hk hm (hne _ hm) hκ ?_);dsimp only;by_cases hb:B (lo+(hi-lo)/2)
     ·rw [if_pos (decide_eq_true (by rw [<-hBi];exact hb))];refine kasC_pure ⟨rfl,rfl,rfl,?_,h2,λi hi2=>?_,h4,?_⟩
      ·show lo+(hi-lo)/2+1<=hi;lia
      ·have hi2:i<lo+(hi-lo)/2+1:=hi2;by_cases e:i=lo+(hi-lo)/2
       ·rw [e];exact hb
       ·exact mono i _ '!' hm hb
      ·show hi<=lo+(hi-lo)/2+1+k;lia
     ·rw [if_neg (by rw [decide_eq_true_iff,<-hBi];exact hb)];refine kasC_pure ⟨rfl,rfl,rfl,?_,?_,h3,λi hi2 hi3 hb2=>?_,?_⟩
      ·show lo<=lo+(hi-lo)/2;lia
      ·show lo+(hi-lo)/2<=n;lia
      ·have hi2:lo+(hi-lo)/2<=i:=hi2;by_cases e:i=lo+(hi-lo)/2
       ·rw [e] at hb2;exact hb hb2
       ·exact hb (mono _ i '!' hi3 hb2)
      ·show lo+(hi-lo)/2<=lo+k;lia
   ·rintro ⟨b1,lo,hi⟩ st' ⟨rfl,rfl,h1,h2,h3,h4,h5⟩;dsimp only at h1 h2 h3 h4 h5;exact ⟨rfl,rfl,rfl,(by show lo=hi;lia),h2,h3,h4⟩
   ·rintro ⟨b1,lo,hi⟩ st' s' ⟨hs,hst,hb1,h1,h2,h3,h4⟩;dsimp only at hb1 h1 h2 h3 h4 ⊢;subst hb1;rw [hs,hst];subst h1;exact kasC_pure (h lo h2 h3 λi hi1 hi2=>not_B i hi2 (h4 i hi1 hi2))
 ·rw [if_neg (by rw [decide_eq_true_iff,<-hBi];exact hb0)];refine kasC_bind (za0 (zcg (s:=s) (λk (b:Option (Option Nat) × Nat × Nat) st'=>st' = st/\b.1=none/\b.2.1<b.2.2/\b.2.1<=hint/\¬B (hint-b.2.1)/\n+1<=b.2.2+k) (Q:=λ(b:Option (Option Nat) × Nat × Nat) st' s'=>s' = s/\st' = st/\b.1=none/\b.2.1<b.2.2/\b.2.1<=hint/\¬B (hint-b.2.1)/\(hint+1<=b.2.2\/(b.2.2<=hint/\B (hint-b.2.2)))) ?_ ?_ (n:=n) (b:=(none,0,1)) (st:=st) ⟨rfl,rfl,Nat.zero_lt_one,Nat.zero_le _,hb0,by show n+1<=1+n;lia⟩) ?_)
  ·rintro k x ⟨b1,la,of⟩ st' ⟨rfl,rfl,h1,h2,h3,h4⟩;dsimp only at h1 h2 h3 h4 ⊢;refine zax (λhge=>?_) (λhge=>?_)
   ·exact kasC_pure ⟨rfl,rfl,rfl,rfl,h1,h2,h3,.inl hge⟩
   ·have hm:hint-of<n:=(by lia);refine kasC_bind (zf5 hc sg hk hm (hne _ hm) hκ ?_);dsimp only;by_cases hb:B (hint-of)
    ·rw [decide_eq_true (by rw [<-hBi];exact hb),if_pos rfl];exact kasC_pure ⟨rfl,rfl,rfl,rfl,h1,h2,h3,.inr ⟨by show of<=hint;lia,hb⟩⟩
    ·rw [decide_eq_false (by rw [<-hBi];exact hb),if_neg '*'];exact kasC_pure ⟨rfl,rfl,rfl,(by show of<2*of+1;lia),(by show of<=hint;lia),hb,(by show n+1<=2*of+1+k;lia)⟩
  ·rintro ⟨b1,la,of⟩ st' ⟨rfl,rfl,h1,h2,h3,h4⟩;dsimp only at h1 h2 h3 h4;exact ⟨rfl,rfl,rfl,h1,h2,h3,.inl (by show hint+1<=of;lia)⟩
  ·rintro ⟨b1,la,of⟩ st' s' ⟨hs,hst,hb1,h1,h2,h3,h4⟩;dsimp only at hb1 h1 h2 h3 h4 ⊢;subst hb1;rw [hs,hst];have l1:hint+1-min of (hint+1)<=hint-la:=(by lia);have l2:hint-la<=n:=(by lia);have l3:∀i,i<hint+1-min of (hint+1)->B i:=λi hi=>by
    rcases h4 with z|⟨z1,z2⟩
    ·lia
    ·by_cases e:i=hint-of
     ·rw [e];exact z2
     ·exact mono i _ '!' '!' z2
   have l4:∀i,hint-la<=i->i<n->¬B i:=λi hi1 hi2 hb=>by
    by_cases e:i=hint-la
    ·rw [e] at hb;exact h3 hb
    ·exact h3 (mono _ i '!' hi2 hb)
   refine kasC_bind (za0 (zcg (s:=s) (λk (b:Option (Option Nat)×Nat×Nat) st'=>st'=st/\b.1=none/\b.2.1<=b.2.2/\b.2.2<=n/\(∀i,i<b.2.1->B i)/\(∀i,b.2.2<=i->i<n->¬B i)/\b.2.2<=b.2.1+k) (Q:=λ(b:Option (Option Nat)×Nat×Nat) st' s'=>s'=s/\st'=st/\b.1=none/\b.2.1=b.2.2/\b.2.2<=n/\(∀i,i<b.2.1->B i)/\(∀i,b.2.2<=i->i<n->¬B i)) ?_ ?_ ⟨rfl,rfl,l1,l2,l3,l4,Nat.le_trans l2 (Nat.le_add_left _ _)⟩) ?_)
   ·rintro k x ⟨b1,lo,hi⟩ st' ⟨rfl,rfl,h1,h2,h3,h4,h5⟩;dsimp only at h1 h2 h3 h4 h5 ⊢;refine zax (λhge=>?_) (λhge=>?_)
    ·exact kasC_pure ⟨rfl,rfl,rfl,rfl,(by show lo=hi;lia),h2,h3,h4⟩
    ·have hm:lo+(hi-lo)/2<n:=(by lia);refine kasC_bind (zf5 hc sg hk hm (hne _ hm) hκ ?_);dsimp only;by_cases hb:B (lo+(hi-lo)/2)
     ·rw [if_pos (decide_eq_true (by rw [<-hBi];exact hb))];refine kasC_pure ⟨rfl,rfl,rfl,?_,h2,λi hi2=>?_,h4,?_⟩
      ·show lo+(hi-lo)/2+1<=hi;lia
      ·have hi2:i<lo+(hi-lo)/2+1:=hi2;by_cases e:i=lo+(hi-lo)/2
       ·rw [e];exact hb
       ·exact mono i _ '!' hm hb
      ·show hi<=lo+(hi-lo)/2+1+k;lia
     ·rw [if_neg (by rw [decide_eq_true_iff,<-hBi];exact hb)];refine kasC_pure ⟨rfl,rfl,rfl,?_,?_,h3,λi hi2 hi3 hb2=>?_,?_⟩
      ·show lo<=lo+(hi-lo)/2;lia
      ·show lo+(hi-lo)/2<=n;lia
      ·have hi2:lo+(hi-lo)/2<=i:=hi2;by_cases e:i=lo+(hi-lo)/2
       ·rw [e] at hb2;exact hb hb2
       ·exact hb (mono _ i '!' hi3 hb2)
      ·show lo+(hi-lo)/2<=lo+k;lia
   ·rintro ⟨b1,lo,hi⟩ st' ⟨rfl,rfl,h1,h2,h3,h4,h5⟩;dsimp only at h1 h2 h3 h4 h5;exact ⟨rfl,rfl,rfl,(by show lo=hi;lia),h2,h3,h4⟩
   ·rintro ⟨b1,lo,hi⟩ st' s' ⟨hs,hst,hb1,h1,h2,h3,h4⟩;dsimp only at hb1 h1 h2 h3 h4 ⊢;subst hb1;rw [hs,hst];subst h1;exact kasC_pure (h lo h2 h3 λi hi1 hi2=>not_B i hi2 (h4 i hi1 hi2))
end
def Ri (r:Nat->Int) (l:List Nat):Prop:=l.Pairwise λa b=>r a<r b
structure Mg (r:Nat->Int) (la lb po:List Nat) (ia ib:Nat):Prop where
 up:Ri r po
 xa:∀o∈po,∀z∈la.drop ia,r o<r z
 xb:∀o∈po,∀z∈lb.drop ib,r o<r z
 pm:po.Perm (la.take ia++lb.take ib)
structure Rs (r:Nat->Int) (la lb pm:List Nat):Prop where
 up:Ri r pm
 pm:pm.Perm (la++lb)
section
theorem Ri.drop (h:Ri r l) (i:Nat):Ri r (l.drop i):=List.Pairwise.sublist (List.drop_sublist i l) h
theorem zem {l:List Nat}{i:Nat}(h:i<l.length):l.drop i=l[i]::l.drop (i+1):=List.drop_eq_getElem_cons h
theorem zjx {l:List Nat}{i:Nat}(h:i<l.length):l.take (i+1)=l.take i++[l[i]]:=by rw [List.take_succ_eq_append_getElem h]
theorem Ri.snoc (h:Ri r l) (hx:∀o∈l,r o<r x):Ri r (l++[x]):=by unfold Ri at h ⊢;rw [List.pairwise_append];exact ⟨h,by simp,λa ha b hb=>by rw [List.mem_singleton.mp hb];exact hx a ha⟩
theorem Mg.pushA (m:Mg r la lb po ia ib) (ra:Ri r la) (hi:ia<la.length) (hl:∀z∈lb.drop ib,r la[ia]<r z):Mg r la lb (po++[la[ia]]) (ia+1) ib:=by
 have e:=zem hi;have ha:∀z∈la.drop (ia+1),r la[ia]<r z:=by have:=ra.drop ia;unfold Ri at this;rw [e,List.pairwise_cons] at this;exact this.1
 refine ⟨m.up.snoc λo ho=>m.xa o ho _ (by rw [e];exact List.mem_cons_self),λo ho z hz=>?_,λo ho z hz=>?_,?_⟩
 ·rcases List.mem_append.mp ho with y|y
  ·exact m.xa o y z (by rw [e];exact List.mem_cons_of_mem _ hz)
  ·rw [List.mem_singleton.mp y];exact ha z hz
 ·rcases List.mem_append.mp ho with y|y
  ·exact m.xb o y z hz
  ·rw [List.mem_singleton.mp y];exact hl z hz
 ·rw [zjx hi];refine (m.pm.append_right [la[ia]]).trans ?_;rw [qaa,qaa];exact List.Perm.append_left _ List.perm_append_comm
theorem Mg.pushB (m:Mg r la lb po ia ib) (rb:Ri r lb) (hi:ib<lb.length) (hl:∀z∈la.drop ia,r lb[ib]<r z):Mg r la lb (po++[lb[ib]]) ia (ib+1):=by
 have e:=zem hi;have ha:∀z∈lb.drop (ib+1),r lb[ib]<r z:=by have:=rb.drop ib;unfold Ri at this;rw [e,List.pairwise_cons] at this;exact this.1
 refine ⟨m.up.snoc λo ho=>m.xb o ho _ (by rw [e];exact List.mem_cons_self),λo ho z hz=>?_,λo ho z hz=>?_,?_⟩
 ·rcases List.mem_append.mp ho with y|y
  ·exact m.xa o y z hz
  ·rw [List.mem_singleton.mp y];exact hl z hz
 ·rcases List.mem_append.mp ho with y|y
  ·exact m.xb o y z (by rw [e];exact List.mem_cons_of_mem _ hz)
  ·rw [List.mem_singleton.mp y];exact ha z hz
 ·rw [zjx hi,<-qaa];exact m.pm.append_right _
theorem behind {l:List Nat}{i:Nat}{x:Int}(h:Ri r l) (hi:i<l.length) (hx:x<r l[i]):∀z∈l.drop i,x<r z:=λz hz=>by
 have:=h.drop i;unfold Ri at this;rw [zem hi,List.pairwise_cons] at this;rw [zem hi] at hz;rcases List.mem_cons.mp hz with rfl|hz
 ·exact hx
 ·exact Int.lt_trans hx (this.1 z hz)
theorem Mg.manyA (ra:Ri r la) (rb:Ri r lb) (hb:ib<lb.length):∀(k:Nat) {po:List Nat}{ia:Nat},Mg r la lb po ia ib->ia+k<=la.length->(∀i (hi:i<la.length),ia<=i->i<ia+k->r la[i]<r lb[ib])->Mg r la lb (po++(la.drop ia).take k) (ia+k) ib
 |0,po,ia,m,_,_=>by simpa using m
 |k+1,po,ia,m,hk,hl=>by
  have hi:ia<la.length:=by lia
  have m1:=m.pushA ra hi (behind rb hb (hl ia hi (qlr _) '!'));have m2:=Mg.manyA ra rb hb k m1 '!' λi hi2 h1 h2=>hl i hi2 '!' '!';rw [zem hi,List.take_succ_cons];rw [show ia+(k+1)=ia+1+k by lia];rw [qaa] at m2;exact m2
theorem Mg.manyB (ra:Ri r la) (rb:Ri r lb) (ha:ia<la.length):∀(k:Nat) {po:List Nat}{ib:Nat},Mg r la lb po ia ib->ib+k<=lb.length->(∀i (hi:i<lb.length),ib<=i->i<ib+k->r lb[i]<r la[ia])->Mg r la lb (po++(lb.drop ib).take k) ia (ib+k)
 |0,po,ib,m,_,_=>by simpa using m
 |k+1,po,ib,m,hk,hl=>by
  have hi:ib<lb.length:=by lia
  have m1:=m.pushB rb hi (behind ra ha (hl ib hi (qlr _) '!'));have m2:=Mg.manyB ra rb ha k m1 '!' λi hi2 h1 h2=>hl i hi2 '!' '!';rw [zem hi,List.take_succ_cons];rw [show ib+(k+1)=ib+1+k by lia];rw [qaa] at m2;exact m2
theorem Ri.app (h1:Ri r x) (h2:Ri r y) (h:∀a∈x,∀b∈y,r a<r b):Ri r (x++y):=by unfold Ri at h1 h2 ⊢;rw [List.pairwise_append];exact ⟨h1,h2,h⟩
theorem Mg.doneB (m:Mg r la lb po ia ib) (ra:Ri r la) (h:lb.length<=ib):Rs r la lb (po++la.drop ia++lb.drop ib):=by have e:lb.drop ib=[]:=List.drop_eq_nil_of_le h;have e2:lb.take ib=lb:=List.take_of_length_le h;have pm:=m.pm;rw [e2] at pm;rw [e,List.append_nil];refine ⟨m.up.app (ra.drop ia) m.xa,?_⟩;refine (pm.append_right _).trans ?_;rw [qaa];refine (List.Perm.append_left _ List.perm_append_comm).trans ?_;rw [<-qaa,List.take_append_drop]
theorem Mg.lastA (m:Mg r la lb po ia ib) (ra:Ri r la) (rb:Ri r lb) (h:∀a∈la.drop ia,∀b∈lb.drop ib,r b<r a):Rs r la lb (po++lb.drop ib++la.drop ia):=by
 refine ⟨(m.up.app (rb.drop ib) m.xb).app (ra.drop ia) λx hx y hy=>?_,?_⟩
 ·rcases List.mem_append.mp hx with z|z
  ·exact m.xa x z y hy
  ·exact h y hy x z
 ·refine ((m.pm.append_right _).append_right _).trans ?_;rw [qaa,qaa];have e1:(lb.take ib++(lb.drop ib++la.drop ia))=lb++la.drop ia:=by rw [<-qaa,List.take_append_drop]
  rw [e1];refine (List.Perm.append_left _ List.perm_append_comm).trans ?_;rw [<-qaa,List.take_append_drop]
end
noncomputable def zf6:Nat->StateT SortSt Sem Unit:=sortPriv% PySem.Builtin.setMinGallop
noncomputable def zjy:Array Keyed->Array Keyed->StateT SortSt Sem (Array Keyed):=sortPriv% PySem.Builtin.mergeLo
noncomputable def zhz (st:SortSt) (g:Nat):SortSt:=SortSt.mk' (kindOf st) (arrOf st) (pendingOf st) g (failedOf st)
theorem zh0 (g:Nat):zf6 g=modify λst=>zhz st g:=rfl
section
noncomputable def oA (it:Array Keyed) (l:List Nat):Array Keyed:=(l.map (kas_item it)).toArray
theorem oA_map (l:List Nat):l.toArray.map (kas_item it)=oA it l:=by unfold oA;simp
theorem zen (l:List Nat):(oA it l).size=l.length:=by unfold oA;simp
theorem zd3 (l:List Nat) (x:Nat):(oA it l).push (kas_item it x)=oA it (l++[x]):=by unfold oA;simp
theorem zar (l m:List Nat):oA it l++oA it m=oA it (l++m):=by unfold oA;simp
theorem zf7 (l:List Nat) (i j:Nat):(oA it l).extract i j=oA it ((l.drop i).take (j-i)):=by unfold oA;simp [List.extract_eq_drop_take,List.map_drop,List.map_take]
theorem zb7 (l:List Nat) (i:Nat):(oA it l).extract i l.length=oA it (l.drop i):=by rw [zf7,List.take_of_length_le (by rw [List.length_drop];exact qlr _)]
theorem zjz (l:List Nat) (i k:Nat):(oA it l).extract i (i+k)=oA it ((l.drop i).take k):=by rw [zf7,Nat.add_sub_cancel_left]
end
def Ks (st st':SortSt):Prop:=kindOf st'=kindOf st/\arrOf st'=arrOf st/\pendingOf st'=pendingOf st/\failedOf st'=failedOf st
theorem Ks.refl (st:SortSt):Ks st st:=⟨rfl,rfl,rfl,rfl⟩
theorem Ks.set (st:SortSt) (g:Nat):Ks st (zhz st g):=⟨rfl,rfl,rfl,rfl⟩
theorem Ks.trans (h:Ks a b) (k:Ks b c):Ks a c:=⟨k.1.trans h.1,k.2.1.trans h.2.1,k.2.2.1.trans h.2.2.1,k.2.2.2.trans h.2.2.2⟩
structure Two (N:Nat) (r:Nat->Int) (la lb:List Nat):Prop where
 ra:Ri r la
 rb:Ri r lb
 na:∀x∈la,x<N
 nb:∀x∈lb,x<N
 ne:∀x∈la,∀y∈lb,r x≠r y
 a1:1<=la.length
 b1:1<=lb.length
 hd:∀x∈la,r (lb.getD 0 0)<r x
 tl:∀y∈lb,r y<r (la.getD (la.length-1) 0)
section
theorem zbt {l:List Nat}{i:Nat}(hi:i<l.length) {st:SortSt}{Q:Keyed->SortSt->Shared->Prop}(h:Q (kas_item it l[i]) st s):kasC '&' A E (elem' (oA it l) i) Q st s:=by
 rw [<-oA_map];refine zhy (q:=l.toArray) (by simpa using hi) ?_;have e:l.toArray.getD i 0=l[i]:=by simp [Array.getD,hi]
 rw [e];exact h
theorem Ri.get (h:Ri r l) (hij:i<j) (hj:j<l.length):r l[i]<r l[j]:=(List.pairwise_iff_getElem.mp h) i j '!' hj hij
theorem at_list {l:List Nat}{i:Nat}(hi:i<l.length):SP.at' r l.toArray i=r l[i]:=by
 unfold SP.at';have e:l.toArray.getD i 0=l[i]:=by simp [Array.getD,hi]
 rw [e]
theorem zmt (hc:Asks prog w A κ it N r s) {l:List Nat}{i key:Nat}{left:Bool}(rl:Ri r l) (nl:∀x∈l,x<N) (hk:key<N) (hi:i<l.length) (hne:∀x∈l,r x≠r key) {st:SortSt}(hκ:kindOf st=κ) {Q:Option Nat->SortSt->Shared->Prop}
  (h:∀k,i+k<=l.length->(∀j (hj:j<l.length),i<=j->j<i+k->r l[j]<r key)->(∀j (hj:j<l.length),i+k<=j->r key<r l[j])->Q (some k) st s):kasC '&' A E (zc0 left (kas_item it key) (oA it l) i (l.length-i) 0) Q st s:=by
 rw [<-oA_map];refine zjw hc (q:=l.toArray) (base:=i) (n:=l.length-i) (hint:=0) ⟨by simp;lia,λj hj=>?_,λj1 j2 h1 h2=>?_⟩ hk '!' (λj hj=>?_) hκ λk hk1 hk2 hk3=>?_
 ·have hj:j<l.length:=by simpa using hj
  have e:l.toArray.getD j 0=l[j]:=by simp [Array.getD,hj]
  rw [e];exact nl _ (qem hj)
 ·rw [at_list '!',at_list '!'];exact rl.get '!' '!'
 ·rw [at_list '!'];exact hne _ (qem _)
 ·refine h k '!' (λj hj h1 h2=>?_) λj hj h1=>?_
  ·have:=hk2 (j-i) '!';rw [show i+(j-i)=j by lia,at_list hj] at this;exact this
  ·have:=hk3 (j-i) '!' '!';rw [show i+(j-i)=j by lia,at_list hj] at this;exact this
end
abbrev S2:=Option (Array Keyed)×Array Keyed×Nat×Nat×Nat×Nat×Nat
noncomputable def gC (a b:Array Keyed) (na nb:Nat) (out:Array Keyed) (ia ib mg ac bc:Nat):StateT SortSt Sem (ForInStep S2):=do
 let x <-elem' a ia
 if (ia+1+1==na)=true then pure (ForInStep.done (some (out.push x++b.extract ib nb++a.extract (ia+1) na),out.push x,ia+1,ib,mg,ac,bc))
 else if (decide (ac<7)&&decide (bc<7))=true then pure (ForInStep.done (none,out.push x,ia+1,ib,mg,ac,bc))
 else pure (ForInStep.yield (none,out.push x,ia+1,ib,mg,ac,bc))
noncomputable def gB (a b:Array Keyed) (na nb:Nat) (out:Array Keyed) (ia ib mg ac bc:Nat):StateT SortSt Sem (ForInStep S2):=do
 let x <-elem' b ib
 if (ib+1==nb)=true then pure (ForInStep.done (some (out.push x++a.extract ia na++b.extract (ib+1) nb),out.push x,ia,ib+1,mg,ac,bc))
 else do
  let y <-elem' a ia
  let z <-zc0 true y b (ib+1) (nb-(ib+1)) 0
  match z with
  | some k =>
   if k>0 then
    if (ib+1+k==nb)=true then pure (ForInStep.done (some (out.push x++b.extract (ib+1) (ib+1+k)++a.extract ia na++b.extract (ib+1+k) nb),out.push x++b.extract (ib+1) (ib+1+k),ia,ib+1+k,mg,ac,k))
    else gC a b na nb (out.push x++b.extract (ib+1) (ib+1+k)) ia (ib+1+k) mg ac k
   else gC a b na nb (out.push x) ia (ib+1) mg ac k
  |_=>pure (ForInStep.done (some (out.push x++a.extract ia na++b.extract (ib+1) nb),out.push x,ia,ib+1,mg,ac,bc))
noncomputable def gA (a b:Array Keyed) (na nb:Nat) (out:Array Keyed) (ia ib mg ac bc:Nat):StateT SortSt Sem (ForInStep S2):=do
 zf6 mg
 let y <-elem' b ib
 let z <-zc0 false y a ia (na-ia) 0
 match z with
 | some k =>
  if k>0 then
   if (ia+k+1==na)=true then pure (ForInStep.done (some (out++a.extract ia (ia+k)++b.extract ib nb++a.extract (ia+k) na),out++a.extract ia (ia+k),ia+k,ib,mg,k,bc))
   else if (ia+k==na)=true then pure (ForInStep.done (some (out++a.extract ia (ia+k)++a.extract (ia+k) na++b.extract ib nb),out++a.extract ia (ia+k),ia+k,ib,mg,k,bc))
   else gB a b na nb (out++a.extract ia (ia+k)) (ia+k) ib mg k bc
  else gB a b na nb out ia ib mg k bc
 |_=>pure (ForInStep.done (some (out++a.extract ia na++b.extract ib nb),out,ia,ib,mg,ac,bc))
section
inductive Liv (it:Array Keyed) (r:Nat->Int) (la lb:List Nat) (start:Nat) (out:Array Keyed) (ia ib:Nat):Prop
 |mk (po:List Nat) (e:out=oA it po) (m:Mg r la lb po ia ib) (ha:ia+1<la.length) (hb:ib<lb.length) (hs:start<=ia+ib)
inductive Fin (it:Array Keyed) (r:Nat->Int) (la lb:List Nat) (o:Option (Array Keyed)):Prop
 |mk (pm:List Nat) (e:o=some (oA it pm)) (h:Rs r la lb pm)
def Q2 (it:Array Keyed) (r:Nat->Int) (la lb:List Nat) (start:Nat) (st0:SortSt) (b:S2) (st':SortSt):Prop:=Ks st0 st'/\((b.1=none/\Liv it r la lb start b.2.1 b.2.2.1 b.2.2.2.1)\/Fin it r la lb b.1)
def R2 (it:Array Keyed) (r:Nat->Int) (la lb:List Nat) (start:Nat) (st0:SortSt) (s:Shared) (x:ForInStep S2) (st':SortSt) (s':Shared):Prop:=s'=s/\match x with
 | .done b=>Q2 it r la lb start st0 b st'
 | .yield b=>Ks st0 st'/\b.1=none/\Liv it r la lb start b.2.1 b.2.2.1 b.2.2.2.1
theorem zh1 (t:Two N r la lb) (h:ia+1=la.length):∀a∈la.drop ia,∀b∈lb.drop ib,r b<r a:=λa ha b hb=>by
 have h1:=t.tl b (List.mem_of_mem_drop hb);have e:la.getD (la.length-1) 0=la[ia]'(by lia):=by rw [List.getD_eq_getElem?_getD,show la.length-1=ia by lia,qge '!'];rfl
 rw [e] at h1;rw [zem '!',List.drop_eq_nil_of_le '!'] at ha;rw [List.mem_singleton.mp ha];exact h1
theorem zmu (t:Two N r la lb) {po:List Nat}{ia ib mg ac bc start:Nat}{st0 st:SortSt}(hk:Ks st0 st) (m:Mg r la lb po ia ib) (ha:ia+1<la.length) (hb:ib<lb.length) (hl:r (la[ia]'(by lia))<r lb[ib]) (hs:start<=ia+ib) :
  kasC '&' A E (gC (oA it la) (oA it lb) la.length lb.length (oA it po) ia ib mg ac bc) (R2 it r la lb start st0 s) st s:=by
 unfold gC;refine kasC_bind (zbt '!' ?_);have m1:=m.pushA t.ra '!' (behind t.rb hb hl);rw [zd3];refine zax (λe1=>?_) (λe1=>?_)
 ·have e1:ia+1+1=la.length:=by simpa using e1
  refine kasC_pure ⟨rfl,hk,.inr ⟨_,?_,m1.lastA t.ra t.rb (zh1 t e1)⟩⟩;show some _=some _;rw [zb7,zb7,zar,zar]
 ·have e1:¬ia+1+1=la.length:=by simpa using e1
  refine zax (λe2=>?_) (λe2=>?_)
  ·exact kasC_pure ⟨rfl,hk,.inl ⟨rfl,_,rfl,m1,by show ia+1+1<_;lia,hb,by show start<=ia+1+ib;lia⟩⟩
  ·exact kasC_pure ⟨rfl,hk,rfl,_,rfl,m1,by show ia+1+1<_;lia,hb,by show start<=ia+1+ib;lia⟩
theorem zmv (hc:Asks prog w A κ it N r s) (t:Two N r la lb) {po:List Nat}{ia ib mg ac bc start:Nat}{st0 st:SortSt}(hk:Ks st0 st) (hκ:kindOf st=κ) (m:Mg r la lb po ia ib) (ha:ia+1<la.length) (hb:ib<lb.length) (hl:r lb[ib]<r (la[ia]'(by lia))) (hs:start<=ia+ib) :
  kasC '&' A E (gB (oA it la) (oA it lb) la.length lb.length (oA it po) ia ib mg ac bc) (R2 it r la lb start st0 s) st s:=by
 unfold gB;refine kasC_bind (zbt hb ?_);have m1:=m.pushB t.rb hb (behind t.ra '!' hl);rw [zd3];refine zax (λe1=>?_) (λe1=>?_)
 ·have e1:ib+1=lb.length:=by simpa using e1
  refine kasC_pure ⟨rfl,hk,.inr ⟨_,?_,m1.doneB t.ra '!'⟩⟩;show some _=some _;rw [zb7,zb7,zar,zar]
 ·have e1:¬ib+1=lb.length:=by simpa using e1
  refine kasC_bind (zbt '!' ?_);refine kasC_bind (zmt hc t.rb t.nb (t.na _ (qem _)) '!' (λx hx=>Ne.symm (t.ne _ (qem _) x hx)) hκ λk k1 k2 k3=>?_);dsimp only;have m2:=Mg.manyB t.ra t.rb '!' k m1 k1 k2;by_cases e2:k>0
  ·rw [if_pos e2,zjz,zar];refine zax (λe3=>?_) (λe3=>?_)
   ·have e3:ib+1+k=lb.length:=(by simpa using e3);refine kasC_pure ⟨rfl,hk,.inr ⟨_,?_,m2.doneB t.ra '!'⟩⟩;show some _=some _;rw [zb7,zb7,zar,zar]
   ·have e3:¬ib+1+k=lb.length:=(by simpa using e3);exact zmu t hk m2 ha '!' (k3 (ib+1+k) '!' (qlr _)) '!'
  ·rw [if_neg e2];have e2:k=0:=(by lia);subst e2;exact zmu t hk m1 ha '!' (k3 (ib+1) '!' '!') '!'
theorem zmw (hc:Asks prog w A κ it N r s) (t:Two N r la lb) {po:List Nat}{ia ib mg ac bc start:Nat}{st0 st:SortSt}(hk:Ks st0 st) (hκ:kindOf st=κ) (m:Mg r la lb po ia ib) (ha:ia+1<la.length) (hb:ib<lb.length) (hs:start<=ia+ib) :
  kasC '&' A E (gA (oA it la) (oA it lb) la.length lb.length (oA it po) ia ib mg ac bc) (R2 it r la lb start st0 s) st s:=by
 unfold gA;rw [zh0];refine kasC_bind (kasC_modify ?_);have hk2:=hk.trans (Ks.set st mg);have hκ2:kindOf (zhz st mg)=κ:=hκ;refine kasC_bind (zbt hb ?_);refine kasC_bind (zmt hc t.ra t.na (t.nb _ (qem _)) '!' (λx hx=>t.ne x hx _ (qem _)) hκ2 λk k1 k2 k3=>?_);dsimp only;have m2:=Mg.manyA t.ra t.rb hb k m k1 k2;have hlast:ia+k≠la.length:=λe=>by
  have h1:=t.tl lb[ib] (qem _);have e2:la.getD (la.length-1) 0=la[la.length-1]'(by lia):=by rw [List.getD_eq_getElem?_getD,qge '!'];rfl
  rw [e2] at h1;have h2:=k2 (la.length-1) '!' '!' '!';lia
 by_cases e2:k>0
 ·rw [if_pos e2,zjz,zar];refine zax (λe3=>?_) (λe3=>?_)
  ·have e3:ia+k+1=la.length:=(by simpa using e3);refine kasC_pure ⟨rfl,hk2,.inr ⟨_,?_,m2.lastA t.ra t.rb (zh1 t e3)⟩⟩;show some _=some _;rw [zb7,zb7,zar,zar]
  ·have e3:¬ia+k+1=la.length:=(by simpa using e3);rw [if_neg (by simpa using hlast)];exact zmv hc t hk2 hκ2 m2 '!' hb (k3 (ia+k) '!' (qlr _)) '!'
 ·rw [if_neg e2];have e2:k=0:=by lia
  subst e2;exact zmv hc t hk2 hκ2 m ha hb (k3 ia '!' '!') hs
end
abbrev S1:=Option (Array Keyed)×Array Keyed×Nat×Nat×Nat×Nat
abbrev S0:=Option (Array Keyed)×Array Keyed×Nat×Nat×Nat
noncomputable def sA (a b:Array Keyed) (na nb mg:Nat) (out:Array Keyed) (ia ib ac bc:Nat):StateT SortSt Sem (ForInStep S1):=do
 let x <-elem' b ib
 let y <-elem' a ia
 let o <-lt' x y
 match o with
 | some w =>
  if w=true then do
   let z <-elem' b ib
   if (ib+1==nb)=true then pure (ForInStep.done (some (out.push z++a.extract ia na++b.extract (ib+1) nb),out.push z,ia,ib+1,0,bc+1))
   else if bc+1≥mg then pure (ForInStep.done (none,out.push z,ia,ib+1,0,bc+1))
   else pure (ForInStep.yield (none,out.push z,ia,ib+1,0,bc+1))
  else do
   let z <-elem' a ia
   if (ia+1+1==na)=true then pure (ForInStep.done (some (out.push z++b.extract ib nb++a.extract (ia+1) na),out.push z,ia+1,ib,ac+1,0))
   else if ac+1≥mg then pure (ForInStep.done (none,out.push z,ia+1,ib,ac+1,0))
   else pure (ForInStep.yield (none,out.push z,ia+1,ib,ac+1,0))
 |_=>pure (ForInStep.done (some (out++a.extract ia na++b.extract ib nb),out,ia,ib,ac,bc))
noncomputable def sG (a b:Array Keyed) (p:S2):StateT SortSt Sem (ForInStep S2) :=
 if p.2.2.2.2.1>1 then gA a b a.size b.size p.2.1 p.2.2.1 p.2.2.2.1 (p.2.2.2.2.1-1) p.2.2.2.2.2.1 p.2.2.2.2.2.2
 else gA a b a.size b.size p.2.1 p.2.2.1 p.2.2.2.1 p.2.2.2.2.1 p.2.2.2.2.2.1 p.2.2.2.2.2.2
noncomputable def sO (a b:Array Keyed) (r:S0):StateT SortSt Sem (ForInStep S0):=do
 let q <-forIn [0:a.size+b.size] ((none,r.2.1,r.2.2.1,r.2.2.2.1,0,0):S1) (λ_ q=>sA a b a.size b.size r.2.2.2.2 q.2.1 q.2.2.1 q.2.2.2.1 q.2.2.2.2.1 q.2.2.2.2.2)
 match q.1 with
 |some x=>pure (ForInStep.done (some x,q.2.1,q.2.2.1,q.2.2.2.1,r.2.2.2.2))
 | none=>do
  rule "list.sort.gallop"
  let p <-forIn [0:a.size+b.size] ((none,q.2.1,q.2.2.1,q.2.2.2.1,r.2.2.2.2+1,q.2.2.2.2.1,q.2.2.2.2.2):S2) (λ_ p=>sG a b p)
  match p.1 with
  |some x=>pure (ForInStep.done (some x,p.2.1,p.2.2.1,p.2.2.2.1,p.2.2.2.2.1))
  |none=>do
   zf6 (p.2.2.2.2.1+1)
   pure (ForInStep.yield (none,p.2.1,p.2.2.1,p.2.2.2.1,p.2.2.2.2.1+1))
theorem zth (a b:Array Keyed):zjy a b=(do
 rule "list.sort.merge-lo"
 let x <-elem' b 0
 if (1==b.size)=true then pure (#[x]++a.extract 0 a.size++b.extract 1 b.size)
 else if (0+1==a.size)=true then pure (#[x]++b.extract 1 b.size++a.extract 0 a.size)
 else do
  let st <-get
  let r <-forIn [0:a.size+b.size] ((none,#[x],0,1,gallopOf st):S0) (λ_ r=>sO a b r)
  match r.1 with
  |some x=>pure x
  |none=>unsupported "internal:list.sort.merge-bound"):=by kernel_rfl
section
def MgP (it:Array Keyed) (r:Nat->Int) (la lb:List Nat) (st:SortSt) (s:Shared) (x:Array Keyed) (st':SortSt) (s':Shared):Prop:=s'=s/\Ks st st'/\Fin it r la lb (some x)
def Q1 (it:Array Keyed) (r:Nat->Int) (la lb:List Nat) (k0:Nat) (st0:SortSt) (b:S1) (st':SortSt):Prop:=st'=st0/\((b.1=none/\Liv it r la lb (k0+1) b.2.1 b.2.2.1 b.2.2.2.1)\/Fin it r la lb b.1)
def I1 (it:Array Keyed) (r:Nat->Int) (la lb:List Nat) (k0:Nat) (st0:SortSt) (k:Nat) (b:S1) (st':SortSt):Prop:=st'=st0/\b.1=none/\Liv it r la lb k0 b.2.1 b.2.2.1 b.2.2.2.1/\k0+(la.length+lb.length)<=b.2.2.1+b.2.2.2.1+k
theorem zti (hc:Asks prog w A κ it N r s) (t:Two N r la lb) {po:List Nat}{ia ib mg ac bc k0 k:Nat}{st:SortSt}(hκ:kindOf st=κ) (m:Mg r la lb po ia ib) (ha:ia+1<la.length) (hb:ib<lb.length) (hs:k0<=ia+ib) (hcn:k0+(la.length+lb.length)<=ia+ib+(k+1)) :
  kasC '&' A E (sA (oA it la) (oA it lb) la.length lb.length mg (oA it po) ia ib ac bc) (λx st' s'=>s'=s/\match x with | .done b=>Q1 it r la lb k0 st b st' | .yield b=>I1 it r la lb k0 st k b st') st s:=by
 unfold sA;refine kasC_bind (zbt hb (kasC_bind (zbt '!' ?_)));refine kasC_bind (zf4 hc (t.nb _ (qem _)) (t.na _ (qem _)) hκ ?_);dsimp only;refine zax (λhw=>?_) (λhw=>?_)
 ·have hw:=of_decide_eq_true hw;refine kasC_bind (zbt hb ?_);have m1:=m.pushB t.rb hb (behind t.ra '!' hw);rw [zd3];refine zax (λe1=>?_) (λe1=>?_)
  ·have e1:ib+1=lb.length:=(by simpa using e1);refine kasC_pure ⟨rfl,rfl,.inr ⟨_,?_,m1.doneB t.ra '!'⟩⟩;show some _=some _;rw [zb7,zb7,zar,zar]
  ·have e1:¬ib+1=lb.length:=(by simpa using e1);exact zax (λ_=>kasC_pure ⟨rfl,rfl,.inl ⟨rfl,_,rfl,m1,ha,by show ib+1<_;lia,by show _<=ia+(ib+1);lia⟩⟩)
    λ_=>kasC_pure ⟨rfl,rfl,rfl,⟨_,rfl,m1,ha,by show ib+1<_;lia,by show _<=ia+(ib+1);lia⟩,by show _<=ia+(ib+1)+k;lia⟩
 ·have hw:¬r lb[ib]<r (la[ia]'(by lia)):=λz=>hw (decide_eq_true z);have hne:=t.ne (la[ia]'(by lia)) (qem _) lb[ib] (qem _);refine kasC_bind (zbt '!' ?_);have m1:=m.pushA t.ra '!' (behind t.rb hb '!');rw [zd3];refine zax (λe1=>?_) (λe1=>?_)
  ·have e1:ia+1+1=la.length:=(by simpa using e1);refine kasC_pure ⟨rfl,rfl,.inr ⟨_,?_,m1.lastA t.ra t.rb (zh1 t e1)⟩⟩;show some _=some _;rw [zb7,zb7,zar,zar]
  ·have e1:¬ia+1+1=la.length:=(by simpa using e1);exact zax (λ_=>kasC_pure ⟨rfl,rfl,.inl ⟨rfl,_,rfl,m1,by show ia+1+1<_;lia,hb,by show _<=ia+1+ib;lia⟩⟩)
    λ_=>kasC_pure ⟨rfl,rfl,rfl,⟨_,rfl,m1,by show ia+1+1<_;lia,hb,by show _<=ia+1+ib;lia⟩,by show _<=ia+1+ib+k;lia⟩
theorem ztj (hc:Asks prog w A κ it N r s) (t:Two N r la lb) {start:Nat}{p:S2}{st0 st:SortSt}(hk:Ks st0 st) (hκ:kindOf st0=κ) (lv:Liv it r la lb start p.2.1 p.2.2.1 p.2.2.2.1) :
  kasC '&' A E (sG (oA it la) (oA it lb) p) (R2 it r la lb start st0 s) st s:=by
 obtain ⟨bb,out,ia,ib,mg,ac,bc⟩:=p;obtain ⟨po,e,m,ha,hb,hs⟩:=lv;dsimp only at e m ha hb hs;subst e;unfold sG;rw [zen,zen];have hκ2:kindOf st=κ:=hk.1.trans hκ;exact zax (λ_=>zmw hc t hk hκ2 m ha hb hs) λ_=>zmw hc t hk hκ2 m ha hb hs
def I0 (it:Array Keyed) (r:Nat->Int) (la lb:List Nat) (st0:SortSt) (k:Nat) (b:S0) (st':SortSt):Prop:=Ks st0 st'/\b.1=none/\Liv it r la lb 0 b.2.1 b.2.2.1 b.2.2.2.1/\la.length+lb.length+1<=b.2.2.1+b.2.2.2.1+k
theorem ztk (hc:Asks prog w A κ it N r s) (t:Two N r la lb) {st0 st:SortSt}(hκ:kindOf st0=κ) {k:Nat}{b:S0}(h:I0 it r la lb st0 (k+1) b st) :
  kasC '&' A E (sO (oA it la) (oA it lb) b) (λx st' s'=>s'=s/\match x with | .done b=>s=s/\Ks st0 st'/\Fin it r la lb b.1 | .yield b=>I0 it r la lb st0 k b st') st s:=by
 obtain ⟨b0,out0,ia0,ib0,mg0⟩:=b;obtain ⟨hks,hb0,lv0,hct⟩:=h;dsimp only at hb0 lv0 hct;have hκ':kindOf st=κ:=hks.1.trans hκ;unfold sO;rw [zen,zen];refine kasC_bind (za0 (zcg (s:=s) (I1 it r la lb (ia0+ib0) st) (Q:=λb st' s'=>s'=s/\Q1 it r la lb (ia0+ib0) st b st') ?_ ?_ ?_) ?_)
 ·rintro k x ⟨bb,out,ia,ib,ac,bc⟩ st'' ⟨rfl,rfl,⟨po,e,m,ha,hb,hs⟩,hcn⟩;dsimp only at e m ha hb hs hcn ⊢;subst e;refine za0 (zti hc t hκ' m ha hb hs hcn) ?_;rintro x st3 s3 ⟨h3,h4⟩;refine ⟨h3,?_⟩;cases x with
  |done b=>exact ⟨rfl,h4⟩
  |yield b=>exact h4
 ·rintro ⟨bb,out,ia,ib,ac,bc⟩ st'' ⟨rfl,rfl,⟨po,e,m,ha,hb,hs⟩,hcn⟩;dsimp only at e m ha hb hs hcn;exact ⟨rfl,rfl,.inl ⟨rfl,po,e,m,ha,hb,by show _<=ia+ib;lia⟩⟩
 ·obtain ⟨po,e,m,ha,hb,hs⟩:=lv0;exact ⟨rfl,rfl,⟨po,e,m,ha,hb,qlr _⟩,qlr _⟩
 rintro ⟨b1,out1,ia1,ib1,ac1,bc1⟩ st1 s1 ⟨hs1,hst1,hb1⟩;rw [hs1,hst1];rcases hb1 with ⟨hn,lv⟩|⟨pm,e,hr⟩
 ·dsimp only at hn lv ⊢;subst hn;dsimp only;refine kasC_bind (kasC_lift (wpAny_rule ?_));refine kasC_bind (za0 (zcg (s:=s) (λk (b:S2) st''=>Ks st st''/\b.1=none/\Liv it r la lb (ia0+ib0+1) b.2.1 b.2.2.1 b.2.2.2.1) (Q:=λ(b:S2) st'' s'=>s'=s/\Q2 it r la lb (ia0+ib0+1) st b st'') ?_ ?_ ⟨Ks.refl _,rfl,lv⟩) ?_)
  ·rintro k x p st'' ⟨hk2,_,lv2⟩;refine za0 (ztj hc t hk2 hκ' lv2) ?_;rintro x st3 s3 ⟨h3,h4⟩;refine ⟨h3,?_⟩;cases x with
   |done b=>exact ⟨rfl,h4⟩
   |yield b=>exact h4
  ·rintro b st'' ⟨hk2,hbn,lv2⟩;exact ⟨rfl,hk2,.inl ⟨hbn,lv2⟩⟩
  rintro ⟨b2,out2,ia2,ib2,mg2,ac2,bc2⟩ st2 s2 ⟨hs2,hk2,hb2⟩;rw [hs2];rcases hb2 with ⟨hn,⟨po,e,m,ha,hb,hs⟩⟩|⟨pm,e,hr⟩
  ·dsimp only at hn e m ha hb hs ⊢;subst hn;dsimp only;rw [zh0];refine kasC_bind (kasC_modify (kasC_pure ⟨rfl,(hks.trans hk2).trans (Ks.set _ _),rfl,⟨po,e,m,ha,hb,Nat.zero_le _⟩,?_⟩));show _<=ia2+ib2+k;lia
  ·dsimp only at e ⊢;subst e;exact kasC_pure ⟨rfl,rfl,hks.trans hk2,pm,rfl,hr⟩
 ·dsimp only at e ⊢;subst e;exact kasC_pure ⟨rfl,rfl,hks,pm,rfl,hr⟩
theorem ztl (hc:Asks prog w A κ it N r s) (t:Two N r la lb) {st:SortSt}(hκ:kindOf st=κ):kasC '&' A E (zjy (oA it la) (oA it lb)) (MgP it r la lb st s) st s:=by
 have a1:=t.a1;have b1:=t.b1;rw [zth];refine kasC_bind (kasC_lift (wpAny_rule ?_));refine kasC_bind (zbt b1 ?_);simp only [zen];have m00:Mg r la lb [] 0 0:=⟨List.Pairwise.nil,λo ho=>(by cases ho),λo ho=>(by cases ho),by simp⟩;have m0:Mg r la lb [lb[0]] 0 1:=by
  have:=m00.pushB t.rb '!' (λz hz=>by
   have:=t.hd z (List.mem_of_mem_drop hz);have e:lb.getD 0 0=lb[0]'(by lia):=(by rw [List.getD_eq_getElem?_getD,qge '!'];rfl);rw [e] at this;exact this)
  exact this
 have e0:(#[kas_item it lb[0]]:Array Keyed)=oA it [lb[0]]:=rfl;rw [e0];refine zax (λh1=>?_) (λh1=>?_)
 ·have h1:1=lb.length:=by simpa using h1
  refine kasC_pure ⟨rfl,Ks.refl _,_,?_,m0.doneB t.ra '!'⟩;rw [zb7,zb7,zar,zar]
 have h1:¬1=lb.length:=by simpa using h1
 refine zax (λh2=>?_) (λh2=>?_)
 ·have h2:0+1=la.length:=by simpa using h2
  refine kasC_pure ⟨rfl,Ks.refl _,_,?_,m0.lastA t.ra t.rb (zh1 t h2)⟩;rw [zb7,zb7,zar,zar]
 have h2:¬0+1=la.length:=by simpa using h2
 refine kasC_bind (kasC_get ?_);refine kasC_bind (za0 (zcg (s:=s) (I0 it r la lb st) (Q:=λ(b:S0) st' s'=>s'=s/\Ks st st'/\Fin it r la lb b.1) (λk x b st' h=>za0 (ztk hc t hκ h) λx st3 s3 h3=>by
  refine ⟨h3.1,?_⟩;cases x<;>exact h3.2) ?_ ⟨Ks.refl _,rfl,⟨_,rfl,m0,by show 0+1<_;lia,by show 1<_;lia,Nat.zero_le _⟩,by show _<=0+1+_;lia⟩) ?_)
 ·rintro ⟨b0,out0,ia0,ib0,mg0⟩ st' ⟨hks,hbn,⟨po,e,m,ha,hb,hs⟩,hct⟩;exfalso;dsimp only at ha hb hct;lia
 ·rintro ⟨b0,out0,ia0,ib0,mg0⟩ st' s' ⟨hs',hks,⟨pm,e,hr⟩⟩;rw [hs'];dsimp only at e ⊢;subst e;exact kasC_pure ⟨rfl,hks,pm,rfl,hr⟩
end
noncomputable def zj0:Array Keyed->Array Keyed->StateT SortSt Sem (Array Keyed):=sortPriv% PySem.Builtin.mergeHi
noncomputable def ng (r:Nat->Int):Nat->Int:=λx=>-(r x)
def Mh (r:Nat->Int) (la lb po:List Nat) (na nb:Nat):Prop:=Mg (ng r) la.reverse lb.reverse po (la.length-na) (lb.length-nb)
section
theorem ri_rev:Ri (ng r) l.reverse↔Ri r l:=by
 unfold Ri ng;rw [List.pairwise_reverse];constructor
 ·exact λh=>h.imp λ{a b} hab=>by lia
 ·exact λh=>h.imp λ{a b} hab=>by lia
theorem zmx {l:List Nat}{n:Nat}(h1:1<=n) (h2:n<=l.length) (h:l.length-n<l.reverse.length):l.reverse[l.length-n]=l[n-1]'(by lia):=by rw [List.getElem_reverse];congr 1;lia
theorem ztm {l:List Nat}{n:Nat}(h2:n<=l.length):l.reverse.drop (l.length-n)=(l.take n).reverse:=by rw [List.drop_reverse];congr 2;lia
theorem zh2 {l:List Nat}{n x:Nat}(h2:n<=l.length):x∈l.reverse.drop (l.length-n)↔x∈l.take n:=by rw [ztm h2,List.mem_reverse]
theorem Mh.pushA (m:Mh r la lb po na nb) (ra:Ri r la) (h1:1<=na) (h2:na<=la.length) (h3:nb<=lb.length) (hl:∀z∈lb.take nb,r z<r (la[na-1]'(by lia))):Mh r la lb (po++[la[na-1]'(by lia)]) (na-1) nb:=by
 have hi:la.length-na<la.reverse.length:=by rw [List.length_reverse];lia
 have e:=zmx h1 h2 hi;have:=Mg.pushA m (ri_rev.mpr ra) hi λz hz=>by rw [e];have:=hl z ((zh2 h3).mp hz);show -(r _) < -(r z);lia
 rw [e] at this;unfold Mh;rw [show la.length-(na-1)=la.length-na+1 by lia];exact this
theorem Mh.pushB (m:Mh r la lb po na nb) (rb:Ri r lb) (h1:1<=nb) (h2:nb<=lb.length) (h3:na<=la.length) (hl:∀z∈la.take na,r z<r (lb[nb-1]'(by lia))):Mh r la lb (po++[lb[nb-1]'(by lia)]) na (nb-1):=by
 have hi:lb.length-nb<lb.reverse.length:=by rw [List.length_reverse];lia
 have e:=zmx h1 h2 hi;have:=Mg.pushB m (ri_rev.mpr rb) hi λz hz=>by rw [e];have:=hl z ((zh2 h3).mp hz);show -(r _) < -(r z);lia
 rw [e] at this;unfold Mh;rw [show lb.length-(nb-1)=lb.length-nb+1 by lia];exact this
theorem ze8 (h:Ri r l) (h1:1<=n) (h2:n<=l.length) (hx:r (l[n-1]'(by lia))<x):∀z∈l.take n,r z<x:=λz hz=>by
 obtain ⟨i,hi,rfl⟩:=List.mem_iff_getElem.mp hz;rw [List.length_take] at hi;rw [List.getElem_take];by_cases e:i=n-1
 ·subst e;exact hx
 ·exact Int.lt_trans ((List.pairwise_iff_getElem.mp h) i (n-1) '!' '!' '!') hx
theorem Mh.manyA (ra:Ri r la) (rb:Ri r lb) (h1:1<=nb) (h2:nb<=lb.length):∀(k:Nat) {po:List Nat}{na:Nat},Mh r la lb po na nb->k<=na->na<=la.length->(∀i (hi:i<la.length),na-k<=i->i<na->r (lb[nb-1]'(by lia))<r la[i])->Mh r la lb (po++((la.drop (na-k)).take k).reverse) (na-k) nb
 |0,po,na,m,_,_,_=>by simpa using m
 |k+1,po,na,m,hk,hn,hl=>by
  have m1:=m.pushA ra '!' hn h2 (ze8 rb h1 h2 (hl (na-1) '!' '!' '!'));have m2:=Mh.manyA ra rb h1 h2 k m1 '!' '!' λi hi a1 a2=>hl i hi '!' '!';rw [show na-1-k=na-(k+1) by lia] at m2;have e:(la.drop (na-(k+1))).take (k+1)=(la.drop (na-(k+1))).take k++[la[na-1]'(by lia)]:=by rw [List.take_succ_eq_append_getElem (by rw [List.length_drop];lia)];congr 2;rw [List.getElem_drop];congr 1;lia
  rw [e,List.reverse_append,List.reverse_singleton,<-qaa];exact m2
theorem Mh.manyB (ra:Ri r la) (rb:Ri r lb) (h1:1<=na) (h2:na<=la.length):∀(k:Nat) {po:List Nat}{nb:Nat},Mh r la lb po na nb->k<=nb->nb<=lb.length->(∀i (hi:i<lb.length),nb-k<=i->i<nb->r (la[na-1]'(by lia))<r lb[i])->Mh r la lb (po++((lb.drop (nb-k)).take k).reverse) na (nb-k)
 |0,po,nb,m,_,_,_=>by simpa using m
 |k+1,po,nb,m,hk,hn,hl=>by
  have m1:=m.pushB rb '!' hn h2 (ze8 ra h1 h2 (hl (nb-1) '!' '!' '!'));have m2:=Mh.manyB ra rb h1 h2 k m1 '!' '!' λi hi a1 a2=>hl i hi '!' '!';rw [show nb-1-k=nb-(k+1) by lia] at m2;have e:(lb.drop (nb-(k+1))).take (k+1)=(lb.drop (nb-(k+1))).take k++[lb[nb-1]'(by lia)]:=by rw [List.take_succ_eq_append_getElem (by rw [List.length_drop];lia)];congr 2;rw [List.getElem_drop];congr 1;lia
  rw [e,List.reverse_append,List.reverse_singleton,<-qaa];exact m2
theorem Mh.firstB (m:Mh r la lb po na nb) (ra:Ri r la) (rb:Ri r lb) (h2:na<=la.length) (h3:nb<=lb.length) (h:∀a∈la.take na,∀b∈lb.take nb,r b<r a):Rs r la lb (lb.take nb++la.take na++po.reverse):=by
 have up:=m.up;have rp:Ri r po.reverse:=by rw [<-ri_rev,List.reverse_reverse];exact up
 have xa:∀o∈po,∀z∈la.take na,r z<r o:=λo ho z hz=>by have:-(r o) < -(r z):=m.xa o ho z ((zh2 h2).mpr hz);lia
 have xb:∀o∈po,∀z∈lb.take nb,r z<r o:=λo ho z hz=>by have:-(r o) < -(r z):=m.xb o ho z ((zh2 h3).mpr hz);lia
 have pm:=m.pm;have e1:la.reverse.take (la.length-na)=(la.drop na).reverse:=by rw [List.take_reverse];congr 2;lia
 have e2:lb.reverse.take (lb.length-nb)=(lb.drop nb).reverse:=by rw [List.take_reverse];congr 2;lia
 rw [e1,e2] at pm;have tb:Ri r (lb.take nb):=List.Pairwise.sublist (List.take_sublist nb lb) rb;have ta:Ri r (la.take na):=List.Pairwise.sublist (List.take_sublist na la) ra;refine ⟨Ri.app (Ri.app tb ta λb hb a ha=>h a ha b hb) rp λx hx o ho=>?_,?_⟩
 ·have ho:=List.mem_reverse.mp ho;rcases List.mem_append.mp hx with z|z
  ·exact xb o ho x z
  ·exact xa o ho x z
 ·have p1:po.reverse.Perm (la.drop na++lb.drop nb):=(List.reverse_perm po).trans (pm.trans ((List.reverse_perm _).append (List.reverse_perm _)));refine (List.Perm.append_left _ p1).trans ?_;have p2:(lb.take nb++la.take na).Perm (la.take na++lb.take nb):=List.perm_append_comm;refine (p2.append_right _).trans ?_;rw [qaa];have p3:(lb.take nb++(la.drop na++lb.drop nb)).Perm (la.drop na++lb):=by rw [<-qaa];refine (List.perm_append_comm.append_right _).trans ?_;rw [qaa,List.take_append_drop]
  refine (List.Perm.append_left _ p3).trans ?_;rw [<-qaa,List.take_append_drop]
theorem Mh.fin (m:Mh r la lb po na nb) (ra:Ri r la) (rb:Ri r lb) (h2:na<=la.length) (h3:nb<=lb.length) (h:na=0\/nb=0):Rs r la lb (la.take na++lb.take nb++po.reverse):=by
 have e:la.take na++lb.take nb=lb.take nb++la.take na:=by rcases h with rfl|rfl<;>simp
 rw [e];refine m.firstB ra rb h2 h3 λa ha b hb=>?_;rcases h with rfl|rfl
 ·simp at ha
 ·simp at hb
end
section
theorem zdj (l:List Nat):(oA it l).reverse=oA it l.reverse:=by unfold oA;simp
theorem zb8 (l:List Nat) (n:Nat):(oA it l).extract 0 n=oA it (l.take n):=by rw [zf7];simp
theorem zmy (l:List Nat) (i n:Nat):((oA it l).extract i n).reverse=oA it (((l.drop i).take (n-i)).reverse):=by rw [zf7,zdj]
end
section
theorem zmz (hc:Asks prog w A κ it N r s) {l:List Nat}{n key:Nat}{left:Bool}(rl:Ri r l) (nl:∀x∈l,x<N) (hk:key<N) (h1:1<=n) (h2:n<=l.length) (hne:∀x∈l,r x≠r key) {st:SortSt}(hκ:kindOf st=κ) {Q:Option Nat->SortSt->Shared->Prop}
  (h:∀k,k<=n->(∀j (hj:j<l.length),j<k->r l[j]<r key)->(∀j (hj:j<l.length),k<=j->j<n->r key<r l[j])->Q (some k) st s):kasC '&' A E (zc0 left (kas_item it key) (oA it l) 0 n (n-1)) Q st s:=by
 rw [<-oA_map];refine zjw hc (q:=l.toArray) (base:=0) (n:=n) (hint:=n-1) ⟨by simp;lia,λj hj=>?_,λj1 j2 a1 a2=>?_⟩ hk '!' (λj hj=>?_) hκ λk hk1 hk2 hk3=>?_
 ·have hj:j<l.length:=by simpa using hj
  have e:l.toArray.getD j 0=l[j]:=by simp [Array.getD,hj]
  rw [e];exact nl _ (qem hj)
 ·rw [at_list '!',at_list '!'];exact rl.get '!' '!'
 ·rw [at_list '!'];exact hne _ (qem _)
 ·refine h k hk1 (λj hj a1=>?_) λj hj a1 a2=>?_
  ·have:=hk2 j a1;rw [Nat.zero_add,at_list hj] at this;exact this
  ·have:=hk3 j a1 a2;rw [Nat.zero_add,at_list hj] at this;exact this
end
abbrev H2:=Option (Array Keyed)×Nat×Nat×Array Keyed×Nat×Nat×Nat
abbrev H1:=Option (Array Keyed)×Nat×Nat×Array Keyed×Nat×Nat
abbrev H0:=Option (Array Keyed)×Nat×Nat×Array Keyed×Nat
noncomputable def hC (a b:Array Keyed) (na nb:Nat) (out:Array Keyed) (mg ac bc:Nat):StateT SortSt Sem (ForInStep H2):=do
 let x <-elem' a (na-1)
 if (na-1==0)=true then pure (ForInStep.done (some (a.extract 0 (na-1)++b.extract 0 nb++(out.push x).reverse),na-1,nb,out.push x,mg,ac,bc))
 else if (decide (ac<7)&&decide (bc<7))=true then pure (ForInStep.done (none,na-1,nb,out.push x,mg,ac,bc))
 else pure (ForInStep.yield (none,na-1,nb,out.push x,mg,ac,bc))
noncomputable def hB (a b:Array Keyed) (na nb:Nat) (out:Array Keyed) (mg ac bc:Nat):StateT SortSt Sem (ForInStep H2):=do
 let x <-elem' b (nb-1)
 if (nb-1==1)=true then pure (ForInStep.done (some (b.extract 0 (nb-1)++a.extract 0 na++(out.push x).reverse),na,nb-1,out.push x,mg,ac,bc))
 else do
  let y <-elem' a (na-1)
  let z <-zc0 true y b 0 (nb-1) (nb-1-1)
  match z with
  | some at2 =>
   if nb-1-at2>0 then
    if (at2==1)=true then pure (ForInStep.done (some (b.extract 0 at2++a.extract 0 na++(out.push x++(b.extract at2 (nb-1)).reverse).reverse),na,at2,out.push x++(b.extract at2 (nb-1)).reverse,mg,ac,nb-1-at2))
    else if (at2==0)=true then pure (ForInStep.done (some (a.extract 0 na++b.extract 0 at2++(out.push x++(b.extract at2 (nb-1)).reverse).reverse),na,at2,out.push x++(b.extract at2 (nb-1)).reverse,mg,ac,nb-1-at2))
    else hC a b na at2 (out.push x++(b.extract at2 (nb-1)).reverse) mg ac (nb-1-at2)
   else hC a b na (nb-1) (out.push x) mg ac (nb-1-at2)
  |_=>pure (ForInStep.done (some (a.extract 0 na++b.extract 0 (nb-1)++(out.push x).reverse),na,nb-1,out.push x,mg,ac,bc))
noncomputable def hA (a b:Array Keyed) (na nb:Nat) (out:Array Keyed) (mg ac bc:Nat):StateT SortSt Sem (ForInStep H2):=do
 zf6 mg
 let y <-elem' b (nb-1)
 let z <-zc0 false y a 0 na (na-1)
 match z with
 | some at1 =>
  if na-at1>0 then
   if (at1==0)=true then pure (ForInStep.done (some (a.extract 0 at1++b.extract 0 nb++(out++(a.extract at1 na).reverse).reverse),at1,nb,out++(a.extract at1 na).reverse,mg,na-at1,bc))
   else hB a b at1 nb (out++(a.extract at1 na).reverse) mg (na-at1) bc
  else hB a b na nb out mg (na-at1) bc
 |_=>pure (ForInStep.done (some (a.extract 0 na++b.extract 0 nb++out.reverse),na,nb,out,mg,ac,bc))
section
inductive Lih (it:Array Keyed) (r:Nat->Int) (la lb:List Nat) (top:Nat) (na nb:Nat) (out:Array Keyed):Prop
 |mk (po:List Nat) (e:out=oA it po) (m:Mh r la lb po na nb) (a1:1<=na) (a2:na<=la.length) (b1:2<=nb) (b2:nb<=lb.length) (hs:na+nb<=top)
def Qh (it:Array Keyed) (r:Nat->Int) (la lb:List Nat) (top:Nat) (st0:SortSt) (b:H2) (st':SortSt):Prop:=Ks st0 st'/\((b.1=none/\Lih it r la lb top b.2.1 b.2.2.1 b.2.2.2.1)\/Fin it r la lb b.1)
def Rh (it:Array Keyed) (r:Nat->Int) (la lb:List Nat) (top:Nat) (st0:SortSt) (s:Shared) (x:ForInStep H2) (st':SortSt) (s':Shared):Prop:=s'=s/\match x with
 | .done b=>Qh it r la lb top st0 b st'
 | .yield b=>Ks st0 st'/\b.1=none/\Lih it r la lb top b.2.1 b.2.2.1 b.2.2.2.1
theorem zh3 (t:Two N r la lb):∀a∈la.take na,∀b∈lb.take 1,r b<r a:=λa ha b hb=>by
 have b1:=t.b1;have h1:=t.hd a (List.mem_of_mem_take ha);have e:lb.getD 0 0=lb[0]'(by lia):=by rw [List.getD_eq_getElem?_getD,qge '!'];rfl
 rw [e] at h1;have e2:lb.take 1=[lb[0]'(by lia)]:=by
  cases lb with
  |nil=>simp at b1
  |cons x l=>rfl
 rw [e2] at hb;rw [List.mem_singleton.mp hb];exact h1
theorem zm0 (t:Two N r la lb) {po:List Nat}{na nb mg ac bc top:Nat}{st0 st:SortSt}(hk:Ks st0 st) (m:Mh r la lb po na nb) (a1:1<=na) (a2:na<=la.length) (b1:2<=nb) (b2:nb<=lb.length) (hl:r (lb[nb-1]'(by lia))<r (la[na-1]'(by lia))) (hs:na+nb<=top) :
  kasC '&' A E (hC (oA it la) (oA it lb) na nb (oA it po) mg ac bc) (Rh it r la lb top st0 s) st s:=by
 unfold hC;refine kasC_bind (zbt '!' ?_);have m1:=m.pushA t.ra a1 a2 b2 (ze8 t.rb '!' b2 hl);rw [zd3];refine zax (λe1=>?_) (λe1=>?_)
 ·have e1:na-1=0:=by simpa using e1
  refine kasC_pure ⟨rfl,hk,.inr ⟨_,?_,m1.fin t.ra t.rb '!' b2 (.inl e1)⟩⟩;show some _=some _;rw [zb8,zb8,zdj,zar,zar]
 ·have e1:¬na-1=0:=by simpa using e1
  refine zax (λe2=>?_) (λe2=>?_)
  ·exact kasC_pure ⟨rfl,hk,.inl ⟨rfl,_,rfl,m1,by show 1<=na-1;lia,by show na-1<=_;lia,b1,b2,by show na-1+nb<=top;lia⟩⟩
  ·exact kasC_pure ⟨rfl,hk,rfl,_,rfl,m1,by show 1<=na-1;lia,by show na-1<=_;lia,b1,b2,by show na-1+nb<=top;lia⟩
theorem zm1 (hc:Asks prog w A κ it N r s) (t:Two N r la lb) {po:List Nat}{na nb mg ac bc top:Nat}{st0 st:SortSt}(hk:Ks st0 st) (hκ:kindOf st=κ) (m:Mh r la lb po na nb) (a1:1<=na) (a2:na<=la.length) (b1:2<=nb) (b2:nb<=lb.length) (hl:r (la[na-1]'(by lia))<r (lb[nb-1]'(by lia))) (hs:na+nb<=top) :
  kasC '&' A E (hB (oA it la) (oA it lb) na nb (oA it po) mg ac bc) (Rh it r la lb top st0 s) st s:=by
 unfold hB;refine kasC_bind (zbt '!' ?_);have m1:=m.pushB t.rb '!' b2 a2 (ze8 t.ra a1 a2 hl);rw [zd3];refine zax (λe1=>?_) (λe1=>?_)
 ·have e1:nb-1=1:=by simpa using e1
  have hf:=m1.firstB t.ra t.rb a2 '!' (by rw [e1];exact zh3 t);refine kasC_pure ⟨rfl,hk,.inr ⟨_,?_,hf⟩⟩;show some _=some _;rw [zb8,zb8,zdj,zar,zar]
 ·have e1:¬nb-1=1:=by simpa using e1
  refine kasC_bind (zbt '!' ?_);refine kasC_bind (zmz hc t.rb t.nb (t.na _ (qem _)) '!' '!' (λx hx=>Ne.symm (t.ne _ (qem _) x hx)) hκ λk k1 k2 k3=>?_);dsimp only;have m2:=Mh.manyB t.ra t.rb a1 a2 (nb-1-k) m1 '!' '!' λi hi q1 q2=>k3 i hi '!' q2;rw [show nb-1-(nb-1-k)=k by lia] at m2;have hk0:k≠0:=λe=>by have h1:=t.hd (la[na-1]'(by lia)) (qem _);have e2:lb.getD 0 0=lb[0]'(by lia):=(by rw [List.getD_eq_getElem?_getD,qge '!'];rfl);rw [e2] at h1;have h2:=k3 0 '!' '!' '!';lia
  by_cases e2:nb-1-k>0
  ·rw [if_pos e2,zmy,zar];by_cases e3:(k==1)=true
   ·rw [if_pos e3];have e3:k=1:=(by simpa using e3);have hf:=m2.firstB t.ra t.rb a2 '!' (by rw [e3];exact zh3 t);refine kasC_pure ⟨rfl,hk,.inr ⟨_,?_,hf⟩⟩;show some _=some _;rw [zb8,zb8,zdj,zar,zar]
   ·rw [if_neg e3,if_neg (by simpa using hk0)];have e3:¬k=1:=(by simpa using e3);exact zm0 t hk m2 a1 a2 '!' '!' (k2 (k-1) '!' '!') '!'
  ·rw [if_neg e2];exact zm0 t hk m1 a1 a2 '!' '!' (k2 (nb-1-1) '!' '!') '!'
theorem zm2 (hc:Asks prog w A κ it N r s) (t:Two N r la lb) {po:List Nat}{na nb mg ac bc top:Nat}{st0 st:SortSt}(hk:Ks st0 st) (hκ:kindOf st=κ) (m:Mh r la lb po na nb) (a1:1<=na) (a2:na<=la.length) (b1:2<=nb) (b2:nb<=lb.length) (hs:na+nb<=top) :
  kasC '&' A E (hA (oA it la) (oA it lb) na nb (oA it po) mg ac bc) (Rh it r la lb top st0 s) st s:=by
 unfold hA;rw [zh0];refine kasC_bind (kasC_modify ?_);have hk2:=hk.trans (Ks.set st mg);have hκ2:kindOf (zhz st mg)=κ:=hκ;refine kasC_bind (zbt '!' ?_);refine kasC_bind (zmz hc t.ra t.na (t.nb _ (qem _)) a1 a2 (λx hx=>t.ne x hx _ (qem _)) hκ2 λk k1 k2 k3=>?_);dsimp only;have m2:=Mh.manyA t.ra t.rb '!' b2 (na-k) m '!' a2 λi hi q1 q2=>k3 i hi '!' q2;rw [show na-(na-k)=k by lia] at m2;by_cases e2:na-k>0
 ·rw [if_pos e2,zmy,zar];refine zax (λe3=>?_) (λe3=>?_)
  ·have e3:k=0:=(by simpa using e3);refine kasC_pure ⟨rfl,hk2,.inr ⟨_,?_,m2.fin t.ra t.rb '!' b2 (.inl e3)⟩⟩;show some _=some _;rw [zb8,zb8,zdj,zar,zar]
  ·have e3:¬k=0:=(by simpa using e3);exact zm1 hc t hk2 hκ2 m2 '!' '!' b1 b2 (k2 (k-1) '!' '!') '!'
 ·rw [if_neg e2];exact zm1 hc t hk2 hκ2 m a1 a2 b1 b2 (k2 (na-1) '!' '!') hs
end
noncomputable def hS (a b:Array Keyed) (mg na nb:Nat) (out:Array Keyed) (ac bc:Nat):StateT SortSt Sem (ForInStep H1):=do
 let x <-elem' b (nb-1)
 let y <-elem' a (na-1)
 let o <-lt' x y
 match o with
 | some w =>
  if w=true then do
   let z <-elem' a (na-1)
   if (na-1==0)=true then pure (ForInStep.done (some (a.extract 0 (na-1)++b.extract 0 nb++(out.push z).reverse),na-1,nb,out.push z,ac+1,0))
   else if ac+1≥mg then pure (ForInStep.done (none,na-1,nb,out.push z,ac+1,0))
   else pure (ForInStep.yield (none,na-1,nb,out.push z,ac+1,0))
  else do
   let z <-elem' b (nb-1)
   if (nb-1==1)=true then pure (ForInStep.done (some (b.extract 0 (nb-1)++a.extract 0 na++(out.push z).reverse),na,nb-1,out.push z,0,bc+1))
   else if bc+1≥mg then pure (ForInStep.done (none,na,nb-1,out.push z,0,bc+1))
   else pure (ForInStep.yield (none,na,nb-1,out.push z,0,bc+1))
 |_=>pure (ForInStep.done (some (a.extract 0 na++b.extract 0 nb++out.reverse),na,nb,out,ac,bc))
noncomputable def hG (a b:Array Keyed) (p:H2):StateT SortSt Sem (ForInStep H2) :=
 if p.2.2.2.2.1>1 then hA a b p.2.1 p.2.2.1 p.2.2.2.1 (p.2.2.2.2.1-1) p.2.2.2.2.2.1 p.2.2.2.2.2.2
 else hA a b p.2.1 p.2.2.1 p.2.2.2.1 p.2.2.2.2.1 p.2.2.2.2.2.1 p.2.2.2.2.2.2
noncomputable def hO (a b:Array Keyed) (n:Nat) (r:H0):StateT SortSt Sem (ForInStep H0):=do
 let q <-forIn [0:n] ((none,r.2.1,r.2.2.1,r.2.2.2.1,0,0):H1) (λ_ q=>hS a b r.2.2.2.2 q.2.1 q.2.2.1 q.2.2.2.1 q.2.2.2.2.1 q.2.2.2.2.2)
 match q.1 with
 |some x=>pure (ForInStep.done (some x,q.2.1,q.2.2.1,q.2.2.2.1,r.2.2.2.2))
 | none=>do
  rule "list.sort.gallop"
  let p <-forIn [0:n] ((none,q.2.1,q.2.2.1,q.2.2.2.1,r.2.2.2.2+1,q.2.2.2.2.1,q.2.2.2.2.2):H2) (λ_ p=>hG a b p)
  match p.1 with
  |some x=>pure (ForInStep.done (some x,p.2.1,p.2.2.1,p.2.2.2.1,p.2.2.2.2.1))
  |none=>do
   zf6 (p.2.2.2.2.1+1)
   pure (ForInStep.yield (none,p.2.1,p.2.2.1,p.2.2.2.1,p.2.2.2.2.1+1))
theorem ztn (a b:Array Keyed):zj0 a b=(do
 rule "list.sort.merge-hi"
 let x <-elem' a (a.size-1)
 if (a.size-1==0)=true then pure (a.extract 0 (a.size-1)++b.extract 0 b.size++#[x].reverse)
 else if (b.size==1)=true then pure (b.extract 0 b.size++a.extract 0 (a.size-1)++#[x].reverse)
 else do
  let st <-get
  let r <-forIn [0:a.size+b.size] ((none,a.size-1,b.size,#[x],gallopOf st):H0) (λ_ r=>hO a b (a.size+b.size) r)
  match r.1 with
  |some x=>pure x
  |none=>unsupported "internal:list.sort.merge-bound"):=by kernel_rfl
section
def P1 (it:Array Keyed) (r:Nat->Int) (la lb:List Nat) (k0:Nat) (st0:SortSt) (b:H1) (st':SortSt):Prop:=st'=st0/\((b.1=none/\Lih it r la lb (k0-1) b.2.1 b.2.2.1 b.2.2.2.1)\/Fin it r la lb b.1)
def J1 (it:Array Keyed) (r:Nat->Int) (la lb:List Nat) (k0:Nat) (st0:SortSt) (k:Nat) (b:H1) (st':SortSt):Prop:=st'=st0/\b.1=none/\Lih it r la lb k0 b.2.1 b.2.2.1 b.2.2.2.1/\b.2.1+b.2.2.1+(la.length+lb.length)<=k0+k
theorem zto (hc:Asks prog w A κ it N r s) (t:Two N r la lb) {po:List Nat}{na nb mg ac bc k0 k:Nat}{st:SortSt}(hκ:kindOf st=κ) (m:Mh r la lb po na nb) (c1:1<=na) (c2:na<=la.length) (d1:2<=nb) (d2:nb<=lb.length) (hs:na+nb<=k0) (hcn:na+nb+(la.length+lb.length)<=k0+(k+1)) :
  kasC '&' A E (hS (oA it la) (oA it lb) mg na nb (oA it po) ac bc) (λx st' s'=>s'=s/\match x with | .done b=>P1 it r la lb k0 st b st' | .yield b=>J1 it r la lb k0 st k b st') st s:=by
 unfold hS;refine kasC_bind (zbt '!' (kasC_bind (zbt '!' ?_)));refine kasC_bind (zf4 hc (t.nb _ (qem _)) (t.na _ (qem _)) hκ ?_);dsimp only;refine zax (λhw=>?_) (λhw=>?_)
 ·have hw:=of_decide_eq_true hw;refine kasC_bind (zbt '!' ?_);have m1:=m.pushA t.ra c1 c2 d2 (ze8 t.rb '!' d2 hw);rw [zd3];refine zax (λe1=>?_) (λe1=>?_)
  ·have e1:na-1=0:=(by simpa using e1);refine kasC_pure ⟨rfl,rfl,.inr ⟨_,?_,m1.fin t.ra t.rb '!' d2 (.inl e1)⟩⟩;show some _=some _;rw [zb8,zb8,zdj,zar,zar]
  ·have e1:¬na-1=0:=(by simpa using e1);exact zax (λ_=>kasC_pure ⟨rfl,rfl,.inl ⟨rfl,_,rfl,m1,by show 1<=na-1;lia,by show na-1<=_;lia,d1,d2,by show na-1+nb<=_;lia⟩⟩)
    λ_=>kasC_pure ⟨rfl,rfl,rfl,⟨_,rfl,m1,by show 1<=na-1;lia,by show na-1<=_;lia,d1,d2,by show na-1+nb<=_;lia⟩,by show na-1+nb+_<=_+k;lia⟩
 ·have hw:¬r (lb[nb-1]'(by lia))<r (la[na-1]'(by lia)):=λz=>hw (decide_eq_true z);have hne:=t.ne (la[na-1]'(by lia)) (qem _) (lb[nb-1]'(by lia)) (qem _);refine kasC_bind (zbt '!' ?_);have m1:=m.pushB t.rb '!' d2 c2 (ze8 t.ra c1 c2 '!');rw [zd3];refine zax (λe1=>?_) (λe1=>?_)
  ·have e1:nb-1=1:=(by simpa using e1);refine kasC_pure ⟨rfl,rfl,.inr ⟨_,?_,m1.firstB t.ra t.rb c2 '!' (by rw [e1];exact zh3 t)⟩⟩;show some _=some _;rw [zb8,zb8,zdj,zar,zar]
  ·have e1:¬nb-1=1:=(by simpa using e1);exact zax (λ_=>kasC_pure ⟨rfl,rfl,.inl ⟨rfl,_,rfl,m1,c1,c2,by show 2<=nb-1;lia,by show nb-1<=_;lia,by show na+(nb-1)<=_;lia⟩⟩)
    λ_=>kasC_pure ⟨rfl,rfl,rfl,⟨_,rfl,m1,c1,c2,by show 2<=nb-1;lia,by show nb-1<=_;lia,by show na+(nb-1)<=_;lia⟩,by show na+(nb-1)+_<=_+k;lia⟩
theorem ztp (hc:Asks prog w A κ it N r s) (t:Two N r la lb) {top:Nat}{p:H2}{st0 st:SortSt}(hk:Ks st0 st) (hκ:kindOf st0=κ) (lv:Lih it r la lb top p.2.1 p.2.2.1 p.2.2.2.1) :
  kasC '&' A E (hG (oA it la) (oA it lb) p) (Rh it r la lb top st0 s) st s:=by
 obtain ⟨bb,na,nb,out,mg,ac,bc⟩:=p;obtain ⟨po,e,m,c1,c2,d1,d2,hs⟩:=lv;dsimp only at e m c1 c2 d1 d2 hs;subst e;have hκ2:kindOf st=κ:=hk.1.trans hκ;exact zax (λ_=>zm2 hc t hk hκ2 m c1 c2 d1 d2 hs) λ_=>zm2 hc t hk hκ2 m c1 c2 d1 d2 hs
def J0 (it:Array Keyed) (r:Nat->Int) (la lb:List Nat) (st0:SortSt) (k:Nat) (b:H0) (st':SortSt):Prop:=Ks st0 st'/\b.1=none/\Lih it r la lb k b.2.1 b.2.2.1 b.2.2.2.1
theorem ztq (hc:Asks prog w A κ it N r s) (t:Two N r la lb) {st0 st:SortSt}(hκ:kindOf st0=κ) {k:Nat}{b:H0}(h:J0 it r la lb st0 (k+1) b st) :
  kasC '&' A E (hO (oA it la) (oA it lb) (la.length+lb.length) b) (λx st' s'=>s'=s/\match x with | .done b=>s=s/\Ks st0 st'/\Fin it r la lb b.1 | .yield b=>J0 it r la lb st0 k b st') st s:=by
 obtain ⟨b0,na0,nb0,out0,mg0⟩:=b;obtain ⟨hks,hb0,lv0⟩:=h;dsimp only at hb0 lv0;have hκ':kindOf st=κ:=hks.1.trans hκ;obtain ⟨po0,e0',m0',a10,a20,b10,b20,hs0⟩:=lv0;unfold hO;refine kasC_bind (za0 (zcg (s:=s) (J1 it r la lb (na0+nb0) st) (Q:=λb st' s'=>s'=s/\P1 it r la lb (na0+nb0) st b st') ?_ ?_ ⟨rfl,rfl,⟨po0,e0',m0',a10,a20,b10,b20,qlr _⟩,qlr _⟩) ?_)
 ·rintro k x ⟨bb,na,nb,out,ac,bc⟩ st'' ⟨rfl,rfl,⟨po,e,m,c1,c2,d1,d2,hs⟩,hcn⟩;dsimp only at e m c1 c2 d1 d2 hs hcn ⊢;subst e;refine za0 (zto hc t hκ' m c1 c2 d1 d2 hs hcn) ?_;rintro x st3 s3 ⟨h3,h4⟩;refine ⟨h3,?_⟩;cases x with
  |done b=>exact ⟨rfl,h4⟩
  |yield b=>exact h4
 ·rintro ⟨bb,na,nb,out,ac,bc⟩ st'' ⟨rfl,rfl,⟨po,e,m,c1,c2,d1,d2,hs⟩,hcn⟩;dsimp only at e m c1 c2 d1 d2 hs hcn;exact ⟨rfl,rfl,.inl ⟨rfl,po,e,m,c1,c2,d1,d2,by show na+nb<=_;lia⟩⟩
 rintro ⟨b1',na1,nb1,out1,ac1,bc1⟩ st1 s1 ⟨hs1,hst1,hb1⟩;rw [hs1,hst1];rcases hb1 with ⟨hn,lv⟩|⟨pm,e,hr⟩
 ·dsimp only at hn lv ⊢;subst hn;dsimp only;refine kasC_bind (kasC_lift (wpAny_rule ?_));refine kasC_bind (za0 (zcg (s:=s) (λk (b:H2) st''=>Ks st st''/\b.1=none/\Lih it r la lb (na0+nb0-1) b.2.1 b.2.2.1 b.2.2.2.1) (Q:=λ(b:H2) st'' s'=>s'=s/\Qh it r la lb (na0+nb0-1) st b st'') ?_ ?_ ⟨Ks.refl _,rfl,lv⟩) ?_)
  ·rintro k x p st'' ⟨hk2,_,lv2⟩;refine za0 (ztp hc t hk2 hκ' lv2) ?_;rintro x st3 s3 ⟨h3,h4⟩;refine ⟨h3,?_⟩;cases x with
   |done b=>exact ⟨rfl,h4⟩
   |yield b=>exact h4
  ·rintro b st'' ⟨hk2,hbn,lv2⟩;exact ⟨rfl,hk2,.inl ⟨hbn,lv2⟩⟩
  rintro ⟨b2,na2,nb2,out2,mg2,ac2,bc2⟩ st2 s2 ⟨hs2,hk2,hb2⟩;rw [hs2];rcases hb2 with ⟨hn,⟨po,e,m,c1,c2,d1,d2,hs⟩⟩|⟨pm,e,hr⟩
  ·dsimp only at hn e m c1 c2 d1 d2 hs ⊢;subst hn;dsimp only;rw [zh0];refine kasC_bind (kasC_modify (kasC_pure ⟨rfl,(hks.trans hk2).trans (Ks.set _ _),rfl,⟨po,e,m,c1,c2,d1,d2,?_⟩⟩));show na2+nb2<=k;lia
  ·dsimp only at e ⊢;subst e;exact kasC_pure ⟨rfl,rfl,hks.trans hk2,pm,rfl,hr⟩
 ·dsimp only at e ⊢;subst e;exact kasC_pure ⟨rfl,rfl,hks,pm,rfl,hr⟩
theorem ztr (hc:Asks prog w A κ it N r s) (t:Two N r la lb) {st:SortSt}(hκ:kindOf st=κ):kasC '&' A E (zj0 (oA it la) (oA it lb)) (MgP it r la lb st s) st s:=by
 have a1:=t.a1;have b1:=t.b1;rw [ztn];refine kasC_bind (kasC_lift (wpAny_rule ?_));simp only [zen];refine kasC_bind (zbt '!' ?_);have m00:Mh r la lb [] la.length lb.length:=by unfold Mh;rw [Nat.sub_self,Nat.sub_self];exact ⟨List.Pairwise.nil,λo ho=>(by cases ho),λo ho=>(by cases ho),by simp⟩
 have m0:Mh r la lb [la[la.length-1]'(by lia)] (la.length-1) lb.length:=by
  have:=m00.pushA t.ra a1 (qlr _) (qlr _) (λz hz=>by
   have:=t.tl z (List.mem_of_mem_take hz);have e:la.getD (la.length-1) 0=la[la.length-1]'(by lia):=(by rw [List.getD_eq_getElem?_getD,qge '!'];rfl);rw [e] at this;exact this)
  exact this
 have e0:(#[kas_item it (la[la.length-1]'(by lia))]:Array Keyed)=oA it [la[la.length-1]'(by lia)]:=rfl;rw [e0];refine zax (λh1=>?_) (λh1=>?_)
 ·have h1:la.length-1=0:=by simpa using h1
  refine kasC_pure ⟨rfl,Ks.refl _,_,?_,m0.fin t.ra t.rb '!' (qlr _) (.inl h1)⟩;rw [zb8,zb8,zdj,zar,zar]
 have h1:¬la.length-1=0:=by simpa using h1
 refine zax (λh2=>?_) (λh2=>?_)
 ·have h2:lb.length=1:=by simpa using h2
  have hf:=m0.firstB t.ra t.rb '!' (qlr _) (by rw [h2];exact zh3 t);refine kasC_pure ⟨rfl,Ks.refl _,_,?_,hf⟩;rw [zb8,zb8,zdj,zar,zar]
 have h2:¬lb.length=1:=by simpa using h2
 refine kasC_bind (kasC_get ?_);refine kasC_bind (za0 (zcg (s:=s) (J0 it r la lb st) (Q:=λ(b:H0) st' s'=>s'=s/\Ks st st'/\Fin it r la lb b.1) (λk x b st' h=>za0 (ztq hc t hκ h) λx st3 s3 h3=>by
  refine ⟨h3.1,?_⟩;cases x<;>exact h3.2) ?_ ⟨Ks.refl _,rfl,⟨_,rfl,m0,by show 1<=la.length-1;lia,by show la.length-1<=_;lia,by show 2<=lb.length;lia,qlr _,by show la.length-1+lb.length<=_;lia⟩⟩) ?_)
 ·rintro ⟨b0,na0,nb0,out0,mg0⟩ st' ⟨hks,hbn,⟨po,e,m,c1,c2,d1,d2,hs⟩⟩;exfalso;dsimp only at c1 hs;lia
 ·rintro ⟨b0,na0,nb0,out0,mg0⟩ st' s' ⟨hs',hks,⟨pm,e,hr⟩⟩;rw [hs'];dsimp only at e ⊢;subst e;exact kasC_pure ⟨rfl,hks,pm,rfl,hr⟩
end
theorem zts (i:Nat):mergeAt' i=(do
 let s <-get
 let (some (sa,na,power),some (sb,nb,_)):=((pendingOf s)[i]?,(pendingOf s)[i+1]?)|unsupported "internal:list.sort.pending"
 set (setPending s (((pendingOf s).setIfInBounds i (sa,na+nb,power)).eraseIdxIfInBounds (i+1)))
 let some k <-zc0 false (<-elem' (arrOf s) sb) (arrOf s) sa na 0|return false
 let (sa,na):=(sa+k,na-k)
 if na==0 then return true
 let some nb <-zc0 true (<-elem' (arrOf s) (sa+na-1)) (arrOf s) sb nb (nb-1)|return false
 if nb==0 then return true
 let x:=(arrOf s).extract sa sb
 let y:=(arrOf s).extract sb (sb+nb)
 let merged <-if na<=nb then zjy x y else zj0 x y
 modify λs=>setArr s (merged.toList.zipIdx.foldl (λa (p,j)=>a.setIfInBounds (sa+j) p) (arrOf s))
 return (failedOf (<-get)).isNone):=rfl
section
theorem zm3:∀(m l:List Nat) (i j:Nat),i+j+m.length<=l.length->((m.map (kas_item it)).zipIdx j).foldl (λa (x:Keyed×Nat)=>a.setIfInBounds (i+x.2) x.1) (oA it l)=oA it (l.take (i+j)++m++l.drop (i+j+m.length))
 |[],l,i,j,h=>by simp
 |x::m,l,i,j,h=>by
  rw [List.length_cons] at h;rw [List.map_cons,List.zipIdx_cons,List.foldl_cons];have e1:(oA it l).setIfInBounds (i+j) (kas_item it x)=oA it (l.set (i+j) x):=by unfold oA;simp [List.map_set]
  show ((m.map (kas_item it)).zipIdx (j+1)).foldl _ ((oA it l).setIfInBounds (i+j) (kas_item it x))=_;rw [e1,zm3 m (l.set (i+j) x) i (j+1) (by rw [List.length_set];lia)];congr 1;have e2:(l.set (i+j) x).take (i+(j+1))=l.take (i+j)++[x]:=by rw [show i+(j+1)=i+j+1 by lia,zjx (by rw [List.length_set];lia),List.take_set,List.set_eq_of_length_le (by rw [List.length_take];lia),List.getElem_set_self]
  have e3:(l.set (i+j) x).drop (i+(j+1)+m.length)=l.drop (i+j+(m.length+1)):=by rw [List.drop_set,if_pos '!'];congr 1;lia
  rw [e2,e3,List.length_cons];simp
end
section
variable {M:Model}{A:Around}{E:Value->Shared->Prop}{σ:Type}
theorem ztt {x:σ}{Q:PUnit->σ->Shared->Prop}{st:σ}(h:Q ⟨⟩ x s):kasC M A E (set x:StateT σ Sem PUnit) Q st s:=by unfold kasC;rw [StateT.run_set];exact qwp h
end
section
theorem Ri.take (h:Ri r l) (i:Nat):Ri r (l.take i):=List.Pairwise.sublist (List.take_sublist i l) h
theorem Ri.cross (h:Ri r l) (k:Nat):∀x∈l.take k,∀y∈l.drop k,r x<r y:=by unfold Ri at h;rw [<-List.take_append_drop k l,List.pairwise_append] at h;exact h.2.2
theorem laid (rX:Ri r X) (rY:Ri r Y) (x0 y0:Nat) (hX:∀x∈X,r x<=r x0) (hY:∀y∈Y,r y0<=r y) (h1:∀x∈X.take k,r x<r y0) (h2:∀y∈Y.drop n,r x0<r y) (hM:Rs r (X.drop k) (Y.take n) M):Rs r X Y (X.take k++M++Y.drop n):=by
 have mem:∀m∈M,m∈X.drop k\/m∈Y.take n:=λm hm=>List.mem_append.mp (hM.pm.mem_iff.mp hm);refine ⟨Ri.app (Ri.app (rX.take k) hM.up λx hx m hm=>?_) (rY.drop n) λz hz y hy=>?_,?_⟩
 ·rcases mem m hm with q|q
  ·exact rX.cross k x hx m q
  ·have a:=h1 x hx;have b:=hY m (List.mem_of_mem_take q);lia
 ·rcases List.mem_append.mp hz with q|q
  ·have a:=h1 z q;have b:=hY y (List.mem_of_mem_drop hy);lia
  ·rcases mem z q with q|q
   ·have a:=hX z (List.mem_of_mem_drop q);have b:=h2 y hy;lia
   ·exact rY.cross n z q y hy
 ·refine ((List.Perm.append_left _ hM.pm).append_right _).trans ?_;have:X.take k++(X.drop k++Y.take n)++Y.drop n=X++Y:=by rw [<-qaa,List.take_append_drop,qaa,List.take_append_drop]
  rw [this]
end
section
theorem zm4 (hc:Asks prog w A κ it N r s) {base n hint key:Nat}{left:Bool}(nl:∀x∈l,x<N) (hk:key<N) (hb:base+n<=l.length) (hh:hint<n) (rs:Ri r ((l.drop base).take n)) (hne:∀x∈(l.drop base).take n,r x≠r key) {st:SortSt}(hκ:kindOf st=κ) {Q:Option Nat->SortSt->Shared->Prop}
  (h:∀k,k<=n->(∀x∈((l.drop base).take n).take k,r x<r key)->(∀x∈((l.drop base).take n).drop k,r key<r x)->Q (some k) st s):kasC '&' A E (zc0 left (kas_item it key) (oA it l) base n hint) Q st s:=by
 have hlen:((l.drop base).take n).length=n:=by rw [List.length_take,List.length_drop];lia
 have hget:∀i (hi:i<n),((l.drop base).take n)[i]'(by lia)=l[base+i]'(by lia):=λi hi=>by rw [List.getElem_take,List.getElem_drop]
 rw [<-oA_map];refine zjw hc (q:=l.toArray) (base:=base) (n:=n) (hint:=hint) ⟨by simpa using hb,λj hj=>?_,λj1 j2 a1 a2=>?_⟩ hk hh (λj hj=>?_) hκ λk hk1 hk2 hk3=>?_
 ·have hj:j<l.length:=by simpa using hj
  have e:l.toArray.getD j 0=l[j]:=by simp [Array.getD,hj]
  rw [e];exact nl _ (qem hj)
 ·rw [at_list '!',at_list '!',<-hget j1 '!',<-hget j2 a2];exact rs.get a1 '!'
 ·rw [at_list '!',<-hget j hj];exact hne _ (qem _)
 ·refine h k hk1 (λx hx=>?_) λx hx=>?_
  ·obtain ⟨i,hi,rfl⟩:=List.mem_iff_getElem.mp hx;rw [List.length_take,hlen] at hi;rw [List.getElem_take,hget i '!'];have:=hk2 i '!';rw [at_list '!'] at this;exact this
  ·obtain ⟨i,hi,rfl⟩:=List.mem_iff_getElem.mp hx;rw [List.length_drop,hlen] at hi;rw [List.getElem_drop,hget (k+i) '!'];have:=hk3 (k+i) '!' '!';rw [at_list '!'] at this;exact this
structure Sst (κ:SortKind) (it:Array Keyed) (l:List Nat) (pd:Array (Nat×Nat×Nat)) (st:SortSt):Prop where
 k:kindOf st=κ
 a:arrOf st=oA it l
 p:pendingOf st=pd
 f:failedOf st=none
theorem ztu (hc:Asks prog w A κ it N r s) {pd:Array (Nat×Nat×Nat)}{i sa na pw sb nb pw2:Nat}(nl:∀x∈l,x<N) (di:l.Pairwise λa b=>r a≠r b) {st:SortSt}(S:Sst κ it l pd st) (h1:pd[i]?=some (sa,na,pw)) (h2:pd[i+1]?=some (sb,nb,pw2)) (hsb:sb=sa+na) (a1:1<=na) (b1:1<=nb) (hle:sb+nb<=l.length) (rX:Ri r ((l.drop sa).take na)) (rY:Ri r ((l.drop sb).take nb)) {Q:Bool->SortSt->Shared->Prop}
  (h:∀M st',Rs r ((l.drop sa).take na) ((l.drop sb).take nb) M->Sst κ it (l.take sa++M++l.drop (sb+nb)) ((pd.setIfInBounds i (sa,na+nb,pw)).eraseIdxIfInBounds (i+1)) st'->Q true st' s):kasC '&' A E (mergeAt' i) Q st s:=by
 obtain ⟨X,hX⟩:∃X,X=(l.drop sa).take na:=⟨_,rfl⟩;obtain ⟨Y,hY⟩:∃Y,Y=(l.drop sb).take nb:=⟨_,rfl⟩;have lX:X.length=na:=by rw [hX,List.length_take,List.length_drop];lia
 have lY:Y.length=nb:=by rw [hY,List.length_take,List.length_drop];lia
 have hlX:∀x∈X,x∈l:=λx hx=>by rw [hX] at hx;exact List.mem_of_mem_drop (List.mem_of_mem_take hx)
 have hlY:∀x∈Y,x∈l:=λx hx=>by rw [hY] at hx;exact List.mem_of_mem_drop (List.mem_of_mem_take hx)
 have eX:∀j (hj:j<na),X[j]'(by lia)=l[sa+j]'(by lia):=λj hj=>by subst hX;rw [List.getElem_take,List.getElem_drop]
 have eY:∀j (hj:j<nb),Y[j]'(by lia)=l[sb+j]'(by lia):=λj hj=>by subst hY;rw [List.getElem_take,List.getElem_drop]
 have ne:∀x∈X,∀y∈Y,r x≠r y:=λx hx y hy=>by obtain ⟨p,hp,rfl⟩:=List.mem_iff_getElem.mp hx;obtain ⟨q,hq,rfl⟩:=List.mem_iff_getElem.mp hy;rw [eX p '!',eY q '!'];exact (List.pairwise_iff_getElem.mp di) (sa+p) (sb+q) '!' '!' '!'
 have lsb:l[sb]'(by lia)=Y[0]'(by lia):=by rw [eY 0 '!'];rfl
 rw [<-hX] at rX h;rw [<-hY] at rY h;have hYm:∀y∈Y,r (Y[0]'(by lia))<=r y:=λy hy=>by
  obtain ⟨q,hq,rfl⟩:=List.mem_iff_getElem.mp hy;by_cases e:q=0
  ·subst e;exact Int.le_refl _
  ·exact Int.le_of_lt (rY.get '!' hq)
 have hXm:∀x∈X,r x<=r (X[na-1]'(by lia)):=λx hx=>by
  obtain ⟨q,hq,rfl⟩:=List.mem_iff_getElem.mp hx;by_cases e:q=na-1
  ·subst e;exact Int.le_refl _
  ·exact Int.le_of_lt (rX.get '!' '!')
 rw [zts];refine kasC_bind (kasC_get ?_);simp only [S.p,h1,h2,S.a];refine kasC_bind (ztt ?_);have S1:Sst κ it l ((pd.setIfInBounds i (sa,na+nb,pw)).eraseIdxIfInBounds (i+1)) (setPending st ((pd.setIfInBounds i (sa,na+nb,pw)).eraseIdxIfInBounds (i+1))):=⟨S.k,S.a,rfl,S.f⟩;generalize setPending st ((pd.setIfInBounds i (sa,na+nb,pw)).eraseIdxIfInBounds (i+1))=st1 at S1;refine kasC_bind (zbt '!' ?_);rw [lsb];refine kasC_bind (zm4 hc nl (nl _ (hlY _ (qem _))) '!' a1 (by rw [<-hX];exact rX) (by rw [<-hX];exact λx hx=>ne x hx _ (qem _)) S1.k λk k1 k2 k3=>?_);rw [<-hX] at k2 k3;dsimp only;refine zax (λe1=>?_) (λe1=>?_)
 ·have e1:na-k=0:=by simpa using e1
  have ek:k=na:=by lia
  refine kasC_pure (h (X++Y) st1 ⟨Ri.app rX rY λx hx y hy=>?_,.refl _⟩ ?_)
  ·have a:=k2 x (by rw [ek,List.take_of_length_le '!'];exact hx);have b:=hYm y hy;lia
  ·have:l.take sa++(X++Y)++l.drop (sb+nb)=l:=(by rw [hX,hY,hsb,qaa,qaa];have e2:(l.drop (sa+na)).take nb++l.drop (sa+na+nb)=l.drop (sa+na):=(by rw [<-List.drop_drop (i:=nb) (j:=sa+na),List.take_append_drop]);rw [e2];have e3:(l.drop sa).take na++l.drop (sa+na)=l.drop sa:=(by rw [<-List.drop_drop (i:=na) (j:=sa),List.take_append_drop]);rw [e3,List.take_append_drop]);rw [this];exact S1
 have e1:¬na-k=0:=by simpa using e1
 have hlast:l[sa+k+(na-k)-1]'(by lia)=X[na-1]'(by lia):=by rw [eX (na-1) '!'];congr 1;lia
 refine kasC_bind (zbt '!' ?_);rw [hlast];refine kasC_bind (zm4 hc nl (nl _ (hlX _ (qem _))) hle '!' (by rw [<-hY];exact rY) (by rw [<-hY];exact λy hy=>Ne.symm (ne _ (qem _) y hy)) S1.k λn n1 n2 n3=>?_);rw [<-hY] at n2 n3;dsimp only;have eXd:(l.drop (sa+k)).take (sb-(sa+k))=X.drop k:=by rw [hX,List.drop_take,List.drop_drop,show sb-(sa+k)=na-k by lia]
 have eYt:(l.drop sb).take n=Y.take n:=by rw [hY,List.take_take,Nat.min_eq_left n1]
 have mX:X[na-1]'(by lia)∈X.drop k:=by rw [List.mem_iff_getElem];refine ⟨na-1-k,by rw [List.length_drop];lia,?_⟩;rw [List.getElem_drop];congr 1;lia
 have hyx:r (Y[0]'(by lia))<r (X[na-1]'(by lia)):=k3 _ mX;have n0:n≠0:=λe=>by subst e;have:=n3 (Y[0]'(by lia)) (by rw [List.drop_zero];exact qem _);lia
 rw [if_neg (by simpa using n0),zf7,zjz,eXd,eYt];have t:Two N r (X.drop k) (Y.take n):=by
  refine ⟨rX.drop k,rY.take n,λx hx=>nl _ (hlX _ (List.mem_of_mem_drop hx)),λx hx=>nl _ (hlY _ (List.mem_of_mem_take hx)),λx hx y hy=>ne x (List.mem_of_mem_drop hx) y (List.mem_of_mem_take hy),by rw [List.length_drop];lia,by rw [List.length_take];lia,λx hx=>?_,λy hy=>?_⟩
  ·have e:(Y.take n).getD 0 0=Y[0]'(by lia):=(by rw [List.getD_eq_getElem?_getD,qge (by rw [List.length_take];lia),List.getElem_take];rfl);rw [e];exact k3 x hx
  ·have e:(X.drop k).getD ((X.drop k).length-1) 0=X[na-1]'(by lia):=(by rw [List.getD_eq_getElem?_getD,List.getElem?_drop,List.length_drop,show k+(X.length-k-1)=na-1 by lia,qge '!'];rfl);rw [e];exact n2 y hy
 have fin:∀x st2 s2,MgP it r (X.drop k) (Y.take n) st1 s x st2 s2->kasC '&' A E (do
   modify λs=>setArr s (List.foldl (λa (x:Keyed×Nat)=>a.setIfInBounds (sa+k+x.2) x.1) (arrOf s) x.toList.zipIdx)
   return (failedOf (<-get)).isNone) Q st2 s2:=by
  skip
  rintro x st2 s2 ⟨hs2,hk2,⟨M,ex,hM⟩⟩;rw [hs2];have ex:x=oA it M:=by injection ex
  subst ex;have lM:M.length=na-k+n:=by have:=hM.pm.length_eq;rw [qla,List.length_drop,List.length_take] at this;lia
  have ew:((oA it M).toList.zipIdx.foldl (λa (x:Keyed×Nat)=>a.setIfInBounds (sa+k+x.2) x.1) (arrOf st2))=oA it (l.take (sa+k)++M++l.drop (sa+k+M.length)):=by have:=zm3 (it:=it) M l (sa+k) 0 '!';rw [Nat.add_zero] at this;rw [hk2.2.1,S1.a];have e3:(oA it M).toList=M.map (kas_item it):=rfl;rw [e3];exact this
  have hR:=laid rX rY (X[na-1]'(by lia)) (Y[0]'(by lia)) hXm hYm k2 n3 hM;have el:l.take (sa+k)++M++l.drop (sa+k+M.length)=l.take sa++(X.take k++M++Y.drop n)++l.drop (sb+nb):=by have e4:l.take (sa+k)=l.take sa++X.take k:=(by rw [List.take_add,hX,List.take_take,Nat.min_eq_left k1]);have e5:l.drop (sa+k+M.length)=Y.drop n++l.drop (sb+nb):=(by rw [show sa+k+M.length=sb+n by lia,hY,List.drop_take,List.drop_drop];have:l.drop (sb+nb)=(l.drop (sb+n)).drop (nb-n):=(by rw [List.drop_drop];congr 1;lia);rw [this,List.take_append_drop]);rw [e4,e5];simp only [qaa]
  refine kasC_bind (kasC_modify (kasC_bind (kasC_get ?_)));have ef:(failedOf (setArr st2 ((oA it M).toList.zipIdx.foldl (λa (x:Keyed×Nat)=>a.setIfInBounds (sa+k+x.2) x.1) (arrOf st2)))).isNone=true:=by show (failedOf st2).isNone=true;rw [hk2.2.2.2,S1.f];rfl
  refine kasC_pure ?_;have hq:=h _ (setArr st2 ((oA it M).toList.zipIdx.foldl (λa (x:Keyed×Nat)=>a.setIfInBounds (sa+k+x.2) x.1) (arrOf st2))) hR ⟨hk2.1.trans S1.k,by show (_:Array Keyed)=_;rw [<-el];exact ew,hk2.2.2.1.trans S1.p,by show failedOf st2=none;rw [hk2.2.2.2,S1.f]⟩;rw [<-ef] at hq;exact hq
 by_cases e:na-k<=n
 ·rw [if_pos e];exact kasC_bind (za0 (ztl hc t S1.k) fin)
 ·rw [if_neg e];exact kasC_bind (za0 (ztr hc t S1.k) fin)
end
section
variable {M:Model}{A:Around}{E:Value->Shared->Prop}{σ β:Type}
theorem zj1 (I:Nat->β->σ->Prop)
  (step:∀k x b st,a0<=x->x+(k+1)=b0->I (k+1) b st->kasC M A E (f x b) (λr st' s'=>s'=s/\match r with | .done b'=>Q b' st' s | .yield b'=>I k b' st') st s)
  (fin:∀b st,I 0 b st->Q b st s) {b:β} {st:σ} (h:I (b0-a0) b st):kasC M A E (forIn [a0:b0] b f) Q st s:=by
 refine kasC_range ?_;have go:∀(k a:Nat) (b:β) (st:σ),a0<=a->(k=0\/a+k=b0)->I k b st->kasC M A E (forIn (List.range' a k) b f) Q st s:=by
  intro k;induction k with
  |zero=>intro a b st _ _ h;exact kasC_nil (fin b st h)
  |succ k ih=>
   intro a b st ha he h;rw [List.range'_succ];refine kasC_cons ?_;have:=step k a b st ha '!' h;unfold kasC at this ⊢;refine wpAny_mono this (λr s' hr=>?_) λ_ _ e=>e;obtain ⟨rfl,hr⟩:=hr;obtain ⟨r,st'⟩:=r;cases r with
   |done b'=>exact hr
   |yield b'=>exact ih (a+1) b' st' '!' '!' hr
 exact go (b0-a0) a0 b st (qlr _) '!' h
end
structure Gd (N:Nat) (r:Nat->Int) (p:Array Nat):Prop where
 nl:∀x∈p.toList,x<N
 di:p.toList.Pairwise λa b=>r a≠r b
section
variable {N:Nat}{r:Nat->Int}{p p':Array Nat}
theorem zf8 (hi:i<p.size):p.getD i 0=p.toList[i]'(by simpa using hi):=by simp [Array.getD,hi]
theorem Gd.lt (h:Gd N r p) (hi:i<p.size):p.getD i 0<N:=by rw [zf8 hi];exact h.nl _ (qem _)
theorem Gd.ne (h:Gd N r p) (hi:i<p.size) (hj:j<p.size) (hij:i≠j):SP.at' r p i≠SP.at' r p j:=by
 unfold SP.at';rw [zf8 hi,zf8 hj];have:=List.pairwise_iff_getElem.mp h.di;rcases Nat.lt_or_ge i j with z|z
 ·exact this i j (by simpa using hi) (by simpa using hj) z
 ·exact Ne.symm (this j i (by simpa using hj) (by simpa using hi) '!')
theorem Gd.perm (h:Gd N r p) (hp:p'.Perm p):Gd N r p':=by have hl:=Array.perm_iff_toList_perm.mp hp;refine ⟨λx hx=>h.nl x (hl.mem_iff.mp hx),?_⟩;exact (hl.pairwise_iff (λ{a b} (hab:r a≠r b)=>Ne.symm hab)).mpr h.di
def UpS (r:Nat->Int) (p:Array Nat) (lo m:Nat):Prop:=∀i j,i<j->j<m->SP.at' r p (lo+i)<SP.at' r p (lo+j)
structure Keep (lo hi:Nat) (p p':Array Nat):Prop where
 pm:p'.Perm p
 out:∀x,(x<lo\/hi<=x)->p'[x]?=p[x]?
theorem Keep.refl (lo hi:Nat) (p:Array Nat):Keep lo hi p p:=⟨.refl _,λ_ _=>rfl⟩
theorem Keep.trans {lo hi:Nat}{a b c:Array Nat}(h:Keep lo hi a b) (k:Keep lo hi b c):Keep lo hi a c:=⟨k.pm.trans h.pm,λx hx=>(k.out x hx).trans (h.out x hx)⟩
theorem Keep.size {lo hi:Nat}(h:Keep lo hi p p'):p'.size=p.size:=h.pm.size_eq
theorem ztv {lo hi i j:Nat}(h1:lo<=i) (h2:j<=hi) (h3:j<=p.size):Keep lo hi p (kas_rev p i j):=⟨mirror_perm p i j _,λx hx=>by
 unfold kas_rev;rw [getElem?_mirror_all h3,if_neg '!']⟩
theorem ztw {lo hi k d:Nat}(h1:lo+d<=k) (h2:k<hi) (h3:k<p.size):Keep lo hi p (bubble p k d):=⟨bubble_perm p k d,λx hx=>by
 rw [getElem?_bubble h3 d '!',if_neg '!',if_neg '!']⟩
end
section
variable {E:Value->Shared->Prop}{κ:SortKind}{it:Array Keyed}{N:Nat}{r:Nat->Int}{p:Array Nat}{pd:Array (Nat×Nat×Nat)}
theorem Sst.arr {st:SortSt}(S:Sst κ it p.toList pd st):arrOf st=p.map (kas_item it):=by rw [S.a,<-oA_map]
theorem zf9 (hc:Asks prog w A κ it N r s) (g:Gd N r p) {st:SortSt}(S:Sst κ it p.toList pd st) {i j:Nat}(hi:i<p.size) (hj:j<p.size) {Q:Option Bool->SortSt->Shared->Prop}(h:Q (some (decide (SP.at' r p i<SP.at' r p j))) st s):kasC '&' A E (ltAt' i j) Q st s:=by rw [ltAt'_eq];refine kasC_bind (kasC_get ?_);show kasC _ _ _ (do let x <-elem' (arrOf st) i;let y <-elem' (arrOf st) j;lt' x y) Q _ _;rw [S.arr];refine kasC_bind (zhy hi (kasC_bind (zhy hj ?_)));exact zf4 hc (g.lt hi) (g.lt hj) S.k h
theorem ztx {st:SortSt}(S:Sst κ it p.toList pd st) {i j:Nat}{Q:Unit->SortSt->Shared->Prop}(h:∀st',Sst κ it (kas_rev p i j).toList pd st'->Q () st' s):kasC '&' A E (reverseSlice' i j) Q st s:=by rw [reverseSlice'_eq];refine kasC_modify (h _ ⟨S.k,?_,S.p,S.f⟩);show mirror (arrOf st) i j ((j-i)/2)=_;rw [S.arr,<-oA_map];show _=(kas_rev p i j).toList.toArray.map (kas_item it);have e1:mirror (p.map (kas_item it)) i j ((j-i)/2)=(mirror p i j ((j-i)/2)).map (kas_item it):=kas_swaps_map (kas_item it) (λk=>i+k) (λk=>j-1-k) _ p;rw [e1];rfl
theorem zty {st:SortSt}(S:Sst κ it p.toList pd st) {k l:Nat}{Q:Unit->SortSt->Shared->Prop}(h:∀st',Sst κ it (bubble p k (k-l)).toList pd st'->Q () st' s):kasC '&' A E (moveDown' k l) Q st s:=by rw [moveDown'_eq];refine kasC_modify (h _ ⟨S.k,?_,S.p,S.f⟩);show bubble (arrOf st) k (k-l)=_;rw [S.arr,<-oA_map];show _=(bubble p k (k-l)).toList.toArray.map (kas_item it);have e1:bubble (p.map (kas_item it)) k (k-l)=(bubble p k (k-l)).map (kas_item it):=kas_swaps_map (kas_item it) (λi=>k-i) (λi=>k-i-1) _ p;rw [e1]
end
noncomputable def zm5 (lo a nrem n0:Nat):StateT SortSt Sem (Option (Option Nat)×Nat):=forIn [a:nrem] ((none,n0):Option (Option Nat)×Nat) λ_ b=>do
 let x <-ltAt' (lo+b.2) (lo+b.2-1)
 match x with
 |some smaller=>if smaller=true then pure (ForInStep.done (none,b.2)) else pure (ForInStep.yield (none,b.2+1))
 |_=>pure (ForInStep.done (some none,b.2))
section
theorem UpS.more {lo n:Nat}(u:UpS r p lo n) (hn:1<=n) (h:SP.at' r p (lo+n-1)<SP.at' r p (lo+n)):UpS r p lo (n+1):=λi j hij hj=>by
 by_cases e:j=n
 ·subst e;by_cases e2:i=j-1
  ·rw [e2,show lo+(j-1)=lo+j-1 by lia];exact h
  ·have:=u i (j-1) '!' '!';rw [show lo+(j-1)=lo+j-1 by lia] at this;exact Int.lt_trans this h
 ·exact u i j hij '!'
def DnS (r:Nat->Int) (p:Array Nat) (lo m:Nat):Prop:=∀i j,i<j->j<m->SP.at' r p (lo+j)<SP.at' r p (lo+i)
theorem DnS.more {lo n:Nat}(u:DnS r p lo n) (hn:1<=n) (h:SP.at' r p (lo+n)<SP.at' r p (lo+n-1)):DnS r p lo (n+1):=λi j hij hj=>by
 by_cases e:j=n
 ·subst e;by_cases e2:i=j-1
  ·rw [e2,show lo+(j-1)=lo+j-1 by lia];exact h
  ·have:=u i (j-1) '!' '!';rw [show lo+(j-1)=lo+j-1 by lia] at this;exact Int.lt_trans h this
 ·exact u i j hij '!'
theorem DnS.rev {lo n:Nat}(u:DnS r p lo n) (h:lo+n<=p.size):UpS r (kas_rev p lo (lo+n)) lo n:=λi j hij hj=>by
 have g:∀k,k<n->SP.at' r (kas_rev p lo (lo+n)) (lo+k)=SP.at' r p (lo+(n-1-k)):=λk hk=>SP.at_of (by
  unfold kas_rev;rw [getElem?_mirror_all h,if_pos ⟨by lia,by lia⟩];congr 1;lia)
 rw [g i '!',g j hj];exact u _ _ '!' '!'
theorem zm6 (hc:Asks prog w A κ it N r s) (g:Gd N r p) {st:SortSt}(S:Sst κ it p.toList pd st) {lo a nrem:Nat}(h1:1<=a) (h2:a<=nrem) (h3:lo+nrem<=p.size) (u:UpS r p lo a) :
  kasC '&' A E (zm5 lo a nrem a) (λb st' s'=>s'=s/\st'=st/\b.1=none/\a<=b.2/\b.2<=nrem/\UpS r p lo b.2/\(b.2<nrem->SP.at' r p (lo+b.2)<SP.at' r p (lo+b.2-1))) st s:=by
 unfold zm5;refine zj1 (s:=s) (λk (b:Option (Option Nat)×Nat) st'=>st'=st/\b.1=none/\a<=b.2/\b.2+k=nrem/\UpS r p lo b.2) ?_ ?_ ⟨rfl,rfl,qlr _,(by show a+(nrem-a)=nrem;lia),u⟩
 ·rintro k x ⟨b1,n⟩ st' _ _ ⟨rfl,rfl,hn1,hn2,un⟩;dsimp only at hn1 hn2 un ⊢;refine kasC_bind (zf9 hc g S '!' '!' ?_);dsimp only;by_cases hb:SP.at' r p (lo+n)<SP.at' r p (lo+n-1)
  ·rw [if_pos (decide_eq_true hb)];exact kasC_pure ⟨rfl,rfl,rfl,rfl,hn1,(by show n<=nrem;lia),un,λ_=>hb⟩
  ·rw [if_neg (by rw [decide_eq_true_iff];exact hb)];have hne:=g.ne (i:=lo+n) (j:=lo+n-1) '!' '!' '!';exact kasC_pure ⟨rfl,rfl,rfl,(by show a<=n+1;lia),(by show n+1+k=nrem;lia),un.more '!' '!'⟩
 ·rintro ⟨b1,n⟩ st' ⟨rfl,rfl,hn1,hn2,un⟩;dsimp only at hn1 hn2 un;exact ⟨rfl,rfl,rfl,hn1,(by show n<=nrem;lia),un,λz=>absurd z (by show ¬n<nrem;lia)⟩
theorem ztz (hc:Asks prog w A κ it N r s) (g:Gd N r p) {st:SortSt}(S:Sst κ it p.toList pd st) {lo nrem:Nat}(h1:1<=nrem) (h3:lo+nrem<=p.size) {Q:Option Nat->SortSt->Shared->Prop}
  (h:∀n p' st',1<=n->n<=nrem->Keep lo (lo+nrem) p p'->UpS r p' lo n->Sst κ it p'.toList pd st'->Q (some n) st' s):kasC '&' A E (countRun' lo nrem) Q st s:=by
 rw [countRun'_eq];refine kasC_bind (za0 (zm6 hc g S (qlr 1) h1 h3 (λi j hij hj=>by lia)) ?_);rintro ⟨b1,n⟩ st' s' ⟨hs,hst,hb,hn1,hn2,un,hn3⟩;dsimp only at hb hn1 hn2 un hn3;subst hb;rw [hs,hst];dsimp only;refine zax (λe1=>?_) (λe1=>?_)
 ·exact kasC_pure (h n p st hn1 hn2 (Keep.refl ..) un S)
 have e1:¬n=nrem:=by simpa using e1
 refine zax (λe2=>?_) (λe2=>?_)
 ·refine kasC_bind (zf9 hc g S '!' '!' ?_);dsimp only;have hr:SP.at' r p lo<SP.at' r p (lo+n-1):=by have:=un 0 (n-1) '!' '!';rw [Nat.add_zero,show lo+(n-1)=lo+n-1 by lia] at this;exact this
  rw [if_pos (decide_eq_true hr)];exact kasC_pure (h n p st hn1 hn2 (Keep.refl ..) un S)
 have en:n=1:=by lia
 subst en;refine kasC_bind (kasC_lift (wpAny_rule ?_));have d2:DnS r p lo 2:=λi j hij hj=>by
  have:i=0/\j=1:=by lia
  rw [this.1,this.2];exact hn3 '!'
 refine kasC_bind (za0 (zj1 (s:=s) (λk (b:Option (Option Nat)×Nat×Nat) st'=>st'=st/\b.1=none/\b.2.2=0/\2<=b.2.1/\b.2.1+k=nrem/\DnS r p lo b.2.1) (Q:=λ(b:Option (Option Nat)×Nat×Nat) st' s'=>s'=s/\st'=st/\b.1=none/\b.2.2=0/\2<=b.2.1/\b.2.1<=nrem/\DnS r p lo b.2.1) ?_ ?_ ⟨rfl,rfl,rfl,qlr _,(by show 2+(nrem-2)=nrem;lia),d2⟩) ?_)
 ·rintro k x ⟨b1,n,q⟩ st' _ _ ⟨rfl,rfl,hq,hn1,hn2,un⟩;dsimp only at hq hn1 hn2 un ⊢;subst hq;refine kasC_bind (zf9 hc g S '!' '!' ?_);dsimp only;by_cases hb:SP.at' r p (lo+n)<SP.at' r p (lo+n-1)
  ·rw [if_pos (decide_eq_true hb),if_neg '!'];exact kasC_pure ⟨rfl,rfl,rfl,rfl,(by show 2<=n+1;lia),(by show n+1+k=nrem;lia),un.more '!' hb⟩
  ·rw [if_neg (by rw [decide_eq_true_iff];exact hb)];have hne:=g.ne (i:=lo+n) (j:=lo+n-1) '!' '!' '!';refine kasC_bind (zf9 hc g S '!' '!' ?_);dsimp only;rw [if_pos (decide_eq_true '!')];exact kasC_pure ⟨rfl,rfl,rfl,rfl,rfl,hn1,(by show n<=nrem;lia),un⟩
 ·rintro ⟨b1,n,q⟩ st' ⟨rfl,rfl,hq,hn1,hn2,un⟩;dsimp only at hq hn1 hn2 un;exact ⟨rfl,rfl,rfl,hq,hn1,(by show n<=nrem;lia),un⟩
 rintro ⟨b1,n,q⟩ st' s' ⟨hs,hst,hb,hq,hn1,hn2,un⟩;dsimp only at hb hq hn1 hn2 un;subst hb;subst hq;rw [hs,hst];dsimp only;rw [if_neg '!'];refine kasC_bind (ztx S λst2 S2=>?_);have kp:Keep lo (lo+nrem) p (kas_rev p lo (lo+n)):=ztv (qlr _) '!' '!';refine kasC_bind (za0 (zm6 hc (g.perm kp.pm) S2 '!' hn2 (by rw [kp.size];exact h3) (un.rev '!')) ?_);rintro ⟨b1,m⟩ st' s' ⟨hs,hst,hb,hm1,hm2,um,_⟩;dsimp only at hb hm1 hm2 um;subst hb;rw [hs,hst];exact kasC_pure (h m _ st2 '!' hm2 kp um S2)
end
section
theorem zt0 {lo x l:Nat}(u:UpS r p lo x) (hl:l<=x) (hx:lo+x<p.size) (a:∀i,i<l->SP.at' r p (lo+i)<SP.at' r p (lo+x)) (b:∀i,l<=i->i<x->SP.at' r p (lo+x)<SP.at' r p (lo+i)):UpS r (bubble p (lo+x) (lo+x-(lo+l))) lo (x+1):=λi j hij hj=>by
 have g:∀y,y<=x->SP.at' r (bubble p (lo+x) (lo+x-(lo+l))) (lo+y)=if y=l then SP.at' r p (lo+x) else if l<y then SP.at' r p (lo+(y-1)) else SP.at' r p (lo+y):=λy hy=>by
  have h:=getElem?_bubble (xs:=p) (src:=lo+x) hx (lo+x-(lo+l)) '!' (lo+y);have e1:lo+x-(lo+x-(lo+l))=lo+l:=by lia
  rw [e1] at h;by_cases z:y=l
  ·rw [if_pos '!'] at h;rw [if_pos z];exact SP.at_of h
  ·rw [if_neg '!'] at h;rw [if_neg z];by_cases z2:l<y
   ·rw [if_pos ⟨by lia,by lia⟩,show lo+y-1=lo+(y-1) by lia] at h;rw [if_pos z2];exact SP.at_of h
   ·rw [if_neg '!'] at h;rw [if_neg z2];exact SP.at_of h
 rw [g i '!',g j '!'];by_cases z1:i=l
 ·rw [if_pos z1,if_neg '!',if_pos '!'];exact b _ '!' '!'
 ·rw [if_neg z1];by_cases z2:l<i
  ·rw [if_pos z2,if_neg '!',if_pos '!'];exact u _ _ '!' '!'
  ·rw [if_neg z2];by_cases z3:j=l
   ·rw [if_pos z3];exact a i '!'
   ·rw [if_neg z3];by_cases z4:l<j
    ·rw [if_pos z4];exact Int.lt_trans (a i '!') (b (j-1) '!' '!')
    ·rw [if_neg z4];exact u i j hij '!'
inductive BiP (κ:SortKind) (it:Array Keyed) (r:Nat->Int) (p:Array Nat) (pd:Array (Nat×Nat×Nat)) (lo n m:Nat) (st':SortSt):Prop
 |mk (p':Array Nat) (kp:Keep lo (lo+n) p p') (u:UpS r p' lo m) (S:Sst κ it p'.toList pd st')
theorem zt1 (hc:Asks prog w A κ it N r s) (g:Gd N r p) {st:SortSt}(S:Sst κ it p.toList pd st) {lo n ok:Nat}(h1:1<=ok) (h2:ok<=n) (h3:lo+n<=p.size) (u:UpS r p lo ok) {Q:Bool->SortSt->Shared->Prop}
  (h:∀p' st',Keep lo (lo+n) p p'->UpS r p' lo n->Sst κ it p'.toList pd st'->Q true st' s):kasC '&' A E (binarySort' lo n ok) Q st s:=by
 rw [binarySort'_eq];have em:max ok 1=ok:=by lia
 rw [em];refine kasC_bind (za0 (zj1 (s:=s) (λk (b:Option Bool×Unit) st'=>b.1=none/\BiP κ it r p pd lo n (n-k) st') (Q:=λ(b:Option Bool×Unit) st' s'=>s'=s/\b.1=none/\BiP κ it r p pd lo n n st') ?_ ?_ ⟨rfl,p,Keep.refl ..,by rw [show n-(n-ok)=ok by lia];exact u,S⟩) ?_)
 ·rintro k x ⟨b1,b2⟩ st' hx1 hx2 ⟨hb,⟨p',kp,u',S'⟩⟩;dsimp only at hb ⊢;subst hb;have ex:n-(k+1)=x:=by lia
  rw [ex] at u';have hsz:=kp.size;have g':=g.perm kp.pm;refine kasC_bind (za0 (zcg (s:=s) (λj (b:Option Bool×Nat×Nat) st''=>st''=st'/\b.1=none/\b.2.1<=b.2.2/\b.2.2<=x/\(∀i,i<b.2.1->SP.at' r p' (lo+i)<SP.at' r p' (lo+x))/\(∀i,b.2.2<=i->i<x->SP.at' r p' (lo+x)<SP.at' r p' (lo+i))/\b.2.2<=b.2.1+j) (Q:=λ(b:Option Bool×Nat×Nat) st'' s'=>s'=s/\st''=st'/\b.1=none/\b.2.1<=x/\(∀i,i<b.2.1->SP.at' r p' (lo+i)<SP.at' r p' (lo+x))/\(∀i,b.2.1<=i->i<x->SP.at' r p' (lo+x)<SP.at' r p' (lo+i))) ?_ ?_ ⟨rfl,rfl,Nat.zero_le _,qlr _,λi hi=>absurd hi (Nat.not_lt_zero _),λi hi1 hi2=>absurd hi2 (by have hi1:x<=i:=hi1;lia),by show x<=0+x;lia⟩) ?_)
  ·rintro j y ⟨c1,l,rr⟩ st'' ⟨rfl,rfl,q1,q2,q3,q4,q5⟩;dsimp only at q1 q2 q3 q4 q5 ⊢;refine zax (λhge=>?_) (λhge=>?_)
   ·exact kasC_pure ⟨rfl,rfl,rfl,rfl,(by show l<=x;lia),q3,λi hi1 hi2=>q4 i (by have hi1:l<=i:=hi1;lia) hi2⟩
   ·refine kasC_bind (zf9 hc g' S' '!' '!' ?_);dsimp only;by_cases hb:SP.at' r p' (lo+x)<SP.at' r p' (lo+(l+rr)/2)
    ·rw [if_pos (decide_eq_true hb)];refine kasC_pure ⟨rfl,rfl,rfl,(by show l<=(l+rr)/2;lia),(by show (l+rr)/2<=x;lia),q3,λi hi1 hi2=>?_,(by show (l+rr)/2<=l+j;lia)⟩;have hi1:(l+rr)/2<=i:=hi1;by_cases z:i=(l+rr)/2
     ·rw [z];exact hb
     ·exact Int.lt_trans hb (u' _ _ '!' hi2)
    ·rw [if_neg (by rw [decide_eq_true_iff];exact hb)];have hne:=g'.ne (i:=lo+x) (j:=lo+(l+rr)/2) '!' '!' '!';refine kasC_pure ⟨rfl,rfl,rfl,(by show (l+rr)/2+1<=rr;lia),q2,λi hi1=>?_,q4,(by show rr<=(l+rr)/2+1+j;lia)⟩;have hi1:i<(l+rr)/2+1:=hi1;by_cases z:i=(l+rr)/2
     ·rw [z];lia
     ·have:=u' i ((l+rr)/2) '!' '!';lia
  ·rintro ⟨c1,l,rr⟩ st'' ⟨rfl,rfl,q1,q2,q3,q4,q5⟩;dsimp only at q1 q2 q3 q4 q5;exact ⟨rfl,rfl,rfl,(by show l<=x;lia),q3,λi hi1 hi2=>q4 i (by have hi1:l<=i:=hi1;lia) hi2⟩
  rintro ⟨c1,l,rr⟩ st'' s'' ⟨hs,hst,hcn,q1,q2,q3⟩;dsimp only at hcn q1 q2 q3;subst hcn;rw [hs,hst];refine kasC_bind (zty S' λst2 S2=>?_);refine kasC_pure ⟨rfl,rfl,_,kp.trans (ztw '!' '!' '!'),?_,S2⟩;have:=zt0 u' q1 '!' q2 q3;rw [show n-k=x+1 by lia];exact this
 ·rintro ⟨b1,b2⟩ st' ⟨hb,⟨p',kp,u',S'⟩⟩;exact ⟨rfl,hb,p',kp,u',S'⟩
 rintro ⟨b1,b2⟩ st' s' ⟨hs,hb,⟨p',kp,u',S'⟩⟩;dsimp only at hb;subst hb;rw [hs];exact kasC_pure (h p' st' kp u' S')
end
def Tl (r:Nat->Int) (l:List Nat):List (Nat×Nat×Nat)->Nat->Nat->Prop
 |[],a,b=>a=b
 |x::xs,a,b=>x.1=a/\1<=x.2.1/\a+x.2.1<=l.length/\Ri r ((l.drop a).take x.2.1)/\Tl r l xs (a+x.2.1) b
section
theorem Tl.le:∀{xs:List (Nat×Nat×Nat)}{a b:Nat},Tl r l xs a b->a<=b
 |[],a,b,h=>Nat.le_of_eq h
 |x::xs,a,b,h=>by have:=Tl.le h.2.2.2.2;lia
theorem Tl.app:∀{xs ys:List (Nat×Nat×Nat)}{a b:Nat},Tl r l (xs++ys) a b↔∃c,Tl r l xs a c/\Tl r l ys c b
 |[],ys,a,b=>⟨λh=>⟨a,rfl,h⟩,λh=>by obtain ⟨c,h1,h2⟩:=h;have h1:a=c:=h1;subst h1;exact h2⟩
 |x::xs,ys,a,b=>by
  constructor
  ·rintro ⟨h1,h2,h3,h4,h5⟩;obtain ⟨c,h6,h7⟩:=Tl.app.mp h5;exact ⟨c,⟨h1,h2,h3,h4,h6⟩,h7⟩
  ·rintro ⟨c,⟨h1,h2,h3,h4,h5⟩,h6⟩;exact ⟨h1,h2,h3,h4,Tl.app.mpr ⟨c,h5,h6⟩⟩
theorem Tl.congr (hl:l'.length=l.length):∀{xs:List (Nat×Nat×Nat)}{a b:Nat},(∀i,a<=i->i<b->l'[i]?=l[i]?)->Tl r l xs a b->Tl r l' xs a b
 |[],a,b,_,h=>h
 | x :: xs,a,b,he,h=>by
  obtain ⟨h1,h2,h3,h4,h5⟩:=h;have hle:=Tl.le h5;refine ⟨h1,h2,by lia,?_,Tl.congr hl (λi hi1 hi2=>he i '!' hi2) h5⟩;have:(l'.drop a).take x.2.1=(l.drop a).take x.2.1:=by
   apply List.ext_getElem?;intro i;rw [List.getElem?_take,List.getElem?_take];by_cases hi:i<x.2.1
   ·rw [if_pos hi,if_pos hi,List.getElem?_drop,List.getElem?_drop];exact he (a+i) '!' '!'
   ·rw [if_neg hi,if_neg hi]
  rw [this];exact h4
end
section
inductive MtP (κ:SortKind) (it:Array Keyed) (r:Nat->Int) (l:List Nat) (pd:Array (Nat×Nat×Nat)) (lo:Nat) (s:Shared) (b:Bool) (st':SortSt) (s':Shared):Prop
 |mk (e:b=true) (hs:s'=s) (l':List Nat) (pd':Array (Nat×Nat×Nat)) (S:Sst κ it l' pd' st') (pm:l'.Perm l) (t:Tl r l' pd'.toList 0 lo) (z:pd'.size+1=pd.size) (dr:∀i,lo<=i->l'[i]?=l[i]?)
theorem zm7 (hc:Asks prog w A κ it N r s) (nl:∀x∈l,x<N) (di:l.Pairwise λa b=>r a≠r b) {st:SortSt}(S:Sst κ it l pd st) {i lo:Nat}(t:Tl r l pd.toList 0 lo) (hi:i+1<pd.size):kasC '&' A E (mergeAt' i) (MtP κ it r l pd lo s) st s:=by
 obtain ⟨x,y,pre,post,e,hpre⟩:∃x y pre post,pd.toList=pre++x::y::post/\pre.length=i:=by
  have h1:i<pd.toList.length:=by simpa using (by lia:i<pd.size)
  have h2:i+1<pd.toList.length:=by simpa using hi
  refine ⟨pd.toList[i],pd.toList[i+1],pd.toList.take i,pd.toList.drop (i+2),?_,by rw [List.length_take];lia⟩;rw [<-List.drop_eq_getElem_cons h2,<-List.drop_eq_getElem_cons h1,List.take_append_drop]
 obtain ⟨sa,na,pw⟩:=x;obtain ⟨sb,nb,pw2⟩:=y;have t0:=t;rw [e] at t;obtain ⟨c,tp,h1,h2,h3,h4,h5,h6,h7,h8,tq⟩:=Tl.app.mp t;dsimp only at h1 h2 h3 h4 h5 h6 h7 h8 tq;have g1:pd[i]?=some (sa,na,pw):=by rw [<-Array.getElem?_toList,e,<-hpre,List.getElem?_append_right (qlr _)];simp
 have g2:pd[i+1]?=some (sb,nb,pw2):=by rw [<-Array.getElem?_toList,e,<-hpre,List.getElem?_append_right '!'];simp
 subst h1;have hsb:sb=sa+na:=h5;refine ztu hc nl di S g1 g2 hsb h2 h6 '!' h4 (by rw [hsb];exact h8) λM st' hM S'=>?_;have lX:((l.drop sa).take na).length=na:=by rw [List.length_take,List.length_drop];lia
 have lY:((l.drop sb).take nb).length=nb:=by rw [List.length_take,List.length_drop];lia
 have lM:M.length=na+nb:=by have:=hM.pm.length_eq;rw [qla,lX,lY] at this;exact this
 have lsa:(l.take sa).length=sa:=by rw [List.length_take];lia
 have el:l=l.take sa++((l.drop sa).take na++(l.drop sb).take nb)++l.drop (sb+nb):=by
  rw [hsb,qaa,qaa];have e2:(l.drop (sa+na)).take nb++l.drop (sa+na+nb)=l.drop (sa+na):=by rw [<-List.drop_drop (i:=nb) (j:=sa+na),List.take_append_drop]
  rw [e2];have e3:(l.drop sa).take na++l.drop (sa+na)=l.drop sa:=by rw [<-List.drop_drop (i:=na) (j:=sa),List.take_append_drop]
  rw [e3,List.take_append_drop]
 have hpm:(l.take sa++M++l.drop (sb+nb)).Perm l:=by have:(l.take sa++M++l.drop (sb+nb)).Perm (l.take sa++((l.drop sa).take na++(l.drop sb).take nb)++l.drop (sb+nb)):=(List.Perm.append_left _ hM.pm).append_right _;rw [<-el] at this;exact this
 have hlen:(l.take sa++M++l.drop (sb+nb)).length=l.length:=hpm.length_eq;have lo1:∀j,j<sa->(l.take sa++M++l.drop (sb+nb))[j]?=l[j]?:=λj hj=>by rw [qaa,List.getElem?_append_left '!',List.getElem?_take,if_pos hj]
 have hi1:∀j,sb+nb<=j->(l.take sa++M++l.drop (sb+nb))[j]?=l[j]?:=λj hj=>by rw [List.getElem?_append_right (by rw [qla,lsa,lM];lia),qla,lsa,lM,List.getElem?_drop];congr 1;lia
 have eM:((l.take sa++M++l.drop (sb+nb)).drop sa).take (na+nb)=M:=by rw [qaa,List.drop_append_of_le_length '!',List.drop_of_length_le '!',List.nil_append,List.take_append_of_le_length '!',List.take_of_length_le '!']
 have hle:=Tl.le tq;refine ⟨rfl,rfl,_,_,S',hpm,?_,?_,λj hj=>hi1 j '!'⟩
 ·have ep:((pd.setIfInBounds i (sa,na+nb,pw)).eraseIdxIfInBounds (i+1)).toList=pre++(sa,na+nb,pw)::post:=by rw [Array.eraseIdxIfInBounds,dif_pos (by rw [Array.size_setIfInBounds];exact hi)];rw [Array.toList_eraseIdx,Array.toList_setIfInBounds,e,<-hpre];rw [List.set_append_right _ _ (qlr _),Nat.sub_self,List.set_cons_zero,List.eraseIdx_append_of_length_le '!'];rw [show pre.length+1-pre.length=1 by lia];rfl
  rw [ep];refine Tl.app.mpr ⟨sa,Tl.congr hlen (λj _ hj=>lo1 j hj) tp,rfl,by show 1<=na+nb;lia,by show sa+(na+nb)<=_;lia,?_,?_⟩
  ·show Ri r (((l.take sa++M++l.drop (sb+nb)).drop sa).take (na+nb));rw [eM];exact hM.up
  ·show Tl r _ post (sa+(na+nb)) lo;rw [show sa+(na+nb)=sa+na+nb by lia];exact Tl.congr hlen (λj hj _=>hi1 j '!') tq
 ·rw [Array.eraseIdxIfInBounds,dif_pos (by rw [Array.size_setIfInBounds];exact hi),Array.size_eraseIdx,Array.size_setIfInBounds];lia
end
theorem zm8 {M:Model}{A:Around}{E:Value->Shared->Prop}{σ α:Type}{m m':StateT σ Sem α}{Q:α->σ->Shared->Prop}{st:σ}{s:Shared}(e:m=m') (h:kasC M A E m' Q st s):kasC M A E m Q st s:=by rw [e];exact h
noncomputable def mrg (size pw:Nat):StateT SortSt Sem (Option Unit×Unit):=forIn [0:size] ((none,()):Option Unit×Unit) λ_ _=>do
 let st <-get
 match (if (pendingOf st).size>1 then (pendingOf st)[(pendingOf st).size-2]? else none) with
 | some (_,_,older) =>
  if older<=pw then pure (ForInStep.done (none,()))
  else do
   let b <-mergeAt' ((pendingOf st).size-2)
   if (!b)=true then pure (ForInStep.done (some (),())) else pure (ForInStep.yield (none,()))
 |_=>pure (ForInStep.done (none,()))
noncomputable def zga (size lo n:Nat):StateT SortSt Sem (ForInStep (Option Unit×Nat)):=do
 let st <-get
 match (pendingOf st).back? with
 | some (s1,n1,_)=>do
  let b <-mrg size (power' size (2*s1+n1) (2*s1+n1+n1+n) size)
  match b.1 with
  |some r=>pure (ForInStep.done (some r,lo))
  |none=>do
   modify λs=>setPending s ((pendingOf s).modify ((pendingOf s).size-1) λx=>(x.1,x.2.1,power' size (2*s1+n1) (2*s1+n1+n1+n) size))
   modify λs=>setPending s ((pendingOf s).push (lo,n,0))
   pure (ForInStep.yield (none,lo+n))
 |_=>do
  modify λs=>setPending s ((pendingOf s).push (lo,n,0))
  pure (ForInStep.yield (none,lo+n))
section
theorem Tl.pw:∀{xs ys:List (Nat×Nat×Nat)}{a b:Nat},xs.map (λx=>(x.1,x.2.1))=ys.map (λx=>(x.1,x.2.1))->Tl r l xs a b->Tl r l ys a b
 |[],[],a,b,_,h=>h
 |[],y::ys,a,b,e,_=>by cases e
 |x::xs,[],a,b,e,_=>by cases e
 |x::xs,y::ys,a,b,e,h=>by
  rw [List.map_cons,List.map_cons] at e;injection e with e1 e2
  have e3:x.1=y.1:=(Prod.mk.inj e1).1;have e4:x.2.1=y.2.1:=(Prod.mk.inj e1).2;obtain ⟨h1,h2,h3,h4,h5⟩:=h;rw [e4] at h2 h3 h4 h5;exact ⟨e3.symm.trans h1,h2,h3,h4,Tl.pw e2 h5⟩
theorem zt2 (xs:List (Nat×Nat×Nat)) (f:Nat×Nat×Nat->Nat×Nat×Nat) (hf:∀x,((f x).1,(f x).2.1)=(x.1,x.2.1)):∀i,(xs.modify i f).map (λx=>(x.1,x.2.1))=xs.map (λx=>(x.1,x.2.1)):=by
 intro i;apply List.ext_getElem?;intro j;rw [qgm,qgm,List.getElem?_modify];cases xs[j]? with
 |none=>rfl
 |some x=>
  by_cases e:i=j
  ·simp [e,hf x]
  ·simp [e]
theorem Ri.pd {p:Array Nat}{lo n:Nat}(u:UpS r p lo n) (h:lo+n<=p.size):Ri r ((p.toList.drop lo).take n):=by
 have hl:p.toList.length=p.size:=by simp
 unfold Ri;rw [List.pairwise_iff_getElem];intro i j hi hj hij;rw [List.length_take,List.length_drop] at hi hj;rw [List.getElem_take,List.getElem_take,List.getElem_drop,List.getElem_drop];have:=u i j hij '!';unfold SP.at' at this;rw [zf8 '!',zf8 '!'] at this;exact this
end
section
variable {E:Value->Shared->Prop}{κ:SortKind}{it:Array Keyed}{N:Nat}{r:Nat->Int}{l0:List Nat}
inductive Lp (κ:SortKind) (it:Array Keyed) (r:Nat->Int) (l0:List Nat) (lo:Nat) (st':SortSt):Prop
 |mk (l:List Nat) (pd:Array (Nat×Nat×Nat)) (S:Sst κ it l pd st') (pm:l.Perm l0) (t:Tl r l pd.toList 0 lo)
inductive Lq (κ:SortKind) (it:Array Keyed) (r:Nat->Int) (l0 l1:List Nat) (lo:Nat) (st':SortSt):Prop
 |mk (l:List Nat) (pd:Array (Nat×Nat×Nat)) (S:Sst κ it l pd st') (pm:l.Perm l0) (t:Tl r l pd.toList 0 lo) (dr:∀i,lo<=i->l[i]?=l1[i]?)
theorem zj2 {l:List Nat}(nl:∀x∈l0,x<N) (pm:l.Perm l0):∀x∈l,x<N:=λx hx=>nl x (pm.mem_iff.mp hx)
theorem zj3 {l:List Nat}(di:l0.Pairwise λa b=>r a≠r b) (pm:l.Perm l0):l.Pairwise λa b=>r a≠r b:=(pm.pairwise_iff (λ{a b}(hab:r a≠r b)=>Ne.symm hab)).mpr di
theorem zt3 (hc:Asks prog w A κ it N r s) (nl:∀x∈l0,x<N) (di:l0.Pairwise λa b=>r a≠r b) {l:List Nat}{pd:Array (Nat×Nat×Nat)}{st:SortSt}(S:Sst κ it l pd st) (pm:l.Perm l0) {lo size pw:Nat}(t:Tl r l pd.toList 0 lo) :
  kasC '&' A E (mrg size pw) (λb st' s'=>s'=s/\b.1=none/\Lq κ it r l0 l lo st') st s:=by
 unfold mrg;refine zcg (s:=s) (λk (b:Option Unit×Unit) st'=>b.1=none/\Lq κ it r l0 l lo st') ?_ ?_ ⟨rfl,l,pd,S,pm,t,λ_ _=>rfl⟩
 ·rintro k x ⟨b1,b2⟩ st' ⟨hb,⟨l',pd',S',pm',t',dr⟩⟩;refine kasC_bind (kasC_get ?_);rw [S'.p];by_cases e1:pd'.size>1
  ·rw [if_pos e1];have e2:pd'[pd'.size-2]?=some (pd'[pd'.size-2]'(by lia)):=(by simp [Array.getElem?_eq_getElem]);rw [e2];obtain ⟨x1,x2,older⟩:=pd'[pd'.size-2]'(by lia);dsimp only;by_cases e3:older<=pw
   ·rw [if_pos e3];exact kasC_pure ⟨rfl,rfl,rfl,l',pd',S',pm',t',dr⟩
   ·rw [if_neg e3];refine kasC_bind (za0 (zm7 hc (zj2 nl pm') (zj3 di pm') S' t' '!') ?_);rintro b st2 s2 ⟨rfl,hs,l2,pd2,S2,pm2,t2,z2,dr2⟩;rw [hs,if_neg '*'];exact kasC_pure ⟨rfl,rfl,l2,pd2,S2,pm2.trans pm',t2,λi hi=>(dr2 i hi).trans (dr i hi)⟩
  ·rw [if_neg e1];exact kasC_pure ⟨rfl,rfl,rfl,l',pd',S',pm',t',dr⟩
 ·rintro ⟨b1,b2⟩ st' ⟨hb,h⟩;exact ⟨rfl,hb,h⟩
def RfP (κ:SortKind) (it:Array Keyed) (r:Nat->Int) (l0:List Nat) (lo n:Nat) (s:Shared) (x:ForInStep (Option Unit×Nat)) (st':SortSt) (s':Shared):Prop:=s'=s/\match x with
 | .done _=>False
 | .yield b=>b=(none,lo+n)/\Lp κ it r l0 (lo+n) st'
theorem zt4 (hc:Asks prog w A κ it N r s) (nl:∀x∈l0,x<N) (di:l0.Pairwise λa b=>r a≠r b) {l:List Nat}{pd:Array (Nat×Nat×Nat)}{st:SortSt}(S:Sst κ it l pd st) (pm:l.Perm l0) {lo size n:Nat}(t:Tl r l pd.toList 0 lo) (h1:1<=n) (h2:lo+n<=l.length) (hr:Ri r ((l.drop lo).take n)) :
  kasC '&' A E (zga size lo n) (RfP κ it r l0 lo n s) st s:=by
 have push:∀{l':List Nat} {pd':Array (Nat×Nat×Nat)},l'.Perm l0->Tl r l' pd'.toList 0 lo->(∀i,lo<=i->l'[i]?=l[i]?)->Tl r l' (pd'.push (lo,n,0)).toList 0 (lo+n):=λ{l' pd'} pm' t' dr=>by
  rw [Array.toList_push];have hlen:l'.length=l.length:=(pm'.trans pm.symm).length_eq;have e:(l'.drop lo).take n=(l.drop lo).take n:=by congr 1;apply List.ext_getElem?;intro i;rw [List.getElem?_drop,List.getElem?_drop];exact dr _ '!'
  exact Tl.app.mpr ⟨lo,t',rfl,h1,by show lo+n<=_;lia,by show Ri r ((l'.drop lo).take n);rw [e];exact hr,rfl⟩
 unfold zga;refine kasC_bind (kasC_get ?_);rw [S.p];cases hb:pd.back? with
 |none=>dsimp only;refine kasC_bind (kasC_modify (kasC_pure ⟨rfl,rfl,l,pd.push (lo,n,0),⟨S.k,S.a,by show (pendingOf st).push _=_;rw [S.p],S.f⟩,pm,push pm t λ_ _=>rfl⟩))
 |some x=>
  obtain ⟨s1,n1,x3⟩:=x;dsimp only;refine kasC_bind (za0 (zt3 hc nl di S pm t) ?_);rintro ⟨b1,b2⟩ st' s' ⟨hs,hb,⟨l',pd',S',pm',t',dr⟩⟩;dsimp only at hb;subst hb;rw [hs];dsimp only;refine kasC_bind (kasC_modify (kasC_bind (kasC_modify (kasC_pure ⟨rfl,rfl,?_⟩))));refine ⟨l',(pd'.modify (pd'.size-1) λx=>(x.1,x.2.1,power' size (2*s1+n1) (2*s1+n1+n1+n) size)).push (lo,n,0),⟨S'.k,S'.a,?_,S'.f⟩,pm',push pm' ?_ dr⟩
  ·show ((pendingOf st').modify ((pendingOf st').size-1) _).push (lo,n,0)=_;rw [S'.p]
  ·rw [Array.toList_modify];exact Tl.pw (zt2 pd'.toList (λx=>(x.1,x.2.1,power' size (2*s1+n1) (2*s1+n1+n1+n) size)) (λx=>rfl) (pd'.size-1)).symm t'
inductive Lk (κ:SortKind) (it:Array Keyed) (r:Nat->Int) (l0:List Nat) (m:Nat) (st':SortSt):Prop
 |mk (l:List Nat) (pd:Array (Nat×Nat×Nat)) (S:Sst κ it l pd st') (pm:l.Perm l0) (t:Tl r l pd.toList 0 l0.length) (z:pd.size<=m)
inductive Le (κ:SortKind) (it:Array Keyed) (r:Nat->Int) (l0:List Nat) (st':SortSt):Prop
 |mk (l:List Nat) (pd:Array (Nat×Nat×Nat)) (S:Sst κ it l pd st') (pm:l.Perm l0) (rl:Ri r l)
theorem Tl.count:∀{xs:List (Nat×Nat×Nat)}{a b:Nat},Tl r l xs a b->a+xs.length<=b
 |[],a,b,h=>Nat.le_of_eq h
 |x::xs,a,b,h=>by have:=Tl.count h.2.2.2.2;have:=h.2.1;rw [List.length_cons];lia
theorem Tl.one (h:Tl r l xs 0 b) (h1:xs.length<=1) (h2:1<=b) (hl:l.length=b):Ri r l:=by
 match xs,h,h1 with
 |[],h,_=>have h:0=b:=h;lia
 |[x],h,_=>obtain ⟨_,_,_,h4,h5⟩:=h;have h5:0+x.2.1=b:=h5;rw [List.drop_zero,List.take_of_length_le '!'] at h4;exact h4
 |x::y::xs,_,h1=>simp at h1
theorem sortRuns_ok (hc:Asks prog w A κ it N r s) (nl:∀x∈l0,x<N) (di:l0.Pairwise λa b=>r a≠r b) (hz:1<=l0.length) {st:SortSt}(S:Sst κ it l0 #[] st) {Q:Unit->SortSt->Shared->Prop}(h:∀l st' pd,Sst κ it l pd st'->l.Perm l0->Ri r l->Q () st' s):kasC '&' A E sortRuns' Q st s:=by
 have hsz:(arrOf st).size=l0.length:=by rw [S.a,zen]
 rw [sortRuns'_eq];refine kasC_bind (kasC_get ?_);dsimp only;rw [hsz];generalize hmr:minRun' l0.length l0.length 0=mr;refine kasC_bind (za0 (zcg (s:=s) (λk (b:Option Unit×Nat) st'=>b.1=none/\Lp κ it r l0 b.2 st'/\b.2<=l0.length/\l0.length<=b.2+k) (Q:=λ(b:Option Unit×Nat) st' s'=>s'=s/\b.1=none/\Lp κ it r l0 l0.length st') ?_ ?_ ⟨rfl,⟨l0,#[],S,.refl _,rfl⟩,Nat.zero_le _,by show _<=0+_;lia⟩) ?_)
 ·rintro k x ⟨b1,lo⟩ st' ⟨hb,⟨l,pd,S',pm,t⟩,hlo,hk⟩;dsimp only at hb t hlo hk ⊢;subst hb;have hlen:=pm.length_eq;by_cases e1:lo≥l0.length
  ·rw [if_pos e1];have:lo=l0.length:=(by lia);exact kasC_pure ⟨rfl,rfl,rfl,l,pd,S',pm,by rw [<-this];exact t⟩
  rw [if_neg e1];have g:Gd N r l.toArray:=⟨by simpa using zj2 nl pm,by simpa using zj3 di pm⟩;have S2:Sst κ it l.toArray.toList pd st':=by simpa using S'
  have go:∀(n:Nat) (p':Array Nat) (st2:SortSt),1<=n->lo+n<=l0.length->Keep lo l0.length l.toArray p'->UpS r p' lo n->Sst κ it p'.toList pd st2->kasC '&' A E (zga l0.length lo n) (λz st'' s'=>s'=s/\match z with | .done b'=>s=s/\b'.1=none/\Lp κ it r l0 l0.length st'' | .yield b'=>b'.1=none/\Lp κ it r l0 b'.2 st''/\b'.2<=l0.length/\l0.length<=b'.2+k) st2 s:=λn p' st2 n1 n2 kp u S3=>by
   have ps:=kp.size;have pml:p'.toList.Perm l:=(by simpa using Array.perm_iff_toList_perm.mp kp.pm);have psz:p'.size=l.length:=(by simpa using ps);have t':Tl r p'.toList pd.toList 0 lo:=Tl.congr pml.length_eq (λi _ hi=>by
    have:=kp.out i (.inl hi);rw [Array.getElem?_toList,this];simp) t
   refine za0 (zt4 hc nl di S3 (pml.trans pm) t' n1 (by rw [pml.length_eq];lia) (Ri.pd u '!')) ?_;rintro z st3 s3 ⟨hs3,hz3⟩;refine ⟨hs3,?_⟩;cases z with
   |done b=>exact hz3.elim
   |yield b=>obtain ⟨rfl,lp⟩:=hz3;exact ⟨rfl,lp,n2,by show _<=lo+n+k;lia⟩
  refine kasC_bind (ztz hc g S2 (lo:=lo) (nrem:=l0.length-lo) '!' (by simp;lia) λn p' st2 n1 n2 kp u S3=>?_);rw [show lo+(l0.length-lo)=l0.length by lia] at kp;have ps:p'.size=l.length:=by simpa using kp.size
  dsimp only;by_cases e2:n<mr
  ·rw [if_pos e2];refine kasC_bind (kasC_lift (wpAny_rule ?_));refine kasC_bind (zt1 hc (g.perm kp.pm) S3 (lo:=lo) (n:=min (l0.length-lo) mr) (ok:=n) n1 '!' '!' u λp2 st3 kp2 u2 S4=>?_);rw [if_neg '*'];refine zm8 (by
    unfold zga mrg;congr 1;funext st5;cases (pendingOf st5).back? with
    |none=>rfl
    |some x5=>
     obtain ⟨a5,b5,c5⟩:=x5;dsimp only;congr 1;funext b8;obtain ⟨b9,b10⟩:=b8;cases b9<;>rfl) (za0 (go _ p2 st3 '!' '!' (kp.trans ⟨kp2.pm,λx hx=>kp2.out x '!'⟩) u2 S4) ?_)
   rintro z st4 s4 ⟨h5,h6⟩;exact ⟨h5,by cases z<;>exact h6⟩
  ·rw [if_neg e2];refine zm8 (by
    unfold zga mrg;congr 1;funext st5;cases (pendingOf st5).back? with
    |none=>rfl
    |some x5=>
     obtain ⟨a5,b5,c5⟩:=x5;dsimp only;congr 1;funext b8;obtain ⟨b9,b10⟩:=b8;cases b9<;>rfl) (za0 (go n p' st2 n1 '!' kp u S3) ?_)
   rintro z st4 s4 ⟨h5,h6⟩;exact ⟨h5,by cases z<;>exact h6⟩
 ·rintro ⟨b1,lo⟩ st' ⟨hb,⟨l,pd,S',pm,t⟩,hlo,hk⟩;dsimp only at hb t hlo hk;have:lo=l0.length:=by lia
  exact ⟨rfl,hb,l,pd,S',pm,by rw [<-this];exact t⟩
 rintro ⟨b1,lo⟩ st' s' ⟨hs,hb,⟨l,pd,S',pm,t⟩⟩;dsimp only at hb;subst hb;rw [hs];dsimp only;refine kasC_bind (za0 (zcg (s:=s) (λk (b:Option Unit×Unit) st'=>b.1=none/\Lk κ it r l0 (k+1) st') (Q:=λ(b:Option Unit×Unit) st' s'=>s'=s/\b.1=none/\Le κ it r l0 st') ?_ ?_ ⟨rfl,l,pd,S',pm,t,by have h8:=Tl.count t;rw [Array.length_toList] at h8;lia⟩) ?_)
 ·rintro k x ⟨b1,b2⟩ st' ⟨hb,⟨l,pd,S',pm,t,hsz2⟩⟩;dsimp only at hb;refine kasC_bind (kasC_get ?_);rw [S'.p];by_cases e1:pd.size<=1
  ·rw [if_pos e1];exact kasC_pure ⟨rfl,rfl,rfl,l,pd,S',pm,Tl.one t (by simpa using e1) '!' pm.length_eq⟩
  ·rw [if_neg e1];have key:∀i,i+1<pd.size->kasC '&' A E (do
     let b <-mergeAt' i
     if (!b)=true then pure (ForInStep.done ((some (),()):Option Unit×Unit)) else pure (ForInStep.yield (none,()))) (λz st'' s'=>s'=s/\match z with | .done b'=>s=s/\b'.1=none/\Le κ it r l0 st'' | .yield b'=>b'.1=none/\Lk κ it r l0 (k+1) st'') st' s:=λi hi=>by
    refine kasC_bind (za0 (zm7 hc (zj2 nl pm) (zj3 di pm) S' t hi) ?_);rintro b st2 s2 ⟨rfl,hs,l2,pd2,S2,pm2,t2,z2,dr2⟩;rw [hs,if_neg '*'];exact kasC_pure ⟨rfl,rfl,l2,pd2,S2,pm2.trans pm,t2,by lia⟩
   refine za0 (key _ ?_) ?_
   ·have h9:∀(b:Bool),(if b=true then pd.size-2-1 else pd.size-2)+1<pd.size:=λb=>(by cases b<;>simp<;>lia);exact h9 _
   ·rintro z st4 s4 ⟨h5,h6⟩;exact ⟨h5,by cases z<;>exact h6⟩
 ·rintro ⟨b1,b2⟩ st' ⟨hb,⟨l,pd,S',pm,t,hsz2⟩⟩;exact ⟨rfl,hb,l,pd,S',pm,Tl.one t (by simpa using hsz2) '!' pm.length_eq⟩
 rintro ⟨b1,b2⟩ st' s' ⟨hs,hb,⟨l,pd,S',pm,rl⟩⟩;dsimp only at hb;subst hb;rw [hs];exact kasC_pure (h l st' pd S' pm rl)
end
end SG
namespace SP
open PySem PySem.W PyProof.Rows PySem.Calls
abbrev Pr:=Int×Int
noncomputable def plt (p q:Pr):Bool:=decide (p.1<q.1)||(decide (p.1=q.1)&&decide (p.2<q.2))
section
end
noncomputable def rk (ps:List Pr) (i:Nat):Int:=(ps.countP (λq=>plt q (ps.getD i (0,0))):Nat)
section
end
abbrev Tu:=List Int
theorem gDU {α:Type}{l:List α}{i:Nat}{d:α}(h:i<l.length):l.getD i d=l[i]:=by simp [h]
noncomputable def tlt:Tu->Tu->Bool
 |_,[]=>false
 |[],_::_=>true
 |a::l,b::m=>if a=b then tlt l m else decide (a<b)
theorem zh4:∀p:Tu,tlt p p=false
 |[]=>rfl
 |a::l=>by unfold tlt;rw [if_pos rfl];exact zh4 l
theorem zgb:∀{p q r:Tu},tlt p q=true->tlt q r=true->tlt p r=true
 |p,q,[],_,h2=>by cases q<;>cases h2
 |p,[],_::_,h1,_=>by cases p<;>cases h1
 |[],_::_,_::_,_,_=>rfl
 |a::l,b::m,c::n,h1,h2=>by
  unfold tlt at *
  by_cases e1:a=b<;>by_cases e2:b=c
  ·rw [if_pos e1] at h1;rw [if_pos e2] at h2;rw [if_pos (e1.trans e2)];exact zgb h1 h2
  ·rw [if_neg e2] at h2;subst e1;rw [if_neg e2];exact h2
  ·rw [if_neg e1] at h1;subst e2;rw [if_neg e1];exact h1
  ·rw [if_neg e1] at h1;rw [if_neg e2] at h2;have h1:=of_decide_eq_true h1;have h2:=of_decide_eq_true h2;rw [if_neg '!'];exact decide_eq_true '!'
theorem zgc:∀(p q:Tu),p≠q->tlt p q=true\/tlt q p=true
 |[],[],h=>absurd rfl h
 |[],_::_,_=>.inl rfl
 |_::_,[],_=>.inr rfl
 | a :: l,b :: m,h=>by
  unfold tlt;by_cases e:a=b
  ·rw [if_pos e,if_pos e.symm];exact zgc l m λz=>h (by rw [e,z])
  ·rw [if_neg e,if_neg (Ne.symm e)];by_cases z:a<b
   ·exact .inl (decide_eq_true z)
   ·exact .inr (decide_eq_true '!')
inductive IL:List Value->Tu->Prop where
 |nil:IL [] []
 |cons (i:Int) (k:Tok) {vs:List Value} {is:Tu}:IL vs is->IL (.int i k::vs) (i::is)
theorem IL.length (t:IL vs p):vs.length=p.length:=by
 induction t with
 |nil=>rfl
 |cons _ _ _ ih=>simp [ih]
def IsU (h:Heap) (v:Value) (p:Tu):Prop:=∃a o its n,v=.ref a/\h.get? a=some o/\o.cls=.type "tuple"/\o.data=.seq its n/\IL its.toList p/\p≠[]
theorem IsU.kept (x:IsU h v p) (k:∀b o,o.cls=.type "tuple"->h.get? b=some o->h'.get? b=some o):IsU h' v p :=
 let ⟨a,o,its,n,e,ho,c,d⟩:=x;⟨a,o,its,n,e,k a o c ho,c,d⟩
inductive TU (R:Value->Tu->Prop):List Value->List Tu->Prop where
 |nil:TU R [] []
 |cons {v:Value} {p:Tu} {vs:List Value} {ps:List Tu}:R v p->TU R vs ps->TU R (v::vs) (p::ps)
noncomputable abbrev Tq (h:Heap):=TU (IsU h)
theorem TU.length (t:TU R vs ps):vs.length=ps.length:=by
 induction t with
 |nil=>rfl
 |cons _ _ ih=>simp [ih]
theorem TU.imp (t:TU R vs ps) (k:∀v p,R v p->R' v p):TU R' vs ps:=by
 induction t with
 |nil=>exact .nil
 |cons x _ ih=>exact .cons (k _ _ x) ih
theorem TU.get (t:TU R vs ps):∀{i:Nat},i<ps.length->R (vs.getD i .none) (ps.getD i []):=by
 induction t with
 |nil=>intro i hi;simp at hi
 |cons x _ ih=>
  intro i hi;cases i with
  |zero=>simpa using x
  |succ j=>simpa using ih (i:=j) (by simpa using hi)
theorem zt5 (t:Tq h vs ps):∃fs:List Value,KatTups h vs fs/\fs.length=ps.length/\∀v∈fs,∃i k,v=.int i k:=by
 induction t with
 |nil=>exact ⟨[],.nil,rfl,λv hv=>by simp at hv⟩
 | @cons v p vs ps x _ ih =>
  obtain ⟨fs,h1,h2,h3⟩:=ih;obtain ⟨a,o,its,n,rfl,ho,c,d,il,ne⟩:=x;obtain ⟨its⟩:=its;cases il with
  |nil=>exact absurd rfl ne
  | @cons i k us is il=>
   refine ⟨.int i k::fs,KatTups.cons ho c d rfl h1,by simp [h2],λv hv=>?_⟩;rcases List.mem_cons.mp hv with e|hv
   ·exact ⟨_,_,e⟩
   ·exact h3 v hv
section
theorem zt6 (t:Tq s.heap vs ps) (hne:0<ps.length) (h:Q (tuples' true) s):wpAny '&' A (keyKind' vs.toArray) Q E s:=by obtain ⟨fs,h1,h2,h3⟩:=zt5 t;refine kat_kind (T:=.type "int") h1 '!' (λv hv=>?_) rfl h;obtain ⟨i,k,rfl⟩:=h3 v hv;intro A Q E s _ q;exact qwp q
theorem zm9:∀{us vs:List Value}{p q:Tu}{i:Nat},IL us p->IL vs q->Q (tlt p q) s->KatLex prog w A b (decide (p.length<q.length)) Q (us.zip vs) i s
 |_,_,_,_,_,.nil,.nil,h=>kat_nil h
 |_,_,_,_,_,.nil,.cons _ _ _,h=>kat_nil h
 |_,_,_,_,_,.cons _ _ _,.nil,h=>kat_nil h
 | _,_,_,_,i,@IL.cons x k us p hu,@IL.cons y l vs q hv,h=>by
  rw [List.zip_cons_cons];refine kat_cons (wpAny_eqBool_int ?_);unfold tlt at h;by_cases e:x=y
  ·rw [show (x==y)=true by simpa using e];rw [if_pos e] at h;rw [List.length_cons,List.length_cons,show (decide (p.length+1<q.length+1))=decide (p.length<q.length) by simp];exact kat_yes (zm9 hu hv h)
  ·rw [show (x==y)=false by simpa using e];rw [if_neg e] at h;refine kat_no ?_;cases hb:(b&&i==0)
   ·exact kat_one _ _ (wpAny_lt_int h)
   ·exact oneLt_int h
theorem zt7 (hu:IsU s.heap u p) (hv:IsU s.heap v q) (h:Q (tlt p q) s):wpAny '&' A (keyLt' (tuples' true) u v) Q E s:=by obtain ⟨a,o,its,n,rfl,ho,c,d,iu,_⟩:=hu;obtain ⟨b,o',its',m,rfl,ho',c',d',iv,_⟩:=hv;refine kat_lt ho d ho' d' ?_;have e1:=iu.length;have e2:=iv.length;rw [Array.length_toList] at e1 e2;rw [e1,e2];exact zm9 iu iv h
end
noncomputable def rkU (ps:List Tu) (i:Nat):Int:=(ps.countP (λq=>tlt q (ps.getD i [])):Nat)
theorem zna {ps:List Tu}{p q:Tu}(hp:p∈ps) (h:tlt p q=true):ps.countP (λz=>tlt z p)<ps.countP (λz=>tlt z q):=by obtain ⟨l,r,rfl⟩:=List.append_of_mem hp;have m:∀k:List Tu,k.countP (λz=>tlt z p)<=k.countP (λz=>tlt z q):=λk=>List.countP_mono_left λz _ hz=>zgb hz h;have m1:=m l;have m2:=m r;simp only [List.countP_append,List.countP_cons,zh4,h];simp only [qbf,if_false,if_true];lia
theorem zh5 {ps:List Tu}{i j:Nat}(hi:i<ps.length) (hj:j<ps.length):lt (rkU ps) i j=tlt (ps.getD i []) (ps.getD j []):=by
 have mi:ps.getD i []∈ps:=by rw [gDU hi];exact qem hi
 have mj:ps.getD j []∈ps:=by rw [gDU hj];exact qem hj
 unfold lt rkU;cases h:tlt (ps.getD i []) (ps.getD j []) with
 |true=>have:=zna mi h;exact decide_eq_true '!'
 | false =>
  refine decide_eq_false ?_;by_cases e:ps.getD i []=ps.getD j []
  ·rw [e];lia
  ·rcases zgc _ _ e with z|z
   ·rw [z] at h;cases h
   ·have:=zna mj z;lia
theorem zt8 {ps:List Tu}(nd:ps.Nodup):Inj (rkU ps) ps.length:=λi j hi hj e=>by
 have h1:=zh5 hi hj;have h2:=zh5 hj hi;unfold lt at h1 h2;rw [e] at h1 h2;simp only [Int.lt_irrefl,decide_false] at h1 h2;have:ps.getD i []=ps.getD j []:=by
  by_cases z:ps.getD i []=ps.getD j []
  ·exact z
  ·rcases zgc _ _ z with y|y
   ·rw [y] at h1;cases h1
   ·rw [y] at h2;cases h2
 rw [gDU hi,gDU hj] at this;exact (List.getElem_inj nd).mp this
noncomputable def tle (p q:Tu):Bool:=!tlt q p
noncomputable def sortU (ps:List Tu):List Tu:=ps.mergeSort tle
theorem zt9 (a b c:Tu) (h1:tle a b=true) (h2:tle b c=true):tle a c=true:=by
 unfold tle at *
 simp only [Bool.not_eq_true'] at *
 cases h:tlt c a
 ·rfl
 ·by_cases e:a=b
  ·subst e;rw [h] at h2;cases h2
  ·rcases zgc a b e with z|z
   ·rw [zgb h z] at h2;cases h2
   ·rw [z] at h1;cases h1
theorem zua (a b:Tu):(tle a b||tle b a)=true:=by
 unfold tle;cases h1:tlt b a
 ·rfl
 ·cases h2:tlt a b
  ·rfl
  ·have:=zgb h1 h2;rw [zh4] at this;cases this
theorem zub (a b:Tu) (h1:tle a b=true) (h2:tle b a=true):a=b:=by
 unfold tle at *
 simp only [Bool.not_eq_true'] at *
 by_cases e:a=b
 ·exact e
 ·rcases zgc a b e with z|z
  ·rw [z] at h2;cases h2
  ·rw [z] at h1;cases h1
theorem znb (l:List Tu):(sortU l).Pairwise λa b=>tle a b=true:=List.pairwise_mergeSort zt9 zua l
theorem sortU_perm (l:List Tu):(sortU l).Perm l:=List.mergeSort_perm l tle
theorem zj4 (h:a.Perm l) (s:a.Pairwise λx y=>tle x y=true):a=sortU l :=
 List.Perm.eq_of_pairwise (λa b _ _=>zub a b) s (znb l) (h.trans (sortU_perm l).symm)
theorem sortU_eq (h:a.Perm b):sortU a=sortU b:=zj4 ((sortU_perm a).trans h) (znb a)
theorem zuc (nd:ps.Nodup) (hp:Pm ps.length q) (u:Up (rkU ps) q ps.length):q.toList.map (λi=>ps.getD i [])=sortU ps:=by
 have hq:=Array.perm_iff_toList_perm.mp hp;refine zj4 ?_ ?_
 ·have h1:=hq.map (λi=>ps.getD i []);have e:(List.range ps.length).map (λi=>ps.getD i [])=ps:=by
   apply List.ext_getElem
   ·simp
   ·intro i h1 h2;simp [h2]
  have e2:((List.range ps.length).toArray).toList=List.range ps.length:=by simp
  rw [e2] at h1;rw [e] at h1;exact h1
 ·rw [List.pairwise_map,List.pairwise_iff_getElem];intro i j hi hj hij;have hs:=hp.size;have hi':i<ps.length:=by simpa [hs] using hi
  have hj':j<ps.length:=by simpa [hs] using hj
  have h1:=u i j hij hj';have g:∀k (hk:k<q.toList.length),q.toList[k]=q.getD k 0:=λk hk=>by have hk:k<q.size:=(by simpa using hk);simp [Array.getD,hk]
  rw [g,g];have l1:=zh5 (ps:=ps) (hp.lt hi') (hp.lt hj');have l2:lt (rkU ps) (q.getD i 0) (q.getD j 0)=true:=decide_eq_true h1;rw [l2] at l1;unfold tle;cases h:tlt (ps.getD (q.getD j 0) []) (ps.getD (q.getD i 0) [])
  ·rfl
  ·have:=zgb l1.symm h;rw [zh4] at this;cases this
section
variable {prog:Program}{w:World}{A:Around}{E:Value->Shared->Prop}{s:Shared}{κ:SortKind}{r:Nat->Int}{ks vs:List Value}
theorem zud (h:SG.Ri r l):Up r l.toArray l.length:=λi j hij hj=>by rw [SG.at_list '!',SG.at_list hj];exact h.get hij hj
theorem zue {Q:SortSt->Shared->Prop}(hl:ks.length=vs.length) (h1:1<=vs.length) (hr:Inj r vs.length) (hc:SG.Asks prog w A κ (ks.toArray.zip vs.toArray) vs.length r s)
  (h:∀q st',Pm vs.length q->Up r q vs.length->arrOf st'=q.map (kas_item (ks.toArray.zip vs.toArray))->failedOf st'=none->Q st' s) :
  wpAny '&' A ((sortRuns').run (SortSt.mk' κ (ks.toArray.zip vs.toArray) #[] 7 none)) (λz s'=>Q z.2 s') E s:=by
 have e:=kas_range (ks.toArray.zip vs.toArray);rw [show (ks.toArray.zip vs.toArray).size=vs.length by simp [hl]] at e;have key:=SG.sortRuns_ok (E:=E) (l0:=List.range vs.length) (st:=SortSt.mk' κ (ks.toArray.zip vs.toArray) #[] 7 none) (Q:=λ_ st' s'=>Q st' s') hc (λx hx=>List.mem_range.mp hx) ?_ (by rw [List.length_range];exact h1) ⟨rfl,?_,rfl,rfl⟩ λl st' pd S pm rl=>?_
 ·exact key
 ·rw [List.pairwise_iff_getElem];intro i j hi hj hij e2;rw [List.getElem_range,List.getElem_range] at e2;rw [List.length_range] at hi hj;have:=hr i j hi hj e2;lia
 ·show ks.toArray.zip vs.toArray=_;rw [<-SG.oA_map];exact e.symm
 ·have hlen:l.length=vs.length:=by rw [pm.length_eq,List.length_range]
  refine h l.toArray st' ?_ ?_ ?_ S.f
  ·exact Array.perm_iff_toList_perm.mpr (by simpa using pm)
  ·rw [<-hlen];exact zud rl
  ·rw [S.a,SG.oA_map]
end
section
variable {prog:Program}{w:World}{A:Around}{E:Value->Shared->Prop}{s:Shared}
theorem zuf (ho:s.heap.get? a=some (seqObj "list" vs.toArray n)) (t:Tq s.heap vs ps) (t0:TU R0 vs ps) (nd:ps.Nodup) (h64:ps.length<=5000)
  (h:∀out:List Value,TU R0 out (sortU ps)->P (.done (.ret .none)) {s with heap:=sortedHeap s.heap a vs out.toArray}):wpAny '&' A (Builtin.«list.sort» ⟨[.ref a],[]⟩) P E s:=by
 have hl:=t.length;have old:∀(f:Array Value->Array Value) (b:Addr) (o:Obj),o.cls=.type "tuple"->s.heap.get? b=some o->(((s.heap.update a (Obj.mapSeq f)).push (seqObj "tuple" vs.toArray 0)).push (seqObj "list" #[] 0)).get? b=some o:=λf b o c e=>by
  have hb:b≠a:=λz=>by rw [z,ho] at e;cases e;injection c with c;exact absurd c '$'
  exact qps _ (qps _ ((Heap.get?_update_other _ _ (Ne.symm hb)).trans e))
 obtain ⟨c1,g1⟩:∃c1,(s.heap.update a (Obj.mapSeq λ_=>(#[]:Array Value))).get? a=some (seqObj "list" #[] c1):=⟨_,get?_update_seq ho λ_=>#[]⟩;have g3:(((s.heap.update a (Obj.mapSeq λ_=>(#[]:Array Value))).push (seqObj "tuple" vs.toArray 0)).push (seqObj "list" #[] 0)).get? a=some (seqObj "list" #[] c1):=qps _ (qps _ g1);have fits:∀k,k<=5000->k<=sizeLine:=λk hk=>by rw [sizeLine_eq];lia
 rw [list_sort_plain];have hA:vs.toArray.size<=sizeLine:=by rw [List.size_toArray];exact fits _ '!'
 have hC:vs.toArray.toList.length<=sizeLine:=fits _ (by simpa [hl] using h64);refine qwb (listItems_at ho rfl (qwb (listUpdate_at ho rfl ?_ hA (Nat.zero_le _))));refine qwb (seqEpoch_at g1 rfl (qwb (wpAny_newTuple ?_ hC)));refine qwb (wpAny_newList (wpAny_holding ?_) (Nat.zero_le _));show wpAny '&' A _ P E {s with heap:=((s.heap.update a (Obj.mapSeq λ_=>(#[]:Array Value))).push (seqObj "tuple" vs.toArray 0)).push (seqObj "list" #[] 0)};dsimp only;have done:∀(out:Array Value) (st:SortSt),(arrOf st).map (·.2)=out->failedOf st=none->out.size=vs.length->TU R0 out.toList (sortU ps) ->
   wpAny '&' A (do
    let touched:=(<-seqEpoch a) != c1
    Builtin.List.listUpdate (.ref a) λ_=>(arrOf st).map (·.2)
    if let some e:=failedOf st then rule "list.sort.comparison-raised";throw e
    if touched then rule "list.sort.modified";raiseError "ValueError" "list modified during sort"
    ret .none) P E {s with heap:=((s.heap.update a (Obj.mapSeq λ_=>(#[]:Array Value))).push (seqObj "tuple" vs.toArray 0)).push (seqObj "list" #[] 0)}:=λout st e1 e2 e3 e4=>by
  rw [e1,e2];refine qwb (seqEpoch_at g3 rfl (qwb (listUpdate_at g3 rfl ?_ (Nat.zero_le _) (by show out.size<=_;have:=fits vs.length '!';lia))));simp only [bne_self_eq_false,qbf,if_false];have:=h out.toList e4;rw [Array.toArray_toList] at this;exact qwp this
 by_cases h2:vs.toArray.size<2
 ·rw [if_pos h2,if_pos h2];refine qwb (qwp ?_);rw [StateT.run_pure];refine qwb (qwp ?_);refine done vs.toArray (SortSt.mk' general' (vs.toArray.zip vs.toArray) #[] 7 none) ?_ rfl '*' ?_
  ·apply Array.toList_inj.mp;show ((vs.toArray.zip vs.toArray).map (·.2)).toList=vs;rw [Array.toList_map];have:=pairsOf_toList vs;unfold pairsOf at this;rw [this,List.map_snd_zip (qlr _)]
  ·have:sortU ps=ps:=(by refine (zj4 (List.Perm.refl _) ?_).symm;rw [List.size_toArray] at h2;rw [List.pairwise_iff_getElem];intro i j hi hj hij;lia);rw [this];exact t0
 ·rw [if_neg h2,if_neg h2];rw [List.size_toArray] at h2;have t':Tq (((s.heap.update a (Obj.mapSeq λ_=>(#[]:Array Value))).push (seqObj "tuple" vs.toArray 0)).push (seqObj "list" #[] 0)) vs ps:=t.imp λv p x=>x.kept (old _);refine qwb (zt6 (s:={s with heap:=_}) t' '!' ?_);refine qwb (wpAny_mono (zue (ks:=vs) (vs:=vs) (κ:=tuples' true) (E:=E) (r:=rkU ps) (s:={s with heap:=((s.heap.update a (Obj.mapSeq λ_=>(#[]:Array Value))).push (seqObj "tuple" vs.toArray 0)).push (seqObj "list" #[] 0)}) (Q:=λst s'=>s'={s with heap:=((s.heap.update a (Obj.mapSeq λ_=>(#[]:Array Value))).push (seqObj "tuple" vs.toArray 0)).push (seqObj "list" #[] 0)}/\∃q:Array Nat,Pm ps.length q/\Up (rkU ps) q ps.length/\arrOf st=q.map (kas_item (vs.toArray.zip vs.toArray))/\failedOf st=none) rfl '!' (by rw [hl];exact zt8 nd) ?_ (λq st' a1 a2 a3 a4=>⟨rfl,q,by rw [<-hl];exact a1,by rw [<-hl];exact a2,a3,a4⟩)) ?_ λ_ _ e=>e)
  ·intro i j C hi hj hC;rw [hl] at hi hj;rw [<-kat_ask_eq (ks:=vs) (vs:=vs) rfl];refine zt7 (p:=ps.getD i []) (q:=ps.getD j []) (t'.get hi) (t'.get hj) ?_;rw [<-zh5 hi hj];exact hC
  ·rintro ⟨⟨⟩,st⟩ s' ⟨rfl,q,hq,hu,ha,hf⟩;have hout:=kat_snds (ks:=vs) (vs:=vs) rfl ha;refine done _ st hout hf (by rw [List.size_toArray,qlm,Array.length_toList,hq.size,hl]) ?_;have eo:=zuc nd hq hu;rw [<-eo];show TU R0 (q.toList.map λi=>vs.getD i Value.none) _;have gen:∀l:List Nat,(∀i∈l,i<ps.length)->TU R0 (l.map λi=>vs.getD i Value.none) (l.map λi=>ps.getD i []):=λl=>by
    induction l with
    |nil=>intro _;exact .nil
    |cons i l ih=>intro hm;exact   .cons (t0.get (hm i (by simp))) (ih λk hk=>hm k (by simp [hk]))
   refine gen _ λi hi=>?_;have:=(Array.perm_iff_toList_perm.mp hq).mem_iff (a:=i);simpa using this.mp hi
end
section
theorem zug (hR:∀v p,R0 v p->IsU s.heap v p)
  (hc:∀(E:Value->Shared->Prop) (R:List Value->Shared->Prop),(∀h' tk vs,s.heap.objs.size<=h'.objs.size->(∀b o,s.heap.get? b=some o->h'.get? b=some o)->TU R0 vs ps->R vs {s with heap:=h',toks:=tk})->wpAny '&' A.in1 (collect (.ref x)) R E s) (nd:ps.Nodup) (h64:ps.length<=5000)
  (h:∀h' tk D e out,(∀b o,s.heap.get? b=some o->h'.get? b=some o)->s.heap.objs.size<=D->h'.get? D=some (seqObj "list" out.toArray e)->TU R0 out (sortU ps)->Q (.ref D) {s with heap:=h',toks:=tk}) :
  wpAny '&' A (call (.builtin "sorted") [.ref x]) Q E s:=by
 have fits:∀k,k<=5000->k<=sizeLine:=λk hk=>by rw [sizeLine_eq];lia
 refine call_function_entry kind_sorted plain_sorted entry_sorted (args_sorted1 _) ?_;unfold Builtin.«sorted»;refine qwb (m:=checkCount "sorted" 1 1 _) (qwp (qwb (hc _ _ λh' tk vs sz keep t=>?_)));have hl:=t.length;refine qwb (wpAny_newList ?_ (fits _ '!'));have hD:(h'.push (seqObj "list" vs.toArray 0)).get? h'.objs.size=some (seqObj "list" vs.toArray 0):=Heap.get?_push_size _ rfl;have t':Tq (h'.push (seqObj "list" vs.toArray 0)) vs ps:=t.imp λv p x=>(hR v p x).kept λb o _ e=>qps _ (keep b o e);refine qwb (wpAny_holding (wpAny_call_entry slot_list_sort ⟨_,hD,rfl⟩ entry_list_sort (zuf (s:={s with heap:=h'.push (seqObj "list" vs.toArray 0),toks:=tk}) hD t' t nd h64 λout to=>⟨_,rfl,?_⟩) (args_list_sort _)));refine qwp ⟨_,rfl,?_⟩;obtain ⟨c,hc2⟩:=sortedHeap_at (out:=out.toArray) hD;refine h _ tk h'.objs.size c out (λb o e=>?_) sz hc2 to;have lb:=Heap.lt_size (keep b o e);rw [sortedHeap_old (Nat.ne_of_lt lb) (by rw [size_push'];exact Nat.lt_succ_of_lt lb)];exact qps _ (keep b o e)
theorem sorted_us_list (hR:∀v p,R0 v p->IsU s.heap v p) (hl:s.heap.IsList x vs.toArray) (t:TU R0 vs ps) (nd:ps.Nodup) (h64:ps.length<=5000)
  (h:∀h' tk D e out,(∀b o,s.heap.get? b=some o->h'.get? b=some o)->s.heap.objs.size<=D->h'.get? D=some (seqObj "list" out.toArray e)->TU R0 out (sortU ps)->Q (.ref D) {s with heap:=h',toks:=tk}) :
  wpAny '&' A (call (.builtin "sorted") [.ref x]) Q E s:=by
 refine zug hR (λE R hQ=>collect_list hl ?_ (by rw [t.length,sizeLine_eq];lia)) nd h64 h;refine hQ _ s.toks vs (by rw [Heap.size_update,size_push'];exact Nat.le_succ _) (λb o e=>?_) t;have hb:=Nat.ne_of_lt (Heap.lt_size e);exact (Heap.get?_update_other _ _ (Ne.symm hb)).trans (qps _ e)
end
end SP
namespace L2
open PySem PySem.Spec PyProof.Rows
abbrev Key:=Sum Int Str
noncomputable def ze9:Key->Value->Bool
 | .inl k,v=>Value.isInt k v
 | .inr x,v=>Value.isStrOf x v
noncomputable def zuh (w:World):Key->Int
 | .inl k=>hashInt k
 | .inr x=>hashStr w x
theorem zdk:∀{k:Key}{v:Value},ze9 k v=true->(∃i t,k=Sum.inl i/\v=Value.int i t)\/(∃x t,k=Sum.inr x/\v=Value.str x t)
 | .inl i,v,h=>by obtain ⟨t,e⟩:=Value.isInt_shape (k:=i) (v:=v) h;exact .inl ⟨i,t,rfl,e⟩
 | .inr x,v,h=>by obtain ⟨t,e⟩:=Value.isStrOf_shape (x:=x) (v:=v) h;exact .inr ⟨x,t,rfl,e⟩
theorem zui (i:Int) (t:Tok):ze9 (.inl i) (.int i t)=true:=by simp [ze9,Value.isInt]
theorem zuj (x:Str) (t:Tok):ze9 (.inr x) (.str x t)=true:=by simp [ze9,Value.isStrOf]
theorem zuk (a b:Int):decide ((Sum.inl a:Key)=Sum.inl b)=(a==b):=by
 by_cases e:a=b
 ·subst e;simp
 ·have h:¬(Sum.inl a:Key)=Sum.inl b:=λq=>e (Sum.inl.inj q);rw [decide_eq_false h];exact (beq_eq_false_iff_ne.mpr e).symm
theorem zul (a b:Str):decide ((Sum.inr a:Key)=Sum.inr b)=decide (a=b):=by
 by_cases e:a=b
 ·subst e;simp
 ·have h:¬(Sum.inr a:Key)=Sum.inr b:=λq=>e (Sum.inr.inj q);rw [decide_eq_false h,decide_eq_false e]
theorem zum (a:Int) (b:Str):decide ((Sum.inl a:Key)=Sum.inr b)=false:=decide_eq_false (λq=>nomatch q)
theorem zun (a:Str) (b:Int):decide ((Sum.inr a:Key)=Sum.inl b)=false:=decide_eq_false (λq=>nomatch q)
noncomputable def zby (prog:Program) (w:World):PySem.KeyKind prog w Key where
 is:=ze9
 hash:=zuh w
 inj:=λv a b ha hb=>by
  rcases zdk ha with ⟨i,t,rfl,rfl⟩|⟨x,t,rfl,rfl⟩
  ·rcases zdk hb with ⟨j,u,rfl,e⟩|⟨y,u,rfl,e⟩
   ·injection e with e1 _;rw [e1]
   ·exact nomatch e
  ·rcases zdk hb with ⟨j,u,rfl,e⟩|⟨y,u,rfl,e⟩
   ·exact nomatch e
   ·injection e with e1 _;rw [e1]
 byValue:=λk v h=>by rcases zdk h with ⟨i,t,rfl,rfl⟩|⟨x,t,rfl,rfl⟩<;>rfl
 pyHash:=λhv h=>by
  rcases zdk hv with ⟨i,t,rfl,rfl⟩|⟨x,t,rfl,rfl⟩
  ·exact wpAny_pyHash_int h
  ·exact wpAny_pyHash_str h
 eqBool:=λhu hv h=>by
  rcases zdk hu with ⟨i,t,rfl,rfl⟩|⟨x,t,rfl,rfl⟩
  ·rcases zdk hv with ⟨j,u,rfl,rfl⟩|⟨y,u,rfl,rfl⟩
   ·rw [zuk] at h;exact wpAny_eqBool_int h
   ·rw [zum] at h;exact SeqAt.EqAt.int_str i t y u _ _ _ _ h
  ·rcases zdk hv with ⟨j,u,rfl,rfl⟩|⟨y,u,rfl,rfl⟩
   ·rw [zun] at h;exact SeqAt.EqAt.str_int x t j u _ _ _ _ h
   ·rw [zul] at h;exact wpAny_eqBool_str h
 «strs»:=λk x t v h=>by
  rcases zdk h with ⟨i,u,rfl,e⟩|⟨y,u,rfl,e⟩
  ·exact nomatch e
  ·injection e with e1 _
   subst e1;cases v<;>rfl
theorem zuo (prog:Program) (w:World) (i:Int) (t:Tok):(zby prog w).is (.inl i) (.int i t)=true:=zui i t
theorem zup (prog:Program) (w:World) (x:Str) (t:Tok):(zby prog w).is (.inr x) (.str x t)=true:=zuj x t
inductive V where
 |non|bl (b:Bool)|int (i:Int)|str (x:Str)|byt (b:Array UInt8)|flt (b:UInt64)|ref (a:Addr)|ty (n:String)
 deriving DecidableEq
def RelV:V->Value->Prop
 | .non,u=>u=Value.none
 | .bl b,u=>u=Value.bool b
 | .int i,u=>∃t,u=Value.int i t
 | .str x,u=>∃t,u=Value.str x t
 | .byt b,u=>∃t,u=Value.bytes b t
 | .flt b,u=>∃t,u=Value.float b t
 | .ref a,u=>u=Value.ref a
 | .ty n,u=>u=Value.type n
abbrev Vals:List V->List Value->Prop:=Paired RelV
theorem Vals.length {xs:List V}{us:List Value}(r:Vals xs us):xs.length=us.length:=Paired.length r
theorem Vals.get:∀{xs:List V}{us:List Value}{i:Nat}{x:V},Vals xs us->xs[i]?=some x->∃u,us[i]?=some u/\RelV x u
 |_,_,_,_,.nil,e=>by simp at e
 |_,_,0,_,.cons r _,e=>by simp at e;subst e;exact ⟨_,rfl,r⟩
 |_,_,i+1,x,.cons _ t,e=>by obtain ⟨u,h1,h2⟩:=Vals.get (i:=i) (x:=x) t (by simpa using e);exact ⟨u,by simpa using h1,h2⟩
theorem Vals.set {x:V}{u:Value}(r:RelV x u):∀{xs:List V}{us:List Value}(i:Nat),Vals xs us->Vals (xs.set i x) (us.set i u)
 |_,_,_,.nil=>.nil
 |_,_,0,.cons _ t=>.cons r t
 |_,_,i+1,.cons q t=>.cons q (Vals.set r i t)
theorem Vals.append:∀{xs ys:List V}{us ws:List Value},Vals xs us->Vals ys ws->Vals (xs++ys) (us++ws)
 |_,_,_,_,.nil,s=>s
 |_,_,_,_,.cons r t,s=>.cons r (Vals.append t s)
theorem Vals.take:∀{xs:List V}{us:List Value}(n:Nat),Vals xs us->Vals (xs.take n) (us.take n)
 |_,_,0,_=>.nil
 |_,_,_+1,.nil=>.nil
 |_,_,n+1,.cons r t=>.cons r (Vals.take n t)
theorem Vals.drop:∀{xs:List V}{us:List Value}(n:Nat),Vals xs us->Vals (xs.drop n) (us.drop n)
 |_,_,0,r=>r
 |_,_,_+1,.nil=>.nil
 |_,_,n+1,.cons _ t=>Vals.drop n t
def RelO:Option V->Option Value->Prop
 |some v,some u=>RelV v u
 |none,none=>True
 |_,_=>False
def KV {κ:Type}:List (κ×V)->List (κ×Value)->Prop:=Paired λ(p:κ×V) (q:κ×Value)=>p.1=q.1/\RelV p.2 q.2
noncomputable def kV:Key->V
 | .inl i=>.int i
 | .inr x=>.str x
inductive HO where
 |lst (xs:List V)
 |tup (xs:List V)
 |dK (kvs:List (Key×V))|dT (kvs:List (List Key×V))
 |set (S:Int->Bool) (n:Nat)
 |ins (C dx:Addr) (fs:List (Str×V))
 |own (x:Addr)
 |xd (fs:List (Str×V))
 |met (f x:Addr)
 |rng (lo hi:Int)
 |frz (o:Obj) (u:HO)
 |tbl (ps:Array Value)
 |ext (φ:Heap->Prop)
abbrev Hp:=Addr->Option HO
noncomputable def upd (H:Hp) (a:Addr) (o:HO):Hp:=λb=>if b=a then some o else H b
theorem zbo {H:Hp}{a:Addr}{o:HO}:upd H a o a=some o:=by unfold upd;rw [if_pos rfl]
theorem zaj {H:Hp}{a b:Addr}{o:HO}(h:b≠a):upd H a o b=H b:=by unfold upd;rw [if_neg h]
theorem zcs {H:Hp}{a b:Addr}{o u:HO}(h:H a=some o) (h':H b=some u) (d:o≠u):a≠b:=by intro e;subst e;rw [h] at h';exact d (qoi h')
theorem zay {H:Hp}{a b:Addr}{o:HO}(h:H a=some o) (h':H b=none):a≠b:=by intro e;subst e;rw [h] at h';cases h'
def IsTD (h:Heap) (a:Addr) (items:Array Value):Prop:=∃o,h.get? a=some o/\o.cls=.type "tuple"/\∃n,o.data=.seq items n/\o.dict=none
theorem IsTD.tup {h:Heap}{a:Addr}{items:Array Value}(x:IsTD h a items):IsTup h a items:=by obtain ⟨o,e,c,n,d,_⟩:=x;exact ⟨o,e,c,n,d⟩
theorem IsTD.new (h:Heap) (items:Array Value):IsTD (h.push {cls:=.type "tuple",data:=.seq items}) h.objs.size items:=⟨_,Heap.get?_push_size _ rfl,rfl,_,rfl,rfl⟩
section
variable (P:Program) (w:World)
def ObjOk (H:Hp) (h:Heap) (a:Addr):HO->Prop
 | .lst xs=>xs.length<=sizeLine/\∃(its:List Value) (n:Nat),Vals xs its/\h.get? a=some {cls:=.type "list",data:=.seq its.toArray n}
 | .tup xs=>xs.length<=sizeLine/\∃its:List Value,Vals xs its/\IsTD h a its.toArray
 | .dK kvs=>kvs.length<=sizeLine/\(a==sysModules)=false/\∃vs,KV kvs vs/\h.DictOf (zby P w) a vs
 | .dT kvs=>kvs.length<=sizeLine/\(a == sysModules)=false/\∃xs:List (List Key × Addr × Value),
   Paired (λ(p:List Key×V) (q:List Key×Addr×Value)=>p.1=q.1/\H q.2.1=some (.tup (p.1.map kV))/\RelV p.2 q.2.2) kvs xs /\
   ∃o es ep,h.get? a=some o/\o.ExactDict/\o.data=.dict es ep/\es.toList=xs.map (entryOfKey (tupleKind (zby P w)))/\(xs.map (·.1)).Nodup
 | .set S n=>h.SetOf (intKind P w) a S n
 | .ins C dx fs=>H dx=some (.own a)/\fs.length<=1000/\dx≠a/\h.get? a=some (PySem.W.instObj C dx) /\
   ∃mA,h.Ns1 dx mA/\(∀f,RelO (fs.lookup f) (mA f))/\PySem.Within mA (fs.map (·.1))
 | .own _=>∃o,h.get? a=some o
 | .xd fs=>∃mA,h.Ns1 a mA/\∀f,RelO (fs.lookup f) (mA f)
 | .rng lo hi=>∃t u v,h.get? a=some {cls:=.type "range",data:=.fields #[.int lo t,.int hi u,.int 1 v]}
 | .frz o u=>h.get? a=some o/\ObjOk H h a u
 | .tbl ps=>h.get? a=some {cls:=.none,data:=.fields ps}
 | .met f x=>h.get? a=some (PySem.W.methodObj (.ref f) (.ref x))
 | .ext φ=>φ h/\(∃o,h.get? a=some o)/\∀h1 h2:Heap,φ h1->(∀o,h1.get? a=some o->h2.get? a=some o)->φ h2
def HOk (H:Hp) (h:Heap):Prop:=∀a o,H a=some o->ObjOk P w H h a o
end
section
variable {P:Program}{w:World}{H H':Hp}{h h':Heap}{a:Addr}{o:HO}
theorem ObjOk.lt (x:ObjOk P w H h a o):a<h.objs.size:=by
 cases o with
 |lst xs=>obtain ⟨_,_,_,_,e⟩:=x;exact Heap.lt_size e
 |tup xs=>obtain ⟨_,_,_,p⟩:=x;exact p.tup.lt
 |dK kvs=>obtain ⟨_,_,_,_,o,_,_,e,_⟩:=x;exact Heap.lt_size e
 |dT kvs=>obtain ⟨_,_,_,_,o,_,_,e,_⟩:=x;exact Heap.lt_size e
 |set S n=>obtain ⟨o,_,_,_,e,_⟩:=x;exact Heap.lt_size e
 |ins C dx fs=>obtain ⟨_,_,_,e,_⟩:=x;exact Heap.lt_size e
 |own y=>obtain ⟨_,e⟩:=x;exact Heap.lt_size e
 |xd fs=>obtain ⟨_,⟨_,_,_,e,_⟩,_⟩:=x;exact Heap.lt_size e
 |rng lo hi=>obtain ⟨_,_,_,e⟩:=x;exact Heap.lt_size e
 |frz ob u=>obtain ⟨e,_⟩:=x;exact Heap.lt_size e
 |tbl ps=>exact Heap.lt_size (show h.get? a=some _ from x)
 |met f y=>exact Heap.lt_size (show h.get? a=some _ from x)
 |ext φ=>obtain ⟨_,⟨_,e⟩,_⟩:=x;exact Heap.lt_size e
theorem Paired.mapP {α β:Type}{F G:α->β->Prop}:∀{l₁:List α}{l₂:List β},Paired F l₁ l₂->(∀a b,F a b->G a b)->Paired G l₁ l₂
 |_,_,.nil,_=>.nil
 |_,_,.cons r t,f=>.cons (f _ _ r) (Paired.mapP t f)
theorem ObjOk.stay (x:ObjOk P w H h a o) (k:∀b u,(b=a\/H b=some (.own a))->h.get? b=some u->h'.get? b=some u)
  (ho:∀b,H b=some (.own a)->H' b=some (.own a)) (ht:∀b xs,H b=some (.tup xs)->H' b=some (.tup xs)):ObjOk P w H' h' a o:=by
 induction o with
 |lst xs=>obtain ⟨z,its,n,r,e⟩:=x;exact ⟨z,its,n,r,k _ _ (.inl rfl) e⟩
 |tup xs=>obtain ⟨z,its,r,ob,e,c⟩:=x;exact ⟨z,its,r,ob,k _ _ (.inl rfl) e,c⟩
 |dK kvs=>obtain ⟨z,y,vs,r,ob,es,ep,e,c⟩:=x;exact ⟨z,y,vs,r,ob,es,ep,k _ _ (.inl rfl) e,c⟩
 |dT kvs=>obtain ⟨z,y,xs,r,ob,es,ep,e,c⟩:=x;exact ⟨z,y,xs,Paired.mapP r λp q z=>⟨z.1,ht _ _ z.2.1,z.2.2⟩,ob,es,ep,k _ _ (.inl rfl) e,c⟩
 |set S n=>obtain ⟨ob,es,ep,t,e,c⟩:=x;exact ⟨ob,es,ep,t,k _ _ (.inl rfl) e,c⟩
 |ins C dx fs=>obtain ⟨d,z,ne,e,mA,⟨od,es,ep,e2,c⟩,r⟩:=x;exact ⟨ho _ d,z,ne,k _ _ (.inl rfl) e,mA,⟨od,es,ep,k _ _ (.inr d) e2,c⟩,r⟩
 |own y=>obtain ⟨ob,e⟩:=x;exact ⟨ob,k _ _ (.inl rfl) e⟩
 |xd fs=>obtain ⟨mA,⟨od,es,ep,e,c⟩,r⟩:=x;exact ⟨mA,⟨od,es,ep,k _ _ (.inl rfl) e,c⟩,r⟩
 |rng lo hi=>obtain ⟨t,u,v,e⟩:=x;exact ⟨t,u,v,k _ _ (.inl rfl) e⟩
 |frz ob u ih=>obtain ⟨e,q⟩:=x;exact ⟨k _ _ (.inl rfl) e,ih q⟩
 |tbl ps=>have e:h.get? a=some {cls:=.none,data:=.fields ps}:=x;show h'.get? a=some {cls:=.none,data:=.fields ps};exact k a _ (.inl rfl) e
 |met f y=>have e:h.get? a=some (PySem.W.methodObj (.ref f) (.ref y)):=x;show h'.get? a=some (PySem.W.methodObj (.ref f) (.ref y));exact k a _ (.inl rfl) e
 |ext φ=>obtain ⟨p,⟨o,e⟩,st⟩:=x;exact ⟨st _ _ p λo q=>k _ _ (.inl rfl) q,⟨o,k _ _ (.inl rfl) e⟩,st⟩
theorem HOk.lt (x:HOk P w H h) (e:H a=some o):a<h.objs.size:=(x a o e).lt
theorem HOk.fresh (x:HOk P w H h) (e:h.objs.size<=a):H a=none:=by
 cases q:H a with
 |none=>rfl
 |some u=>exact absurd (Nat.lt_of_lt_of_le (x.lt q) e) (Nat.lt_irrefl _)
theorem HOk.kept (x:HOk P w H h) (k:∀b u,h.get? b=some u->h'.get? b=some u):HOk P w H h':=λa o e=>
 (x a o e).stay (λb u _ q=>k b u q) (λ_ q=>q) λ_ _ q=>q
theorem HOk.laid (x:HOk P w H h) (k:∀b u,h.get? b=some u->h'.get? b=some u) (hp:h.objs.size<=a) (new:ObjOk P w (upd H a o) h' a o):HOk P w (upd H a o) h':=λb u e=>by
 have hn:=x.fresh hp;by_cases hb:b=a
 ·subst hb;rw [zbo] at e;cases e;exact new
 ·rw [zaj hb] at e;exact (x b u e).stay (λc v _ q=>k c v q) (λc q=>by rw [zaj (zay q hn)];exact q) λc xs q=>by rw [zaj (zay q hn)];exact q
end
def Rd (H:Hp) (a:Addr) (u:HO):Prop:=H a=some u\/∃o,H a=some (.frz o u)
theorem Rd.ok {P:Program}{w:World}{H:Hp}{h:Heap}{a:Addr}{u:HO}(r:Rd H a u) (x:HOk P w H h):ObjOk P w H h a u:=by
 rcases r with r|⟨o,r⟩
 ·exact x a u r
 ·obtain ⟨_,q⟩:=x a _ r;exact q
def Mut:Option HO->Prop
 |some (.lst _)=>True
 |some (.dK _)=>True
 |some (.dT _)=>True
 |some (.set _ _)=>True
 |some (.ins _ _ _)=>True
 |some (.ext _)=>True
 |_=>False
section
variable {P:Program}{w:World}{H:Hp}{h h':Heap}{x e:Addr}{o':HO}
theorem HOk.write (ok:HOk P w H h) (mu:Mut (H x)) (he:e=x\/H e=some (.own x)) (k:∀b u,b≠e->h.get? b=some u->h'.get? b=some u) (heo:∃u,h'.get? e=some u)
  (new:ObjOk P w (upd H x o') h' x o'):HOk P w (upd H x o') h':=λb u q=>by
 have nown:∀c y,H c=some (.own y)->c≠x:=λc y r z=>by subst z;rw [r] at mu;exact mu
 have ntup:∀c xs,H c=some (.tup xs)->c≠x:=λc xs r z=>by subst z;rw [r] at mu;exact mu
 by_cases hb:b=x
 ·subst hb;rw [zbo] at q;cases q;exact new
 ·rw [zaj hb] at q;by_cases hbe:b=e
  ·have q':H b=some (.own x):=by
    rcases he with z|z
    ·exact absurd (hbe.trans z) hb
    ·rw [hbe];exact z
   rw [q] at q';cases q';obtain ⟨v,hv⟩:=heo;exact ⟨v,by rw [hbe];exact hv⟩
  ·refine (ok b u q).stay (λc v hc r=>k c v ?_ r) (λc r=>by rw [zaj (nown c b r)];exact r) λc xs r=>(by rw [zaj (ntup c xs r)];exact r);rcases hc with rfl|hc
   ·exact hbe
   ·rintro rfl;rcases he with z|z
    ·exact nown c b hc z
    ·rw [hc] at z;cases z;exact hb rfl
end
structure Un (fs ex:List Addr) (H H':Hp) (h h':Heap):Prop where
 keep:∀b o,h.get? b=some o->H b=none->b∉fs->b∉ex->h'.get? b=some o
 slot:∀b o,h.get? b=some o->H b=none->b∈fs->b∉ex->∃sl,h'.get? b=some {o with slots:=sl}
 free:∀b o,h.get? b=some o->H b=none->b∉ex->H' b=none
 there:∀b o,h.get? b=some o->b∉ex->∃o',h'.get? b=some o'
 tups:∀b xs,H b=some (.tup xs)->H' b=some (.tup xs)
 frzs:∀b o u,H b=some (.frz o u)->H' b=some (.frz o u)
 tbls:∀b ps,H b=some (.tbl ps)->∃more,H' b=some (.tbl (ps++more))
section
variable {fs fs' ex ex':List Addr}{H H1 H2:Hp}{h h1 h2 h':Heap}{a x e:Addr}{o:HO}
theorem Un.any (u:Un fs ex H H1 h h1) {b:Addr}{ob:Obj}(q:h.get? b=some ob) (n:H b=none) (hx:b∉ex):∃sl,h1.get? b=some {ob with slots:=sl}:=by
 by_cases hb:b∈fs
 ·exact u.slot b ob q n hb hx
 ·exact ⟨ob.slots,u.keep b ob q n hb hx⟩
theorem Un.kept (k:∀b u,h.get? b=some u->h'.get? b=some u):Un fs ex H H h h' :=
 ⟨λb ob q _ _ _=>k b ob q,λb ob q _ _ _=>⟨ob.slots,k b ob q⟩,λ_ _ _ n _=>n,λb ob q _=>⟨ob,k b ob q⟩,λ_ _ q=>q,λ_ _ _ q=>q,λ_ ps q=>⟨#[],by rw [q];simp⟩⟩
theorem Un.refl:Un fs ex H H h h:=Un.kept λ_ _ q=>q
theorem Un.laid (k:∀b u,h.get? b=some u->h'.get? b=some u) (hp:h.objs.size<=a) (hn:H a=none):Un fs ex H (upd H a o) h h' where
 keep:=λb u q _ _ _=>k b u q
 slot:=λb u q _ _ _=>⟨u.slots,k b u q⟩
 free:=λb u q n _=>by rw [zaj (Nat.ne_of_lt (Nat.lt_of_lt_of_le (Heap.lt_size q) hp))];exact n
 there:=λb u q _=>⟨u,k b u q⟩
 tups:=λb xs q=>by rw [zaj (zay q hn)];exact q
 frzs:=λb u xs q=>by rw [zaj (zay q hn)];exact q
 tbls:=λb ps q=>⟨#[],by rw [zaj (zay q hn),q];simp⟩
theorem Un.write (mu:Mut (H x)) (he:e=x\/H e=some (.own x)) (k:∀b u,b≠e->h.get? b=some u->h'.get? b=some u) (heo:∃u,h'.get? e=some u):Un fs ex H (upd H x o) h h':=by
 have hx:∀b,H b=none->b≠x:=λb n z=>by subst z;rw [n] at mu;exact mu
 have hb:∀b,H b=none->b≠e:=λb n z=>by
  subst z;rcases he with r|r
  ·exact hx b n r
  ·rw [n] at r;cases r
 have hm:∀b u,H b=some u->¬Mut (some u)->b≠x:=λb u q nm z=>by subst z;rw [q] at mu;exact nm mu
 refine ⟨λb u q n _ _=>k b u (hb b n) q,λb u q n _ _=>⟨u.slots,k b u (hb b n) q⟩,λb u q n _=>by rw [zaj (hx b n)];exact n,λb u q _=>?_,
  λb xs q=>by rw [zaj (hm b _ q λz=>z)];exact q,λb u xs q=>by rw [zaj (hm b _ q λz=>z)];exact q,λb ps q=>⟨#[],by rw [zaj (hm b _ q λz=>z),q];simp⟩⟩
 by_cases hbe:b=e
 ·subst hbe;exact heo
 ·exact ⟨u,k b u hbe q⟩
end
noncomputable def trk (h:Heap) (H:Hp):List Addr:=(List.range h.objs.size).filter λa=>(H a).isSome
noncomputable def zdl (h:Heap) (H:Hp):Heap:=PySem.W.hideAll h (trk h H)
theorem zuq (h:Heap) (H:Hp):(zdl h H).objs.size=h.objs.size:=PySem.W.hideAll_size _ _
theorem zur {h:Heap}{H:Hp}{b:Addr}{o:Obj}(e:h.get? b=some o) (n:H b=none):(zdl h H).get? b=some o :=
 PySem.W.hideAll_get _ e λhm=>by have q:(H b).isSome=true:=(List.mem_filter.mp hm).2;rw [n] at q;simp at q
theorem zus {h:Heap}{H:Hp}{b:Addr}{o:Obj}(e:(zdl h H).get? b=some o):h.get? b=some o/\H b=none:=by
 have e':h.get? b=some o:=PySem.W.of_hideAll (trk h H) e;refine ⟨e',?_⟩;cases q:H b with
 |none=>rfl
 |some x=>have hm:b∈trk h H:=List.mem_filter.mpr ⟨List.mem_range.mpr (Heap.lt_size e'),by simp [q]⟩;have z:(zdl h H).get? b=none:=PySem.W.hideAll_none (trk h H) hm;rw [z] at e;cases e
noncomputable def zut (g h:Heap) (L:Addr):List (Addr×Obj):=(List.range h.objs.size).filterMap λa=>if a=L\/(g.get? a).isSome=true then none else (h.get? a).map λo=>(a,o)
noncomputable def rest (g h:Heap) (L d:Addr):List (Addr×Obj):=(zut g h L).filter λp=>decide (p.1≠d)
def BMd (mg:Str->Option Value) (h:Heap):Prop:=∃bm ob,mg "__builtins__" = some (.ref bm)/\bm≠builtinsNs/\h.get? bm=some ob/\ob.cls=.type "module"/\ob.dict=some builtinsNs/\ob.data=.plain
structure Mod (K:QFg) (mg:Str->Option Value) (base:Heap):Prop where
 kin:K.In base
 glob:base.Ns mainGlobals mg
 blt:∃mb,base.Ns builtinsNs mb/\∀x:Str,x≠"__name__"->mb x=bootBuiltins x
 nolimit:base.NoLimit
 bm:BMd mg base
structure Cx where
 prog:Program
 w:World
 K:QFg
 mg:Str->Option Value
 base:Heap
 A:Around
 N:List Str
 s₀:Shared
 H₀:Hp
 env:Env
 outer:List Env
 stack:List Env
 ex:List Addr
 fn:Str->Bool
 calm:Bool
 pn:List (Addr×Obj)
 xe:Value->Shared->Prop
noncomputable def frs (l:List Env):List Addr:=l.filterMap (·.frame)
noncomputable abbrev Cx.fs (X:Cx):List Addr:=frs X.outer
def Vis (sc:Scope) (x:Str):Prop:=sc.names.lookup x=some .local\/sc.names.lookup x=some .cell\/sc.names.lookup x=some .free
def Loc (sc:Scope) (x:Str):Prop:=sc.names.lookup x=some .local\/sc.names.lookup x=some .cell
def zuu (env:Env) (h:Heap) (m:Str->Option Value) (x:Str) (u:Value):Prop :=
 (env.kindOf x=some .local/\m x=some u)\/((env.kindOf x=some .cell\/env.kindOf x=some .free)/\∃c,env.cells.lookup x=some c/\h.IsCell c (some u))
structure Cx.Ok (X:Cx):Prop where
 mod:Mod X.K X.mg X.base
 kind:X.env.scope.kind=.function
 glob:X.env.globals=mainGlobals
 blt:X.env.builtins=builtinsNs
 above:X.s₀.heap.objs.size<=X.env.locals
 inj:∀x y c,X.env.cells.lookup x=some c->X.env.cells.lookup y=some c->x=y
 has:∀x,(X.env.kindOf x=some .cell\/X.env.kindOf x=some .free)->∃c,X.env.cells.lookup x=some c
 cab:∀x c,X.fn x=true->X.env.cells.lookup x=some c->X.s₀.heap.objs.size<=c
 hd:X.calm=true->X.A.handled=none
 frames:X.A.frames=some X.stack
 stk:X.stack=X.outer\/(X.stack=X.env::X.outer/\X.env.frame=some X.env.locals)
 exf:∀b∈X.ex,b≠X.env.locals/\∀x c,X.env.cells.lookup x=some c->c≠b
 bs:∀b o,X.base.get? b=some o->X.s₀.heap.get? b=some o/\X.H₀ b=none
 bsz:X.base.objs.size<=X.s₀.heap.objs.size
 noex:∀b o,X.base.get? b=some o->b∉X.ex
 exfs:∀b∈X.ex,b∉X.fs
 funs:X.s₀.heap.FunFrames X.base X.outer
 frf:∀b∈X.fs,X.H₀ b=none
structure Inv (X:Cx) (pins:List (Addr×Obj)) (σ:List (Option V)) (H:Hp) (s:Shared):Prop where
 ok:X.Ok
 os:s.os=X.s₀.os
 bare:AllBare s.gens
 base:Un X.fs X.ex X.H₀ H X.s₀.heap s.heap
 loc:∃m,s.heap.Ns X.env.locals m/\∀(i:Nat) (x:Str) (v:V),X.N[i]?=some x->σ[i]?=some (some v)->Vis X.env.scope x->∃u,RelV v u/\zuu X.env s.heap m x u
 cell:∀x c,X.env.cells.lookup x=some c->∃v,s.heap.IsCell c v
 free:H X.env.locals=none
 freeC:∀x c,X.env.cells.lookup x=some c->H c=none
 pin:∀p∈X.pn++pins,s.heap.get? p.1=some p.2/\H p.1=none/\p.1≠X.env.locals/\p.1∉X.fs/\∀v,p.2.data≠.cell v
 hok:HOk X.prog X.w H s.heap
 len:σ.length=X.N.length
section
variable {X:Cx}{pins:'('}{σ:List (Option V)}{H H':Hp}{s:Shared}{h':Heap}
theorem Cx.Ok.nofr (ok:X.Ok) {b:Addr}{o:Obj}(e:X.base.get? b=some o):b∉X.fs:=λhb=>by have:=(ok.funs.mem hb).1;rw [e] at this;cases this
theorem Inv.bs (I:'%'):∀b o,X.base.get? b=some o->s.heap.get? b=some o/\H b=none:=λb o e=>
 ⟨I.base.keep b o (I.ok.bs b o e).1 (I.ok.bs b o e).2 (I.ok.nofr e) (I.ok.noex b o e),I.base.free b o (I.ok.bs b o e).1 (I.ok.bs b o e).2 (I.ok.noex b o e)⟩
theorem Inv.bk (I:'%'):∀b o,X.base.get? b=some o->s.heap.get? b=some o:=λb o e=>(I.bs b o e).1
theorem Inv.mod (I:'%'):Mod X.K X.mg X.base:=I.ok.mod
theorem Inv.kIn (I:'%'):X.K.In s.heap:=I.ok.mod.kin.keeps I.bk
theorem Inv.lt (I:'%'):X.env.locals<s.heap.objs.size:=let ⟨_,hn,_⟩:=I.loc;hn.lt
theorem Inv.sz (I:'%'):X.s₀.heap.objs.size<=s.heap.objs.size:=Nat.le_trans I.ok.above (Nat.le_of_lt I.lt)
theorem Inv.nofs (I:'%') {a:Addr}(h:s.heap.objs.size<=a):a∉X.fs:=λhb=>by obtain ⟨_,o,ho,_⟩:=I.ok.funs.mem hb;exact absurd (Nat.lt_of_lt_of_le (Heap.lt_size ho) (Nat.le_trans I.sz h)) (Nat.lt_irrefl _)
theorem Inv.cne (I:'%'):∀x c,X.env.cells.lookup x=some c->c≠X.env.locals:=λx c e z=>by obtain ⟨v,o,ho,hd⟩:=I.cell x c e;obtain ⟨m,⟨o',es,ep,ho',hd',_⟩,_⟩:=I.loc;rw [z,ho'] at ho;cases ho;rw [hd'] at hd;cases hd
theorem Inv.funs (I:'%'):s.heap.FunFrames X.base X.outer:=by
 have all:∀(l:List Env),(∀b∈frs l,b∈X.fs)->X.s₀.heap.FunFrames X.base l->s.heap.FunFrames X.base l:=by
  intro l;induction l with
  |nil=>intro _ _;trivial
  |cons env r ih=>intro hs hl;obtain ⟨hk,⟨L,o,hf,hn,ho,hd⟩,hr⟩:=hl;have hL:L∈X.fs:=hs L (by unfold frs;rw [List.filterMap_cons,hf];exact List.mem_cons_self);obtain ⟨sl,e⟩:=I.base.slot L o ho (I.ok.frf L hL) hL λz=>I.ok.exfs L z hL;exact ⟨hk,⟨L,_,hf,hn,e,hd⟩,ih (λb hb=>hs b (by unfold frs;rw [List.filterMap_cons,hf];exact List.mem_cons_of_mem _ hb)) hr⟩
 exact all X.outer (λ_ hb=>hb) I.ok.funs
theorem Inv.stack (I:'%'):s.heap.FunFrames X.base X.stack:=by
 rcases I.ok.stk with e|⟨e,hf⟩
 ·rw [e];exact I.funs
 ·rw [e];obtain ⟨m,hn,_⟩:=I.loc;refine .cons (by rw [I.ok.kind];decide) hf hn ?_ I.funs;exact Heap.get?_none_of_le (Nat.le_trans I.ok.bsz I.ok.above)
theorem Inv.stkSub (I:'%'):∀b∈frs X.stack,b∈X.env.locals::X.fs:=λb hb=>by
 rcases I.ok.stk with e|⟨e,hf⟩
 ·rw [e] at hb;exact List.mem_cons_of_mem _ hb
 ·rw [e] at hb;unfold frs at hb;rw [List.filterMap_cons,hf] at hb;exact hb
theorem Inv.stkFree (I:'%'):∀b∈frs X.stack,H b=none:=λb hb=>by
 rcases List.mem_cons.mp (I.stkSub b hb) with e|hb
 ·rw [e];exact I.free
 ·obtain ⟨_,o,ho,_⟩:=I.ok.funs.mem hb;exact I.base.free b o ho (I.ok.frf b hb) λz=>I.ok.exfs b z hb
theorem Inv.step {g':Array GenState}{t':Nat}{d':Drawn}{ch:List Addr}(I:'%')
  (hch:∀b∈ch,(b∈X.ex\/X.s₀.heap.objs.size<=b)/\b≠X.env.locals/\(∀x c,X.env.cells.lookup x=some c->c≠b)/\∀p∈X.pn++pins,p.1≠b)
  (keep:∀b o,b≠X.env.locals->b∉X.fs->b∉ch->s.heap.get? b=some o->H b=none->h'.get? b=some o)
  (slot:∀b o,b≠X.env.locals->b∈X.fs->b∉ch->s.heap.get? b=some o->H b=none->∃sl,h'.get? b=some {o with slots:=sl}) (free:∀b o,b∉ch->s.heap.get? b=some o->H b=none->H' b=none)
  (there:∀b o,b∉ch->s.heap.get? b=some o->∃o',h'.get? b=some o')
  (tups:∀b xs,H b=some (.tup xs)->H' b=some (.tup xs)) (frzs:∀b o u,H b=some (.frz o u)->H' b=some (.frz o u)) (tbls:∀b ps,H b=some (.tbl ps)->∃more,H' b=some (.tbl (ps++more)))
  (ns:∀m,s.heap.Ns X.env.locals m->h'.Ns X.env.locals m) (hok:HOk X.prog X.w H' h') (hg:AllBare g') :
  Inv X pins σ H' {s with heap:=h',gens:=g',drawn:=d',toks:=t'}:=by
 have neL:∀b o,X.s₀.heap.get? b=some o->b≠X.env.locals:=λb o e=>Nat.ne_of_lt (Nat.lt_of_lt_of_le (Heap.lt_size e) I.ok.above);have neC:∀b o,X.s₀.heap.get? b=some o->b∉X.ex->b∉ch:=λb o e hx hb=>by
  rcases (hch b hb).1 with z|z
  ·exact hx z
  ·exact absurd (Nat.lt_of_lt_of_le (Heap.lt_size e) z) (Nat.lt_irrefl _)
 have cellK:∀x c,X.env.cells.lookup x=some c->∀v,s.heap.IsCell c v->h'.IsCell c v:=λx c e v hx1_=>by
  obtain ⟨o,ho,hd⟩:=hx1_;have nch:c∉ch:=λz=>(hch c z).2.2.1 x c e rfl;by_cases hc:c∈X.fs
  ·obtain ⟨sl,q⟩:=slot c o (I.cne x c e) hc nch ho (I.freeC x c e);exact ⟨_,q,hd⟩
  ·exact ⟨o,keep c o (I.cne x c e) hc nch ho (I.freeC x c e),hd⟩
 refine ⟨I.ok,I.os,hg,⟨λb o e n hb hx=>?_,λb o e n hb hx=>?_,λb o e n hx=>?_,λb o e hx=>?_,λb xs e=>tups b xs (I.base.tups b xs e),λb o xs e=>frzs b o xs (I.base.frzs b o xs e),λb ps e=>?_⟩,?_,λx c e=>?_,?_,λx c e=>?_,λp hp=>?_,hok,I.len⟩
 ·exact keep b o (neL b o e) hb (neC b o e hx) (I.base.keep b o e n hb hx) (I.base.free b o e n hx)
 ·obtain ⟨sl,e1⟩:=I.base.slot b o e n hb hx;obtain ⟨sl',e2⟩:=slot b _ (neL b o e) hb (neC b o e hx) e1 (I.base.free b o e n hx);exact ⟨sl',e2⟩
 ·obtain ⟨o',e1⟩:=I.base.there b o e hx;exact free b o' (neC b o e hx) e1 (I.base.free b o e n hx)
 ·obtain ⟨o',e1⟩:=I.base.there b o e hx;exact there b o' (neC b o e hx) e1
 ·obtain ⟨m1,e1⟩:=I.base.tbls b ps e;obtain ⟨m2,e2⟩:=tbls b _ e1;exact ⟨m1++m2,by rw [e2,Array.append_assoc]⟩
 ·obtain ⟨m,hn,hl⟩:=I.loc;refine ⟨m,ns m hn,λi x v e1 e2 e3=>?_⟩;obtain ⟨u,r,l⟩:=hl i x v e1 e2 e3;refine ⟨u,r,?_⟩;rcases l with l|⟨k,c,e,z⟩
  ·exact .inl l
  ·exact .inr ⟨k,c,e,cellK x c e _ z⟩
 ·obtain ⟨v,z⟩:=I.cell x c e;exact ⟨v,cellK x c e v z⟩
 ·obtain ⟨m,⟨o,_,_,ho,_⟩,_⟩:=I.loc;exact free _ o (λz=>(hch _ z).2.1 rfl) ho I.free
 ·obtain ⟨v,o,ho,hd⟩:=I.cell x c e;exact free c o (λz=>(hch c z).2.2.1 x c e rfl) ho (I.freeC x c e)
 ·obtain ⟨e,n,ne,nf,d⟩:=I.pin p hp;have nch:p.1∉ch:=λz=>(hch p.1 z).2.2.2 p hp rfl;exact ⟨keep p.1 p.2 ne nf nch e n,free p.1 p.2 nch e n,ne,nf,d⟩
theorem Inv.un {t':Nat}(I:'%') (u:Un X.fs [] H H' s.heap h') (hok:HOk X.prog X.w H' h'):Inv X pins σ H' {s with heap:=h',toks:=t'}:=by
 obtain ⟨m,⟨o,es,ep,ho,r⟩,_⟩:=id I.loc;obtain ⟨sl,hL⟩:=u.any ho I.free '*';exact I.step (g':=s.gens) (d':=s.drawn) (ch:=[]) (λ_ z=>nomatch z) (λb o _ hb _ e n=>u.keep b o e n hb '*') (λb o _ hb _ e n=>u.slot b o e n hb '*') (λb o _ e n=>u.free b o e n '*') (λb o _ e=>u.there b o e '*') u.tups u.frzs u.tbls (λm' hm=>by
  obtain ⟨o',es',ep',ho',r'⟩:=hm;rw [ho] at ho';cases ho';exact ⟨_,es',ep',hL,r'⟩) hok I.bare
theorem Inv.call {g':Array GenState}{t':Nat}{d':Drawn}{ch:List Addr}(I:'%') (u:Un (frs X.stack) ch H H' s.heap h') (hok:HOk X.prog X.w H' h') (hg:AllBare g')
  (hch:∀b∈ch,(b∈X.ex\/X.s₀.heap.objs.size<=b)/\b≠X.env.locals/\(∀x c,X.env.cells.lookup x=some c->c≠b)/\∀p∈X.pn++pins,p.1≠b) :
  Inv X pins σ H' {s with heap:=h',gens:=g',drawn:=d',toks:=t'}:=by
 obtain ⟨m,⟨o,es,ep,ho,r⟩,_⟩:=id I.loc;obtain ⟨sl,hL⟩:=u.any ho I.free λz=>(hch _ z).2.1 rfl;exact I.step (ch:=ch) hch (λb o hL hb hc e n=>u.keep b o e n (λz=>(List.mem_cons.mp (I.stkSub b z)).elim hL hb) hc) (λb o _ _ hc e n=>u.any e n hc) (λb o hc e n=>u.free b o e n hc) (λb o hc e=>u.there b o e hc) u.tups u.frzs u.tbls (λm' hm=>by
  obtain ⟨o',es',ep',ho',r'⟩:=hm;rw [ho] at ho';cases ho';exact ⟨_,es',ep',hL,r'⟩) hok hg
theorem Inv.turned {t':Nat}{it:Addr}(I:'%') (k:∀b o,b≠it->s.heap.get? b=some o->h'.get? b=some o) (hn:H it=none) (hL:it≠X.env.locals)
  (h1:it∈X.ex\/X.s₀.heap.objs.size<=it) (h2:∀x c,X.env.cells.lookup x=some c->c≠it) (h3:∀p∈X.pn++pins,p.1≠it):Inv X pins σ H {s with heap:=h',toks:=t'}:=by
 have nit:∀b u,H b=some u->b≠it:=λb u e z=>by rw [z,hn] at e;cases e
 refine I.step (g':=s.gens) (d':=s.drawn) (ch:=[it]) (λb hb=>?_) (λb o _ _ hc e _=>k b o (λz=>hc (by simp [z])) e) (λb o _ _ hc e _=>⟨o.slots,k b o (λz=>hc (by simp [z])) e⟩) (λ_ _ _ _ n=>n)
  (λb o hc e=>⟨o,k b o (λz=>hc (by simp [z])) e⟩) (λ_ _ e=>e) (λ_ _ _ e=>e) (λb ps e=>⟨#[],by rw [e];simp⟩) (λm hm=>?_) (λb u e=>?_) I.bare
 ·have e:b=it:=by simpa using hb
  subst e;exact ⟨h1,hL,h2,h3⟩
 ·obtain ⟨o,es,ep,ho,r⟩:=hm;exact ⟨o,es,ep,k _ o (Ne.symm hL) ho,r⟩
 ·refine (I.hok b u e).stay (λc v hc q=>k c v ?_ q) (λ_ q=>q) λ_ _ q=>q;rcases hc with z|z
  ·rw [z];exact nit b u e
  ·exact nit c _ z
theorem Inv.tok (I:'%') (t:Nat):Inv X pins σ H {s with toks:=t}:=I.un (h':=s.heap) (t':=t) Un.refl I.hok
theorem Inv.kept {t':Nat}(I:'%') (k:∀b u,s.heap.get? b=some u->h'.get? b=some u):Inv X pins σ H {s with heap:=h',toks:=t'}:=I.un (Un.kept k) (I.hok.kept k)
theorem Inv.laid {a:Addr}{o:HO}{t':Nat}(I:'%') (k:∀b u,s.heap.get? b=some u->h'.get? b=some u) (hp:s.heap.objs.size<=a) (new:ObjOk X.prog X.w (upd H a o) h' a o) :
  Inv X pins σ (upd H a o) {s with heap:=h',toks:=t'}:=I.un (Un.laid k hp (I.hok.fresh hp)) (I.hok.laid k hp new)
theorem Inv.write {x e:Addr}{o:HO}{t':Nat}(I:'%') (mu:Mut (H x)) (he:e=x\/H e=some (.own x)) (k:∀b u,b≠e->s.heap.get? b=some u->h'.get? b=some u) (heo:∃u,h'.get? e=some u)
  (new:ObjOk X.prog X.w (upd H x o) h' x o):Inv X pins σ (upd H x o) {s with heap:=h',toks:=t'}:=I.un (Un.write mu he k heo) (I.hok.write mu he k heo new)
theorem Inv.pins_of {pins':'('}(I:'%') (h:∀p∈pins',s.heap.get? p.1=some p.2/\H p.1=none/\p.1≠X.env.locals/\p.1∉X.fs/\∀v,p.2.data≠.cell v):Inv X pins' σ H s :=
 ⟨I.ok,I.os,I.bare,I.base,I.loc,I.cell,I.free,I.freeC,λp hp=>(List.mem_append.mp hp).elim (λz=>I.pin p (List.mem_append_left _ z)) (h p),I.hok,I.len⟩
theorem zj5 {N:List Str}(hN:N.Nodup) {i j:Nat}{x:Str}(a:N[i]?=some x) (b:N[j]?=some x):i=j:=by obtain ⟨h1,e1⟩:=qme a;obtain ⟨h2,e2⟩:=qme b;exact (List.getElem_inj hN).mp (e1.trans e2.symm)
theorem zj6 {M:Model}{A:Around}{E:Value->Shared->Prop}{i:Nat}{x:Str}{v:V}{u:Value}{Q:Unit->Shared->Prop}(I:'%') (hN:X.N.Nodup) (hi:X.N[i]?=some x) (hx:Loc X.env.scope x) (r:RelV v u)
  (h:∀s',Inv X pins (σ.set i (some v)) H s'->(∃a,Heap.SameBut a s.heap s'.heap/\(a=X.env.locals\/X.env.cells.lookup x=some a))->Q () s') (hf:X.fn x=true\/X.env.scope.names.lookup x=some .local:=by first|exact .inl rfl|exact .inr rfl|assumption):wpAny M A (storeName X.env x u) Q E s:=by
 obtain ⟨m,hn,hl⟩:=id I.loc;have hcls:(X.env.scope.kind == .class||(X.env.scope.kind == .module&&X.env.locals != X.env.globals))=false:=by rw [I.ok.kind];rfl
 have hiσ:i<σ.length:=by rw [I.len];exact (qme hi).1
 have cne:=I.cne;have tracked:∀{a:Addr} {h':Heap},(∃o,s.heap.get? a=some o/\H a=none)->Heap.SameBut a s.heap h'->HOk X.prog X.w H h':=λ{a h'} ha hs b ob e=>by
  obtain ⟨_,_,hfree⟩:=ha;refine (I.hok b ob e).stay (λc w' hc q=>(hs.2 c ?_).trans q) (λ_ q=>q) λ_ _ q=>q;rintro rfl;rcases hc with rfl|hc
  ·rw [hfree] at e;cases e
  ·rw [hfree] at hc;cases hc
 rcases hx with hk|hk
 ·refine wpAny_storeName_local hk hn (λh' hn' hs=>?_) hcls;obtain ⟨oL,_,_,hoL,_⟩:=id hn;refine h _ ⟨I.ok,I.os,I.bare,⟨λb o e n hb hx=>?_,λb o e n hb hx=>?_,I.base.free,λb o e hx=>?_,I.base.tups,I.base.frzs,I.base.tbls⟩,⟨_,hn',λj y v' e1 e2 e3=>?_⟩,λy c e=>?_,I.free,I.freeC,λp hp=>?_,tracked ⟨oL,hoL,I.free⟩ hs,by simpa using I.len⟩ ⟨_,hs,.inl rfl⟩
  ·exact (hs.2 b (Nat.ne_of_lt (Nat.lt_of_lt_of_le (Heap.lt_size e) I.ok.above))).trans (I.base.keep b o e n hb hx)
  ·obtain ⟨sl,e1⟩:=I.base.slot b o e n hb hx;exact ⟨sl,(hs.2 b (Nat.ne_of_lt (Nat.lt_of_lt_of_le (Heap.lt_size e) I.ok.above))).trans e1⟩
  ·obtain ⟨o',e1⟩:=I.base.there b o e hx;exact ⟨o',(hs.2 b (Nat.ne_of_lt (Nat.lt_of_lt_of_le (Heap.lt_size e) I.ok.above))).trans e1⟩
  ·by_cases hj:j=i
   ·subst hj;rw [hi] at e1;cases e1;rw [List.getElem?_set_self hiσ] at e2;cases e2;exact ⟨u,r,.inl ⟨hk,by simp⟩⟩
   ·rw [List.getElem?_set_ne (Ne.symm hj)] at e2;obtain ⟨u',r',q⟩:=hl j y v' e1 e2 e3;refine ⟨u',r',?_⟩;rcases q with ⟨k,e⟩|⟨k,c,e,z⟩
    ·refine .inl ⟨k,?_⟩;have:y≠x:=λe=>hj (zj5 hN e1 (e▸hi));simp [this,e]
    ·exact .inr ⟨k,c,e,z.sameBut hs (cne y c e)⟩
  ·obtain ⟨w',z⟩:=I.cell y c e;exact ⟨w',z.sameBut hs (cne y c e)⟩
  ·obtain ⟨e,n,ne,nf,d⟩:=I.pin p hp;exact ⟨(hs.2 p.1 ne).trans e,n,ne,nf,d⟩
 ·have hfn:X.fn x=true:=by
   rcases hf with z|z
   ·exact z
   ·rw [z] at hk;cases hk
  obtain ⟨c,hc⟩:=I.ok.has x (.inl hk);obtain ⟨w',z⟩:=I.cell x c hc;refine wpAny_storeName_cell I.ok.kind hk hc z (λh' hc' hs=>?_);obtain ⟨oc,hoc,hocd⟩:=id z;refine h {s with heap:=h'} ⟨I.ok,I.os,I.bare,⟨λb o e n hb hx=>?_,λb o e n hb hx=>?_,I.base.free,λb o e hx=>?_,I.base.tups,I.base.frzs,I.base.tbls⟩,⟨m,hn.sameBut hs (Ne.symm (cne x c hc)),λj y v' e1 e2 e3=>?_⟩,λy c' e=>?_,I.free,I.freeC,λp hp=>?_,tracked ⟨oc,hoc,I.freeC x c hc⟩ hs,by simpa using I.len⟩ ⟨c,hs,.inr hc⟩
  ·exact (hs.2 b (Nat.ne_of_lt (Nat.lt_of_lt_of_le (Heap.lt_size e) (I.ok.cab x c hfn hc)))).trans (I.base.keep b o e n hb hx)
  ·obtain ⟨sl,e1⟩:=I.base.slot b o e n hb hx;exact ⟨sl,(hs.2 b (Nat.ne_of_lt (Nat.lt_of_lt_of_le (Heap.lt_size e) (I.ok.cab x c hfn hc)))).trans e1⟩
  ·obtain ⟨o',e1⟩:=I.base.there b o e hx;exact ⟨o',(hs.2 b (Nat.ne_of_lt (Nat.lt_of_lt_of_le (Heap.lt_size e) (I.ok.cab x c hfn hc)))).trans e1⟩
  ·by_cases hj:j=i
   ·subst hj;rw [hi] at e1;cases e1;rw [List.getElem?_set_self hiσ] at e2;cases e2;exact ⟨u,r,.inr ⟨.inl hk,c,hc,hc'⟩⟩
   ·rw [List.getElem?_set_ne (Ne.symm hj)] at e2;obtain ⟨u',r',q⟩:=hl j y v' e1 e2 e3;refine ⟨u',r',?_⟩;rcases q with q|⟨k,c',e,z'⟩
    ·exact .inl q
    ·refine .inr ⟨k,c',e,z'.sameBut hs ?_⟩;rintro rfl;exact hj (zj5 hN e1 (I.ok.inj _ _ _ e hc▸hi))
  ·by_cases hcc:c'=c
   ·subst hcc;exact ⟨_,hc'⟩
   ·obtain ⟨w2,z2⟩:=I.cell y c' e;exact ⟨w2,z2.sameBut hs hcc⟩
  ·obtain ⟨e,n,ne,nf,d⟩:=I.pin p hp;refine ⟨(hs.2 p.1 ?_).trans e,n,ne,nf,d⟩;intro q;rw [q,hoc] at e;have q':oc=p.2:=qoi e;exact d w' (by rw [<-q'];exact hocd)
theorem zh6 {M:Model}{A:Around}{E:Value->Shared->Prop}{i:Nat}{x:Str}{v:V}{u:Value}{Q:Unit->Shared->Prop}(I:'%') (hN:X.N.Nodup) (hi:X.N[i]?=some x) (hx:Loc X.env.scope x) (r:RelV v u)
  (h:∀s',Inv X pins (σ.set i (some v)) H s'->Q () s') (hf:X.fn x=true\/X.env.scope.names.lookup x=some .local:=by first|exact .inl rfl|exact .inr rfl|assumption):wpAny M A (storeName X.env x u) Q E s :=
 zj6 I hN hi hx r (λs' I' _=>h s' I') hf
theorem Inv.call' {s':Shared}{ch:List Addr}(I:'%') (ho:s'.os=s.os) (u:Un (frs X.stack) ch H H' s.heap s'.heap) (hok:HOk X.prog X.w H' s'.heap) (hg:AllBare s'.gens)
  (hch:∀b∈ch,(b∈X.ex\/X.s₀.heap.objs.size<=b)/\b≠X.env.locals/\(∀x c,X.env.cells.lookup x=some c->c≠b)/\∀p∈X.pn++pins,p.1≠b):Inv X pins σ H' s':=by
 obtain ⟨h',g',d',t',o'⟩:=s';have e:o'=s.os:=ho;subst e;exact I.call (g':=g') (t':=t') (d':=d') u hok hg hch
end
abbrev XK:=Value->Option Addr->Hp->Prop
abbrev St:=List (Option V)
abbrev VK:=V->Hp->Prop
abbrev TE:=St->Hp->VK->Prop
abbrev TT:=St->Hp->(Bool->Hp->Prop)->Prop
abbrev TA:=St->Hp->(List V->Hp->Prop)->Prop
structure Ends where
 nx:St->Hp->Prop
 rt:VK
 bk:St->Hp->Prop:=λ_ _=>False
 ct:St->Hp->Prop:=λ_ _=>False
abbrev TS:=Ends->St->Hp->Prop
def EP (X:Cx) (pins:'(') (σ:St) (Q:VK) (u:Value) (s':Shared):Prop:=∃v H',Inv X pins σ H' s'/\RelV v u/\Q v H'
def TP (X:Cx) (pins:'(') (σ:St) (Q:Bool->Hp->Prop) (b:Bool) (s':Shared):Prop:=∃H',Inv X pins σ H' s'/\Q b H'
def AP (X:Cx) (pins:'(') (σ:St) (Q:List V->Hp->Prop) (us:List Value) (s':Shared):Prop:=∃vs H',Inv X pins σ H' s'/\Vals vs us/\Q vs H'
def SP (X:Cx) (pins:'(') (D:Ends) (f:Flow) (s':Shared):Prop :=
 match f with
 | .next=>∃σ' H',Inv X pins σ' H' s'/\D.nx σ' H'
 | .brk=>∃σ' H',Inv X pins σ' H' s'/\D.bk σ' H'
 | .cont=>∃σ' H',Inv X pins σ' H' s'/\D.ct σ' H'
 | .ret u=>∃v σ' H',Inv X pins σ' H' s'/\RelV v u/\D.rt v H'
def PE (X:Cx) (e:Expr) (t:TE):Prop :=
 ∀(pins:'(') (s:Shared) (σ:St) (H:Hp) (Q:VK),Inv X pins σ H s->t σ H Q->wpAny '#' X.A (eval e X.env) (EP X pins σ Q) X.xe s
def PT (X:Cx) (e:Expr) (t:TT):Prop :=
 ∀(pins:'(') (s:Shared) (σ:St) (H:Hp) (Q:Bool->Hp->Prop),Inv X pins σ H s->t σ H Q->wpAny '#' X.A (isTrue e X.env (eval e X.env)) (TP X pins σ Q) X.xe s
def PW (X:Cx) (e:Expr) (t:TT):Prop :=
 ∀(whole:Sem Value) (pins:'(') (s:Shared) (σ:St) (H:Hp) (Q:Bool->Hp->Prop),Inv X pins σ H s->t σ H Q->wpAny '#' X.A (isTrue e X.env whole) (TP X pins σ Q) X.xe s
theorem PW.pt {X:Cx}{e:Expr}{t:TT}(h:PW X e t):PT X e t:=h _
def PA (X:Cx) (es:List Expr) (t:TA):Prop :=
 ∀(pos:Pos) (pins:'(') (s:Shared) (σ:St) (H:Hp) (Q:List V->Hp->Prop),Inv X pins σ H s->t σ H Q->wpAny '#' X.A (spliced (backTo pos (starEach es X.env))) (AP X pins σ Q) X.xe s
def PS (X:Cx) (st:Stmt) (t:TS):Prop :=
 ∀(pins:'(') (s:Shared) (σ:St) (H:Hp) (D:Ends),Inv X pins σ H s->t D σ H->wpAny '#' X.A (exec st X.env) (SP X pins D) X.xe s
def PSs (X:Cx) (st:List Stmt) (t:TS):Prop :=
 ∀(pins:'(') (s:Shared) (σ:St) (H:Hp) (D:Ends),Inv X pins σ H s->t D σ H->wpAny '#' X.A (execs st X.env) (SP X pins D) X.xe s
theorem thn {α:Type}{t:Sem α}{Q Q':α->Shared->Prop}{M:Model}{A:Around}{E:Value->Shared->Prop}{s:Shared}(h:wpAny M A t Q E s) (hQ:∀a s,Q a s->Q' a s):wpAny M A t Q' E s:=wpAny_mono h hQ λ_ _ x=>x
section
variable {X:Cx}
def zuv (i:Nat):TE:=λσ H Q=>∃v,σ[i]?=some (some v)/\Q v H
def tC (v:V):TE:=λ_ H Q=>Q v H
theorem zuw {i:Nat}{x:Str}{pos:Pos}(hN:X.N[i]?=some x) (hv:Vis X.env.scope x) (hd:(x==("__debug__":Str))=false:=by decide) (hcd:(x==("__classdict__":Str))=false:=by decide):PE X (.Name x pos) (zuv i):=by
 intro pins s σ H Q I h;obtain ⟨v,e,h⟩:=h;obtain ⟨m,hn,hl⟩:=I.loc;obtain ⟨u,r,l⟩:=hl i x v hN e hv;have fin:EP X pins σ Q u s:=⟨v,H,I,r,h⟩;rcases l with ⟨hk,hm⟩|⟨hk,c,hc,hcell⟩
 ·exact wpAny_Name (wpAny_loadName_local I.ok.kind hk hn hm fin) hd
 ·rcases hk with hk|hk
  ·exact wpAny_Name (wpAny_loadName_cell I.ok.kind hk hc hcell fin) hd
  ·exact wpAny_Name (wpAny_loadName_free I.ok.kind hk hc hcell fin hcd) hd
theorem zux {i j pos}:PE X (.Constant (.int i) j pos) (tC (.int i)):=λ_ _ _ H _ I h=>wpAny_Constant_int ⟨.int i,H,I.tok _,⟨_,rfl⟩,h⟩
theorem zuy {b j pos}:PE X (.Constant (.bool b) j pos) (tC (.bl b)):=λ_ _ _ H _ I h=>Constant_bool ⟨.bl b,H,I,rfl,h⟩
theorem zuz {j pos}:PE X (.Constant .none j pos) (tC .non):=λ_ _ _ H _ I h=>Constant_none ⟨.non,H,I,rfl,h⟩
theorem zu0 {x j pos}:PE X (.Constant (.str x) j pos) (tC (.str x)):=λ_ _ _ H _ I h=>Calls.Constant_str ⟨.str x,H,I.tok _,⟨_,rfl⟩,h⟩
def Gl (X:Cx) (x:Str):Prop:=X.env.kindOf x=some .globalImplicit
theorem zgd {E:Value->Shared->Prop}{pins:'('}{s:Shared}{σ:St}{H:Hp}{x:Str}{u:Value}{pos:Pos}{Q:Value->Shared->Prop}(I:'%') (hg:Gl X x) (hm:X.mg x=some u) (h:Q u s)
  (hd:(x==("__debug__":Str))=false:=by decide):wpAny '#' X.A (eval (.Name x pos) X.env) Q E s :=
 Calls.Name_function_global I.ok.kind hg (Calls.loadGlobal_global (by rw [I.ok.glob];exact I.mod.glob.keeps I.bk) hm h) hd
theorem zdm {E:Value->Shared->Prop}{pins:'('}{s:Shared}{σ:St}{H:Hp}{x:Str}{u:Value}{pos:Pos}{Q:Value->Shared->Prop}(I:'%') (hg:Gl X x) (hm:X.mg x=none) (hv:bootBuiltins x=some u) (h:Q u s)
  (hn:x≠"__name__":=by decide) (hd:(x==("__debug__":Str))=false:=by decide):wpAny '#' X.A (eval (.Name x pos) X.env) Q E s:=by
 obtain ⟨mb,h1,h2⟩:=I.mod.blt;exact Calls.Name_function_global I.ok.kind hg (Calls.loadGlobal_builtin (by rw [I.ok.glob];exact I.mod.glob.keeps I.bk) hm (by rw [I.ok.blt];exact h1.keeps I.bk) ((h2 x hn).trans hv) h) hd
theorem zu1 {x:Str}{v:V}{u:Value}{pos:Pos}(hg:Gl X x) (hm:X.mg x=some u) (r:RelV v u) (hd:(x==("__debug__":Str))=false:=by decide):PE X (.Name x pos) (tC v) :=
 λ_ _ _ H _ I h=>zgd I hg hm ⟨v,H,I,r,h⟩ hd
theorem znc {x:Str}{v:V}{u:Value}{pos:Pos}(hg:Gl X x) (hm:X.mg x=none) (hv:bootBuiltins x=some u) (r:RelV v u) (hn:x≠"__name__":=by decide) (hd:(x==("__debug__":Str))=false:=by decide):PE X (.Name x pos) (tC v) :=
 λ_ _ _ H _ I h=>zdm I hg hm hv ⟨v,H,I,r,h⟩ hn hd
variable {a b:Expr}{ta tb:TE}{pos:Pos}
def tB (t:TE):TT:=λσ H Q=>t σ H λx H1=>∃c,x=.bl c/\Q c H1
theorem zu2 {e:Expr}{t:TE}(h:PE X e t) (he:∀whole,isTrue e X.env whole=(do let v <-whole;standAt e.pos;holding [v] (truthy v)):=by intro _;rfl):PT X e (tB t):=by intro pins s σ H Q I hw;refine isTrue_plain (thn (h pins s σ H _ I hw) λv s1 ⟨x,H1,I1,r1,q1⟩=>?_) (he _);obtain ⟨d,rfl,q⟩:=q1;cases r1;exact wpAny_truthy_bool ⟨H1,I1,q⟩
variable {tA tB':TT}{rest:List Expr}
def tAnd (t u:TT):TT:=λσ H Q=>t σ H λc H1=>if c=true then u σ H1 Q else Q false H1
def tOr (t u:TT):TT:=λσ H Q=>t σ H λc H1=>if c=true then Q true H1 else u σ H1 Q
def zu3 (t:TT):TT:=λσ H Q=>t σ H λc H1=>Q (!c) H1
theorem zu4 (ha:PT X a tA):PW X (.BoolOp .And [a] pos) tA:=by
 intro wh pins s σ H Q I h;refine isTrue_and (thn (ha pins s σ H Q I h) λc s1 e=>?_);cases c with
 |true=>exact isTrue_and_nil e
 |false=>exact e
theorem zu5 (ha:PT X a tA):PW X (.BoolOp .Or [a] pos) tA:=by
 intro wh pins s σ H Q I h;refine isTrue_or (thn (ha pins s σ H Q I h) λc s1 e=>?_);cases c with
 |false=>exact isTrue_or_nil e
 |true=>exact e
theorem zu6 (ha:PT X a tA) (hb:PW X (.BoolOp .And (b::rest) pos) tB'):PW X (.BoolOp .And (a::b::rest) pos) (tAnd tA tB'):=by
 intro wh pins s σ H Q I h;refine isTrue_and (thn (ha pins s σ H _ I h) λc s1 ⟨H1,I1,q1⟩=>?_);cases c with
 |true=>exact hb wh pins s1 σ H1 Q I1 q1
 |false=>exact ⟨H1,I1,q1⟩
theorem zu7 (ha:PT X a tA) (hb:PW X (.BoolOp .Or (b::rest) pos) tB'):PW X (.BoolOp .Or (a::b::rest) pos) (tOr tA tB'):=by
 intro wh pins s σ H Q I h;refine isTrue_or (thn (ha pins s σ H _ I h) λc s1 ⟨H1,I1,q1⟩=>?_);cases c with
 |true=>exact ⟨H1,I1,q1⟩
 |false=>exact hb wh pins s1 σ H1 Q I1 q1
theorem zu8 (ha:PT X a tA):PT X (.UnaryOp .Not a pos) (zu3 tA):=by intro pins s σ H Q I h;exact isTrue_not (ha pins s σ H (λc H1=>Q (!c) H1) I h)
def zu9 (ta tb:TE):TE:=λσ H Q=>ta σ H λx H1=>∃c,x=.bl c/\if c=true then tb σ H1 Q else Q (.bl false) H1
theorem zva {op}{t:TE}(h:PE X a t):PE X (.BoolOp op [a] pos) t:=λpins s σ H Q I hw=>BoolOp_one (h pins s σ H Q I hw)
theorem zvb (ha:PE X a ta) (hb:PE X (.BoolOp .And (b::rest) pos) tb):PE X (.BoolOp .And (a::b::rest) pos) (zu9 ta tb):=by
 intro pins s σ H Q I h;refine BoolOp_and (thn (ha pins s σ H _ I h) λv s1 ⟨x,H1,I1,r1,q1⟩=>?_);obtain ⟨c,rfl,q1⟩:=q1;cases r1;refine wpAny_truthy_bool ?_;cases c with
 |true=>exact hb pins s1 σ H1 Q I1 q1
 |false=>exact ⟨.bl false,H1,I1,rfl,q1⟩
end
def SqL (K:QFg) (H:Hp) (a:Addr) (xs:List V):Prop :=
 Rd H a (.lst xs) \/
  ∃(o:Obj) (its:Array Value) (n:Nat),K.lookup a=some o/\o.cls=.type "list"/\o.dict=none/\o.data=.seq its n/\its.size<=sizeLine/\Vals xs its.toList
def SqT (K:QFg) (H:Hp) (a:Addr) (xs:List V):Prop :=
 Rd H a (.tup xs) \/
  ∃(o:Obj) (its:Array Value) (n:Nat),K.lookup a=some o/\o.cls=.type "tuple"/\o.data=.seq its n/\its.size<=sizeLine/\Vals xs its.toList
noncomputable def zvc:Value->Option V
 | .none=>some .non
 | .bool b=>some (.bl b)
 | .int i _=>some (.int i)
 | .str x _=>some (.str x)
 | .bytes b _=>some (.byt b)
 | .float b _=>some (.flt b)
 | .ref a=>some (.ref a)
 | .type n=>some (.ty n)
 |_=>none
theorem RelV.abs {x:V}{u:Value}(r:RelV x u):zvc u=some x:=by
 cases x with
 |non=>cases r;rfl
 |bl _=>cases r;rfl
 |int _=>obtain ⟨t,rfl⟩:=r;rfl
 |str _=>obtain ⟨t,rfl⟩:=r;rfl
 |byt _=>obtain ⟨t,rfl⟩:=r;rfl
 |flt _=>obtain ⟨t,rfl⟩:=r;rfl
 |ref _=>cases r;rfl
 |ty _=>cases r;rfl
theorem RelV.inj {x y:V}{u:Value}(r:RelV x u) (q:RelV y u):x=y:=qoi (r.abs.symm.trans q.abs)
theorem Vals.inj:∀{xs ys:List V}{us:List Value},Vals xs us->Vals ys us->xs=ys
 |_,_,_,.nil,.nil=>rfl
 |_,_,_,.cons r t,.cons r' t'=>by rw [r.inj r',Vals.inj t t']
section
variable {X:Cx}{pins:'('}{σ:St}{H:Hp}{s:Shared}{a:Addr}{xs ys:List V}
theorem SqT.of {K:QFg}(h:H a=some (.tup xs)):SqT K H a xs:=.inl (.inl h)
theorem Inv.list (I:'%') (h:SqL X.K H a xs):∃its:List Value,Vals xs its/\PlainL s.heap a its.toArray/\xs.length<=sizeLine:=by
 rcases h with h|⟨o,its,n,hk,hc,hd,hs,hz,r⟩
 ·obtain ⟨z,its,n,r,e⟩:=h.ok I.hok;exact ⟨its,r,⟨_,n,e,rfl,rfl,rfl⟩,z⟩
 ·refine ⟨its.toList,r,⟨o,n,I.kIn a o hk,hc,hd,by simpa using hs⟩,?_⟩;have e:=r.length;simp only [Array.length_toList] at e;omega
theorem Inv.tuple (I:'%') (h:SqT X.K H a xs):∃its:List Value,Vals xs its/\IsTup s.heap a its.toArray/\xs.length<=sizeLine:=by
 rcases h with h|⟨o,its,n,hk,hc,hs,hz,r⟩
 ·obtain ⟨z,its,r,p⟩:=h.ok I.hok;exact ⟨its,r,p.tup,z⟩
 ·refine ⟨its.toList,r,⟨o,I.kIn a o hk,hc,n,by simpa using hs⟩,?_⟩;have e:=r.length;simp only [Array.length_toList] at e;omega
theorem Inv.list_inj (I:'%') (h:SqL X.K H a xs) (h':SqL X.K H a ys):xs=ys:=by
 obtain ⟨its,r,⟨o,n,e,_,_,d⟩,_⟩:=I.list h;obtain ⟨its',r',⟨o',n',e',_,_,d'⟩,_⟩:=I.list h';rw [e] at e';cases e';rw [d] at d';injection d' with d1 _
 have:its=its':=by simpa using congrArg Array.toList d1
 subst this;exact r.inj r'
theorem Inv.tuple_inj (I:'%') (h:SqT X.K H a xs) (h':SqT X.K H a ys):xs=ys:=by
 obtain ⟨its,r,⟨o,e,_,n,d⟩,_⟩:=I.tuple h;obtain ⟨its',r',⟨o',e',_,n',d'⟩,_⟩:=I.tuple h';rw [e] at e';cases e';rw [d] at d';injection d' with d1 _
 have:its=its':=by simpa using congrArg Array.toList d1
 subst this;exact r.inj r'
end
noncomputable abbrev Cx.wish (X:Cx) (E:Value->Shared->Prop):Cx:={X with xe:=E}
noncomputable abbrev Cx.nox (X:Cx):Cx:=X.wish λ_ _=>False
theorem Cx.Ok.wish {X:Cx}(ok:X.Ok) (E:Value->Shared->Prop):(X.wish E).Ok :=
 ⟨ok.mod,ok.kind,ok.glob,ok.blt,ok.above,ok.inj,ok.has,ok.cab,ok.hd,ok.frames,ok.stk,ok.exf,ok.bs,ok.bsz,ok.noex,ok.exfs,ok.funs,ok.frf⟩
theorem Cx.Ok.unwish {X:Cx}{E:Value->Shared->Prop}(ok:(X.wish E).Ok):X.Ok :=
 ⟨ok.mod,ok.kind,ok.glob,ok.blt,ok.above,ok.inj,ok.has,ok.cab,ok.hd,ok.frames,ok.stk,ok.exf,ok.bs,ok.bsz,ok.noex,ok.exfs,ok.funs,ok.frf⟩
section
variable {X:Cx}{pins:'('}{σ:St}{H:Hp}{s:Shared}{E:Value->Shared->Prop}
theorem Inv.wish (I:'%') (E:Value->Shared->Prop):Inv (X.wish E) pins σ H s:=⟨I.ok.wish E,I.os,I.bare,I.base,I.loc,I.cell,I.free,I.freeC,I.pin,I.hok,I.len⟩
theorem Inv.unwish (I:Inv (X.wish E) pins σ H s):Inv X pins σ H s:=⟨I.ok.unwish,I.os,I.bare,I.base,I.loc,I.cell,I.free,I.freeC,I.pin,I.hok,I.len⟩
theorem SP.unwish {D:Ends}{f:Flow}{s':Shared}(h:SP (X.wish E) pins D f s'):SP X pins D f s':=by
 cases f with
 |next=>obtain ⟨σ',H',I,q⟩:=h;exact ⟨σ',H',I.unwish,q⟩
 |brk=>obtain ⟨σ',H',I,q⟩:=h;exact ⟨σ',H',I.unwish,q⟩
 |cont=>obtain ⟨σ',H',I,q⟩:=h;exact ⟨σ',H',I.unwish,q⟩
 |ret u=>obtain ⟨v,σ',H',I,r,q⟩:=h;exact ⟨v,σ',H',I.unwish,r,q⟩
theorem PSs.nox {st:List Stmt}{t:TS}(h:PSs X.nox st t):PSs X st t:=λpins s σ H D I hw=>
 wpAny_mono (h pins s σ H D (I.wish _) hw) (λ_ _ q=>q.unwish) λ_ _ z=>False.elim z
end
section
variable {X:Cx}{st:Stmt}{rest:List Stmt}{t u:TS}{e:Expr}{te:TE}{pos:Pos}
def zvd:TS:=λD σ H=>D.nx σ H
def zve (t u:TS):TS:=λD σ H=>t {D with nx:=u D} σ H
theorem zvf:PSs X [] zvd:=λ_ _ σ H _ I h=>wpAny_execs_nil ⟨σ,H,I,h⟩
theorem zj7 (h1:PS X st t) (h2:PSs X rest u):PSs X (st::rest) (zve t u):=by
 intro pins s σ H D I h;refine wpAny_execs_cons (thn (h1 pins s σ H {D with nx:=u D} I h) λf s1 q=>?_);cases f with
 |next=>obtain ⟨σ',H',I',q⟩:=q;exact h2 pins s1 σ' H' D I' q
 |ret v=>exact q
 |brk=>exact q
 |cont=>exact q
theorem zvg (h1:PS X st t):PSs X [st] t:=by
 intro pins s σ H D I h;refine wpAny_execs_cons (thn (h1 pins s σ H D I h) λf s1 q=>?_);cases f with
 |next=>exact wpAny_execs_nil q
 |ret v=>exact q
 |brk=>exact q
 |cont=>exact q
theorem Inv.quiet {pins:'('}{σ:St}{H:Hp}{s:Shared}(I:'%'):interactive X.env=false:=by simp [interactive,I.ok.kind]
def zvh (te:TE):TS:=λD σ H=>te σ H λ_ H1=>D.nx σ H1
theorem zvi (he:PE X e te) (hs:swapsWith e none pos.line X.env=pure false:=by rfl):PS X (.Expr e pos) (zvh te):=by intro pins s σ H D I h;exact wpAny_Expr_any (thn (he pins s σ H _ I h) λv s1 ⟨x,H1,I1,r1,q1⟩=>⟨σ,H1,I1,q1⟩) I.quiet hs
def zvj (te:TE):TS:=λD σ H=>te σ H D.rt
theorem zvk (he:PE X e te):PS X (.Return (some e) pos) (zvj te):=by intro pins s σ H D I h;exact wpAny_Return_some (thn (he pins s σ H _ I h) λv s1 ⟨x,H1,I1,r1,q1⟩=>⟨x,σ,H1,I1,r1,q1⟩)
def zvl (c:TT) (t u:TS):TS:=λD σ H=>c σ H λb H1=>if b=true then t D σ H1 else u D σ H1
theorem znd {c:Expr}{a b:List Stmt}{tc:TT}(hc:PT X c tc) (ha:PSs X a t) (hb:PSs X b u):PS X (.If c a b pos) (zvl tc t u):=by
 intro pins s σ H D I h;refine wpAny_If (thn (hc pins s σ H _ I h) λd s1 ⟨H1,I1,q1⟩=>?_);cases d with
 |true=>exact ha pins s1 σ H1 D I1 q1
 |false=>exact hb pins s1 σ H1 D I1 q1
def zvm:TS:=λ_ _ _=>False
theorem zvn:PS X st zvm:=λ_ _ _ _ _ _ h=>h.elim
end
abbrev TG:=V->St->Hp->(St->Hp->Prop)->Prop
abbrev TGs:=List V->St->Hp->(St->Hp->Prop)->Prop
def PG (X:Cx) (target:Expr) (t:TG):Prop :=
 ∀(pins:'(') (s:Shared) (σ:St) (H:Hp) (v:V) (u:Value) (Q:St->Hp->Prop),Inv X pins σ H s->RelV v u->t v σ H Q ->
  wpAny '#' X.A (assign target X.env u) (λ_ s'=>∃σ' H',Inv X pins σ' H' s'/\Q σ' H') X.xe s
def PGs (X:Cx) (ts:List Expr) (t:TGs):Prop :=
 ∀(pins:'(') (s:Shared) (σ:St) (H:Hp) (vs:List V) (us:List Value) (Q:St->Hp->Prop),Inv X pins σ H s->Vals vs us->t vs σ H Q ->
  wpAny '#' X.A (assignInOrder ((assignEach ts X.env).map (·.2)) us) (λ_ s'=>∃σ' H',Inv X pins σ' H' s'/\Q σ' H') X.xe s
abbrev TSet:=V->V->V->Hp->(Hp->Prop)->Prop
def zne (X:Cx) (t:TSet):Prop :=
 ∀(pins:'(') (s:Shared) (σ:St) (H:Hp) (o i v:V) (ov iv u:Value) (Q:Hp->Prop),Inv X pins σ H s->RelV o ov->RelV i iv->RelV v u->t o i v H Q ->
  wpAny '#' X.A (setItem ov iv u) (λ_ s'=>∃H',Inv X pins σ H' s'/\Q H') X.xe s
abbrev TIp:=V->V->Hp->VK->Prop
def PIp (X:Cx) (op:Operator) (t:TIp):Prop :=
 ∀(pins:'(') (s:Shared) (σ:St) (H:Hp) (x y:V) (v u:Value) (Q:VK),Inv X pins σ H s->RelV x v->RelV y u->t x y H Q ->
  wpAny '#' X.A (inplaceOp op v u) (EP X pins σ Q) X.xe s
section
variable {X:Cx}{pos:Pos}
def zh7 (i:Nat):TG:=λv σ H Q=>Q (σ.set i (some v)) H
theorem zvo {i:Nat}{x:Str}(hN:X.N.Nodup) (hi:X.N[i]?=some x) (hx:Loc X.env.scope x) (hf:X.fn x=true\/X.env.scope.names.lookup x=some .local:=by first|exact .inl rfl|exact .inr rfl|assumption):PG X (.Name x pos) (zh7 i):=by intro pins s σ H v u Q I r h;exact wpAny_assign_Name (zh6 I hN hi hx r (λs' I'=>⟨_,H,I',h⟩) hf)
def zvp:TGs:=λvs σ H Q=>vs=[]/\Q σ H
def zvq (t:TG) (u:TGs):TGs:=λvs σ H Q=>∃v r,vs=v::r/\t v σ H λσ' H'=>u r σ' H' Q
theorem zvr:PGs X [] zvp:=by intro pins s σ H vs us Q I r h;obtain ⟨e,h⟩:=h;subst e;cases r;exact assignInOrder_nil ⟨σ,H,I,h⟩
theorem zvs {e:Expr}{es:List Expr}{t:TG}{u:TGs}(h1:PG X e t) (h2:PGs X es u)
  (hs:(assignEach (e::es) X.env).map (·.2)=assign e X.env::(assignEach es X.env).map (·.2):=by rfl):PGs X (e::es) (zvq t u):=by
 intro pins s σ H vs us Q I r h;obtain ⟨v,vr,e1,h⟩:=h;subst e1;cases r with
 |cons r rr=>rw [hs];refine assignInOrder_cons (thn (h1 pins s σ H _ _ _ I r h) λ_ s1 ⟨σ1,H1,I1,q1⟩=>?_);exact h2 pins s1 σ1 H1 _ _ Q I1 rr q1
def zvt (K:QFg) (n:Nat) (t:TGs):TG:=λv σ H Q=>∃a xs,v=.ref a/\SqT K H a xs/\xs.length=n/\t xs σ H Q
theorem zvu {es:List Expr}{k:Nat}{t:TGs}{n:Nat}(hc:X.calm=true) (h:PGs X es t)
  (hn:(assignEach es X.env).length=n:=by rfl) (hst:(assignEach es X.env).findIdx? (·.1)=none:=by rfl):PG X (.Tuple es k pos) (zvt X.K n t):=by
 intro pins s σ H v u Q I r hw;obtain ⟨a,xs,e1,hq,hl,hw⟩:=hw;subst e1;cases r;obtain ⟨its,rv,ht,hz⟩:=I.tuple hq;refine assign_Tuple_tuple (I.ok.hd hc) ht (by simp [hn,<-hl,rv.length]) hst λh' hx=>?_;have I1:Inv X pins σ H {s with heap:=h'}:=I.kept (t':=s.toks) λb o e=>hx b o (Nat.ne_of_lt (Heap.lt_size e)) e;exact h pins _ σ H xs _ Q I1 (by simpa using rv) hw
def zvv (to ti:TE) (t:TSet):TG:=λv σ H Q=>to σ H λo H1=>ti σ H1 λi H2=>t o i v H2 λH3=>Q σ H3
theorem zvw {o i:Expr}{to ti:TE}{t:TSet}(ho:PE X o to) (hi:PE X i ti) (hs:zne X t)
  (ha:∀v,assign (.Subscript o i pos) X.env v=(do
   let ov <-holding [v] (eval o X.env)
   let iv <-holding [v,ov] (eval i X.env)
   standAt pos
   holding [v,ov,iv] (setItem ov iv v)
   release [v,ov,iv] []):=by intro _;rfl):PG X (.Subscript o i pos) (zvv to ti t):=by
 intro pins s σ H v u Q I r h;rw [ha];refine qwb (wpAny_holding (thn (ho pins s σ H _ I h) λov s1 ⟨x,H1,I1,r1,q1⟩=>?_));refine qwb (wpAny_holding (thn (hi pins s1 σ H1 _ I1 q1) λiv s2 ⟨y,H2,I2,r2,q2⟩=>?_));refine qwb (wpAny_standAt (qwb (wpAny_holding (thn (hs pins s2 σ H2 x y v ov iv u _ I2 r1 r2 r q2) λ_ s3 ⟨H3,I3,q3⟩=>?_))));exact wpAny_release ⟨σ,H3,I3,q3⟩
def zh8 (te:TE) (g:TG):TS:=λD σ H=>te σ H λx H1=>g x σ H1 D.nx
theorem zvx {tg e:Expr}{te:TE}{g:TG}(he:PE X e te) (hg:PG X tg g) (hs:swapsWithSole [tg] e pos.line X.env=pure false:=by rfl) (hw:swappedStores [tg] e X.env=pure none:=by rfl)
  (h1:(assignEach [tg] X.env).map (·.2)=[assign tg X.env]:=by rfl):PS X (.Assign [tg] e pos) (zh8 te g):=by
 intro pins s σ H D I h;refine wpAny_Assign_stores (thn (he pins s σ H _ I h) λv s1 ⟨x,H1,I1,r1,q1⟩=>?_) hs hw;rw [h1];exact thn (hg pins s1 σ H1 x v _ I1 r1 q1) λ_ s2 q=>q
theorem zvy {i:Nat}{x:Str}{e:Expr}{te:TE}{pos':Pos}(hN:X.N.Nodup) (hi:X.N[i]?=some x) (hx:Loc X.env.scope x) (he:PE X e te) (hs:swapsWith e (some (.Name x pos')) pos.line X.env=pure false:=by rfl) (hf:X.fn x=true\/X.env.scope.names.lookup x=some .local:=by first|exact .inl rfl|exact .inr rfl|assumption) :
  PS X (.Assign [.Name x pos'] e pos) (zh8 te (zh7 i)):=by
 intro pins s σ H D I h;refine wpAny_Assign_Name (thn (he pins s σ H _ I h) λv s1 ⟨y,H1,I1,r1,q1⟩=>?_) hs;exact zh6 I1 hN hi hx r1 (λs2 I2=>⟨_,H1,I2,q1⟩) hf
def zvz (i:Nat) (te:TE) (ti:TIp):TS:=λD σ H=>∃x,σ[i]?=some (some x)/\te σ H λy H1=>ti x y H1 λz H2=>D.nx (σ.set i (some z)) H2
theorem zv0 {i:Nat}{x:Str}{e:Expr}{te:TE}{op:Operator}{ti:TIp}{pos':Pos}(hN:X.N.Nodup) (hi:X.N[i]?=some x) (hx:Loc X.env.scope x) (he:PE X e te) (ho:PIp X op ti) (hf:X.fn x=true\/X.env.scope.names.lookup x=some .local:=by first|exact .inl rfl|exact .inr rfl|assumption) :
  PS X (.AugAssign (.Name x pos') op e pos) (zvz i te ti):=by
 intro pins s σ H D I h;obtain ⟨v,e1,h⟩:=h;obtain ⟨m,hn,hl⟩:=I.loc;have vis:Vis X.env.scope x:=by rcases hx with k|k;exact .inl k;exact .inr (.inl k)
 obtain ⟨u,r,l⟩:=hl i x v hi e1 vis;refine wpAny_AugAssign_Name ?_;have go:wpAny '#' X.A (eval e X.env) (λw s₂=>wpAny '#' X.A (inplaceOp op u w) (λr s₃=>wpAny '#' X.A (storeName X.env x r) (λ_=>SP X pins D .next) X.xe s₃) X.xe s₂) X.xe s:=by refine thn (he pins s σ H _ I h) λw s1 ⟨y,H1,I1,r1,q1⟩=>?_;refine thn (ho pins s1 σ H1 v y u w _ I1 r r1 q1) λz s2 ⟨zv,H2,I2,r2,q2⟩=>?_;exact zh6 I2 hN hi hx r2 (λs3 I3=>⟨_,H2,I3,q2⟩) hf
 rcases l with ⟨hk,hm⟩|⟨hk,c,hc,hcell⟩
 ·exact wpAny_loadName_local I.ok.kind hk hn hm go
 ·rcases hk with hk|hk
  ·exact wpAny_loadName_cell I.ok.kind hk hc hcell go
  ·rcases hx with k|k
   ·have:X.env.scope.names.lookup x=some .free:=hk;rw [k] at this;cases this
   ·have:X.env.scope.names.lookup x=some .free:=hk;rw [k] at this;cases this
end
section
variable {X:Cx}{pos:Pos}
def zv1 (c:TT) (tb:TS):TS:=λD σ H=>∃W:Nat->St->Hp->Prop,(∃m,W m σ H)/\∀m σ H,W m σ H ->
 c σ H λb H1=>if b=true then ∃N:St->Hp->Prop,(∀σ' H',N σ' H'->∃m',m'<m/\W m' σ' H')/\tb {D with nx:=N,ct:=N,bk:=D.nx} σ H1 else D.nx σ H1
theorem zv2 {c:Expr}{body:List Stmt}{tc:TT}{tb:TS}(hp:PassesOwn '#' X.A X.env X.xe) (hc:PT X c tc) (hb:PSs X body tb):PS X (.While c body [] pos) (zv1 tc tb):=by
 intro pins s σ H D I h;obtain ⟨W,⟨m0,w0⟩,turn⟩:=h;refine wpAny_While (codeAny_whileLoop (λn s'=>∃σ' H',Inv X pins σ' H' s'/\W n σ' H') ?_ m0 ⟨σ,H,I,w0⟩);rintro n s1 ⟨σ1,H1,I1,w1⟩;refine wpAny_passesOwn hp (thn (hc pins s1 σ1 H1 _ I1 (turn n σ1 H1 w1)) λb s2 ⟨H2,I2,q2⟩=>?_);cases b with
 |true=>
  obtain ⟨N,hN,q2⟩:=q2;rw [if_pos rfl];refine wpAny_passesOwn hp (thn (hb pins s2 σ1 H2 _ I2 q2) λf s3 q3=>?_);cases f with
  |next=>obtain ⟨σ3,H3,I3,n3⟩:=q3;obtain ⟨m',hm,w3⟩:=hN σ3 H3 n3;exact ⟨m',hm,σ3,H3,I3,w3⟩
  |cont=>obtain ⟨σ3,H3,I3,n3⟩:=q3;obtain ⟨m',hm,w3⟩:=hN σ3 H3 n3;exact ⟨m',hm,σ3,H3,I3,w3⟩
  |brk=>exact q3
  |ret v=>exact q3
 |false=>rw [if_neg Bool.false_ne_true];exact wpAny_execs_nil ⟨σ1,H2,I2,q2⟩
end
structure It where
 go:Nat->Hp->Prop
 yld:Nat->Hp->V->Hp->Prop
 stop:Nat->Hp->Prop
def zb5 (X:Cx) (pins:'(') (H:Hp) (b:Addr):Prop :=
 H b=none/\b≠X.env.locals/\b∉X.fs/\(b∈X.ex\/X.s₀.heap.objs.size<=b)/\(∀x c,X.env.cells.lookup x=some c->c≠b)/\∀p∈X.pn++pins,p.1≠b
theorem Inv.fpOk {X:Cx}{pins:'('}{σ:St}{H H':Hp}{s:Shared}{b:Addr}(I:'%') (hb:s.heap.objs.size<=b) (hn:H' b=none):zb5 X pins H' b:=by
 refine ⟨hn,Nat.ne_of_gt (Nat.lt_of_lt_of_le I.lt hb),I.nofs hb,.inr (Nat.le_trans I.sz hb),λx c e z=>?_,λp hp z=>?_⟩
 ·obtain ⟨v,q⟩:=I.cell x c e;exact absurd (Nat.lt_of_lt_of_le q.lt (by rw [z];exact hb)) (Nat.lt_irrefl _)
 ·exact absurd (Nat.lt_of_lt_of_le (Heap.lt_size (I.pin p hp).1) (by rw [z];exact hb)) (Nat.lt_irrefl _)
structure Turn (P:Program) (w:World) (K:QFg) (tg:Expr) (J:It) (fp:List Addr) (it:Addr) (tn:Nat->Heap->Prop):Prop where
 mem:it∈fp
 obj:∀i h,tn i h->∀b∈fp,∃o,h.get? b=some o/\∀v,o.data≠.cell v
 keep:∀i h h',tn i h->(∀b∈fp,∀o,h.get? b=some o->h'.get? b=some o)->tn i h'
 item:∀(X:Cx),X.prog=P->X.w=w->X.K=K->X.calm=true->∀(i:Nat) (pins:'(') (s:Shared) (σ:St) (H:Hp) (E:Value->Shared->Prop),Inv X pins σ H s->(∀b∈fp,zb5 X pins H b)->tn i s.heap->J.go i H ->
  wpAny (model P w) X.A (pyNext (.ref it)) (λr s1=>∃u,r=some u /\
   wpAny (model P w) X.A (letOwnedTupleGo tg (.ref it) u) (λ_ s2=>∃x H',Inv X pins σ H' s2/\RelV x u/\J.yld i H x H'/\tn (i+1) s2.heap/\∀b∈fp,H' b=none) E s1) E s
 done:∀(X:Cx),X.prog=P->X.w=w->X.K=K->X.calm=true->∀(i:Nat) (pins:'(') (s:Shared) (σ:St) (H:Hp) (E:Value->Shared->Prop),Inv X pins σ H s->(∀b∈fp,zb5 X pins H b)->tn i s.heap->J.stop i H ->
  wpAny (model P w) X.A (pyNext (.ref it)) (λr s1=>r=none/\Inv X pins σ H s1) E s
 self:∀(A:Around) (i:Nat) (s:Shared) (Q:Value->Shared->Prop) (E:Value->Shared->Prop),tn i s.heap->Q (.ref it) s->wpAny (model P w) A (pyIter (.ref it)) Q E s
abbrev TI:=St->Hp->(It->Hp->Prop)->Prop
def PIE (X:Cx) (pins:'(') (σ:St) (tg:Expr) (R:It->Hp->Prop) (itv:Value) (s2:Shared):Prop :=
 ∃(it:Addr) (fp:List Addr) (tn:Nat->Heap->Prop) (J:It) (H':Hp),itv=.ref it/\Inv X pins σ H' s2/\Turn X.prog X.w X.K tg J fp it tn/\tn 0 s2.heap/\(∀b∈fp,zb5 X pins H' b)/\R J H'
def PI (X:Cx) (tg iter:Expr) (wi:TI):Prop :=
 ∀(pins:'(') (s:Shared) (σ:St) (H:Hp) (R:It->Hp->Prop),Inv X pins σ H s->wi σ H R ->
  wpAny '#' X.A (eval iter X.env) (λv s1=>wpAny '#' X.A (pyIter v) (PIE X pins σ tg R) X.xe s1) X.xe s
theorem zj8 {M:Model}{A:Around}{E:Value->Shared->Prop}{s:Shared}{tg:Expr}{it:Addr}{u:Value}{o:Obj}{n:String}{vs:Array Value}{Q:Unit->Shared->Prop}(ho:s.heap.get? it=some o) (hc:o.cls=.type n) (hd:o.data=.fields vs)
  (hn:["enumerate","zip","dict_itemiterator","dict_reverseitemiterator","odict_iterator","itertools.zip_longest","itertools.pairwise"].contains n=false) (hQ:Q () s):wpAny M A (letOwnedTupleGo tg (.ref it) u) Q E s:=by
 unfold letOwnedTupleGo
 cases tg <;> first
  |exact qwp hQ
  | (cases u <;> first
    |exact qwp hQ
    | (refine qwb (wpAny_load ho ?_)
       rw [hc,hd];show wpAny M A (if (["enumerate","zip","dict_itemiterator","dict_reverseitemiterator","odict_iterator","itertools.zip_longest","itertools.pairwise"].contains n&&vs[0]? == some (rawInt _))=true then _ else _) Q E s;rw [if_neg (by intro h;rw [hn,Bool.false_and] at h;cases h)];exact qwp hQ))
noncomputable def Itl (K:QFg) (a:Addr):It :=
 ⟨λi H=>∃xs x,SqL K H a xs/\xs[i]?=some x,λi H x H'=>H'=H/\∀xs,SqL K H a xs->xs[i]?=some x,λi H=>∃xs,SqL K H a xs/\xs.length<=i⟩
noncomputable def Itt (K:QFg) (a:Addr):It :=
 ⟨λi H=>∃xs x,SqT K H a xs/\xs[i]?=some x,λi H x H'=>H'=H/\∀xs,SqT K H a xs->xs[i]?=some x,λi H=>∃xs,SqT K H a xs/\xs.length<=i⟩
noncomputable def Itr (lo:Int) (n:Nat):It:=⟨λi _=>i<n,λi H x H'=>H'=H/\x=.int (lo+i),λi _=>n<=i⟩
theorem zv3 {P:Program}{w:World}{K:QFg}{tg:Expr}(a it:Addr):Turn P w K tg (Itl K a) [it] it (λi h=>h.IsListIter it a i) where
 mem:=by simp
 obj:=λi h st b hb=>by
  have e:b=it:=by simpa using hb
  subst e;obtain ⟨o,e,c,d⟩:=st;exact ⟨o,e,λv z=>by rw [d] at z;cases z⟩
 keep:=λi h h' st k=>st.at λo e=>k it '*' o e
 item:=by intro X hP hw hK hc i pins s σ H E I hf st hg;subst hP hw hK;obtain ⟨xs,x,hq,hx⟩:=hg;obtain ⟨its,rv,p,hz⟩:=I.list hq;obtain ⟨u,hu,ru⟩:=rv.get hx;obtain ⟨f0,f1,f2,f3,f4,f5⟩:=hf it '*';refine wpAny_pyNext_list_item st p.isList (x:=u) (by simpa using hu) λh' st' sb=>?_;have I1:Inv X pins σ H {s with heap:=h'}:=I.turned (t':=s.toks) (λb o hb e=>(sb.2 b hb).trans e) f0 f1 f3 f4 f5;obtain ⟨o,e,c,d⟩:=id st';exact ⟨u,rfl,zj8 (s:={s with heap:=h'}) e c d '$' ⟨x,H,I1,ru,⟨rfl,λys hy=>by rw [I.list_inj hy hq];exact hx⟩,st',λb hb=>(hf b hb).1⟩⟩
 done:=by intro X hP hw hK hc i pins s σ H E I hf st hg;subst hP hw hK;obtain ⟨xs,hq,hx⟩:=hg;obtain ⟨its,rv,p,hz⟩:=I.list hq;obtain ⟨f0,f1,f2,f3,f4,f5⟩:=hf it '*';have hl:=rv.length;exact wpAny_pyNext_list_end (I.ok.hd hc) st p.isList (by simp;omega) λh' eb=>⟨rfl,I.turned (t':=s.toks) (λb o hb e=>eb b o hb e) f0 f1 f3 f4 f5⟩
 self:=λ_ _ _ _ _ st h=>wpAny_pyIter_listiter st h
theorem zv4 {P:Program}{w:World}{K:QFg}{tg:Expr}(a it:Addr):Turn P w K tg (Itt K a) [it] it (λi h=>h.IsTupleIter it a i) where
 mem:=by simp
 obj:=λi h st b hb=>by
  have e:b=it:=by simpa using hb
  subst e;obtain ⟨o,e,c,d⟩:=st;exact ⟨o,e,λv z=>by rw [d] at z;cases z⟩
 keep:=λi h h' st k=>st.at λo e=>k it '*' o e
 item:=by intro X hP hw hK hc i pins s σ H E I hf st hg;subst hP hw hK;obtain ⟨xs,x,hq,hx⟩:=hg;obtain ⟨its,rv,p,hz⟩:=I.tuple hq;obtain ⟨u,hu,ru⟩:=rv.get hx;obtain ⟨f0,f1,f2,f3,f4,f5⟩:=hf it '*';refine wpAny_pyNext_tuple_item st (show s.heap.IsTuple a its.toArray from p) (x:=u) (by simpa using hu) λh' st' sb=>?_;have I1:Inv X pins σ H {s with heap:=h'}:=I.turned (t':=s.toks) (λb o hb e=>(sb.2 b hb).trans e) f0 f1 f3 f4 f5;obtain ⟨o,e,c,d⟩:=id st';exact ⟨u,rfl,zj8 (s:={s with heap:=h'}) e c d '$' ⟨x,H,I1,ru,⟨rfl,λys hy=>by rw [I.tuple_inj hy hq];exact hx⟩,st',λb hb=>(hf b hb).1⟩⟩
 done:=by intro X hP hw hK hc i pins s σ H E I hf st hg;subst hP hw hK;obtain ⟨xs,hq,hx⟩:=hg;obtain ⟨its,rv,p,hz⟩:=I.tuple hq;obtain ⟨f0,f1,f2,f3,f4,f5⟩:=hf it '*';have hl:=rv.length;exact wpAny_pyNext_tuple_end (I.ok.hd hc) st (show s.heap.IsTuple a its.toArray from p) (by simp;omega) λh' eb=>⟨rfl,I.turned (t':=s.toks) (λb o hb e=>eb b o hb e) f0 f1 f3 f4 f5⟩
 self:=λ_ _ _ _ _ st h=>wpAny_pyIter_tupleiter st h
theorem zv5 {P:Program}{w:World}{K:QFg}{tg:Expr}(it:Addr) (lo:Int) (n:Nat):Turn P w K tg (Itr lo n) [it] it (λi h=>IsRangeIter h it (lo+(i:Nat)*1) ((n:Int)-(i:Nat)) 1) where
 mem:=by simp
 obj:=λi h st b hb=>by
  have e:b=it:=by simpa using hb
  subst e;exact ⟨_,st,λv z=>by
   have z':Data.fields _=Data.cell v:=z;cases z'⟩
 keep:=λi h h' st k=>k it '*' _ st
 item:=by intro X hP hw hK hc i pins s σ H E I hf st hg;subst hP hw hK;obtain ⟨f0,f1,f2,f3,f4,f5⟩:=hf it '*';have W:=Walks.range (prog:=X.prog) (w:=X.w) (I.ok.hd hc) it lo 1 n;refine W.item i s _ _ hg st λv h' tk hv st' kk=>?_;obtain ⟨t,rfl⟩:=hv;have I1:Inv X pins σ H {s with heap:=h',toks:=tk}:=I.turned (λb o hb e=>kk b o (by simpa using hb) e) f0 f1 f3 f4 f5;refine ⟨_,rfl,zj8 (s:={s with heap:=h',toks:=tk}) (n:="range_iterator") st' rfl rfl '$' ⟨.int (lo+i),H,I1,⟨t,?_⟩,⟨rfl,rfl⟩,st',λb hb=>(hf b hb).1⟩⟩;rw [Int.mul_one]
 done:=by intro X hP hw hK hc i pins s σ H E I hf st hg;subst hP hw hK;obtain ⟨f0,f1,f2,f3,f4,f5⟩:=hf it '*';exact wpAny_pyNext_range_end (I.ok.hd hc) st (by have:n<=i:=hg;omega) λh' eb=>⟨rfl,I.turned (t':=s.toks) (λb o hb e=>eb b o hb e) f0 f1 f3 f4 f5⟩
 self:=λ_ _ _ _ _ st h=>wpAny_pyIter_rangeiter st h
section
variable {X:Cx}{tg:Expr}
def zv6 (K:QFg) (tl:TE):TI:=λσ H R=>tl σ H λx H1=>∃a,x=.ref a/\(∃xs,SqL K H1 a xs)/\R (Itl K a) H1
def zv7 (K:QFg) (tl:TE):TI:=λσ H R=>tl σ H λx H1=>∃a,x=.ref a/\(∃xs,SqT K H1 a xs)/\R (Itt K a) H1
theorem znf {l:Expr}{tl:TE}(hl:PE X l tl):PI X tg l (zv6 X.K tl):=by
 intro pins s σ H R I h;refine thn (hl pins s σ H _ I h) λv s1 ⟨x,H1,I1,r1,q1⟩=>?_;obtain ⟨a,e,⟨xs,hq⟩,q⟩:=q1;subst e;cases r1;obtain ⟨its,rv,p,hz⟩:=I1.list hq;refine wpAny_pyIter_list p.isList ?_;refine ⟨s1.heap.objs.size,[s1.heap.objs.size],_,_,H1,rfl,I1.kept (t':=s1.toks) λb o e=>qps _ e,zv3 a _,⟨_,Heap.get?_push_size _ rfl,rfl,rfl⟩,λb hb=>?_,q⟩;have e:b=s1.heap.objs.size:=by simpa using hb
 subst e;exact I1.fpOk (qlr _) (I1.hok.fresh (qlr _))
theorem zng {l:Expr}{tl:TE}(hl:PE X l tl):PI X tg l (zv7 X.K tl):=by
 intro pins s σ H R I h;refine thn (hl pins s σ H _ I h) λv s1 ⟨x,H1,I1,r1,q1⟩=>?_;obtain ⟨a,e,⟨xs,hq⟩,q⟩:=q1;subst e;cases r1;obtain ⟨its,rv,p,hz⟩:=I1.tuple hq;refine wpAny_pyIter_tuple (show s1.heap.IsTuple a its.toArray from p) ?_;refine ⟨s1.heap.objs.size,[s1.heap.objs.size],_,_,H1,rfl,I1.kept (t':=s1.toks) λb o e=>qps _ e,zv4 a _,⟨_,Heap.get?_push_size _ rfl,rfl,rfl⟩,λb hb=>?_,q⟩;have e:b=s1.heap.objs.size:=by simpa using hb
 subst e;exact I1.fpOk (qlr _) (I1.hok.fresh (qlr _))
theorem znh {pins:'('}{σ:St}{H:Hp}{s:Shared}{R:It->Hp->Prop}{E:Value->Shared->Prop}{lo hi:Int}{t u v:Tok}{tk:Nat}(I:'%') (h1:-(2^62)<=lo) (h2:lo<2^62) (h3:-(2^62)<=hi) (h4:hi<2^62)
  (q:R (Itr lo (hi-lo).toNat) H):wpAny '#' X.A (pyIter (.ref s.heap.objs.size)) (PIE X pins σ tg R) E {s with heap:=s.heap.push {cls:=.type "range",data:=.fields #[.int lo t,.int hi u,.int 1 v]},toks:=tk}:=by
 refine wpAny_pyIter_range (IsRange.new ..) (small_one h1 h2 h3 h4) ?_;have I1:Inv X pins σ H {s with heap:=s.heap.push {cls:=.type "range",data:=.fields #[.int lo t,.int hi u,.int 1 v]},toks:=tk}:=I.kept λb o e=>qps _ e;refine ⟨(s.heap.push {cls:=.type "range",data:=.fields #[.int lo t,.int hi u,.int 1 v]}).objs.size,[(s.heap.push {cls:=.type "range",data:=.fields #[.int lo t,.int hi u,.int 1 v]}).objs.size],_,_,H,rfl,
  I1.kept (t':=tk) λb o e=>qps _ e,zv5 _ lo (hi-lo).toNat,?_,λb hb=>?_,q⟩
 ·have e1:lo+((0:Nat):Int)*1=lo:=by simp
  have e2:(((hi-lo).toNat:Nat):Int)-((0:Nat):Int)=Builtin.Range.rangeSize lo hi 1:=by rw [rangeSize_one];split<;>omega
  show IsRangeIter _ _ (lo+((0:Nat):Int)*1) ((((hi-lo).toNat:Nat):Int)-((0:Nat):Int)) 1;rw [e1,e2];exact Heap.get?_push_size _ rfl
 ·have e:b=(s.heap.push {cls:=.type "range",data:=.fields #[.int lo t,.int hi u,.int 1 v]}).objs.size:=by simpa using hb
  subst e;exact I1.fpOk (qlr _) (I1.hok.fresh (qlr _))
def zv8 (ta:TA):TI:=λσ H R=>ta σ H λvs H1=>∃j:Int,vs=[.int j]/\-(2^62)<=j/\j<2^62/\R (Itr 0 j.toNat) H1
def zv9 (ta:TA):TI:=λσ H R=>ta σ H λvs H1=>∃i j:Int,vs=[.int i,.int j]/\(-(2^62)<=i/\i<2^62/\-(2^62)<=j/\j<2^62)/\R (Itr i (j-i).toNat) H1
theorem zni {a:Expr}{ta:TA}{p pos:Pos}(hg:Gl X "range") (hm:X.mg "range" = none) (ha:PA X [a] ta) (hs:starEach [a] X.env=[(false,eval a X.env)]:=by rfl):PI X tg (.Call (.Name "range" p) [a] [] pos) (zv8 ta):=by
 intro pins s σ H R I h;refine Call_ (zdm I hg hm boot_range (PyProof.Rows.callWith_type1 (thn (ha pos pins s σ H _ I h) λus s1 ⟨vs,H1,I1,r1,q1⟩=>?_) hs rfl));obtain ⟨j,e,q1,q2,q⟩:=q1;subst e;cases r1 with
 |cons r rr=>cases rr;obtain ⟨t,rfl⟩:=r;exact call_range_1 (znh I1 (by omega) (by omega) q1 q2 (by simpa using q))
theorem znj {a b:Expr}{ta:TA}{p pos:Pos}(hg:Gl X "range") (hm:X.mg "range" = none) (ha:PA X [a,b] ta) (hs:starEach [a,b] X.env=[(false,eval a X.env),(false,eval b X.env)]:=by rfl) (hs2:starEach [b] X.env=[(false,eval b X.env)]:=by rfl) :
  PI X tg (.Call (.Name "range" p) [a,b] [] pos) (zv9 ta):=by
 intro pins s σ H R I h;refine Call_ (zdm I hg hm boot_range (PyProof.Rows.callWith_type1 (thn (ha pos pins s σ H _ I h) λus s1 ⟨vs,H1,I1,r1,q1⟩=>?_) (by rw [hs,hs2]) (by rw [hs2];rfl)));obtain ⟨i,j,e,⟨q1,q2,q3,q4⟩,q⟩:=q1;subst e;cases r1 with
 |cons r rr=>
  cases rr with
  |cons r' rr=>cases rr;obtain ⟨t,rfl⟩:=r;obtain ⟨t',rfl⟩:=r';exact call_range_2 (znh I1 q1 q2 q3 q4 q)
def zwa (wi:TI) (g:TG) (tb:TS):TS:=λD σ H=>wi σ H λJ H1=>∃W:Nat->Nat->St->Hp->Prop,(∃m,W 0 m σ H1)/\∀i m σ H,W i m σ H ->
 (J.stop i H/\D.nx σ H)\/(J.go i H/\∃N:St->Hp->Prop,(∀σ' H',N σ' H'->∃m',m'<m/\W (i+1) m' σ' H')/\∀x H',J.yld i H x H'->g x σ H' λσ2 H2=>tb {D with nx:=N,ct:=N,bk:=D.nx} σ2 H2)
noncomputable def zfa (fp:List Addr) (h:Heap):List (Addr×Obj):=fp.filterMap λb=>(h.get? b).map λo=>(b,o)
theorem zfb {fp:List Addr}{h:Heap}{b:Addr}{o:Obj}(hb:b∈fp) (e:h.get? b=some o):(b,o)∈zfa fp h:=List.mem_filterMap.mpr ⟨b,hb,by rw [e];rfl⟩
theorem zwb {fp:List Addr}{h:Heap}{p:Addr×Obj}(hp:p∈zfa fp h):p.1∈fp/\h.get? p.1=some p.2:=by
 obtain ⟨b,hb,e⟩:=List.mem_filterMap.mp hp;cases q:h.get? b with
 |none=>rw [q] at e;cases e
 |some o=>rw [q] at e;have e':(b,o)=p:=qoi e;subst e';exact ⟨hb,q⟩
theorem Inv.pinned {pins:'('}{σ:St}{H:Hp}{s:Shared}{fp:List Addr}(I:'%') (hf:∀b∈fp,zb5 X pins H b) (ho:∀b∈fp,∃o,s.heap.get? b=some o/\∀v,o.data≠.cell v):Inv X (pins++zfa fp s.heap) σ H s :=
 I.pins_of λp hp=>(List.mem_append.mp hp).elim (λz=>I.pin p (List.mem_append_right _ z)) λz=>by obtain ⟨hb,e⟩:=zwb z;obtain ⟨f0,f1,f2,_⟩:=hf p.1 hb;obtain ⟨o,e',d⟩:=ho p.1 hb;rw [e] at e';cases e';exact ⟨e,f0,f1,f2,d⟩
theorem Inv.unpinned {pins pl:'('}{σ:St}{H:Hp}{s:Shared}(I:Inv X (pins++pl) σ H s):Inv X pins σ H s:=I.pins_of λp hp=>I.pin p (List.mem_append_right _ (List.mem_append_left _ hp))
theorem zh9 {iter:Expr}{body:List Stmt}{wi:TI}{g:TG}{tb:TS}{pos:Pos}(hp:PassesOwn '#' X.A X.env X.xe) (hc:X.calm=true) (hi:PI X tg iter wi) (hg:PG X tg g) (hb:PSs X body tb)
  (hs:∀x,foldedSetIterable iter X.env x=pure x:=by intro _;rfl):PS X (.For tg iter body [] pos) (zwa wi g tb):=by
 intro pins s σ H D I h;refine wpAny_For (thn (hi pins s σ H _ I h) λv s1 h1=>thn h1 λitv s2 h2=>?_) hs;obtain ⟨it,fp,tn,J,H2,e,I2,T,st2,f2,W,⟨m0,w0⟩,turn⟩:=h2;subst e;have stat:∀{H':Hp},(∀b∈fp,H' b=none)->∀b∈fp,zb5 X pins H' b:=λhn b hb=>⟨hn b hb,(f2 b hb).2⟩;refine codeAny_forLoop_any (λn s'=>∃i σ' H',Inv X pins σ' H' s'/\tn i s'.heap/\(∀b∈fp,H' b=none)/\W i n σ' H') ?_ m0 ⟨0,σ,H2,I2,st2,λb hb=>(f2 b hb).1,w0⟩;rintro n s3 ⟨i,σ3,H3,I3,st3,fr3,w3⟩;rcases turn i n σ3 H3 w3 with ⟨stop,qn⟩|⟨go,N,hN,step⟩
 ·refine wpAny_passesOwn hp (thn (T.done X rfl rfl rfl hc i pins s3 σ3 H3 X.xe I3 (stat fr3) st3 stop) λr s4 ⟨hr,I4⟩=>?_);subst hr;exact wpAny_execs_nil ⟨σ3,H3,I4,qn⟩
 ·refine wpAny_passesOwn hp (thn (T.item X rfl rfl rfl hc i pins s3 σ3 H3 X.xe I3 (stat fr3) st3 go) λr s4 ⟨u,hr,h4⟩=>?_);subst hr;refine wpAny_passesOwn hp (thn h4 λ_ s5 ⟨x,H5,I5,r5,y5,st5,fr5⟩=>?_);have I5':=I5.pinned (stat fr5) (T.obj _ _ st5);refine wpAny_passesOwn hp (thn (hg _ s5 σ3 H5 x u _ I5' r5 (step x H5 y5)) λ_ s6 ⟨σ6,H6,I6,q6⟩=>?_);refine wpAny_passesOwn hp (thn (hb _ s6 σ6 H6 _ I6 q6) λf s7 q7=>?_);have again:∀{σ7:St} {H7:Hp},Inv X (pins++zfa fp s5.heap) σ7 H7 s7->N σ7 H7->∃m,m<n/\∃i σ' H',Inv X pins σ' H' s7/\tn i s7.heap/\(∀b∈fp,H' b=none)/\W i m σ' H':=λ{σ7 H7} I7 n7=>by obtain ⟨m',hm,w7⟩:=hN σ7 H7 n7;refine ⟨m',hm,i+1,σ7,H7,I7.unpinned,T.keep _ _ _ st5 λb hb o e=>(I7.pin (b,o) (List.mem_append_right _ (List.mem_append_right _ (zfb hb e)))).1,λb hb=>?_,w7⟩;obtain ⟨o,e,d⟩:=T.obj _ _ st5 b hb;exact (I7.pin (b,o) (List.mem_append_right _ (List.mem_append_right _ (zfb hb e)))).2.1
  cases f with
  |next=>obtain ⟨σ7,H7,I7,n7⟩:=q7;exact again I7 n7
  |cont=>obtain ⟨σ7,H7,I7,n7⟩:=q7;exact again I7 n7
  |brk=>obtain ⟨σ7,H7,I7,q7⟩:=q7;exact ⟨σ7,H7,I7.unpinned,q7⟩
  |ret v=>obtain ⟨x7,σ7,H7,I7,r7,q7⟩:=q7;exact ⟨x7,σ7,H7,I7.unpinned,r7,q7⟩
end
abbrev R2:=V->V->Hp->VK->Prop
def OpR (X:Cx) (f:Value->Value->Sem Value) (r:R2):Prop :=
 ∀(pins:'(') (s:Shared) (σ:St) (H:Hp) (x y:V) (v u:Value) (Q:VK),Inv X pins σ H s->RelV x v->RelV y u->r x y H Q ->
  wpAny '#' X.A (f v u) (EP X pins σ Q) X.xe s
def CallR (X:Cx) (f:Value) (r:List V->Hp->VK->Prop):Prop :=
 ∀(pins:'(') (s:Shared) (σ:St) (H:Hp) (xs:List V) (us:List Value) (Q:VK),Inv X pins σ H s->Vals xs us->r xs H Q ->
  wpAny '#' X.A (call f us) (EP X pins σ Q) X.xe s
def zwc (X:Cx) (r:V->Hp->(Bool->Hp->Prop)->Prop):Prop :=
 ∀(pins:'(') (s:Shared) (σ:St) (H:Hp) (x:V) (v:Value) (Q:Bool->Hp->Prop),Inv X pins σ H s->RelV x v->r x H Q ->
  wpAny '#' X.A (truthy v) (TP X pins σ Q) X.xe s
def tOp (r:R2) (ta tb:TE):TE:=λσ H Q=>ta σ H λx H1=>tb σ H1 λy H2=>r x y H2 Q
def rI (C:Int->Int->Prop) (g:Int->Int->V):R2:=λx y H Q=>∃i j,x=.int i/\y=.int j/\C i j/\Q (g i j) H
def rI0 (g:Int->Int->V):R2:=λx y H Q=>∃i j,x=.int i/\y=.int j/\Q (g i j) H
section
variable {X:Cx}{a b c:Expr}{ta tb tc:TE}{pos:Pos}
theorem zj9 (ha:PE X a ta) (hb:PE X b tb) {pins:'('}{s:Shared}{σ:St}{H:Hp}{R:V->V->Hp->Prop}(I:'%')
  (h:ta σ H λx H1=>tb σ H1 λy H2=>R x y H2) {Q:Value->Shared->Prop} {f:Value->Value->Sem Value}
  (hf:∀v u s2 x y H2,Inv X pins σ H2 s2->RelV x v->RelV y u->R x y H2->wpAny '#' X.A (f v u) Q X.xe s2) :
  wpAny '#' X.A (eval a X.env) (λv s₁=>wpAny '#' X.A (eval b X.env) (λu s₂=>wpAny '#' X.A (f v u) Q X.xe s₂) X.xe s₁) X.xe s:=by
 refine thn (ha pins s σ H _ I h) λv s1 ⟨x,H1,I1,r1,q1⟩=>?_;refine thn (hb pins s1 σ H1 _ I1 q1) λu s2 ⟨y,H2,I2,r2,q2⟩=>?_;exact hf v u s2 x y H2 I2 r1 r2 q2
theorem zwd {op:Operator}{r:R2}(ho:OpR X (binaryOp op) r) (ha:PE X a ta) (hb:PE X b tb):PE X (.BinOp a op b pos) (tOp r ta tb):=by intro pins s σ H Q I h;exact wpAny_BinOp (zj9 ha hb I h λv u s2 x y H2 I2 rx ry q=>ho pins s2 σ H2 x y v u Q I2 rx ry q)
theorem opI {f:Value->Value->Sem Value}{C:Int->Int->Prop}{g:Int->Int->Int}
  (rule:∀(i j:Int) (t u:Tok) (s:Shared) (Q:Value->Shared->Prop) (E:Value->Shared->Prop),C i j->Q (.int (g i j) s.toks) {s with toks:=s.toks+1}->wpAny '#' X.A (f (.int i t) (.int j u)) Q E s) :
  OpR X f (rI C λi j=>.int (g i j)):=by
 intro pins s σ H x y v u Q I rx ry h;obtain ⟨i,j,rfl,rfl,hc,q⟩:=h;obtain ⟨t,rfl⟩:=rx;obtain ⟨t',rfl⟩:=ry;exact rule i j t t' s _ _ hc ⟨.int (g i j),H,I.tok _,⟨_,rfl⟩,q⟩
theorem zka {f:Value->Value->Sem Value}{g:Int->Int->Int}
  (rule:∀(i j:Int) (t u:Tok) (s:Shared) (Q:Value->Shared->Prop) (E:Value->Shared->Prop),Q (.int (g i j) s.toks) {s with toks:=s.toks+1}->wpAny '#' X.A (f (.int i t) (.int j u)) Q E s) :
  OpR X f (rI0 λi j=>.int (g i j)):=by
 intro pins s σ H x y v u Q I rx ry h;obtain ⟨i,j,rfl,rfl,q⟩:=h;obtain ⟨t,rfl⟩:=rx;obtain ⟨t',rfl⟩:=ry;exact rule i j t t' s _ _ ⟨.int (g i j),H,I.tok _,⟨_,rfl⟩,q⟩
theorem zkb {f:Value->Value->Sem Value}{g:Int->Int->Bool}
  (rule:∀(i j:Int) (t u:Tok) (s:Shared) (Q:Value->Shared->Prop) (E:Value->Shared->Prop),Q (.bool (g i j)) s->wpAny '#' X.A (f (.int i t) (.int j u)) Q E s) :
  OpR X f (rI0 λi j=>.bl (g i j)):=by
 intro pins s σ H x y v u Q I rx ry h;obtain ⟨i,j,rfl,rfl,q⟩:=h;obtain ⟨t,rfl⟩:=rx;obtain ⟨t',rfl⟩:=ry;exact rule i j t t' s _ _ ⟨.bl (g i j),H,I,rfl,q⟩
def zia (i j:Int):Prop:=0<j/\j<1073741824
def zfc (i j:Int):Prop:=0<=j/\j<=1000000/\i.natAbs<2^64
def CMul (i j:Int):Prop:=(-(2^64)<i/\i<2^64)\/(-(2^64)<j/\j<2^64)
theorem CMul.ok {i j:Int}(h:CMul i j):IntMulOk i j:=by
 rcases h with ⟨h1,h2⟩|⟨h1,h2⟩
 ·exact .of_left (intBits_le_64 h1 h2)
 ·exact .of_right (intBits_le_64 h1 h2)
theorem zwe (k:Nat):(0:Int)<=2^k:=by rw [two_pow_cast];exact Int.natCast_nonneg _
theorem op_add:OpR X (binaryOp .Add) (rI0 λi j=>.int (i+j)):=zka λ_ _ _ _ _ _ _ q=>add_int q
theorem zwf:OpR X (binaryOp .Sub) (rI0 λi j=>.int (i-j)):=zka λ_ _ _ _ _ _ _ q=>sub_int q
theorem op_mul:OpR X (binaryOp .Mult) (rI CMul λi j=>.int (i*j)):=opI λ_ _ _ _ _ _ _ hc q=>mul_int q hc.ok
theorem zwg:OpR X (binaryOp .FloorDiv) (rI zia λi j=>.int (i/j)):=opI λi j _ _ _ _ _ hc q=>by have h1:(0:Int)<j:=hc.1;have h2:j<1073741824:=hc.2;exact floordiv_int (by omega) (by rw [Int.fdiv_eq_ediv_of_nonneg i (by omega)];exact q) (.inl (PyProof.noPylong_small (by omega)))
theorem zwh:OpR X (binaryOp .Mod) (rI (λ_ j=>0<j) λi j=>.int (i%j)):=opI λi j _ _ _ _ _ hc q=>by have h1:(0:Int)<j:=hc;exact mod_int' (by omega) (by rw [Int.fmod_eq_emod_of_nonneg i (by omega)];exact q)
theorem zwi:OpR X (binaryOp .Pow) (rI zfc λi j=>.int (i^j.toNat)):=opI λ_ _ _ _ _ _ _ hc q=>pow_int_small hc.1 hc.2.1 hc.2.2 q
theorem zwj:OpR X (binaryOp .LShift) (rI zfc λi j=>.int (i*2^j.toNat)):=opI λ_ _ _ _ _ _ _ hc q=>lshift_int_small hc.1 hc.2.1 hc.2.2 q
theorem zwk:OpR X (binaryOp .RShift) (rI (λ_ j=>0<=j) λi j=>.int (i/2^j.toNat)):=opI λi j _ _ _ _ _ hc q=>
 rshift_int hc (by rw [Int.fdiv_eq_ediv_of_nonneg i (zwe _)];exact q)
theorem zwl:OpR X (binaryOp .BitAnd) (rI0 λi j=>.int (Builtin.bitAnd i j)):=zka λ_ _ _ _ _ _ _ q=>and_int q
end
noncomputable def zkc:V->V->Bool
 | .non,.non=>true | .non,.int _=>true | .int _,.non=>true | .non,.bl _=>true | .bl _,.non=>true | .non,.str _=>true | .str _,.non=>true
 | .int _,.int _=>true | .bl _,.bl _=>true | .str _,.str _=>true | .byt _,.byt _=>true
 | .int _,.str _=>true | .str _,.int _=>true | .bl _,.str _=>true | .str _,.bl _=>true
 |_,_=>false
def rEq:R2:=λx y H Q=>zkc x y=true/\Q (.bl (decide (x=y))) H
def rNe:R2:=λx y H Q=>zkc x y=true/\Q (.bl (!decide (x=y))) H
theorem znk {i j:Int}:decide (V.int i=V.int j)=(i==j):=by rw [Bool.eq_iff_iff];simp
theorem znl {i j:Bool}:decide (V.bl i=V.bl j)=(i==j):=by rw [Bool.eq_iff_iff];simp
theorem znm {i j:Str}:decide (V.str i=V.str j)=(i==j):=by rw [Bool.eq_iff_iff];simp
theorem znn {i j:Array UInt8}:decide (V.byt i=V.byt j)=(i.toList==j.toList):=by rw [Bool.eq_iff_iff];cases i;cases j;simp
section
variable {X:Cx}{a b c:Expr}{ta tb tc:TE}{pos:Pos}
theorem za4 {pins:'('}{σ:St}{H:Hp}{s:Shared}{Q:VK}{k k':Bool}(I:'%') (q:Q (.bl k) H) (e:k=k'):EP X pins σ Q (.bool k') s:=by subst e;exact ⟨.bl k,H,I,rfl,q⟩
theorem zno:OpR X (compareOp .Eq) rEq:=by
 intro pins s σ H x y v u Q I rx ry h;obtain ⟨hs,q⟩:=h;cases x with
 |non=>
  cases rx;cases y with
  |non=>cases ry;exact PySem.EqNone.eq_none_none (za4 I q '*')
  |bl j=>cases ry;exact PySem.EqNone.eq_none_bool (za4 I q '*')
  |int j=>obtain ⟨t',rfl⟩:=ry;exact PySem.EqNone.eq_none_int (za4 I q '*')
  |str j=>obtain ⟨t',rfl⟩:=ry;exact PySem.EqNone.eq_none_str (za4 I q '*')
  |_=>exact absurd (show false=true from hs) Bool.false_ne_true
 |bl i=>
  cases rx;cases y with
  |non=>cases ry;exact PySem.EqNone.eq_bool_none (za4 I q '*')
  |bl j=>cases ry;exact eq_bool (za4 I q znl)
  |str j=>obtain ⟨t',rfl⟩:=ry;exact PySem.EqMixed.eq_bool_str (za4 I q '*')
  |_=>exact absurd (show false=true from hs) Bool.false_ne_true
 |int i=>
  obtain ⟨t,rfl⟩:=rx;cases y with
  |non=>cases ry;exact PySem.EqNone.eq_int_none (za4 I q '*')
  |int j=>obtain ⟨t',rfl⟩:=ry;exact eq_int (za4 I q znk)
  |str j=>obtain ⟨t',rfl⟩:=ry;exact PySem.EqMixed.eq_int_str (za4 I q '*')
  |_=>exact absurd (show false=true from hs) Bool.false_ne_true
 |str i=>
  obtain ⟨t,rfl⟩:=rx;cases y with
  |non=>cases ry;exact PySem.EqNone.eq_str_none (za4 I q '*')
  |bl j=>cases ry;exact PySem.EqMixed.eq_str_bool (za4 I q '*')
  |int j=>obtain ⟨t',rfl⟩:=ry;exact PySem.EqMixed.eq_str_int (za4 I q '*')
  |str j=>obtain ⟨t',rfl⟩:=ry;exact eq_str (za4 I q znm)
  |_=>exact absurd (show false=true from hs) Bool.false_ne_true
 |byt i=>
  obtain ⟨t,rfl⟩:=rx;cases y with
  |byt j=>obtain ⟨t',rfl⟩:=ry;exact PySem.W.eq_bytes (za4 I q znn)
  |_=>exact absurd (show false=true from hs) Bool.false_ne_true
 |_=>cases y<;>exact absurd (show false=true from hs) Bool.false_ne_true
theorem znp:OpR X (compareOp .NotEq) rNe:=by
 intro pins s σ H x y v u Q I rx ry h;obtain ⟨hs,q⟩:=h;cases x with
 |non=>
  cases rx;cases y with
  |non=>cases ry;exact PySem.EqNone.ne_none_none (za4 I q '*')
  |bl j=>cases ry;exact PySem.EqNone.ne_none_bool (za4 I q '*')
  |int j=>obtain ⟨t',rfl⟩:=ry;exact PySem.EqNone.ne_none_int (za4 I q '*')
  |str j=>obtain ⟨t',rfl⟩:=ry;exact PySem.EqNone.ne_none_str (za4 I q '*')
  |_=>exact absurd (show false=true from hs) Bool.false_ne_true
 |bl i=>
  cases rx;cases y with
  |non=>cases ry;exact PySem.EqNone.ne_bool_none (za4 I q '*')
  |bl j=>cases ry;exact ne_bool (za4 I q (congrArg not znl))
  |str j=>obtain ⟨t',rfl⟩:=ry;exact PySem.EqMixed.ne_bool_str (za4 I q '*')
  |_=>exact absurd (show false=true from hs) Bool.false_ne_true
 |int i=>
  obtain ⟨t,rfl⟩:=rx;cases y with
  |non=>cases ry;exact PySem.EqNone.ne_int_none (za4 I q '*')
  |int j=>obtain ⟨t',rfl⟩:=ry;exact ne_int (za4 I q (congrArg not znk))
  |str j=>obtain ⟨t',rfl⟩:=ry;exact PySem.EqMixed.ne_int_str (za4 I q '*')
  |_=>exact absurd (show false=true from hs) Bool.false_ne_true
 |str i=>
  obtain ⟨t,rfl⟩:=rx;cases y with
  |non=>cases ry;exact PySem.EqNone.ne_str_none (za4 I q '*')
  |bl j=>cases ry;exact PySem.EqMixed.ne_str_bool (za4 I q '*')
  |int j=>obtain ⟨t',rfl⟩:=ry;exact PySem.EqMixed.ne_str_int (za4 I q '*')
  |str j=>obtain ⟨t',rfl⟩:=ry;exact ne_str (za4 I q (congrArg not znm))
  |_=>exact absurd (show false=true from hs) Bool.false_ne_true
 |byt i=>
  obtain ⟨t,rfl⟩:=rx;cases y with
  |byt j=>obtain ⟨t',rfl⟩:=ry;exact PySem.W.ne_bytes (za4 I q (congrArg not znn))
  |_=>exact absurd (show false=true from hs) Bool.false_ne_true
 |_=>cases y<;>exact absurd (show false=true from hs) Bool.false_ne_true
theorem zwm:OpR X (compareOp .Lt) (rI0 λi j=>.bl (decide (i<j))):=zkb λ_ _ _ _ _ _ _ q=>lt_int q
theorem zwn:OpR X (compareOp .Gt) (rI0 λi j=>.bl (decide (j<i))):=zkb λ_ _ _ _ _ _ _ q=>gt_int q
theorem zwo:OpR X (compareOp .GtE) (rI0 λi j=>.bl (decide (j<=i))):=zkb λ_ _ _ _ _ _ _ q=>ge_int q
theorem zwp:OpR X (compareOp .IsNot) (λx y H Q=>y=.non/\Q (.bl (!decide (x=.non))) H):=by
 intro pins s σ H x y v u Q I rx ry h;obtain ⟨rfl,q⟩:=h;cases ry;refine isnot_none_gen (za4 I q ?_);cases x<;>first
  |(cases rx;rfl)
  |(obtain ⟨t,rfl⟩:=rx;rfl)
theorem OpR.or {f:Value->Value->Sem Value}{r r':R2}(h:OpR X f r) (h':OpR X f r'):OpR X f (λx y H Q=>r x y H Q\/r' x y H Q):=by
 intro pins s σ H x y v u Q I rx ry q;rcases q with q|q
 ·exact h pins s σ H x y v u Q I rx ry q
 ·exact h' pins s σ H x y v u Q I rx ry q
theorem zc7 (b:Expr) {op:CmpOp}(h:op≠.In:=by decide) (h2:op≠.NotIn:=by decide):behindInMarks op b=false:=by
 have e1:(op==CmpOp.In)=false:=by cases op<;>first|rfl|exact absurd rfl h
 have e2:(op==CmpOp.NotIn)=false:=by cases op<;>first|rfl|exact absurd rfl h2
 cases b<;>simp [behindInMarks,e1,e2]
theorem zwq {op:CmpOp}{r:R2}(ho:OpR X (compareOp op) r) (ha:PE X a ta) (hb:PE X b tb) (hm:behindInMarks op b=false):PE X (.Compare a [op] [b] pos) (tOp r ta tb):=by intro pins s σ H Q I h;exact wpAny_Compare1 (zj9 ha hb I h λv u s2 x y H2 I2 rx ry q=>ho pins s2 σ H2 x y v u Q I2 rx ry q) hm
def zwr (t:TE):TT:=λσ H Q=>t σ H λx H'=>∃k,x=.bl k/\Q k H'
theorem zws {op:CmpOp}{r:R2}(ho:OpR X (compareOp op) r) (ha:PE X a ta) (hb:PE X b tb) (hm:behindInMarks op b=false):PT X (.Compare a [op] [b] pos) (zwr (tOp r ta tb)):=by
 intro pins s σ H Q I h;refine wpAny_isTrue_Compare1 (thn (ha pins s σ H _ I h) λv s1 ⟨x,H1,I1,r1,q1⟩=>thn (hb pins s1 σ H1 _ I1 q1) λu s2 ⟨y,H2,I2,r2,q2⟩=>
  thn (ho pins s2 σ H2 x y v u _ I2 r1 r2 q2) λc s3 ⟨z,H3,I3,r3,k,e,q3⟩=>?_) hm
 subst e;cases r3;exact wpAny_truthy_bool ⟨H3,I3,q3⟩
def znq (K:QFg) (x:V) (H:Hp) (k:Bool):Prop :=
 match x with
 | .non=>k=false
 | .bl b=>k=b
 | .int i=>k=(i != 0)
 | .str y=>y.length<=sizeLine/\k=((y.length:Int) != 0)
 | .byt y=>y.size<=sizeLine/\k=((y.size:Int) != 0)
 | .ref p=>(∃xs,SqL K H p xs/\k = !xs.isEmpty)\/(∃xs,SqT K H p xs/\k = !xs.isEmpty)\/∃kvs,H p=some (.dK kvs)/\k = !kvs.isEmpty
 |_=>False
theorem zwt {κ:Type}{kvs:List (κ×V)}{vs:List (κ×Value)}(r:KV kvs vs):(!vs.isEmpty) = !kvs.isEmpty:=by cases r<;>rfl
theorem znr {xs:List V}{its:List Value}(r:Vals xs its):(!its.toArray.isEmpty) = !xs.isEmpty:=by cases r<;>simp
theorem zeo:(sizeLine:Nat)<2^63:=by rw [sizeLine_eq];decide
theorem zwu:zwc X (λx H Q=>∃k,znq X.K x H k/\Q k H):=by
 intro pins s σ H x v Q I rx h;obtain ⟨k,e,q⟩:=h;have hl:=zeo;have hs:sizeLine=16777216:=sizeLine_eq;cases x with
 |non=>cases rx;have e':k=false:=e;subst e';exact truthy_none ⟨H,I,q⟩
 |bl b=>cases rx;have e':k=b:=e;subst e';exact wpAny_truthy_bool ⟨H,I,q⟩
 |int i=>obtain ⟨t,rfl⟩:=rx;have e':k=(i != 0):=e;subst e';exact PySem.P.truthy_int ⟨H,I,q⟩
 |str y=>obtain ⟨t,rfl⟩:=rx;obtain ⟨hy,e'⟩:y.length<=sizeLine/\k=((y.length:Int) != 0):=e;subst e';exact PySem.P.truthy_str (by omega) ⟨H,I.tok _,q⟩
 |byt y=>obtain ⟨t,rfl⟩:=rx;obtain ⟨hy,e'⟩:y.size<=sizeLine/\k=((y.size:Int) != 0):=e;subst e';exact PySem.W.truthy_bytes (by omega) ⟨H,I.tok _,q⟩
 |ref p=>
  cases rx;have e':(∃xs,SqL X.K H p xs/\k = !xs.isEmpty)\/(∃xs,SqT X.K H p xs/\k = !xs.isEmpty)\/∃kvs,H p=some (.dK kvs)/\k = !kvs.isEmpty:=e;rcases e' with ⟨xs,hx,e'⟩|⟨xs,hx,e'⟩|⟨kvs,hx,e'⟩
  ·subst e';obtain ⟨its,r,pl,hz⟩:=I.list hx;have hlen:=r.length;exact wpAny_truthy_list pl.isList (by simp only [List.size_toArray];omega) ⟨H,I.tok _,by rw [znr r];exact q⟩
  ·subst e';obtain ⟨its,r,pl,hz⟩:=I.tuple hx;have hlen:=r.length;exact truthy_tuple pl (by simp only [List.size_toArray];omega) ⟨H,I.tok _,by rw [znr r];exact q⟩
  ·subst e';obtain ⟨hz,hS,vs,r,m⟩:kvs.length<=sizeLine/\(p==sysModules)=false/\∃vs,KV kvs vs/\s.heap.DictOf (zby X.prog X.w) p vs:=I.hok p _ hx;have hlen:kvs.length=vs.length:=Paired.length r;exact wpAny_truthy_dict hS m (by omega) ⟨H,I.tok _,by rw [zwt r];exact q⟩
 |_=>exact (show False from e).elim
theorem zwv (ha:PE X a ta) (he:∀whole,isTrue a X.env whole=(do let v <-whole;standAt a.pos;holding [v] (truthy v))) :
  PT X a (λσ H Q=>ta σ H λx H'=>∃k,znq X.K x H' k/\Q k H'):=by
 intro pins s σ H Q I h;exact isTrue_plain (thn (ha pins s σ H _ I h) λv s1 ⟨x,H1,I1,r1,q1⟩=>zwu pins s1 σ H1 x v Q I1 r1 q1) (he _)
theorem op_add_str:OpR X (binaryOp .Add) (λx y H Q=>∃i j,x=.str i/\y=.str j/\i.length+j.length<=sizeLine/\Q (.str (i++j)) H):=by intro pins s σ H x y v u Q I rx ry h;obtain ⟨i,j,rfl,rfl,hz,q⟩:=h;obtain ⟨t,rfl⟩:=rx;obtain ⟨t',rfl⟩:=ry;exact add_str (λt' tk=>⟨.str (i++j),H,I.tok _,⟨_,rfl⟩,q⟩) hz
theorem zd4 {x:V}{us:List Value}(r:Vals [x] us):∃u,us=[u]/\RelV x u:=by
 cases r with
 |cons r1 r2=>cases r2;exact ⟨_,rfl,r1⟩
theorem zns {x y:V}{us:List Value}(r:Vals [x,y] us):∃u w',us=[u,w']/\RelV x u/\RelV y w':=by
 cases r with
 |cons r1 r2=>
  cases r2 with
  |cons r3 r4=>cases r4;exact ⟨_,_,rfl,r1,r3⟩
theorem zww:CallR X (.builtin "abs") (λxs H Q=>∃i,xs=[.int i]/\Q (.int (if i<0 then -i else i)) H):=by intro pins s σ H xs us Q I r h;obtain ⟨i,rfl,q⟩:=h;obtain ⟨u,rfl,t,rfl⟩:=zd4 r;exact call_abs_int λu tk=>⟨.int (if i<0 then -i else i),H,I.tok _,⟨_,rfl⟩,q⟩
theorem zwx (hc:X.calm=true):CallR X (.builtin "max") (λxs H Q=>∃i j,xs=[.int i,.int j]/\Q (.int (if j>i then j else i)) H):=by
 intro pins s σ H xs us Q I r h;obtain ⟨i,j,rfl,q⟩:=h;obtain ⟨u,w',rfl,⟨t,rfl⟩,⟨t',rfl⟩⟩:=zns r;refine max_two_ints (I.ok.hd hc) λh' tk k=>⟨_,H,I.kept k,?_,q⟩;by_cases hj:j>i
 ·rw [if_pos hj,if_pos hj];exact ⟨_,rfl⟩
 ·rw [if_neg hj,if_neg hj];exact ⟨_,rfl⟩
theorem zwy (hc:X.calm=true):CallR X (.builtin "min") (λxs H Q=>∃i j,xs=[.int i,.int j]/\Q (.int (if j<i then j else i)) H):=by
 intro pins s σ H xs us Q I r h;obtain ⟨i,j,rfl,q⟩:=h;obtain ⟨u,w',rfl,⟨t,rfl⟩,⟨t',rfl⟩⟩:=zns r;refine min_two_ints (I.ok.hd hc) λh' tk k=>⟨_,H,I.kept k,?_,q⟩;by_cases hj:j<i
 ·rw [if_pos hj,if_pos hj];exact ⟨_,rfl⟩
 ·rw [if_neg hj,if_neg hj];exact ⟨_,rfl⟩
end
structure ObjM (h:Heap) (x dx C:Addr) (mA:Str->Option Value):Prop where
 obj:h.get? x=some (PySem.W.instObj C dx)
 ns:h.Ns1 dx mA
 ne:dx≠x
theorem zwz {h:Heap}{dx:Addr}{mA:Str->Option Value}(n:h.Ns1 dx mA):∃od,h.get? dx=some od/\∀name,PySem.W.lookIn name od=some (mA name):=by
 obtain ⟨o,es,ep,ho,hd,hk,_,hm⟩:=n;refine ⟨o,ho,λname=>?_⟩;have e:=hm name;unfold nsFind findBy at e;rw [<-Array.find?_toList] at e;unfold PySem.W.lookIn;rw [hd];dsimp only;split
 ·rename_i y q;rw [q] at e;exact congrArg some e
 ·rename_i q;rw [q] at e;have a:es.toList.any (·.refKey)=false:=by rw [List.any_eq_false];intro y hy;obtain ⟨z,t,hkey⟩:=hk y (Array.mem_toList_iff.mp hy);simp [DictEntry.refKey,hkey]
  have a':¬es.toList.any (·.refKey)=true:=by rw [a];exact Bool.false_ne_true
  rw [if_neg a'];exact congrArg some e
theorem ObjM.look {h:Heap}{x dx C:Addr}{mA:Str->Option Value}(I:ObjM h x dx C mA):∃od,PySem.W.InstAt h x (PySem.W.instObj C dx) C (some od)/\∀name,PySem.W.lookIn name od=some (mA name) :=
 let ⟨od,ho,hl⟩:=zwz I.ns
 ⟨od,⟨I.obj,rfl,rfl,ho⟩,hl⟩
section
variable {prog:Program}{w:World}{A:Around}{E:Value->Shared->Prop}{s:Shared}{K:QFg}{x dx C f:Addr}{mA:Str->Option Value}{name:Str}{v:Value}
end
section
variable {P:Program}{w:World}{H H':Hp}{h h':Heap}{a C dx:Addr}{fs fs':List (Str×V)}
theorem zw0 (hok:HOk P w H h) (e:H a=some (.ins C dx fs)):∃mA,ObjM h a dx C mA/\(∀f,RelO (fs.lookup f) (mA f))/\PySem.Within mA (fs.map (·.1))/\fs.length<=1000/\H dx=some (.own a):=by obtain ⟨d,z,ne,ob,mA,n,r,q⟩:=(show ObjOk P w H h a (.ins C dx fs) from hok a _ e);exact ⟨mA,⟨ob,n,ne⟩,r,q,z,d⟩
end
structure Cls (K:QFg) (C:Addr):Prop where
 pg:PySem.W.plainGet K C Str.empty=true
 hd:PySem.W.hasDictIn K C=true
 po:PySem.W.plainOver K C=true
 sa:PySem.W.findIn K (.ref C) "__setattr__" = some (some (.builtin "object.__setattr__"))
theorem Cls.get {K:QFg}{C:Addr}(c:Cls K C) (f:Str):PySem.W.plainGet K C f=true:=c.pg
section
variable {X:Cx}{pins:'('}{σ:St}{H:Hp}{s:Shared}{a C dx:Addr}{fs:List (Str×V)}{f:Str}{v:V}{A:Around}{E:Value->Shared->Prop}
end
section
variable {X:Cx}{o e value:Expr}{f:Str}{pos pos' tpos:Pos}{ta tv:TE}
end
section
variable {X:Cx}{pins:'('}{σ:St}{H:Hp}{s:Shared}{A:Around}{E:Value->Shared->Prop}{Q:Value->Shared->Prop}{c:Value}{b:Bool}
inductive TyOf (K:QFg) (H:Hp):V->Value->Prop where
 |non:TyOf K H .non (.type "NoneType")
 |bl (x:Bool):TyOf K H (.bl x) (.type "bool")
 |int (i:Int):TyOf K H (.int i) (.type "int")
 |str (x:Str):TyOf K H (.str x) (.type "str")
 |flt (x:UInt64):TyOf K H (.flt x) (.type "float")
 |lst {a:Addr} {xs:List V} (e:H a=some (.lst xs)):TyOf K H (.ref a) (.type "list")
 |frz {a:Addr} {o:Obj} {xs:List V} (e:H a=some (.frz o (.lst xs))):TyOf K H (.ref a) (.type "list")
 |tup {a:Addr} {xs:List V} (e:H a=some (.tup xs)):TyOf K H (.ref a) (.type "tuple")
 |dK {a:Addr} {kvs:List (Key×V)} (e:H a=some (.dK kvs)):TyOf K H (.ref a) (.type "dict")
 |dT {a:Addr} {kvs:List (List Key×V)} (e:H a=some (.dT kvs)):TyOf K H (.ref a) (.type "dict")
 | ins {a C dx:Addr} {fs:List (Str × V)} (e:H a=some (.ins C dx fs)) (cl:Cls K C) (ha:PySem.W.findIn K (.ref C) "__class__" = some (some (.builtin "object.__class__")))
   (hn:PySem.W.specialIn K (.builtin "object.__class__") "__get__" = some (some (.builtin "getset_descriptor.__get__"))) (htk:PySem.W.takesIn K (.builtin "object.__class__")=some true)
   (hm:PySem.W.mroIn K C (.type "object")=some true):TyOf K H (.ref a) (.ref C)
theorem zw1 {x:V}{u t:Value}(I:'%') (rx:RelV x u) (ty:TyOf X.K H x t) (e:PySem.W.kitOne X.K t c=some b) (h:∀tk,Q (.bool b) {s with toks:=tk}) :
  wpAny '#' A (call (.builtin "isinstance") [u,c]) Q E s:=by
 cases ty with
 |non=>cases (show u=Value.none from rx);exact PySem.W.kia_one PySem.W.kitx_none I.kIn True.intro e (λz=>nomatch z) h
 |bl y=>cases (show u=Value.bool y from rx);exact PySem.W.kia_one PySem.W.kitx_bool I.kIn True.intro e (λz=>nomatch z) h
 |int i=>obtain ⟨t,q⟩:=(show ∃t,u=Value.int i t from rx);cases q;exact PySem.W.kia_one PySem.W.kitx_int I.kIn True.intro e (λz=>nomatch z) h
 |str y=>obtain ⟨t,q⟩:=(show ∃t,u=Value.str y t from rx);cases q;exact PySem.W.kia_one PySem.W.kitx_str I.kIn True.intro e (λz=>nomatch z) h
 |flt y=>obtain ⟨t,q⟩:=(show ∃t,u=Value.float y t from rx);cases q;exact PySem.W.kia_one PySem.W.kitx_float I.kIn True.intro e (λz=>nomatch z) h
 | @lst a xs ea=>cases (show u=Value.ref a from rx);obtain ⟨_,_,n,_,h1⟩:=(show ObjOk X.prog X.w H s.heap a (.lst xs) from I.hok a _ ea);exact PySem.W.kia_one PySem.W.kitx_list I.kIn ⟨_,h1,rfl⟩ e (λz=>nomatch z) h
 | @frz a ob xs ea=>cases (show u=Value.ref a from rx);obtain ⟨_,_,_,n,_,h1⟩:=(show ObjOk X.prog X.w H s.heap a (.frz ob (.lst xs)) from I.hok a _ ea);exact PySem.W.kia_one PySem.W.kitx_list I.kIn ⟨_,h1,rfl⟩ e (λz=>nomatch z) h
 | @tup a xs ea=>cases (show u=Value.ref a from rx);obtain ⟨_,_,_,p⟩:=(show ObjOk X.prog X.w H s.heap a (.tup xs) from I.hok a _ ea);obtain ⟨o,h1,h2,_⟩:=p;exact PySem.W.kia_one PySem.W.kitx_tuple I.kIn ⟨o,h1,h2⟩ e (λz=>nomatch z) h
 | @dK a kvs ea=>cases (show u=Value.ref a from rx);obtain ⟨_,_,vs,_,p⟩:=(show ObjOk X.prog X.w H s.heap a (.dK kvs) from I.hok a _ ea);obtain ⟨o,es,ep,h1,h2,_⟩:=p;exact PySem.W.kia_one PySem.W.kitx_dict I.kIn ⟨o,h1,h2.1⟩ e (λz=>nomatch z) h
 | @dT a kvs ea=>cases (show u=Value.ref a from rx);obtain ⟨_,_,xs,_,o,es,ep,h1,h2,_⟩:=(show ObjOk X.prog X.w H s.heap a (.dT kvs) from I.hok a _ ea);exact PySem.W.kia_one PySem.W.kitx_dict I.kIn ⟨o,h1,h2.1⟩ e (λz=>nomatch z) h
 | @ins a C dx fs ea cl ha hn htk hm=>cases (show u=Value.ref a from rx);obtain ⟨mA,O,_⟩:=zw0 I.hok ea;obtain ⟨od,J,_⟩:=O.look;exact PySem.W.kia_one (PySem.W.kitx_own (cl.get _) cl.hd ha hn htk hm) I.kIn J e (λz=>nomatch z) h
end
structure Room (k:Nat) (A:Around):Prop where
 hd:A.handled=none
 dp:A.depth+3*k+5<recursionLimit
 un:A.units+16*k+200<cLine
 gd:A.guards=some []
theorem Room.mono {j k:Nat}{A:Around}(r:Room k A) (h:j<=k):Room j A:=⟨r.hd,by have:=r.dp;omega,by have:=r.un;omega,r.gd⟩
theorem Room.deeper {k:Nat}{A:Around}(r:Room (k+1) A) (env:Env):Room k (A.deeper env) :=
 ⟨r.hd,by have:=r.dp;show A.depth+1+3*k+5<_;omega,by have:=r.un;show A.units+3+16*k+200<_;omega,r.gd⟩
theorem Room.depth {k:Nat}{A:Around}(r:Room k A):A.depth<recursionLimit:=by have:=r.dp;omega
def zw2:TA:=λ_ H Q=>Q [] H
def zw3 (ta:TE) (tr:TA):TA:=λσ H Q=>ta σ H λx H1=>tr σ H1 λxs H2=>Q (x::xs) H2
section
variable {X:Cx}{e:Expr}{es:List Expr}{te:TE}{t:TA}{pos:Pos}
theorem zd5:PA X [] zw2:=λ_ _ _ _ H Q I h=>Calls.spliced_nil ⟨[],H,I,.nil,h⟩
theorem zct (ha:PE X e te) (hr:PA X es t) (hs:starEach (e::es) X.env=(false,eval e X.env)::starEach es X.env:=by rfl):PA X (e::es) (zw3 te t):=by intro pos pins s σ H Q I h;rw [hs];show wpAny _ _ (spliced ((false,eval e X.env)::backTo pos (starEach es X.env))) _ _ s;refine Calls.spliced_cons (thn (ha pins s σ H _ I h) λu s1 ⟨x,H1,I1,r1,q1⟩=>?_);exact thn (hr pos pins s1 σ H1 _ I1 q1) λus s2 ⟨xs,H2,I2,r2,q2⟩=>⟨x::xs,H2,I2,.cons r1 r2,q2⟩
def zw4 (t:TA):TE:=λσ H Q=>t σ H λxs H1=>xs.length<=sizeLine/\∀p,H1 p=none->Q (.ref p) (upd H1 p (.tup xs))
def zw5 (t:TA):TE:=λσ H Q=>t σ H λxs H1=>xs.length<=sizeLine/\∀p,H1 p=none->Q (.ref p) (upd H1 p (.lst xs))
theorem znt {x1}(h:PA X es t):PE X (.Tuple es x1 pos) (zw4 t):=by intro pins s σ H Q I hq;refine wpAny_Tuple_spliced (thn (h pos pins s σ H _ I hq) λus s1 ⟨xs,H1,I1,r,z,q⟩=>⟨by rw [<-r.length];exact z,?_⟩);have hf:H1 s1.heap.objs.size=none:=I1.hok.fresh (qlr _);refine ⟨.ref s1.heap.objs.size,upd H1 s1.heap.objs.size (.tup xs),I1.laid (t':=s1.toks) (λb u e=>qps _ e) (qlr _) ?_,rfl,q _ hf⟩;exact ⟨z,us,r,IsTD.new _ _⟩
theorem zw6 (h:PA X es t):PE X (.List es pos) (zw5 t):=by intro pins s σ H Q I hq;refine wpAny_List_spliced (thn (h pos pins s σ H _ I hq) λus s1 ⟨xs,H1,I1,r,z,q⟩=>⟨by rw [<-r.length];exact z,?_⟩);have hf:H1 s1.heap.objs.size=none:=I1.hok.fresh (qlr _);refine ⟨.ref s1.heap.objs.size,upd H1 s1.heap.objs.size (.lst xs),I1.laid (t':=s1.toks) (λb u e=>qps _ e) (qlr _) ?_,rfl,q _ hf⟩;exact ⟨z,us,0,r,Heap.get?_push_size _ rfl⟩
end
abbrev Sp:=List V->Hp->VK->XK->Prop
abbrev CXT:=List Env->Hp->Shared->XK->Value->Shared->Prop
structure Env0 (P:Program) (w:World) (K:QFg) (mg:Str->Option Value) (base:Heap) (A:Around) (outer:List Env) (s:Shared) (H:Hp):Prop where
 frames:A.frames=some outer
 mod:Mod K mg base
 bs:∀b o,base.get? b=some o->s.heap.get? b=some o/\H b=none
 bsz:base.objs.size<=s.heap.objs.size
 funs:s.heap.FunFrames base outer
 frf:∀b∈frs outer,H b=none
 hok:HOk P w H s.heap
 bare:AllBare s.gens
def CE (outer:List Env) (P:Program) (w:World) (H:Hp) (s:Shared) (Q:VK) (u:Value) (s':Shared):Prop :=
 ∃v H',s'.os=s.os/\AllBare s'.gens/\Un (frs outer) [] H H' s.heap s'.heap/\HOk P w H' s'.heap/\RelV v u/\Q v H'
def CR (CX:CXT) (outer:List Env) (P:Program) (w:World) (H:Hp) (s:Shared) (Q:VK) (E:XK) (r:Result) (s':Shared):Prop :=
 match r with
 | .ok (.ret u)=>CE outer P w H s Q u s'
 | .ok _=>False
 | .error e=>CX outer H s E e s'
structure FnOk (P:Program) (w:World) (K:QFg) (mg:Str->Option Value) (base:Heap) (CX:CXT) (k:Nat) (f:Addr) (fd:FuncData) (ps:List Str) (sp:Sp):Prop where
 len:∀vs H Q E,sp vs H Q E->vs.length=ps.length
 run:∀(A:Around) (outer:List Env) (s:Shared) (H:Hp) (args:Args) (us:List Value) (vs:List V) (Q:VK) (E:XK),Room k A->Env0 P w K mg base A outer s H->BindsTo s fd args (ps.zip us)->Vals vs us->sp vs H Q E ->
  codeAny (model P w) A (.call (.ref f) args) (CR CX outer P w H s Q E) s
section
variable {X:Cx}{pins:'('}{σ:St}{H:Hp}{s s':Shared}
theorem Inv.env0 (I:'%'):Env0 X.prog X.w X.K X.mg X.base X.A X.stack s H :=
 ⟨I.ok.frames,I.ok.mod,I.bs,Nat.le_trans I.ok.bsz I.sz,I.stack,I.stkFree,I.hok,I.bare⟩
theorem Inv.after {Q:VK}{u:Value}(I:'%') (h:CE X.stack X.prog X.w H s Q u s'):EP X pins σ Q u s':=by obtain ⟨v,H',os,bare,un,hok,r,q⟩:=h;obtain ⟨hh,g,d,t,os'⟩:=s';obtain rfl:os'=s.os:=os;exact ⟨v,H',I.call (h':=hh) (g':=g) (d':=d) (t':=t) (ch:=[]) un hok bare (λb z=>absurd z '*'),r,q⟩
end
def zw7 (sp:Sp) (dvs:List V) (E:XK) (t:TA):TE:=λσ H Q=>t σ H λvs H1=>sp (vs++dvs) H1 Q E
def Binds (K:QFg) (fd:FuncData) (ps:List Str) (ds:List Value):Prop :=
 ∀(s:Shared) (us:List Value),K.In s.heap->(us++ds).length=ps.length->BindsTo s fd ⟨us,[]⟩ (ps.zip (us++ds))
theorem Binds.all {K:QFg}{fd:FuncData}{ps:List Str}(h:∀us:List Value,us.length=ps.length->bindArgs fd ⟨us,[]⟩=pure (ps.zip us)):Binds K fd ps []:=λs us _ hl=>by rw [List.append_nil] at hl ⊢;exact .of_eq (h us hl)
def zkd (CX:CXT) (X:Cx) (E:XK):Prop:=∀(pins:'(') (σ:St) (H:Hp) (s:Shared) (e:Value) (s':Shared),Inv X pins σ H s->CX X.stack H s E e s'->X.xe e s'
section
variable {X:Cx}{CX:CXT}{k:Nat}{f C:Addr}{fd:FuncData}{ps:List Str}{sp:Sp}{dvs:List V}{ds:List Value}{E:XK}{x m:Str}{p pos apos:Pos}{e o:Expr}{es:List Expr}{ta:TE}{t:TA}
theorem zw8 {pins:'('}{σ:St}{H:Hp}{s:Shared}{Q:VK}{us:List Value}{vs:List V}(F:FnOk X.prog X.w X.K X.mg X.base CX k f fd ps sp) (hr:Room k X.A) (hb:Binds X.K fd ps ds) (hd:Vals dvs ds) (hx:zkd CX X E)
  (I:'%') (r:Vals vs us) (h:sp (vs++dvs) H Q E):wpAny '#' X.A (call (.ref f) us) (EP X pins σ Q) X.xe s:=by
 have r2:Vals (vs++dvs) (us++ds):=r.append hd;have hl:(us++ds).length=ps.length:=by rw [<-r2.length];exact F.len _ _ _ _ h
 refine wpAny_call (codeAny_mono (F.run X.A X.stack s H ⟨us,[]⟩ (us++ds) (vs++dvs) Q E hr I.env0 (hb s us I.kIn hl) r2 h) λr s' hq=>?_);cases r with
 |error e=>exact hx pins σ H s e s' I hq
 |ok fl=>
  cases fl with
  |ret u=>exact I.after hq
  |next=>exact False.elim hq
  |brk=>exact False.elim hq
  |cont=>exact False.elim hq
theorem zw9 (F:FnOk X.prog X.w X.K X.mg X.base CX k f fd ps sp) (hr:Room k X.A) (hg:Gl X x) (hm:X.mg x=some (.ref f)) (hk:PySem.W.keepIn X.K (.ref f)=true) (hb:Binds X.K fd ps ds) (hd:Vals dvs ds) (hx:zkd CX X E)
  (ha:PA X (e::es) t) (hdb:(x==("__debug__":Str))=false:=by decide) (he:starEach (e::es) X.env=(false,eval e X.env)::starEach es X.env:=by rfl) (hpl:(backTo pos (starEach es X.env)).any (·.1)=false:=by rfl) :
  PE X (.Call (.Name x p) (e::es) [] pos) (zw7 sp dvs E t):=by
 intro pins s σ H Q I h;refine wpAny_Call_Name_kw (zgd I hg hm ?_ hdb);refine PySem.W.callWith_K (h₀:=X.base) I.ok.mod.kin hk (thn (ha pos pins s σ H _ I h) λus s1 ⟨vs,H1,I1,r,q⟩=>⟨I1.kIn,?_⟩) he hpl;exact zw8 F hr hb hd hx I1 r q
end
section
variable {X:Cx}{CX:CXT}{k:Nat}{f C:Addr}{fd:FuncData}{ps ks:List Str}{sp:Sp}{E:XK}{x m:Str}{p pos apos kpos:Pos}{e o:Expr}{es:List Expr}{kws:List Keyword}{te ta:TE}{t tk:TA}{nm:Option Str}
variable {g:List Value->List Value->List Value}{gV:List V->List V->List V}
end
structure FnScope (N P:List Str) (sc:Scope):Prop where
 kind:sc.kind=.function
 co:sc.isCoroutine=false
 gen:sc.isGenerator=false
 nd:N.Nodup
 pre:N.take P.length=P
 par:∀x∈P,sc.names.lookup x=some .local\/sc.names.lookup x=some .cell
 nofree:∀y∈sc.names,y.2≠.free
theorem znu {kindOf:Str->Option NameKind}{x:Str}:∀{binds:List (Str×Value)}{m:Str->Option Value},(∀v,(x,v)∉binds)->bindL kindOf binds m x=m x
 |[],_,_=>rfl
 |(n,v)::r,m,h=>by
  unfold bindL;rw [znu λw hw=>h w (List.mem_cons_of_mem _ hw)];split
  ·have:x≠n:=(by rintro rfl;exact h v List.mem_cons_self);simp [this]
  ·rfl
theorem znv {kindOf:Str->Option NameKind}{x:Str}:∀{binds:List (Str×Value)}{m:Str->Option Value},(∀v,(x,v)∉binds)->bindC kindOf binds m x=m x
 |[],_,_=>rfl
 |(n,v)::r,m,h=>by
  unfold bindC;rw [znv λw hw=>h w (List.mem_cons_of_mem _ hw)];split
  ·rfl
  ·have:x≠n:=(by rintro rfl;exact h v List.mem_cons_self);simp [this]
theorem znw {kindOf:Str->Option NameKind}{x:Str}{v:Value}:∀{P:List Str}{vs:List Value}{i:Nat}{m:Str->Option Value},P.Nodup->P[i]?=some x->vs[i]?=some v->kindOf x=some .local ->
  bindL kindOf (P.zip vs) m x=some v
 |[],_,_,_,_,h,_,_=>by simp at h
 |_::_,[],_,_,_,_,h,_=>by simp at h
 |p::P,w::vs,0,m,nd,h1,h2,hk=>by simp at h1 h2;subst h1;subst h2;show bindL kindOf ((p,w)::P.zip vs) m p=_;unfold bindL;rw [znu λv hv=>(List.nodup_cons.mp nd).1 (List.of_mem_zip hv).1,if_pos hk];simp
 |p::P,w::vs,i+1,m,nd,h1,h2,hk=>by show bindL kindOf ((p,w)::P.zip vs) m x=_;unfold bindL;exact znw (i:=i) (List.nodup_cons.mp nd).2 (by simpa using h1) (by simpa using h2) hk
theorem znx {kindOf:Str->Option NameKind}{x:Str}{v:Value}:∀{P:List Str}{vs:List Value}{i:Nat}{m:Str->Option Value},P.Nodup->P[i]?=some x->vs[i]?=some v->kindOf x≠some .local ->
  bindC kindOf (P.zip vs) m x=some v
 |[],_,_,_,_,h,_,_=>by simp at h
 |_::_,[],_,_,_,_,h,_=>by simp at h
 |p::P,w::vs,0,m,nd,h1,h2,hk=>by simp at h1 h2;subst h1;subst h2;show bindC kindOf ((p,w)::P.zip vs) m p=_;unfold bindC;rw [znv λv hv=>(List.nodup_cons.mp nd).1 (List.of_mem_zip hv).1,if_neg hk];simp
 |p::P,w::vs,i+1,m,nd,h1,h2,hk=>by show bindC kindOf ((p,w)::P.zip vs) m x=_;unfold bindC;exact znx (i:=i) (List.nodup_cons.mp nd).2 (by simpa using h1) (by simpa using h2) hk
noncomputable def start (N:List Str) (vs:List V):St:=vs.map some++List.replicate (N.length-vs.length) none
noncomputable def zbp (CX:CXT) (P:Program) (w:World) (K:QFg) (mg:Str->Option Value) (base:Heap) (N:List Str) (qual:Str) (scope:Scope) (f:Addr) (cd:Value) (A:Around) (outer:List Env) (s:Shared) (H:Hp) (E:XK):Cx where
 prog:=P
 w:=w
 K:=K
 mg:=mg
 base:=base
 A:=A.deeper (envOfC qual scope s.heap.objs.size f cd)
 N:=N
 s₀:=s
 H₀:=H
 env:=envOfC qual scope s.heap.objs.size f cd
 outer:=outer
 stack:=envOfC qual scope s.heap.objs.size f cd::outer
 ex:=[]
 calm:=true
 fn:=λ_=>true
 pn:=[]
 xe:=λe s'=>wpAny (model P w) (A.deeper (envOfC qual scope s.heap.objs.size f cd)) (leaving (envOfC qual scope s.heap.objs.size f cd) e) (λ_ s''=>CX outer H s E e s'') (λe' s''=>CX outer H s E e' s'') s'
theorem zny {sc:Scope}{n:Nat}{x:Str}(h:sc.names.lookup x=some .cell):∃c,(cellsFrom n sc.names []).lookup x=some c:=by have q:=PySem.W.cellsFrom_some sc.names n [] (.inl h);exact Option.isSome_iff_exists.mp q
theorem zxa {CX:CXT}{P:Program}{w:World}{K:QFg}{mg:Str->Option Value}{base:Heap}{N ps:List Str}{qual:Str}{scope:Scope}{f:Addr}{cd:Value}{A:Around}{outer:List Env}{s s1:Shared}{H:Hp}{E:XK}{us:List Value}{vs:List V}
  (S:FnScope N ps scope) (hd:A.handled=none) (e0:Env0 P w K mg base A outer s H) (hl:vs.length=ps.length) (r:Vals vs us)
  (x:InCallC s s.heap.objs.size (bindL (envOfC qual scope s.heap.objs.size f cd).kindOf (ps.zip us) λ_=>none) (cellsFrom (s.heap.objs.size+1) scope.names []) (bindC (envOfC qual scope s.heap.objs.size f cd).kindOf (ps.zip us) λ_=>none) s1) :
  Inv (zbp CX P w K mg base N qual scope f cd A outer s H E) [] (start N vs) H s1:=by
 have hpl:ps.length<=N.length:=by have:=congrArg List.length S.pre;rw [List.length_take] at this;omega
 obtain ⟨h1,tk,rfl,hk⟩:=x.done;have noA:∀b:Addr,b∉(zbp CX P w K mg base N qual scope f cd A outer s H E).ex:=λb z=>absurd (show b∈([]:List Addr) from z) '*';refine ⟨⟨e0.mod,S.kind,rfl,rfl,qlr _,λy z c h1 h2=>?_,λy hy=>?_,λy c _ h=>?_,λ_=>hd,Around.frames_deeper e0.frames,.inr ⟨rfl,rfl⟩,λb z=>absurd z (noA b),e0.bs,e0.bsz,λb _ _=>noA b,λb z=>absurd z (noA b),e0.funs,e0.frf⟩,
  rfl,e0.bare,Un.kept hk,⟨_,x.toInCall.ns,λi y v h1 h2 h3=>?_⟩,λy c h=>⟨_,x.cell y c h⟩,e0.hok.fresh (qlr _),λy c h=>?_,λp hp=>absurd (show p∈([]:'(') from hp) '*',e0.hok.kept hk,?_⟩
 ·exact name_of_addr x.apart (PySem.mem_of_lookup h1) (PySem.mem_of_lookup h2)
 ·have hy:scope.names.lookup y=some .cell\/scope.names.lookup y=some .free:=hy;rcases hy with hy|hy
  ·exact zny hy
  ·exact absurd rfl (S.nofree _ (PySem.mem_of_lookup hy))
 ·exact Nat.le_of_lt (x.above y c (PySem.mem_of_lookup h))
 ·have hi:i<vs.length:=by
   unfold start at h2;by_cases hi:i<vs.length
   ·exact hi
   ·rw [List.getElem?_append_right (by simpa using hi)] at h2;rw [List.getElem?_replicate] at h2;split at h2<;>cases h2
  have ha:vs[i]?=some v:=by
   unfold start at h2;rw [List.getElem?_append_left (by simpa using hi),qgm] at h2;cases e:vs[i]? with
   |none=>rw [e] at h2;cases h2
   |some a=>rw [e] at h2;cases h2;rfl
  obtain ⟨u,hu,rv⟩:=r.get ha;have hp:ps[i]?=some y:=by rw [<-S.pre,List.getElem?_take_of_lt (by omega)];exact h1
  have ndP:ps.Nodup:=by rw [<-S.pre];exact S.nd.sublist (List.take_sublist _ _)
  refine ⟨u,rv,?_⟩;rcases S.par y (qmg hp) with k|k
  ·exact .inl ⟨k,znw ndP hp hu k⟩
  ·obtain ⟨c,e⟩:=zny (n:=s.heap.objs.size+1) k;refine .inr ⟨.inl k,c,e,?_⟩;have q:=x.cell y c e;rw [znx ndP hp hu (by show scope.names.lookup y≠_;rw [k];decide)] at q;exact q
 ·exact e0.hok.fresh (Nat.le_of_lt (x.above y c (PySem.mem_of_lookup h)))
 ·unfold start;show _=N.length;rw [qla,qlm,List.length_replicate];omega
theorem znz {CX:CXT}{P:Program}{w:World}{K:QFg}{mg:Str->Option Value}{base:Heap}{k:Nat}{f:Addr}{name qual:Str}{params:Arguments}{body:List Stmt}{scope:Scope}{dV kV doc pm cdv ct oc:Value}{an od:Option Addr}
  {osl:Array (Option Value)} {N ps:List Str} {sp:Sp} (lk:K.lookup f=some ⟨oc,od,.func (PySem.W.fnOf name qual params body scope dV kV doc pm an cdv ct),osl⟩) (hcd:PySem.W.codeIn K cdv qual=true) (S:FnScope N ps scope)
  (len:∀vs H Q E,sp vs H Q E->vs.length=ps.length)
  (hbody:∀(A:Around) (outer:List Env) (s:Shared) (H:Hp) (vs:List V) (Q:VK) (E:XK),Room k (A.deeper (envOfC qual scope s.heap.objs.size f cdv))->sp vs H Q E ->
   ∃t,PSs (zbp CX P w K mg base N qual scope f cdv A outer s H E) body t/\t {nx:=λ_ H'=>Q .non H',rt:=Q} (start N vs) H) :
  FnOk P w K mg base CX (k+1) f (PySem.W.fnOf name qual params body scope dV kV doc pm an cdv ct) ps sp:=by
 refine ⟨len,λA outer s H args us vs Q E hr e0 hb r hsp=>?_⟩;have hl:=len _ _ _ _ hsp;have KX:K.In s.heap:=e0.mod.kin.keeps λb o e=>(e0.bs b o e).1;have lim:s.heap.NoLimit:=e0.mod.nolimit.keeps λb o e=>(e0.bs b o e).1;have hkind:∀y∈ps.zip us,scope.names.lookup y.1=some .local\/(scope.names.lookup y.1=some .cell/\((cellsFrom (s.heap.objs.size+1) scope.names []).lookup y.1).isSome=true):=λhx2_ hy=>by
  obtain ⟨n,v⟩:=hx2_;rcases S.par n (List.of_mem_zip hy).1 with q|q
  ·exact .inl q
  ·exact .inr ⟨q,PySem.W.cellsFrom_some _ _ _ (.inl q)⟩
 refine codeAny_call_function hr.depth (KX _ _ lk) rfl S.co S.gen rfl (PySem.W.codeRec_of KX hcd) (hb _ _ _ _ ?_);refine wpAny_newFunctionEnv_cells S.kind hkind λenv he s1 x=>?_;subst he;refine ⟨lim.keeps x.toInCall.keep,codeAny_func ?_⟩;obtain ⟨t,ht,hq⟩:=hbody A outer s H vs Q E (hr.deeper _) hsp;have I:Inv (zbp CX P w K mg base N qual scope f cdv A outer s H E) [] (start N vs) H s1:=zxa S hr.hd e0 hl r x;refine wpAny_mono (ht [] s1 (start N vs) H _ I hq) (λfl s' hs=>?_) λe s' hs=>hs;have fin:∀{σ':St} {H':Hp} {v:V} {u:Value},Inv (zbp CX P w K mg base N qual scope f cdv A outer s H E) [] σ' H' s'->RelV v u->Q v H'->CE outer P w H s Q u s' :=
  λ{σ' H' v u} J rv q=>⟨v,H',J.os,J.bare,J.base,J.hok,rv,q⟩
 cases fl with
 |ret u=>obtain ⟨v,σ',H',J,rv,q⟩:=hs;exact fin J rv q
 |next=>obtain ⟨σ',H',J,q⟩:=hs;exact fin (v:=V.non) (u:=Value.none) J rfl q
 |brk=>obtain ⟨_,_,_,q⟩:=hs;exact False.elim q
 |cont=>obtain ⟨_,_,_,q⟩:=hs;exact False.elim q
section
variable {X:Cx}{x:Str}{p pos:Pos}{e:Expr}{es:List Expr}{t:TA}{id T:String}{r:List V->Hp->VK->Prop}
def tCB (r:List V->Hp->VK->Prop) (t:TA):TE:=λσ H Q=>t σ H λvs H1=>r vs H1 Q
theorem zge (hc:CallR X (.builtin id) r) (hg:Gl X x) (hm:X.mg x=none) (hv:bootBuiltins x=some (.builtin id)) (ha:PA X (e::es) t) (hn:x≠"__name__":=by decide) (hdb:(x==("__debug__":Str))=false:=by decide)
  (he:starEach (e::es) X.env=(false,eval e X.env)::starEach es X.env:=by rfl) (hpl:(backTo pos (starEach es X.env)).any (·.1)=false:=by rfl):PE X (.Call (.Name x p) (e::es) [] pos) (tCB r t):=by
 intro pins s σ H Q I h;refine wpAny_Call_Name_kw (zdm I hg hm hv ?_ hn hdb);exact PyProof.Rows.callWith_builtin1 (thn (ha pos pins s σ H _ I h) λus s1 ⟨vs,H1,I1,r1,q1⟩=>hc pins s1 σ H1 vs us Q I1 r1 q1) he hpl
theorem zke (hc:CallR X (.type T) r) (hg:Gl X x) (hm:X.mg x=none) (hv:bootBuiltins x=some (.type T)) (ha:PA X (e::es) t) (hn:x≠"__name__":=by decide) (hdb:(x==("__debug__":Str))=false:=by decide)
  (he:starEach (e::es) X.env=(false,eval e X.env)::starEach es X.env:=by rfl) (hpl:(backTo pos (starEach es X.env)).any (·.1)=false:=by rfl):PE X (.Call (.Name x p) (e::es) [] pos) (tCB r t):=by
 intro pins s σ H Q I h;refine wpAny_Call_Name_kw (zdm I hg hm hv ?_ hn hdb);exact PyProof.Rows.callWith_type1 (thn (ha pos pins s σ H _ I h) λus s1 ⟨vs,H1,I1,r1,q1⟩=>hc pins s1 σ H1 vs us Q I1 r1 q1) he hpl
end
end L2
namespace HT
open PySem PyProof.Rows
section
open PySem.SeqAt
open PySem.AutoSeq1 (wpAny_loadPart')
open PySem.MeetsSeq PySem.MeetsSeq2 PySem.MeetsSeq3
end
section
variable {prog:Program}{w:World}{A:Around}{E:Value->Shared->Prop}{s:Shared}
theorem cat_tup {t b:Addr}{vs ws:List Value}{Q:Value->Shared->Prop}(ht:IsTup s.heap t vs.toArray) (hb:IsTup s.heap b ws.toArray) (hv:vs≠[])
  (h1:ws=[]->Q (.ref t) s) (h2:ws≠[]->Q (.ref s.heap.objs.size) {s with heap:=s.heap.push {cls:=.type "tuple",data:=.seq (vs++ws).toArray}})
  (hsz:vs.length+ws.length<=sizeLine):wpAny '&' A (binaryOp .Add (.ref t) (.ref b)) Q E s:=by
 obtain ⟨⟨cls,dd,data,sl⟩,ho,hc,n,hd⟩:=id ht;obtain ⟨⟨cls2,dd2,data2,sl2⟩,ho2,hc2,n2,hd2⟩:=id hb;simp only at hc hd hc2 hd2;subst hc hd hc2 hd2;have e:vs.toArray++ws.toArray=(vs++ws).toArray:=by simp
 by_cases hw:ws=[]
 ·exact concat_meets ⟨_,ho,rfl⟩ ⟨_,ho2,rfl⟩ noFill_tuple_add seq_tuple_add PySem.F.slot_tuple_add PySem.F.entry_tuple_add (PySem.F.args_tuple_add_2 _ _)
   (tuple_addW1 t b vs.toArray ws.toArray n n2 dd dd2 sl sl2 (by simpa using hv) (by simp [hw])) ⟨ho,ho2,h1 hw⟩
 ·refine concat_meets ⟨_,ho,rfl⟩ ⟨_,ho2,rfl⟩ noFill_tuple_add seq_tuple_add PySem.F.slot_tuple_add PySem.F.entry_tuple_add (PySem.F.args_tuple_add_2 _ _)
   (tuple_addW2 t b vs.toArray ws.toArray n n2 dd dd2 sl sl2 (by simpa using hv) (by simpa using hw) (by rw [List.size_toArray,List.size_toArray];exact hsz)) ⟨ho,ho2,?_⟩
  rw [e];exact h2 hw
noncomputable def sIx (n d:Nat):Option Int->Nat
 |none=>d
 |some v=>if v<0 then (v+(n:Int)).toNat else min v.toNat n
theorem sIx_none (n d:Nat):sIx n d none=d:=rfl
theorem sIx_nat (n d k:Nat):sIx n d (some (k:Int))=min k n:=by show (if (k:Int)<0 then ((k:Int)+(n:Int)).toNat else min (k:Int).toNat n)=min k n;rw [if_neg (by omega),Int.toNat_natCast]
theorem zxb (n d:Nat) (hd:d<=n) (o:Option Int):sIx n d o<=n:=by
 cases o with
 |none=>exact hd
 |some v=>
  show (if v<0 then (v+(n:Int)).toNat else min v.toNat n)<=n;by_cases hv:v<0
  ·rw [if_pos hv];omega
  ·rw [if_neg hv];exact Nat.min_le_right _ _
theorem zn0 (v:Int) (n d:Nat):(if v<0 then max (v+(n:Int)) 0 else min v (n:Int))=((sIx n d (some v):Nat):Int):=by
 show (if v<0 then max (v+(n:Int)) 0 else min v (n:Int))=(((if v<0 then (v+(n:Int)).toNat else min v.toNat n):Nat):Int);by_cases hv:v<0
 ·simp only [if_pos hv];omega
 ·simp only [if_neg hv];omega
theorem zxc (lo hi:Option Int) (n:Nat):Builtin.Slice.sliceAdjust lo hi 1 (n:Int)=(((sIx n 0 lo:Nat):Int),((sIx n n hi:Nat):Int)):=by
 have h1:¬((1:Int)<0):=by omega
 unfold Builtin.Slice.sliceAdjust;simp only [h1,if_false];refine Prod.ext ?_ ?_
 ·cases lo with
  |none=>rfl
  |some v=>exact zn0 v n 0
 ·cases hi with
  |none=>rfl
  |some v=>exact zn0 v n n
theorem zxd (i j:Nat):Builtin.Slice.slicePlaces (i:Int) (j:Int) 1=j-i:=by
 unfold Builtin.Slice.slicePlaces;have h1:(1:Int)>0:=by omega
 simp only [h1,if_true,Int.ediv_one];split<;>omega
theorem zn1 {v:Value}{o:Option Int}{Q:Option Int->Shared->Prop}(p:IsPart v o) (h:Q o s):wpAny '&' A (Builtin.Slice.slicePartIndex v) Q E s:=by
 cases p with
 |none=>exact slicePart_none h
 |int i t=>exact slicePart_int h
theorem zn2 {sl:Addr}{vl vu:Value}{lo hi:Option Int}{n:Nat}{Q:Int×Int×Nat->Shared->Prop}(hs:s.heap.IsSliceOf sl vl vu .none) (pl:IsPart vl lo) (pu:IsPart vu hi)
  (h:Q (((sIx n 0 lo:Nat):Int),1,sIx n n hi-sIx n 0 lo) s):wpAny '&' A (Builtin.Slice.sliceApplied (.ref sl) (pure (n:Int))) Q E s:=by
 obtain ⟨os,hos,hcs,hds⟩:=id hs;unfold Builtin.Slice.sliceApplied Builtin.Slice.sliceFields;refine qwb (qwb (wpAny_field hos hds (x:=vl) rfl (qwb (wpAny_field hos hds (x:=vu) rfl (qwb (wpAny_field hos hds (x:=.none) rfl (qwp ?_)))))));refine qwb (slicePart_none ?_);show wpAny _ _ (if ((1:Int)==0)=true then _ else _) _ _ s;rw [if_neg '$'];refine qwb (zn1 pl (qwb (zn1 pu (qwb (qwp ?_)))));show wpAny _ _ (match Builtin.Slice.sliceAdjust lo hi 1 (n:Int) with|(lo,hi)=>pure (lo,(1:Int),Builtin.Slice.slicePlaces lo hi 1)) _ _ s;rw [zxc lo hi n];show wpAny _ _ (pure (((sIx n 0 lo:Nat):Int),(1:Int),Builtin.Slice.slicePlaces ((sIx n 0 lo:Nat):Int) ((sIx n n hi:Nat):Int) 1)) _ _ s;rw [zxd];exact qwp h
theorem zxe (xs:Array Value) (i k:Nat):((List.range k).filterMap λ(m:Nat)=>xs[((i:Int)+(m:Int)*1).toNat]?).toArray=((xs.toList.drop i).take k).toArray:=by
 have e:(λ(m:Nat)=>xs[((i:Int)+(m:Int)*1).toNat]?)=λm=>xs[i+m]?:=by
  funext m;have:((i:Int)+(m:Int)*1).toNat=i+m:=by omega
  rw [this]
 rw [e];have:=pick_run xs i k;rw [List.filterMap_map] at this;have e2:((λx=>xs[x]?) ∘ λx=>i+x)=λm=>xs[i+m]?:=rfl;rw [e2] at this;rw [this]
theorem getItem_tuple_cut {t sl:Addr}{items:Array Value}{vl vu:Value}{lo hi:Option Int}{Q:Value->Shared->Prop}(ht:IsTup s.heap t items) (hs:s.heap.IsSliceOf sl vl vu .none) (pl:IsPart vl lo) (pu:IsPart vu hi)
  (hw:¬(sIx items.size 0 lo=0/\sIx items.size items.size hi=items.size))
  (h:Q (.ref s.heap.objs.size) {s with heap:=s.heap.push {cls:=.type "tuple",data:=.seq ((items.toList.drop (sIx items.size 0 lo)).take (sIx items.size items.size hi-sIx items.size 0 lo)).toArray}})
  (hsz:items.size<=sizeLine):wpAny '&' A (getItem (.ref t) (.ref sl)) Q E s:=by
 have htake:sizeOk (.seq ((items.toList.drop (sIx items.size 0 lo)).take (sIx items.size items.size hi-sIx items.size 0 lo)).toArray):=by show ((items.toList.drop (sIx items.size 0 lo)).take (sIx items.size items.size hi-sIx items.size 0 lo)).toArray.size<=sizeLine;rw [List.size_toArray,List.length_take,List.length_drop,Array.length_toList];omega
 have hj:sIx items.size items.size hi<=items.size:=zxb _ _ (qlr _) hi;obtain ⟨os,hos,hcs,hds⟩:=id hs;have hTs:s.TypeIs (.ref sl) "slice":=⟨os,hos,hcs⟩;unfold getItem
 try with_reducible refine wpAny_holding ?_
 first|refine qwb (qwp ?_)|skip
 refine qwb (wpAny_sequenceKey ht.typeIs '$' ?_);refine qwb (wpAny_callSpecial?_slot (name:=Str.ofString "__getitem__") ht.typeIs PyProof.Rows.slot_tuple_getitem
  (wpAny_call_entry PyProof.Rows.slot_tuple_getitem ht.typeIs entry_tuple_getitem ?_ (args_tuple_getitem _ _)))
 show wpAny _ _ (Builtin.Tuple.tupleItemsOf (.ref t)>>=_) _ _ s;refine qwb (tupleItemsOf_ ht ?_);refine qwb (wpAny_typeOf hTs ?_);rw [if_pos '$'];refine qwb (zn2 hs pl pu ?_);have hno:¬((((sIx items.size 0 lo:Nat):Int)==0&&(1:Int)==1&&(sIx items.size items.size hi-sIx items.size 0 lo)==items.size)=true):=by intro q;rw [Bool.and_eq_true,Bool.and_eq_true] at q;have q1:((sIx items.size 0 lo:Nat):Int)=0:=eq_of_beq q.1.1;have q2:sIx items.size items.size hi-sIx items.size 0 lo=items.size:=eq_of_beq q.2;exact hw ⟨by omega,by omega⟩
 show wpAny _ _ (if (((sIx items.size 0 lo:Nat):Int)==0&&(1:Int)==1&&(sIx items.size items.size hi-sIx items.size 0 lo)==items.size)=true then _ else _) _ _ s;rw [if_neg hno,zxe]
 first
  |exact qwb (m:=Builtin.Tuple.tupleExact _) (wpAny_newObj_type (qwp ⟨_,rfl,qwp h⟩) htake)
  |exact qwb (m:=Builtin.Tuple.tupleExact _) (wpAny_newObj_type (qwb (qwp (qwp ⟨_,rfl,qwp h⟩))) htake)
  |exact qwb (qwb (m:=Builtin.Tuple.tupleExact _) (wpAny_newObj_type (qwp (qwp ⟨_,rfl,qwp h⟩)) htake))
  |exact qwb (qwb (m:=Builtin.Tuple.tupleExact _) (wpAny_newObj_type (qwp ⟨_,rfl,qwp h⟩) htake))
end
end HT
namespace L2
open PySem PySem.Spec PyProof.Rows
abbrev TO:=St->Hp->(Option Int->Hp->Prop)->Prop
def PO (X:Cx) (e:Option Expr) (t:TO):Prop :=
 ∀(pins:'(') (s:Shared) (σ:St) (H:Hp) (Q:Option Int->Hp->Prop),Inv X pins σ H s->t σ H Q ->
  wpAny '#' X.A (evalPart e X.env) (λu s'=>∃o H',Inv X pins σ H' s'/\IsPart u o/\Q o H') X.xe s
def zxf:TO:=λ_ H Q=>Q none H
def zxg (t:TE):TO:=λσ H Q=>t σ H λx H1=>∃i,x=.int i/\Q (some i) H1
section
variable {X:Cx}{e:Expr}{te:TE}{lo hi:Option Expr}{tl th:TO}{pos p2:Pos}
theorem zxh:PO X none zxf:=by intro pins s σ H Q I h;rw [evalPart_none];exact qwp ⟨none,H,I,.none,h⟩
theorem zxi (h:PE X e te):PO X (some e) (zxg te):=by intro pins s σ H Q I hw;rw [evalPart_some];refine thn (h pins s σ H _ I hw) λu s1 ⟨x,H1,I1,r1,q1⟩=>?_;obtain ⟨i,rfl,q⟩:=q1;obtain ⟨t,rfl⟩:=r1;exact ⟨some i,H1,I1,.int i t,q⟩
def SlR (X:Cx) (r:V->Option Int->Option Int->Hp->VK->Prop):Prop :=
 ∀(pins:'(') (s:Shared) (σ:St) (H:Hp) (x:V) (v vl vu:Value) (lo hi:Option Int) (sl:Addr) (Q:VK),Inv X pins σ H s->RelV x v->s.heap.IsSliceOf sl vl vu .none->IsPart vl lo->IsPart vu hi->r x lo hi H Q ->
  ∃T id,typeLookup (.type T) "__getitem__" = pure (some (.builtin id))/\s.TypeIs v T/\wpAny '#' X.A (getItem v (.ref sl)) (EP X pins σ Q) X.xe s
theorem SlR.or {r r':V->Option Int->Option Int->Hp->VK->Prop}(h:SlR X r) (h':SlR X r'):SlR X (λx lo hi H Q=>r x lo hi H Q\/r' x lo hi H Q):=by
 intro pins s σ H x v vl vu lo hi sl Q I rx hs pl pu q;rcases q with q|q
 ·exact h pins s σ H x v vl vu lo hi sl Q I rx hs pl pu q
 ·exact h' pins s σ H x v vl vu lo hi sl Q I rx hs pl pu q
def tSl (r:V->Option Int->Option Int->Hp->VK->Prop) (te:TE) (tl th:TO):TE:=λσ H Q=>te σ H λx H1=>tl σ H1 λl H2=>th σ H2 λu H3=>r x l u H3 Q
theorem zxj {r:V->Option Int->Option Int->Hp->VK->Prop}(hr:SlR X r) (he:PE X e te) (hl:PO X lo tl) (hu:PO X hi th):PE X (.Subscript e (.Slice lo hi none p2) pos) (tSl r te tl th):=by intro pins s σ H Q I h;refine Subscript_ (thn (he pins s σ H _ I h) λv s1 ⟨x,H1,I1,r1,q1⟩=>?_);refine wpAny_Slice (thn (hl pins s1 σ H1 _ I1 q1) λvl s2 ⟨l,H2,I2,pl,q2⟩=>thn (hu pins s2 σ H2 _ I2 q2) λvu s3 ⟨u,H3,I3,pu,q3⟩=>?_);rw [evalPart_none];refine qwp ?_;have I4:Inv X pins σ H3 {s3 with heap:=s3.heap.push {cls:=.type "slice",data:=.fields #[vl,vu,.none]}}:=I3.kept (t':=s3.toks) λb ob q=>qps _ q;obtain ⟨T,id,hT,ht,hg⟩:=hr pins {s3 with heap:=s3.heap.push {cls:=.type "slice",data:=.fields #[vl,vu,.none]}} σ H3 x v vl vu l u s3.heap.objs.size Q I4 r1 (Heap.IsSliceOf.new ..) pl pu q3;show wpAny '#' X.A (subscriptTail e (.Slice lo hi none p2) v (.ref s3.heap.objs.size)) (EP X pins σ Q) X.xe {s3 with heap:=s3.heap.push {cls:=.type "slice",data:=.fields #[vl,vu,.none]}};exact tail_any (ops:=[.ref s3.heap.objs.size,v]) ht hT hg (by with_unfolding_all rfl)
noncomputable def zc8 (xs:List V) (lo hi:Option Int):List V:=(xs.drop (HT.sIx xs.length 0 lo)).take (HT.sIx xs.length xs.length hi-HT.sIx xs.length 0 lo)
theorem zn3 (xs:List V) (lo hi:Option Int):(zc8 xs lo hi).length<=xs.length:=by unfold zc8;rw [List.length_take,List.length_drop];omega
def zxk (K:QFg):V->Option Int->Option Int->Hp->VK->Prop:=λx lo hi H Q=>∃a xs,x=.ref a/\SqT K H a xs /\
 ¬(HT.sIx xs.length 0 lo=0/\HT.sIx xs.length xs.length hi=xs.length)/\∀p,H p=none->Q (.ref p) (upd H p (.tup (zc8 xs lo hi)))
theorem sl_tup:SlR X (zxk X.K):=by
 intro pins s σ H x v vl vu lo hi sl Q I rx hs pl pu h;obtain ⟨a,xs,rfl,hx,hw,q⟩:=h;cases rx;obtain ⟨its,r,ht,hz⟩:=I.tuple hx;have hlen:its.toArray.size=xs.length:=by rw [List.size_toArray];exact r.length.symm
 refine ⟨"tuple",_,PyProof.Rows.slot_tuple_getitem.lookup,ht.typeIs,?_⟩;refine HT.getItem_tuple_cut ht hs pl pu (by rw [hlen];exact hw) ?_ (by rw [hlen];exact hz);rw [hlen];refine ⟨.ref s.heap.objs.size,_,I.laid (t':=s.toks) (o:=.tup (zc8 xs lo hi)) (λb ob q=>qps _ q) (qlr _) ?_,rfl,q _ (I.hok.fresh (qlr _))⟩;exact ⟨Nat.le_trans (zn3 xs lo hi) hz,_,(r.drop (HT.sIx xs.length 0 lo)).take (HT.sIx xs.length xs.length hi-HT.sIx xs.length 0 lo),IsTD.new _ _⟩
def zkf (K:QFg):R2:=λx y H Q=>∃a b xs ys,x=.ref a/\y=.ref b/\SqT K H a xs/\SqT K H b ys/\xs≠[]/\xs.length+ys.length<=sizeLine /\
 (ys=[]->Q (.ref a) H)/\(ys≠[]->∀p,H p=none->Q (.ref p) (upd H p (.tup (xs++ys))))
theorem Vals.nil_iff {xs:List V}{us:List Value}(r:Vals xs us):us=[]↔xs=[]:=by
 cases r with
 |nil=>simp
 |cons _ _=>simp
theorem op_catT:OpR X (binaryOp .Add) (zkf X.K):=by intro pins s σ H x y v u Q I rx ry h;obtain ⟨a,b,xs,ys,rfl,rfl,ha,hb,hx,hz,q1,q2⟩:=h;cases rx;cases ry;obtain ⟨its,r1,p1,_⟩:=I.tuple ha;obtain ⟨its2,r2,p2,_⟩:=I.tuple hb;refine HT.cat_tup p1 p2 (λz=>hx (r1.nil_iff.mp z)) (λz=>⟨.ref a,H,I,rfl,q1 (r2.nil_iff.mp z)⟩) (λz=>?_) (by rw [<-r1.length,<-r2.length];exact hz);refine ⟨.ref s.heap.objs.size,_,I.laid (t':=s.toks) (o:=.tup (xs++ys)) (λb ob q=>qps _ q) (qlr _) ?_,rfl,q2 (λw=>z (r2.nil_iff.mpr w)) _ (I.hok.fresh (qlr _))⟩;exact ⟨by rw [qla];exact hz,_,r1.append r2,IsTD.new _ _⟩
end
noncomputable def ixN (n:Nat) (i:Int):Option Nat:=if 0<=i then (if i<n then some i.toNat else none) else if -(n:Int)<=i then some (i+n).toNat else none
noncomputable def atI {α:Type}(xs:List α) (i:Int):Option α:=(ixN xs.length i).bind λj=>xs[j]?
theorem zn4 {n:Nat}{i:Int}{j:Nat}(h:ixN n i=some j):seqIndex? i n=some j/\j<n/\-(n:Int)<=i/\i<n:=by
 unfold ixN at h;by_cases h0:0<=i
 ·rw [if_pos h0] at h;by_cases h1:i<n
  ·rw [if_pos h1] at h;have e:i.toNat=j:=qoi h;exact ⟨by rw [seqIndex_of h0 h1,e],by omega,by omega,h1⟩
  ·rw [if_neg h1] at h;cases h
 ·rw [if_neg h0] at h;by_cases h1:-(n:Int)<=i
  ·rw [if_pos h1] at h;have e:(i+n).toNat=j:=qoi h;exact ⟨by rw [seqIndex_neg (by omega) h1,e],by omega,h1,by omega⟩
  ·rw [if_neg h1] at h;cases h
theorem atI_get {α:Type}{xs:List α}{i:Int}{v:α}(h:atI xs i=some v):∃j,seqIndex? i xs.length=some j/\xs[j]?=some v/\j<xs.length/\-(xs.length:Int)<=i/\i<xs.length:=by
 unfold atI at h;cases e:ixN xs.length i with
 |none=>rw [e] at h;cases h
 |some j=>rw [e] at h;obtain ⟨h1,h2,h3,h4⟩:=zn4 e;exact ⟨j,h1,h,h2,h3,h4⟩
def zn5 (b:Expr):Prop:=∀o i,subscripted b false o i=operate [o,i] (getItem o i)
def IxR (X:Cx) (r:R2):Prop :=
 ∀(value slice:Expr) (pins:'(') (s:Shared) (σ:St) (H:Hp) (x y:V) (v u:Value) (Q:VK),Inv X pins σ H s->RelV x v->RelV y u->r x y H Q ->
  subscripted slice false v u=operate [v,u] (getItem v u)->wpAny '#' X.A (subscriptTail value slice v u) (EP X pins σ Q) X.xe s
def MtR (X:Cx) (id:String) (r:V->List V->Hp->VK->Prop):Prop :=
 ∀(pins:'(') (s:Shared) (σ:St) (H:Hp) (x:V) (xs:List V) (v:Value) (us:List Value) (Q:VK),Inv X pins σ H s->RelV x v->Vals xs us->r x xs H Q ->
  wpAny '#' X.A (call (.builtin id) (v::us)) (EP X pins σ Q) X.xe s
section
variable {X:Cx}{a b:Expr}{ta tb:TE}{pos:Pos}
theorem IxR.or {r r':R2}(h:IxR X r) (h':IxR X r'):IxR X (λx y H Q=>r x y H Q\/r' x y H Q):=by
 intro value slice pins s σ H x y v u Q I rx ry q hs;rcases q with q|q
 ·exact h value slice pins s σ H x y v u Q I rx ry q hs
 ·exact h' value slice pins s σ H x y v u Q I rx ry q hs
theorem zxl {r:R2}(hr:IxR X r) (ha:PE X a ta) (hb:PE X b tb) (hs:zn5 b):PE X (.Subscript a b pos) (tOp r ta tb):=by intro pins s σ H Q I h;exact Subscript_ (zj9 ha hb I h λv u s2 x y H2 I2 rx ry q=>hr a b pins s2 σ H2 x y v u Q I2 rx ry q (hs _ _))
def zn6 (K:QFg):R2:=λx y H Q=>∃p xs i v,x=.ref p/\y=.int i/\SqL K H p xs/\atI xs i=some v/\Q v H
def zn7 (K:QFg):R2:=λx y H Q=>∃p xs i v,x=.ref p/\y=.int i/\SqT K H p xs/\atI xs i=some v/\Q v H
def zkg:R2:=λx y H Q=>∃z i c,x=.str z/\y=.int i/\z.length<=sizeLine/\atI z.cps.toList i=some c/\Q (.str ⟨#[c]⟩) H
theorem ix_list:IxR X (zn6 X.K):=by
 intro value slice pins s σ H x y v u Q I rx ry h hs;obtain ⟨p,xs,i,z,rfl,rfl,hq,he,q⟩:=h;cases rx;obtain ⟨t,rfl⟩:=ry;obtain ⟨its,r,pl,hz⟩:=I.list hq;obtain ⟨j,h1,h2,h3,h4,h5⟩:=atI_get he;obtain ⟨w,ew,rw'⟩:=r.get h2;have hl:=r.length;have hn:=zeo;have fin:EP X pins σ Q w s:=⟨z,H,I,rw',q⟩;by_cases h0:0<=i
 ·have hj:i.toNat=j:=by rw [seqIndex_of h0 h5] at h1;exact qoi h1
  exact item_listR pl.isList h0 (by omega) (by rw [hj];simpa using ew) fin hs
 ·have hj:(i+(its.toArray.size:Int)).toNat=j:=by rw [seqIndex_neg (by omega) h4] at h1;rw [List.size_toArray,<-hl];exact qoi h1
  exact subscriptTail_builtinR (x:=w) pl.isList.typeIs slot_list_getitem.lookup
   (wpAny_getItem_list_neg (Q:=λr s'=>r=w/\EP X pins σ Q r s') pl.isList (by omega) (by rw [List.size_toArray]<;>omega) (by omega) (by rw [hj];simpa using ew) ⟨rfl,fin⟩) hs
theorem ix_tup:IxR X (zn7 X.K):=by
 intro value slice pins s σ H x y v u Q I rx ry h hs;obtain ⟨p,xs,i,z,rfl,rfl,hq,he,q⟩:=h;cases rx;obtain ⟨t,rfl⟩:=ry;obtain ⟨its,r,pl,hz⟩:=I.tuple hq;obtain ⟨j,h1,h2,h3,h4,h5⟩:=atI_get he;obtain ⟨w,ew,rw'⟩:=r.get h2;have hl:=r.length;have hn:=zeo;have fin:EP X pins σ Q w s:=⟨z,H,I,rw',q⟩;exact subscriptTail_builtinR (x:=w) pl.typeIs slot_tuple_getitem.lookup
  (getItem_tuple (j:=j) (Q:=λr s'=>r=w/\EP X pins σ Q r s') pl (by omega) (by omega) (by rw [List.size_toArray,<-hl];exact h1) (by simpa using ew) ⟨rfl,fin⟩) hs
theorem zxm:IxR X zkg:=by
 intro value slice pins s σ H x y v u Q I rx ry h hs;obtain ⟨z,i,c,rfl,rfl,hz,he,q⟩:=h;obtain ⟨t,rfl⟩:=rx;obtain ⟨t',rfl⟩:=ry;obtain ⟨j,h1,h2,h3,h4,h5⟩:=atI_get he;have hl:z.cps.toList.length=z.length:=by simp [Str.length]
 rw [hl] at h1 h4 h5;have hn:=zeo;exact tail_any (typeIs_str s z t) slot_str_getitem.lookup (getItem_str (c:=c) (by
  have e1:decide (i < -(2^63:Int))=false:=decide_eq_false (by omega);have e2:decide (i≥2^63)=false:=decide_eq_false (by omega);rw [e1,e2,Bool.or_false]) (by rw [h1];simpa using h2) ⟨.str ⟨#[c]⟩,H,I.tok _,⟨_,rfl⟩,q⟩) hs
def rIx (K:QFg):R2:=λx y H Q=>zn6 K x y H Q\/zn7 K x y H Q\/zkg x y H Q
theorem zxn:IxR X (rIx X.K):=ix_list.or (ix_tup.or zxm)
theorem zxo (its:List Value) (n j:Nat) (u:Value):Obj.mapSeq (·.setIfInBounds j u) {cls:=.type "list",data:=.seq its.toArray n}={cls:=.type "list",data:=.seq (its.set j u).toArray n}:=by simp [Obj.mapSeq]
theorem Inv.lst {pins:'('}{σ:St}{H:Hp}{s:Shared}{p:Addr}{xs:List V}(I:'%') (h:H p=some (.lst xs)) :
  ∃(its:List Value) (n:Nat),Vals xs its/\s.heap.get? p=some {cls:=.type "list",data:=.seq its.toArray n}/\xs.length<=sizeLine:=by
 obtain ⟨z,its,n,r,e⟩:=I.hok p _ h;exact ⟨its,n,r,e,z⟩
theorem Inv.lstUpd {pins:'('}{σ:St}{H:Hp}{s:Shared}{p:Addr}{xs ys:List V}{its its':List Value}{n n':Nat}{f:Obj->Obj}(I:'%') (h:H p=some (.lst xs))
  (ho:s.heap.get? p=some {cls:=.type "list",data:=.seq its.toArray n}) (hf:f {cls:=.type "list",data:=.seq its.toArray n}={cls:=.type "list",data:=.seq its'.toArray n'}) (r:Vals ys its') (hz:ys.length<=sizeLine) (t:Nat) :
  Inv X pins σ (upd H p (.lst ys)) {s with heap:=s.heap.update p f,toks:=t}:=by
 have e:(s.heap.update p f).get? p=some {cls:=.type "list",data:=.seq its'.toArray n'}:=by rw [Heap.get?_update_self f ho (by rw [hf]<;>rfl),hf]
 refine I.write (x:=p) (e:=p) (by rw [h];trivial) (.inl rfl) (λb u hb q=>(Heap.get?_update_other _ _ (Ne.symm hb)).trans q) ⟨_,e⟩ ?_;exact ⟨hz,its',n',r,e⟩
def rSetL:V->V->V->Hp->(Hp->Prop)->Prop:=λo i v H Q=>∃p xs k j,o=.ref p/\i=.int k/\H p=some (.lst xs)/\ixN xs.length k=some j/\Q (upd H p (.lst (xs.set j v)))
theorem zxp:zne X rSetL:=by
 intro pins s σ H o i v ov iv u Q I ro ri rv h;obtain ⟨p,xs,k,j,rfl,rfl,hp,hj,q⟩:=h;cases ro;obtain ⟨t,rfl⟩:=ri;obtain ⟨its,n,r,ho,hz⟩:=I.lst hp;obtain ⟨h1,h2,h3,h4⟩:=zn4 hj;have hl:=r.length;have hn:=zeo;have I':Inv X pins σ (upd H p (.lst (xs.set j v))) {s with heap:=s.heap.update p (Obj.mapSeq (·.setIfInBounds j u))} :=
  I.lstUpd hp ho (zxo its n j u) (r.set rv j) (by rw [List.length_set];exact hz) s.toks
 by_cases h0:0<=k
 ·have hk:k.toNat=j:=by rw [seqIndex_of h0 h4] at h1;exact qoi h1
  exact PySem.W.ki_setAt ho h0 (by omega) (by rw [List.size_toArray,<-hl];exact h4) (by rw [hk];exact ⟨_,I',q⟩)
 ·have hk:(k+(its.toArray.size:Int)).toNat=j:=by rw [seqIndex_neg (by omega) h3] at h1;rw [List.size_toArray,<-hl];exact qoi h1
  exact PySem.W.ki_setBack ho (by omega) (by rw [List.size_toArray,<-hl];exact h3) (by omega) (by rw [hk];exact ⟨_,I',q⟩)
theorem zxq (lo hi:Option Int) (n:Nat):(sliceBounds lo hi none n).1=((HT.sIx n 0 lo:Nat):Int)/\(sliceBounds lo hi none n).2.1=((HT.sIx n n hi:Nat):Int)/\(sliceBounds lo hi none n).2.2=1:=by
 refine ⟨?_,?_,rfl⟩
 ·cases lo with
  |none=>simp [sliceBounds,HT.sIx]
  |some i=>
   simp only [sliceBounds,HT.sIx,Option.getD_none,show (1:Int)>0 by decide,if_true];by_cases h:i<0
   ·simp only [h,if_true]<;>omega
   ·simp only [h,if_false]<;>omega
 ·cases hi with
  |none=>simp [sliceBounds,HT.sIx]
  |some i=>
   simp only [sliceBounds,HT.sIx,Option.getD_none,show (1:Int)>0 by decide,if_true];by_cases h:i<0
   ·simp only [h,if_true]<;>omega
   ·simp only [h,if_false]<;>omega
theorem zxr (its:List Value) (lo hi:Option Int):slicePick its.toArray lo hi none=((its.drop (HT.sIx its.length 0 lo)).take (HT.sIx its.length its.length hi-HT.sIx its.length 0 lo)).toArray:=by obtain ⟨h1,h2,h3⟩:=zxq lo hi its.toArray.size;unfold slicePick;rw [h1,h2,h3];simp only [sliceRange_one,pick_run,List.size_toArray]<;>rfl
def zxs (K:QFg):V->Option Int->Option Int->Hp->VK->Prop:=λx lo hi H Q=>∃a xs,x=.ref a/\SqL K H a xs/\∀p,H p=none->Q (.ref p) (upd H p (.lst (zc8 xs lo hi)))
theorem zxt:SlR X (zxs X.K):=by intro pins s σ H x v vl vu lo hi sl Q I rx hs pl pu h;obtain ⟨a,xs,rfl,hx,q⟩:=h;cases rx;obtain ⟨its,r,ht,hz⟩:=I.list hx;have hlen:=r.length;refine ⟨"list",_,slot_list_getitem.lookup,ht.isList.typeIs,?_⟩;refine wpAny_getItem_list_slice ht.isList hs pl pu .none '*' ?_ (by rw [List.size_toArray]<;>omega);rw [zxr,<-hlen];refine ⟨.ref s.heap.objs.size,_,I.laid (t':=s.toks) (o:=.lst (zc8 xs lo hi)) (λb ob q=>qps _ q) (qlr _) ?_,rfl,q _ (I.hok.fresh (qlr _))⟩;exact ⟨Nat.le_trans (zn3 xs lo hi) hz,_,0,(r.drop (HT.sIx xs.length 0 lo)).take (HT.sIx xs.length xs.length hi-HT.sIx xs.length 0 lo),Heap.get?_push_size _ rfl⟩
noncomputable def zc9:V->Bool
 | .non=>true
 | .bl _=>true
 | .int _=>true
 | .str _=>true
 |_=>false
noncomputable def eqV:V->V->Bool
 | .non,.non=>true
 | .bl a,.bl b=>a==b
 | .bl a,.int b=>(if a then 1 else 0)==b
 | .int a,.bl b=>a==(if b then 1 else 0)
 | .int a,.int b=>a==b
 | .str a,.str b=>a==b
 |_,_=>false
theorem zxu {A:Around}{s:Shared}{y x:V}{u v:Value}(ry:RelV y u) (rx:RelV x v) (fy:zc9 y=true) (fx:zc9 x=true):SeqAt.EqAt A s u v (eqV y x):=by
 cases y with
 |non=>
  cases ry;cases x with
  |non=>cases rx;exact SeqAt.EqAt.same _
  |bl b=>cases rx;exact SeqAt.EqAt.none_bool b
  |int b=>obtain ⟨t,rfl⟩:=rx;exact SeqAt.EqAt.none_int b t
  |str b=>obtain ⟨t,rfl⟩:=rx;exact SeqAt.EqAt.none_str b t
  |_=>exact absurd (show false=true from fx) Bool.false_ne_true
 |bl a=>
  cases ry;cases x with
  |non=>cases rx;exact SeqAt.EqAt.bool_none a
  |bl b=>cases rx;exact SeqAt.EqAt.bool_bool a b
  |int b=>obtain ⟨t,rfl⟩:=rx;exact SeqAt.EqAt.bool_int a b t
  |str b=>obtain ⟨t,rfl⟩:=rx;exact SeqAt.EqAt.bool_str a b t
  |_=>exact absurd (show false=true from fx) Bool.false_ne_true
 |int a=>
  obtain ⟨t',rfl⟩:=ry;cases x with
  |non=>cases rx;exact SeqAt.EqAt.int_none a t'
  |bl b=>cases rx;exact SeqAt.EqAt.int_bool a t' b
  |int b=>obtain ⟨t,rfl⟩:=rx;exact SeqAt.EqAt.int_int a t' b t
  |str b=>obtain ⟨t,rfl⟩:=rx;exact SeqAt.EqAt.int_str a t' b t
  |_=>exact absurd (show false=true from fx) Bool.false_ne_true
 |str a=>
  obtain ⟨t',rfl⟩:=ry;cases x with
  |non=>cases rx;exact SeqAt.EqAt.str_none a t'
  |bl b=>cases rx;exact SeqAt.EqAt.str_bool a t' b
  |int b=>obtain ⟨t,rfl⟩:=rx;exact SeqAt.EqAt.str_int a t' b t
  |str b=>obtain ⟨t,rfl⟩:=rx;exact SeqAt.EqAt.str_str a t' b t
  |_=>exact absurd (show false=true from fx) Bool.false_ne_true
 |_=>exact absurd (show false=true from fy) Bool.false_ne_true
noncomputable def eqU (x:V) (u:Value):Bool:=match u with
 | .none=>eqV .non x
 | .bool b=>eqV (.bl b) x
 | .int i _=>eqV (.int i) x
 | .str z _=>eqV (.str z) x
 |_=>false
theorem zn8 {x y:V}{u:Value}(r:RelV y u) (f:zc9 y=true):eqU x u=eqV y x:=by
 cases y with
 |non=>cases r;rfl
 |bl b=>cases r;rfl
 |int i=>obtain ⟨t,rfl⟩:=r;rfl
 |str z=>obtain ⟨t,rfl⟩:=r;rfl
 |_=>exact absurd (show false=true from f) Bool.false_ne_true
theorem zkh {x:V}:∀{xs:List V}{us:List Value},Vals xs us->xs.all zc9=true->us.any (eqU x)=xs.any λy=>eqV y x
 |_,_,.nil,_=>rfl
 |y::xs,u::us,.cons r t,f=>by rw [List.all_cons,Bool.and_eq_true] at f;rw [List.any_cons,List.any_cons,zn8 r f.1,zkh t f.2]
theorem zki {A:Around}{s:Shared}{x:V}{v:Value}(rx:RelV x v) (fx:zc9 x=true):∀{xs:List V}{us:List Value},Vals xs us->xs.all zc9=true->∀u∈us,SeqAt.EqAt A s u v (eqU x u)
 |_,_,.nil,_=>λu hu=>by cases hu
 |y::xs,u::us,.cons r t,f=>λu' hu=>by
  rw [List.all_cons,Bool.and_eq_true] at f;rcases List.mem_cons.mp hu with rfl|hu
  ·rw [zn8 r f.1];exact zxu r rx f.1 fx
  ·exact zki rx fx t f.2 u' hu
noncomputable def inV (x:V) (xs:List V):Bool:=xs.any λy=>eqV y x
def rIn (K:QFg) (neg:Bool):R2:=λx y H Q=>∃p xs,y=.ref p/\(SqL K H p xs\/SqT K H p xs)/\zc9 x=true/\xs.all zc9=true/\Q (.bl (if neg then !inV x xs else inV x xs)) H
theorem zxv:OpR X (compareOp .NotIn) (rIn X.K true):=by
 intro pins s σ H x y v u Q I rx ry h;obtain ⟨p,xs,rfl,hq,fx,fs,q⟩:=h;cases ry;rcases hq with hq|hq
 ·obtain ⟨its,r,pl,hz⟩:=I.list hq;refine SeqAt.notIn_listAt (eqU x) pl.isList (λw hw=>zki rx fx r fs w (by simpa using hw)) ⟨.bl _,H,I,rfl,?_⟩;rw [show its.toArray.any (eqU x)=its.any (eqU x) by simp,zkh r fs];exact q
 ·obtain ⟨its,r,pl,hz⟩:=I.tuple hq;refine SeqAt.notIn_tupleAt (eqU x) pl (λw hw=>zki rx fx r fs w (by simpa using hw)) ⟨.bl _,H,I,rfl,?_⟩;rw [show its.toArray.any (eqU x)=its.any (eqU x) by simp,zkh r fs];exact q
theorem call_len_seq:CallR X (.builtin "len") (λxs H Q=>∃p ys,xs=[.ref p]/\(SqL X.K H p ys\/SqT X.K H p ys)/\Q (.int ys.length) H):=by
 intro pins s σ H xs us Q I r h;obtain ⟨p,ys,rfl,hq,q⟩:=h;obtain ⟨u,rfl,rx⟩:=zd4 r;cases rx;have hn:=zeo;rcases hq with hq|hq
 ·obtain ⟨its,r',pl,hz⟩:=I.list hq;have hlen:=r'.length;exact Calls.call_len_list pl.isList (by simp only [List.size_toArray]<;>omega) ⟨.int ys.length,H,I.tok _,⟨s.toks+1,by rw [List.size_toArray,hlen]⟩,q⟩
 ·obtain ⟨its,r',pl,hz⟩:=I.tuple hq;have hlen:=r'.length;exact len_tuple pl (by simp only [List.size_toArray]<;>omega) ⟨.int ys.length,H,I.tok _,⟨s.toks+1,by rw [List.size_toArray,hlen]⟩,q⟩
theorem zxw:CallR X (.builtin "len") (λxs H Q=>∃z,xs=[.str z]/\z.length<=sizeLine/\Q (.int z.length) H):=by intro pins s σ H xs us Q I r h;obtain ⟨z,rfl,hz,q⟩:=h;obtain ⟨u,rfl,t,rfl⟩:=zd4 r;have hn:=zeo;exact len_str (by omega) ⟨.int z.length,H,I.tok _,⟨_,rfl⟩,q⟩
theorem CallR.or {f:Value}{r r':List V->Hp->VK->Prop}(h:CallR X f r) (h':CallR X f r'):CallR X f (λxs H Q=>r xs H Q\/r' xs H Q):=by
 intro pins s σ H xs us Q I rs q;rcases q with q|q
 ·exact h pins s σ H xs us Q I rs q
 ·exact h' pins s σ H xs us Q I rs q
theorem zxx:CallR X (.type "tuple") (λxs H Q=>∃p ys,xs=[.ref p]/\((SqL X.K H p ys/\∀l,H l=none->Q (.ref l) (upd H l (.tup ys)))\/(SqT X.K H p ys/\Q (.ref p) H))):=by
 intro pins s σ H xs us Q I r h;obtain ⟨p,ys,rfl,h⟩:=h;obtain ⟨u,rfl,rx⟩:=zd4 r;cases rx;rcases h with ⟨hq,q⟩|⟨hq,q⟩
 ·obtain ⟨its,r',pl,hz⟩:=I.list hq;have hlen:=r'.length;refine call_tuple_list pl.isList (λh' kp=>?_) (by simp only [List.size_toArray]<;>omega);have I1:Inv X pins σ H {s with heap:=h'}:=I.kept (t':=s.toks) kp;have I2:Inv X pins σ (upd H h'.objs.size (.tup ys)) {s with heap:=h'.push {cls:=.type "tuple",data:=.seq its.toArray}} :=
   I1.laid (t':=s.toks) (λb o e=>qps _ e) (qlr _) (show ObjOk X.prog X.w _ _ _ (.tup ys) from ⟨hz,its,r',IsTD.new _ _⟩)
  exact ⟨.ref h'.objs.size,_,I2,rfl,q _ (I1.hok.fresh (qlr _))⟩
 ·obtain ⟨its,r',pl,hz⟩:=I.tuple hq;exact call_tuple_same pl ⟨.ref p,H,I,rfl,q⟩
def tyV (K:QFg) (T:String) (x:V) (H:Hp):Prop:=match x with
 | .str _=>T = "str"
 | .int _=>T = "int"
 | .ref p=>(T = "list"/\∃xs,SqL K H p xs)\/(T = "tuple"/\∃o,K.lookup p=some o/\o.cls=.type "tuple"/\o.dict=none) \/
   (T = "dict"/\((∃kvs,H p=some (.dK kvs))\/∃kvs,H p=some (.dT kvs)))\/(T = "set"/\∃S n,H p=some (.set S n))
 |_=>False
theorem zn9 {pins:'('}{σ:St}{H:Hp}{s:Shared}{T:String}{x:V}{v:Value}(I:'%') (r:RelV x v) (ty:tyV X.K T x H) :
  s.TypeIs v T/\∀a,v=.ref a->∃ob,s.heap.get? a=some ob/\ob.dict=none:=by
 cases x with
 |str z=>obtain ⟨t,rfl⟩:=r;cases (show T = "str" from ty);exact ⟨typeIs_str s z t,λ_ e=>nomatch e⟩
 |int i=>obtain ⟨t,rfl⟩:=r;cases (show T = "int" from ty);exact ⟨typeIs_int s i t,λ_ e=>nomatch e⟩
 | ref p =>
  cases r;rcases ty with ⟨rfl,xs,hq⟩|⟨rfl,o,hk,hc,hd⟩|⟨rfl,hk⟩|⟨rfl,S,n,hk⟩
  ·obtain ⟨its,_,pl,_⟩:=I.list hq;refine ⟨pl.isList.typeIs,λa e=>?_⟩;cases e;obtain ⟨o,n,e,c,hd,_⟩:=pl;exact ⟨o,e,hd⟩
  ·refine ⟨⟨o,I.kIn p o hk,hc⟩,λa e=>?_⟩;cases e;exact ⟨o,I.kIn _ o hk,hd⟩
  ·have z:∃o,s.heap.get? p=some o/\o.ExactDict:=by
    rcases hk with ⟨kvs,hk⟩|⟨kvs,hk⟩
    ·obtain ⟨_,_,_,_,o,_,_,e,ex,_⟩:=I.hok p _ hk;exact ⟨o,e,ex⟩
    ·obtain ⟨_,_,_,_,o,_,_,e,ex,_⟩:=I.hok p _ hk;exact ⟨o,e,ex⟩
   obtain ⟨o,e,ex⟩:=z;refine ⟨⟨o,e,ex.1⟩,λa e2=>?_⟩;cases e2;exact ⟨o,e,ex.2.1⟩
  ·obtain ⟨o,_,_,_,e,ex,_⟩:=I.hok p _ hk;refine ⟨⟨o,e,ex.1⟩,λa e2=>?_⟩;cases e2;exact ⟨o,e,ex.2.1⟩
 |_=>exact False.elim ty
def zxy (K:QFg) (T:String) (r:V->List V->Hp->VK->Prop) (to:TE):TE:=λσ H Q=>to σ H λx H1=>tyV K T x H1/\r x [] H1 Q
def tBM (K:QFg) (T:String) (r:V->List V->Hp->VK->Prop) (to:TE) (t:TA):TE:=λσ H Q=>to σ H λx H1=>tyV K T x H1/\t σ H1 λxs H2=>r x xs H2 Q
variable {o e:Expr}{es:List Expr}{to:TE}{t:TA}{name:Str}{apos cpos:Pos}{T id:String}{r:V->List V->Hp->VK->Prop}
theorem zxz (pa:PlainAttrs T) (slot:Slot T name id) (hty:typeOf (.builtin id)=pure (.type "method_descriptor")) (hm:MtR X id r) (ho:PE X o to)
  (hbase:attributeBase o name X.env (eval o X.env)=eval o X.env:=by rfl) (hline:(apos.endLine==cpos.line)=true:=by rfl):PE X (.Call (.Attribute o name apos) [] [] cpos) (zxy X.K T r to):=by
 intro pins s σ H Q I h;refine wpAny_Call_method0_late hbase hline (thn (ho pins s σ H _ I h) λv s1 ⟨x,H1,I1,r1,ty,q1⟩=>?_);obtain ⟨h1,h2⟩:=zn9 I1 r1 ty;exact ⟨T,id,pa,slot,hty,h1,h2,Calls.callWith_builtin rfl (PySem.evalArgs_none (hm pins s1 σ H1 x [] v [] Q I1 r1 .nil q1))⟩
theorem zx0 (pa:PlainAttrs T) (slot:Slot T name id) (hty:typeOf (.builtin id)=pure (.type "method_descriptor")) (hm:MtR X id r) (ho:PE X o to) (ha:PA X (e::es) t)
  (hbase:attributeBase o name X.env (eval o X.env)=eval o X.env:=by rfl)
  (hfew:((backTo cpos (starEach (e :: es) X.env)).all (λx=>!x.1) && (backToKw cpos (keywordEach [] X.env)).all (λx=>x.1.isSome)
   && decide ((e::es).length+([]:List Keyword).length+(if ([]:List Keyword).isEmpty then 0 else 1)<30))=true:=by rfl)
  (hline:(apos.endLine==cpos.line)=true:=by rfl) (hs:starEach (e::es) X.env=(false,eval e X.env)::starEach es X.env:=by rfl) (hplain:(backTo cpos (starEach es X.env)).any (·.1)=false:=by rfl) :
  PE X (.Call (.Attribute o name apos) (e::es) [] cpos) (tBM X.K T r to t):=by
 intro pins s σ H Q I h;refine wpAny_Call_method_late hbase hfew hline rfl (thn (ho pins s σ H _ I h) λv s1 ⟨x,H1,I1,r1,ty,q1⟩=>?_);obtain ⟨h1,h2⟩:=zn9 I1 r1 ty;refine ⟨T,id,pa,slot,hty,h1,h2,?_⟩;have hA:=ha cpos pins s1 σ H1 _ I1 q1;rw [hs] at hA ⊢;refine Calls.callWith_builtin (by show (false||(backTo cpos (starEach es X.env)).any (·.1))=false;rw [hplain]<;>rfl) (Calls.evalArgs_plain ?_);exact thn hA λus s2 ⟨vs,H2,I2,r2,q2⟩=>hm pins s2 σ H2 x vs v us Q I2 r1 r2 q2
end
def MtM (X:Cx) (id:String) (r:V->List V->Hp->VK->Prop):Prop :=
 ∀(pins:'(') (s:Shared) (σ:St) (H:Hp) (x:V) (xs:List V) (v:Value) (us:List Value) (Q:VK),Inv X pins σ H s->RelV x v->Vals xs us->r x xs H Q ->
  wpAny '#' X.A (call (.builtin id) (v::us)) (EP X pins σ Q) X.xe s
theorem Vals.one:∀{x:V}{us:List Value},Vals [x] us->∃u,us=[u]/\RelV x u
 |_,_,.cons r .nil=>⟨_,rfl,r⟩
theorem Vals.two {x y:V}{us:List Value}(h:Vals [x,y] us):∃u v,us=[u,v]/\RelV x u/\RelV y v:=by
 cases h with
 |cons r t=>
  cases t with
  |cons q t2=>cases t2;exact ⟨_,_,rfl,r,q⟩
theorem Vals.zero:∀{us:List Value},Vals [] us->us=[]
 |_,.nil=>rfl
theorem Vals.dropLast {xs:List V}{us:List Value}(h:Vals xs us):Vals xs.dropLast us.dropLast:=by
 induction h with
 |nil=>exact .nil
 |cons r t ih=>
  cases t with
  |nil=>exact .nil
  |cons q t'=>exact .cons r ih
theorem Vals.reverse {xs:List V}{us:List Value}(h:Vals xs us):Vals xs.reverse us.reverse:=by
 induction h with
 |nil=>exact .nil
 |cons r t ih=>rw [List.reverse_cons,List.reverse_cons];exact Vals.append ih (.cons r .nil)
theorem Vals.rep {xs:List V}{us:List Value}(h:Vals xs us):∀k:Nat,Vals (List.replicate k xs).flatten (List.replicate k us).flatten
 |0=>.nil
 |k+1=>by rw [List.replicate_succ,List.replicate_succ,List.flatten_cons,List.flatten_cons];exact Vals.append h (Vals.rep h k)
theorem zx1 {α:Type}(l:List α):l.eraseIdx (l.length-1)=l.dropLast:=by
 induction l with
 |nil=>rfl
 | cons a r ih =>
  cases r with
  |nil=>rfl
  |cons b r=>
   have e:(a::b::r).length-1=((b::r).length-1)+1:=(by have h1:(a::b::r).length=r.length+2:=rfl;have h2:(b::r).length=r.length+1:=rfl;omega);rw [e,List.eraseIdx_cons_succ,ih]
   all_goals rfl
theorem zoa (its:List Value):∀(k:Nat) (acc:List Value),
  List.foldl (λx1 x2=>x1++x2) acc.toArray (List.replicate k its.toArray)=(acc++(List.replicate k its).flatten).toArray
 |0,acc=>by simp
 |k+1,acc=>by
  have e:acc.toArray++its.toArray=(acc++its).toArray:=by simp
  have e2:(acc++its)++(List.replicate k its).flatten=acc++(List.replicate (k+1) its).flatten:=by rw [List.replicate_succ,List.flatten_cons,qaa]
  rw [<-e2,<-zoa its k (acc++its),<-e,List.replicate_succ,List.foldl_cons]
section
variable {X:Cx}{pins:'('}{σ:St}{H:Hp}{s:Shared}{l b:Addr}{xs ys zs:List V}
theorem Inv.lset {its its':List Value}{n:Nat}{f:Array Value->Array Value}{t':Nat}(I:'%') (hH:H l=some (.lst xs))
  (e:s.heap.get? l=some {cls:=.type "list",data:=.seq its.toArray n}) (hf:f its.toArray=its'.toArray) (hv:Vals ys its') (hz:ys.length<=sizeLine) :
  Inv X pins σ (upd H l (.lst ys)) {s with heap:=s.heap.update l (Obj.mapSeq f),toks:=t'}:=by
 have q:=PySem.IsL.update e f;rw [hf] at q;refine I.write (x:=l) (e:=l) (by rw [hH];exact trivial) (.inl rfl) (λb' u hb hu=>(Heap.get?_update_other s.heap (Obj.mapSeq f) (Ne.symm hb)).trans hu) ⟨_,q⟩ ?_;exact ⟨hz,its',_,hv,q⟩
theorem Inv.lnew {its:List Value}{t':Nat}(I:'%') (hv:Vals ys its) (hz:ys.length<=sizeLine) :
  Inv X pins σ (upd H s.heap.objs.size (.lst ys)) {s with heap:=s.heap.push {cls:=.type "list",data:=.seq its.toArray},toks:=t'} :=
 I.laid (λ_ _ q=>qps _ q) (qlr _) ⟨hz,its,0,hv,Heap.get?_push_size _ rfl⟩
theorem Inv.fresh (I:'%'):H s.heap.objs.size=none:=I.hok.fresh (qlr _)
theorem Inv.lstM (I:'%') (hH:H l=some (.lst xs)):xs.length<=sizeLine/\∃(its:List Value) (n:Nat),Vals xs its/\xs.length=its.length/\s.heap.get? l=some {cls:=.type "list",data:=.seq its.toArray n}:=by obtain ⟨z,its,n,r,e⟩:=I.hok l _ hH;exact ⟨z,its,n,r,r.length,e⟩
theorem zx2 {n:Nat}(h:n<=sizeLine):Builtin.List.listTooLong n=false:=by unfold Builtin.List.listTooLong;exact decide_eq_false (by omega)
end
section
variable {X:Cx}
def zob:V->List V->Hp->VK->Prop:=λx vs H Q=>∃l xs y,x=.ref l/\vs=[y]/\H l=some (.lst xs)/\xs.length<sizeLine/\Q .non (upd H l (.lst (xs++[y])))
theorem zkj:MtM X "list.append" zob:=by intro pins s σ H x vs v us Q I rx rv h;obtain ⟨l,xs,y,rfl,rfl,hH,hz,q⟩:=h;cases rx;obtain ⟨u,rfl,ru⟩:=rv.one;obtain ⟨z,its,n,r,hl,e⟩:=I.lstM hH;refine call_meets F.slot_list_append ⟨_,e,rfl⟩ F.entry_list_append (F.args_list_append_2 _ _) (PySem.list_append l its.toArray n u (by rw [List.size_toArray];omega)) ⟨e,?_⟩;refine ⟨.non,_,I.lset (its':=its++[u]) hH e '*' (r.append (.cons ru .nil)) ?_,rfl,q⟩;rw [qla,List.length_singleton];omega
def zoc:V->List V->Hp->VK->Prop:=λx vs H Q=>∃l xs y,x=.ref l/\vs=[]/\H l=some (.lst xs)/\xs[xs.length-1]?=some y/\Q y (upd H l (.lst xs.dropLast))
theorem zx3:MtM X "list.pop" zoc:=by
 intro pins s σ H x vs v us Q I rx rv h;obtain ⟨l,xs,y,rfl,rfl,hH,hy,q⟩:=h;cases rx;have hus:=rv.zero;subst hus;obtain ⟨z,its,n,r,hl,e⟩:=I.lstM hH;obtain ⟨u,hu,ru⟩:=r.get hy;have hy':its.toArray[its.toArray.size-1]?=some u:=by show its.toArray[its.length-1]?=some u;rw [<-Array.getElem?_toList,<-hl];exact hu
 refine call_meets F.slot_list_pop ⟨_,e,rfl⟩ F.entry_list_pop (F.args_list_pop_1 _) (MeetsSeq.list_pop_last l its.toArray n u hy' (by rw [List.size_toArray];omega)) ⟨e,?_⟩;refine ⟨y,_,I.lset (its':=its.dropLast) hH e ?_ r.dropLast ?_,ru,q⟩
 ·show its.toArray.eraseIdxIfInBounds (its.toArray.size-1)=its.dropLast.toArray;rw [List.size_toArray,List.eraseIdxIfInBounds_toArray,zx1]
 ·rw [List.length_dropLast];omega
def zod:V->List V->Hp->VK->Prop:=λx vs H Q=>∃l xs,x=.ref l/\vs=[]/\H l=some (.lst xs)/\Q .non (upd H l (.lst xs.reverse))
theorem zx4:MtM X "list.reverse" zod:=by intro pins s σ H x vs v us Q I rx rv h;obtain ⟨l,xs,rfl,rfl,hH,q⟩:=h;cases rx;have hus:=rv.zero;subst hus;obtain ⟨z,its,n,r,hl,e⟩:=I.lstM hH;refine call_meets F.slot_list_reverse ⟨_,e,rfl⟩ F.entry_list_reverse (F.args_list_reverse_1 _) (AutoSeq1.list_reverse_list_0 l its.toArray n (by rw [List.size_toArray];omega)) ⟨e,?_⟩;refine ⟨.non,_,I.lset (its':=its.reverse) hH e '*' r.reverse ?_,rfl,q⟩;rw [List.length_reverse];omega
def zoe:R2:=λx y H Q=>∃l b xs zs,x=.ref l/\y=.ref b/\H l=some (.lst xs)/\H b=some (.lst zs)/\xs.length+zs.length<=sizeLine/\∀p,H p=none->Q (.ref p) (upd H p (.lst (xs++zs)))
theorem zx5:OpR X (binaryOp .Add) zoe:=by
 intro pins s σ H x y v u Q I rx ry h;obtain ⟨l,b,xs,zs,rfl,rfl,hH,hB,hz,q⟩:=h;cases rx;cases ry;obtain ⟨z,its,n,r,hl,e⟩:=I.lstM hH;obtain ⟨z2,its2,n2,r2,hl2,e2⟩:=I.lstM hB;refine PySem.P.add_list e e2 ?_ (by rw [List.size_toArray,List.size_toArray];omega);have ea:its.toArray++its2.toArray=(its++its2).toArray:=by simp
 rw [ea];exact ⟨.ref _,_,I.lnew (t':=s.toks) (r.append r2) (by rw [qla];omega),rfl,q _ I.fresh⟩
theorem zof {α:Type}(xs:List α) (k:Nat):(List.replicate k xs).flatten.length=k*xs.length:=by
 induction k with
 |zero=>simp
 |succ k ih=>rw [List.replicate_succ,List.flatten_cons,qla,ih,Nat.succ_mul,Nat.add_comm]
end
section
variable {prog:Program}{w:World}{A:Around}{E:Value->Shared->Prop}{s:Shared}
end
section
variable {X:Cx}
end
end L2
namespace Att
open PySem PySem.W PySem.Calls PyProof.Rows
theorem zx6 {P:Params}{h:Heap}:∀(ns:List Int) (vs:List Value),WellAll P h vs (ns.map WData.int)->IntsAre vs ns:=by
 intro ns;induction ns with
 |nil=>intro vs w;rw [List.map_nil] at w;cases w;exact .nil
 |cons n ns ih=>
  intro vs w;rw [List.map_cons] at w;cases w with
  |cons a b=>cases a;exact .cons _ _ (ih _ b)
theorem zx7 {l:OpenLaw}{n:Nat}(hn:l.most=some n) {P:Params}{h:Heap}{args:List WData}{vals:List Value}
  (hpre:l.row.toRowW.claim.pre args=true) (hwl:WellAll P h vals args) :
  ∃a vs ns,vals=[Value.ref a]/\args=[WData.list (ns.map WData.int)]/\h.get? a=some {cls:=.type "list",data:=.seq vs.toArray}/\IntsAre vs ns/\ns.length<=n:=by
 have hsh:WShape.hasAll [] args [.list .int]=true:=(pre_splitW hpre).1;have hc:l.pre.holds [] {args:=args}=true:=(pre_splitW hpre).2;obtain ⟨d,r,rfl,h1,h2⟩:=hasAllW_cons hsh;obtain rfl:=hasAllW_nil h2;obtain ⟨xs,rfl,h3⟩:=hasW_list h1;obtain ⟨ns,rfl⟩:=items_int h3;have hlen:ns.length<=n:=by
  unfold OpenLaw.pre at hc;have h4:(WTm.not (.lt (.lit (.int (n:Int))) (.len (.arg 0)))).holds [] {args:=[.list (ns.map .int)]}=true:=by have h4:=(holds_andW hc).1;rw [hn] at h4;exact h4
  have h5:=condW_of h4 (w_not (w_lt w_lit (w_len_list (w_arg rfl))));rw [qlm] at h5;refine Nat.le_of_not_lt λq=>?_;have q':(n:Int)<((ns.length:Nat):Int):=by omega
  first
   |(rw [decide_eq_true q'] at h5;exact absurd h5 '$')
   |(simp at h5;omega)
 cases hwl with
 |cons w1 w2=>
  cases w2;cases w1 with
  |list ho hall=>exact ⟨_,_,ns,rfl,rfl,ho,zx6 ns _ hall,hlen⟩
theorem zx8 (l:OpenLaw) (args:List WData):l.row.toRowW.claim.post args (.bool true) args=true :=
 postW_of (r:=l.row.toRowW) (X:=(true==true))
  (show WShape.has [] (.bool true) .bool=true by first|rfl|decide|simp [WShape.has,WShape.arms,WShape.armsAll])
  (show (WTm.eq .res (.lit (.bool true))).value [] {args:=args,res:=some (.bool true),after:=args}=some (.bool (true==true)) from w_eq_bool (w_res rfl) w_lit) rfl
theorem attach_call {l:OpenLaw}{n:Nat}{q:Program}{loose:List Str}{XP:(Str->Option Value)->Heap->Prop}{YP:World->Heap->Prop}{d:DefRec}
  (hn:l.most=some n) (hdf:d.params.defaults=[])
  (call:∀(w:World) (s₀ s₁:Shared) (mg mb:Str->Option Value) (fa:Addr) (o:Obj) (pm cd doc:Value) (a:Addr) (vs:List Value) (ns:List Int),
   Ground q loose [] XP w s₀ mg mb s₁.heap->YP w s₁.heap ->
   s₁.heap.get? fa=some o->o.data=.func (docDef d.name d.params d.body d.scope pm cd doc)->s₁.heap.CodeRec cd d.name->mg d.name=some (.ref fa) ->
   s₁.heap.get? a=some {cls:=.type "list",data:=.seq vs.toArray}->IntsAre vs ns->ns.length<=n->s₁.gens=#[] ->
   codeAny (model l.prog w) callerA (.call (.ref fa) ⟨[.ref a],[]⟩) (λr s'=>r=.ok (.ret (.bool true))/\OldK s₁.heap s'.heap/\s'.os=s₁.os/\AllBare s'.gens) s₁) :
  WalkO q loose XP YP l.row.toRowW d [] (λf vs=>PySem.call f vs):=by
 intro w s₀ s₁ mg mb G Y fa o pm cd doc dV kV ho hd hcd hD hmg hg args vals as hpre hlay hrd hwl hlo;obtain rfl:dV=.none:=Dflts.none hD hdf;obtain rfl:kV=.none:=Dflts.noKw hD;obtain ⟨a,vs,ns,rfl,rfl,hobj,hints,hlen⟩:=zx7 hn hpre hwl;refine enter_call (codeAny_mono (call w s₀ s₁ mg mb fa o pm cd doc a vs ns G Y ho (fd_plain hd) hcd hmg hobj hints hlen hg) λr s' hq=>?_);obtain ⟨rfl,h2,h3,h4⟩:=hq;exact ⟨.inl ⟨.bool true,.bool true,[],rfl,λ_=>rfl,.bool true,zx8 l _,λ_=>⟨List.Pairwise.nil,λ_ hm=>(nomatch hm)⟩⟩,h2,h3,h4⟩
section
variable {prog:Program}{w:World}{A:Around}{E:Value->Shared->Prop}{s:Shared}{K:Frag}
end
end Att
namespace L2
open PySem PySem.Spec PyProof.Rows
theorem zog:∀{vs:List Value}{ns:List Int},IntsAre vs ns->Vals (ns.map V.int) vs
 |_,_,.nil=>.nil
 |_,_,.cons n t h=>.cons ⟨t,rfl⟩ (zog h)
def zib (H:Hp):Prop:=∀b,H b=none\/∃o xs,H b=some (.frz o (.lst xs))
theorem zx9 {P:Program}{w:World}{K:QFg}{mg mb:Str->Option Value}{CX:CXT}{k:Nat}{fa a:Addr}{fd:FuncData}{x:Str}{sp:Sp}{s₁:Shared}{vs:List Value}{ns:List Int}
  (KX:K.In s₁.heap) (hbm:BMd mg s₁.heap) (hns:s₁.heap.Ns mainGlobals mg) (hb:s₁.heap.Ns builtinsNs mb) (hbb:∀x:Str,x≠"__name__"->mb x=bootBuiltins x) (hlim:s₁.heap.NoLimit) (hg:s₁.gens=#[])
  (ha:s₁.heap.get? a=some {cls:=.type "list",data:=.seq vs.toArray}) (hi:IntsAre vs ns) (hl:ns.length<=sizeLine) (hr:Room k callerA)
  (F:∀base:Heap,K.In base->base.Ns mainGlobals mg->FnOk P w K mg base CX k fa fd [x] sp) (hbind:∀(s:Shared) (u:Value),BindsTo s fd ⟨[u],[]⟩ [(x,u)])
  (hsp:∀H:Hp,zib H->SqL K H a (ns.map V.int)->sp [.ref a] H (λv _=>v=.bl true) λ_ _ _=>False)
  (hCX:∀H e s',CX [] H s₁ (λ_ _ _=>False) e s'->False) :
  codeAny (model P w) callerA (.call (.ref fa) ⟨[.ref a],[]⟩) (λr s'=>r=.ok (.ret (.bool true))/\OldK s₁.heap s'.heap/\s'.os=s₁.os/\AllBare s'.gens) s₁:=by
 have rv:=zog hi;have lenV:=hi.length;have core:∀H:Hp,zib H->SqL K H a (ns.map V.int)->HOk P w H s₁.heap->(∀b,H b≠none->b=a)->(H a≠none->K.lookup a=none) ->
   codeAny (model P w) callerA (.call (.ref fa) ⟨[.ref a],[]⟩) (λr s'=>r=.ok (.ret (.bool true))/\OldK s₁.heap s'.heap/\s'.os=s₁.os/\AllBare s'.gens) s₁:=by
  intro H hO hS hok hA hK;have base_of:∀{b:Addr} {o:Obj},s₁.heap.get? b=some o->H b=none->(zdl s₁.heap H).get? b=some o:=λe n=>zur e n;have noA:∀{b:Addr} {o:Obj} {es:Array DictEntry} {ep:Nat},s₁.heap.get? b=some o->o.data=.dict es ep->H b=none:=λ{b o es ep} e d=>by
   cases q:H b with
   |none=>rfl
   |some u=>have e':b=a:=hA b (by rw [q];simp);subst e';rw [ha] at e;cases e;have d':Data.seq vs.toArray _=Data.dict es ep:=d;cases d'
  have nsK:∀{b:Addr} {m:Str->Option Value},s₁.heap.Ns b m->(zdl s₁.heap H).Ns b m:=λ{b m} ⟨o,es,ep,e,d,r⟩=>⟨o,es,ep,base_of e (noA e d),d,r⟩;have hKb:K.In (zdl s₁.heap H):=λb o e=>base_of (KX b o e) (by
   cases q:H b with
   |none=>rfl
   |some u=>
    have e':b=a:=hA b (by rw [q];simp);subst e';rw [hK (by rw [q];simp)] at e;cases e)
  have hM:Mod K mg (zdl s₁.heap H):=⟨hKb,nsK hns,⟨mb,nsK hb,hbb⟩,let ⟨mc,h1,h2⟩:=hlim;⟨mc,nsK h1,h2⟩,by
   obtain ⟨bm,ob,b1,b2,b3,b4,b5⟩:=hbm;refine ⟨bm,ob,b1,b2,base_of b3 ?_,b4,b5⟩;cases q:H bm with
   |none=>rfl
   |some u=>
    have e':bm=a:=hA bm (by rw [q];simp);subst e';rw [ha] at b3;cases b3;exact absurd (show Value.type "list" = Value.type "module" from b4) '$'⟩
  have e0:Env0 P w K mg (zdl s₁.heap H) callerA [] s₁ H:=⟨rfl,hM,λb o e=>zus e,Nat.le_of_eq (zuq _ _),trivial,λb hb=>absurd (show b∈([]:List Addr) from hb) '*',hok,.of_eq hg⟩;refine codeAny_mono ((F _ hKb (nsK hns)).run callerA [] s₁ H ⟨[.ref a],[]⟩ [.ref a] [.ref a] _ _ hr e0 (hbind s₁ (.ref a)) (.cons rfl .nil) (hsp H hO hS)) λr s' h=>?_;cases r with
  |error e=>exact (hCX H e s' h).elim
  | ok fl =>
   cases fl with
   |next=>exact False.elim h
   |brk=>exact False.elim h
   |cont=>exact False.elim h
   | ret u =>
    obtain ⟨v,H',os,bare,un,hok',r',q⟩:=h;have q':v=.bl true:=q;subst q';obtain rfl:u=Value.bool true:=r';refine ⟨rfl,OldK.of_keep λb o e=>?_,os,bare⟩;cases q:H b with
    |none=>exact un.keep b o e q (by intro z;exact absurd (show b∈([]:List Addr) from z) (by simp)) (by simp)
    |some u=>
     rcases hO b with z|⟨ob,xs,z⟩
     ·rw [q] at z;cases z
     ·have z2:=un.frzs b ob _ z;obtain ⟨e1,_⟩:=hok b _ z;obtain ⟨e2,_⟩:=hok' b _ z2;rw [e] at e1;cases e1;exact e2
 cases hk:K.lookup a with
 |some o=>have e:=KX a o hk;rw [ha] at e;cases e;refine core (λ_=>none) (λ_=>.inl rfl) (.inr ⟨_,vs.toArray,_,hk,rfl,rfl,rfl,by rw [List.size_toArray,lenV];exact hl,by simpa using rv⟩) (λb u z=>by have z':(none:Option HO)=some u:=z;cases z') (λb z=>absurd rfl z) λz=>absurd rfl z
 | none =>
  refine core (λb=>if b=a then some (.frz {cls:=.type "list",data:=.seq vs.toArray} (.lst (ns.map V.int))) else none) (λb=>?_) (.inl (.inr ⟨{cls:=.type "list",data:=.seq vs.toArray},if_pos rfl⟩)) (λb u z=>?_) (λb z=>?_) λ_=>hk
  ·by_cases hb:b=a
   ·exact .inr ⟨_,_,if_pos hb⟩
   ·exact .inl (if_neg hb)
  ·by_cases hb:b=a
   ·have z':=(if_pos hb).symm.trans z;cases z';subst hb;exact ⟨ha,by rw [qlm];exact hl,vs,_,rv,ha⟩
   ·have z':=(if_neg hb).symm.trans z;cases z'
  ·by_cases hb:b=a
   ·exact hb
   ·exact absurd (if_neg hb) z
theorem walk_of {l:PySem.W.OpenLaw}{n k:Nat}{q:Program}{loose:List Str}{XP:(Str->Option Value)->Heap->Prop}{YP:World->Heap->Prop}{d:DefRec}{K:Params->QFg}{CX:World->CXT}{sp:World->Sp}{x:Str}
  (hn:l.most=some n) (hn2:n<=sizeLine) (hdf:d.params.defaults=[]) (hr:Room k callerA)
  (hY:∀(w:World) (h:Heap),YP w h->(K w.params).In h)
  (F:∀(w:World) (mg:Str->Option Value) (fa:Addr) (h:Heap),(K w.params).In h->h.Ns mainGlobals mg->mg d.name=some (.ref fa) ->
   ∃fd:FuncData,(∀(s:Shared) (u:Value),BindsTo s fd ⟨[u],[]⟩ [(x,u)]) /\
    ∀base:Heap,(K w.params).In base->base.Ns mainGlobals mg->FnOk l.prog w (K w.params) mg base (CX w) k fa fd [x] (sp w))
  (hsp:∀(w:World) (H:Hp) (a:Addr) (ns:List Int),ns.length<=n->zib H->SqL (K w.params) H a (ns.map V.int)->sp w [.ref a] H (λv _=>v=.bl true) λ_ _ _=>False)
  (hCX:∀(w:World) (H:Hp) (s:Shared) (e:Value) (s':Shared),CX w [] H s (λ_ _ _=>False) e s'->False) :
  PySem.W.WalkO q loose XP YP l.row.toRowW d [] (λf vs=>PySem.call f vs):=by
 refine Att.attach_call hn hdf λw s₀ s₁ mg mb fa o pm cd doc a vs ns G Y ho hd hcd hmg hobj hints hlen hg=>?_;have KX:=hY w _ Y;obtain ⟨fd,hb,hF⟩:=F w mg fa _ KX G.T.g hmg;exact zx9 KX G.T.bmain G.T.g G.T.b G.T.builtins G.T.nolimit hg hobj hints (Nat.le_trans hlen hn2) hr hF hb (λH hO hS=>hsp w H a ns hlen hO hS) λH e s'=>hCX w H s₁ e s'
noncomputable def zep (s:Stmt):Arguments:=match s with
 | .FunctionDef _ a _ _ _ _ _ _ _ _=>a
 |_=>{posonlyargs:=[],args:=[],vararg:=none,kwonlyargs:=[],kw_defaults:=[],kwarg:=none,defaults:=[]}
noncomputable def zcu (s:Stmt):List Stmt:=match s with
 | .FunctionDef _ _ b _ _ _ _ _ _ _=>b
 |_=>[]
noncomputable def zaq (s:Stmt):Scope:=match s with
 | .FunctionDef _ _ _ _ _ _ sc _ _ _=>sc
 |_=>{kind:=.function,names:=[],isGenerator:=false,isCoroutine:=false}
abbrev CX0:CXT:=λ_ _ _ _ _ _=>False
abbrev E0:XK:=λ_ _ _=>False
theorem zya {X:Cx}:zkd CX0 X E0:=λ_ _ _ _ _ _ _ h=>h.elim
structure Fun (K:QFg) (x qual:Str) (st:Stmt) (f:Addr) (fd:FuncData):Prop where
 ex:∃(oc:Value) (od:Option Addr) (kV doc pm:Value) (an:Option Addr) (cdv ct:Value) (osl:Array (Option Value)),
  fd=PySem.W.fnOf x qual (zep st) (zcu st) (zaq st) .none kV doc pm an cdv ct/\K.lookup f=some ⟨oc,od,.func fd,osl⟩/\PySem.W.codeIn K cdv qual=true
 kp:PySem.W.keepIn K (.ref f)=true
section
variable {P:Program}{w:World}{K:QFg}{mg:Str->Option Value}{base:Heap}
theorem Fun.binds {x qual:Str}{st:Stmt}{f:Addr}{fd:FuncData}{ps:List Str}(F:Fun K x qual st f fd)
  (h:∀(kV doc pm:Value) (an:Option Addr) (cdv ct:Value) (us:List Value),us.length=ps.length->bindArgs (PySem.W.fnOf x qual (zep st) (zcu st) (zaq st) .none kV doc pm an cdv ct) ⟨us,[]⟩=pure (ps.zip us)):Binds K fd ps []:=by
 obtain ⟨oc,od,kV,doc,pm,an,cdv,ct,osl,rfl,lk,hcd⟩:=F.ex;exact .all (h kV doc pm an cdv ct)
theorem zyb {x qual:Str}{st:Stmt}{f:Addr}{oc:Value}{od an:Option Addr}{osl:Array (Option Value)}{kV doc pm cdv ct:Value}(l:K.lookup f=some ⟨oc,od,.func (PySem.W.fnOf x qual (zep st) (zcu st) (zaq st) .none kV doc pm an cdv ct),osl⟩)
  (c:PySem.W.codeIn K cdv qual=true) (k:PySem.W.keepIn K (.ref f)=true):Fun K x qual st f (PySem.W.fnOf x qual (zep st) (zcu st) (zaq st) .none kV doc pm an cdv ct):=⟨⟨oc,od,kV,doc,pm,an,cdv,ct,osl,rfl,l,c⟩,k⟩
end
section
variable {X:Cx}
end
theorem zda {A B:Prop}(h:B):if false=true then A else B:=by rw [if_neg Bool.false_ne_true];exact h
theorem zdb {A B:Prop}(h:A):if true=true then A else B:=by rw [if_pos rfl];exact h
section
variable {κ:Type} [DecidableEq κ]
noncomputable def zbi (kvs:List (κ×V)) (k:κ):Option V:=(kvs.find? λkv=>decide (kv.1=k)).map (·.2)
noncomputable def zbg (kvs:List (κ×V)) (k:κ) (v:V):List (κ×V) :=
 if (kvs.any λkv=>decide (kv.1=k))=true then kvs.map (λkv=>if kv.1=k then (kv.1,v) else kv) else kvs++[(k,v)]
theorem zgf {p:κ×V}{r:List (κ×V)}{k:κ}(e:p.1=k):zbi (p::r) k=some p.2:=by simp [zbi,List.find?_cons,e]
theorem zgg {p:κ×V}{r:List (κ×V)}{k:κ}(e:¬p.1=k):zbi (p::r) k=zbi r k:=by simp [zbi,List.find?_cons,e]
theorem zoh (k:κ):∀kvs:List (κ×V),(kvs.any λkv=>decide (kv.1=k))=(zbi kvs k).isSome
 |[]=>rfl
 |p::r=>by
  rw [List.any_cons];by_cases e:p.1=k
  ·simp only [zgf e,decide_eq_true e,Bool.true_or,Option.isSome_some]
  ·rw [zgg e,decide_eq_false e,Bool.false_or];exact zoh k r
theorem zic (kvs:List (κ×V)) (k:κ) (v:V):(zbg kvs k v).length<=kvs.length+1:=by
 unfold zbg;split
 ·rw [qlm];omega
 ·rw [qla,List.length_cons,List.length_nil];omega
theorem RelO.isSome_eq (r:RelO o u):o.isSome=u.isSome:=by
 cases o with
 |none=>cases u with
  |none=>rfl
  |some _=>exact (show False from r).elim
 |some _=>cases u with
  |none=>exact (show False from r).elim
  |some _=>rfl
theorem RelO.getD (r:RelO o u) (rd:RelV d d'):RelV (o.getD d) (u.getD d'):=by
 cases o with
 |none=>cases u with
  |none=>exact rd
  |some _=>exact (show False from r).elim
 |some _=>cases u with
  |none=>exact (show False from r).elim
  |some _=>exact r
theorem KV.val (r:KV kvs vs) (k:κ):RelO (zbi kvs k) (valueAt vs k):=by
 unfold KV at r;induction r with
 |nil=>exact True.intro
 | @cons p q ps qs h t ih=>
  obtain ⟨h1,h2⟩:=h;by_cases e:p.1=k
  ·have e':q.1=k:=h1.symm.trans e;have b:valueAt (q::qs) k=some q.2:=(by simp [valueAt,List.find?_cons,e']);rw [zgf e,b];exact h2
  ·have e':¬q.1=k:=λz=>e (h1.trans z);have b:valueAt (q::qs) k=valueAt qs k:=(by simp [valueAt,List.find?_cons,e']);rw [zgg e,b];exact ih
theorem KV.any (r:KV kvs vs) (k:κ):(kvs.any λkv=>decide (kv.1=k))=vs.any λkv=>decide (kv.1=k):=by
 unfold KV at r;induction r with
 |nil=>rfl
 |cons h t ih=>rw [List.any_cons,List.any_cons,ih,h.1]
theorem KV.repl (r:KV kvs vs) (k:κ) (ry:RelV y u) :
  KV (kvs.map λkv=>if kv.1=k then (kv.1,y) else kv) (vs.map λkv=>if kv.1=k then (kv.1,u) else kv):=by
 unfold KV at r ⊢;induction r with
 |nil=>exact .nil
 | @cons p q ps qs h t ih=>
  rw [List.map_cons,List.map_cons];refine .cons ?_ ih;obtain ⟨h1,h2⟩:=h;by_cases e:p.1=k
  ·rw [if_pos e,if_pos (h1.symm.trans e)];exact ⟨h1,ry⟩
  ·rw [if_neg e,if_neg (λz=>e (h1.trans z))];exact ⟨h1,h2⟩
theorem KV.put (r:KV kvs vs) (k:κ) (ry:RelV y u):KV (zbg kvs k y) (stored vs k u):=by
 unfold zbg stored;rw [r.any k];by_cases e:(vs.any λkv=>decide (kv.1=k))=true
 ·rw [if_pos e,if_pos e];exact r.repl k ry
 ·rw [if_neg e,if_neg e];exact Paired.snoc r ⟨rfl,ry⟩
theorem KV.length (r:KV kvs vs):kvs.length=vs.length:=Paired.length r
end
theorem zid (r:RelV (kV k) u):(zby P w).is k u=true:=by
 cases k with
 |inl i=>obtain ⟨t,e⟩:=(show ∃t,u=Value.int i t from r);subst e;exact zuo P w i t
 |inr x=>obtain ⟨t,e⟩:=(show ∃t,u=Value.str x t from r);subst e;exact zup P w x t
theorem zoi:∀{ks:List Key}{us:List Value},Vals (ks.map kV) us->ItemsAre (zby P w) ks us
 |[],_,r=>by rw [List.map_nil] at r;cases r;exact .nil
 |k::ks,_,r=>by
  rw [List.map_cons] at r;cases r with
  |cons h t=>exact .cons (zid h) (zoi t)
abbrev KT (H:Hp):List (List Key×V)->List (List Key×Addr×Value)->Prop:=Paired λp q=>p.1=q.1/\H q.2.1=some (.tup (p.1.map kV))/\RelV p.2 q.2.2
theorem KT.val (r:KT H kvs xs) (k:List Key):RelO (zbi kvs k) ((atKey xs k).map (·.2)):=by
 induction r with
 |nil=>exact True.intro
 | @cons p q ps qs h t ih=>
  obtain ⟨h1,_,h2⟩:=h;by_cases e:p.1=k
  ·have e':q.1=k:=h1.symm.trans e;have b:atKey (q::qs) k=some q.2:=(by simp [atKey,List.find?_cons,e']);rw [zgf e,b];exact h2
  ·have e':¬q.1=k:=λz=>e (h1.trans z);have b:atKey (q::qs) k=atKey qs k:=(by simp [atKey,List.find?_cons,e']);rw [zgg e,b];exact ih
theorem KT.repl (r:KT H kvs xs) (k:List Key) (ry:RelV y u) :
  KT H (kvs.map λkv=>if kv.1=k then (kv.1,y) else kv) (xs.map (putAt k u)):=by
 induction r with
 |nil=>exact .nil
 | @cons p q ps qs h t ih=>
  rw [List.map_cons,List.map_cons];refine .cons ?_ ih;obtain ⟨h1,h2,h3⟩:=h;unfold putAt;by_cases e:p.1=k
  ·rw [if_pos e,if_pos (h1.symm.trans e)];exact ⟨h1,h2,ry⟩
  ·rw [if_neg e,if_neg (λz=>e (h1.trans z))];exact ⟨h1,h2,h3⟩
theorem KT.put (r:KT H kvs xs) (k:List Key) (hb:H b=some (.tup (k.map kV))) (ry:RelV y u) :
  KT H (zbg kvs k y) (storedH xs k b u):=by
 have e:(kvs.any λkv=>decide (kv.1=k))=(atKey xs k).isSome:=by rw [zoh,(r.val k).isSome_eq,Option.isSome_map]
 unfold zbg storedH;rw [e];by_cases q:(atKey xs k).isSome=true
 ·rw [if_pos q,if_pos q];exact r.repl k ry
 ·rw [if_neg q,if_neg q];exact Paired.snoc r ⟨rfl,hb,ry⟩
theorem KT.keeps (r:KT H kvs xs) (ht:∀b ys,H b=some (.tup ys)->H' b=some (.tup ys)):KT H' kvs xs :=
 Paired.mapP r λ_ _ z=>⟨z.1,ht _ _ z.2.1,z.2.2⟩
section
theorem zoj (ok:HOk P w H h) (e:Rd H a u):ObjOk P w H h a u:=e.ok ok
theorem zie (ok:HOk P w H h) (e:Rd H a (.dK kvs)):kvs.length<=sizeLine/\(a==sysModules)=false/\∃vs,KV kvs vs/\h.DictOf (zby P w) a vs :=
 show ObjOk P w H h a (.dK kvs) from zoj ok e
theorem zyc (ok:HOk P w H h) (e:H a=some (.dK kvs)):kvs.length<=sizeLine/\(a==sysModules)=false/\∃vs,KV kvs vs/\h.DictOf (zby P w) a vs:=zie ok (.inl e)
theorem zfd (ok:HOk P w H h) (e:H a=some (.tup (ks.map kV))):(tupleKind (zby P w)).is h ks a:=by obtain ⟨_,its,r,o,h1,h2,n,h3,_⟩:=(show ObjOk P w H h a (.tup (ks.map kV)) from ok a _ e);exact ⟨o,its.toArray,n,h1,h2,h3,by simpa using zoi r⟩
theorem zif (ok:HOk P w H h) (e:Rd H a (.dT kvs)):kvs.length<=sizeLine/\(a==sysModules)=false /\
  ∃xs,KT H kvs xs/\h.DictOfH (tupleKind (zby P w)) a xs:=by
 obtain ⟨z,y,xs,r,o,es,ep,h1,h2,h3,h4,h5⟩:=(show ObjOk P w H h a (.dT kvs) from zoj ok e);refine ⟨z,y,xs,r,o,es,ep,h1,h2,h3,h4,λx hx=>?_,h5⟩;have all:∀{l:List (List Key×V)} {m:List (List Key×Addr×Value)},KT H l m->∀x∈m,(tupleKind (zby P w)).is h x.1 x.2.1:=by
  intro l m q;induction q with
  |nil=>intro x hx;exact nomatch hx
  | @cons p q ps qs hq t ih=>
   intro x hx;rcases List.mem_cons.mp hx with e|hx
   ·subst e;exact zfd ok (by rw [<-hq.1];exact hq.2.1)
   ·exact ih x hx
 exact all r x hx
theorem zkk (ok:HOk P w H h) (e:H a=some (.dT kvs)):kvs.length<=sizeLine/\(a==sysModules)=false /\
  ∃xs,KT H kvs xs/\h.DictOfH (tupleKind (zby P w)) a xs:=zif ok (.inl e)
end
def zfe (H:Hp) (a:Addr) (y:V) (r:Option V):Prop :=
 (∃kvs k,Rd H a (.dK kvs)/\y=kV k/\r=zbi kvs k)\/∃kvs k b,Rd H a (.dT kvs)/\y=.ref b/\H b=some (.tup (k.map kV))/\r=zbi kvs k
def DPut (H:Hp) (a:Addr) (y v:V) (H':Hp):Prop :=
 (∃kvs k,H a=some (.dK kvs)/\y=kV k/\kvs.length<sizeLine/\H'=upd H a (.dK (zbg kvs k v))) \/
 ∃kvs k b,H a=some (.dT kvs)/\y=.ref b/\H b=some (.tup (k.map kV))/\kvs.length<sizeLine/\H'=upd H a (.dT (zbg kvs k v))
theorem DPut.k {kvs:List (Key×V)}{k:Key}(e:H a=some (.dK kvs)) (hl:kvs.length<sizeLine):DPut H a (kV k) v (upd H a (.dK (zbg kvs k v))):=.inl ⟨kvs,k,e,rfl,hl,rfl⟩
theorem DPut.t {kvs:List (List Key×V)}{k:List Key}(e:H a=some (.dT kvs)) (eb:H b=some (.tup (k.map kV))) (hl:kvs.length<sizeLine) :
  DPut H a (.ref b) v (upd H a (.dT (zbg kvs k v))):=.inr ⟨kvs,k,b,e,rfl,eb,hl,rfl⟩
section
theorem Inv.big (I:'%'):sysModules<s.heap.objs.size:=by have h:mainGlobals<s.heap.objs.size:=(I.mod.glob.keeps I.bk).lt;exact Nat.lt_trans '$' h
theorem zyd (hu:A.units+1<cLine) (I:'%') (g:zfe H a y o) (ry:RelV y u) (h:∀s',Inv X pins σ H s'->Q (.bool (!o.isSome)) s') :
  wpAny '#' A (compareOp .NotIn u (.ref a)) Q E s:=by
 rcases g with ⟨kvs,k,e,ey,l⟩|⟨kvs,k,b,e,ey,eb,l⟩
 ·subst ey;obtain ⟨z,hd,vs,rel,dd⟩:=zie I.hok e;refine wpAny_notIn_of (zid ry) hd dd.mapOf ?_;rw [<-(rel.val k).isSome_eq,<-l];exact h _ (I.tok _)
 ·subst ey;cases (show u=Value.ref b from ry);obtain ⟨z,hd,xs,rel,dd⟩:=zif I.hok e;refine wpAny_notIn_heap (tupleKind_room_in1 hu) (zfd I.hok eb) hd dd ?_;have q:=(rel.val k).isSome_eq;rw [Option.isSome_map] at q;rw [<-q,<-l];exact h _ (I.tok _)
theorem zig (I:'%') (mu:Mut (H a)) (hs:Heap.SameBut a s.heap h') (he:∃q,h'.get? a=some q) (new:ObjOk X.prog X.w (upd H a ob) h' a ob) :
  Inv X pins σ (upd H a ob) {s with heap:=h',toks:=t'} :=
 I.write (x:=a) (e:=a) mu (.inl rfl) (λb q hb z=>(hs.2 b hb).trans z) he new
theorem zye (z:kvs.length<=sizeLine) (hd:(a==sysModules)=false) (rel:KV kvs vs) (dd:h'.DictOf (zby P w) a vs) :
  ObjOk P w H' h' a (.dK kvs):=⟨z,hd,vs,rel,dd⟩
theorem zyf (hu:A.units+1<cLine) (I:'%') (g:DPut H a y v H') (ry:RelV y u) (rv:RelV v r) (h:∀s',Inv X pins σ H' s'->Q () s') :
  wpAny '#' A (setItem (.ref a) u r) Q E s:=by
 rcases g with ⟨kvs,k,e,ey,l,eH⟩|⟨kvs,k,b,e,ey,eb,l,eH⟩
 ·subst ey eH;obtain ⟨z,hd,vs,rel,dd⟩:=zyc I.hok e;have hz:vs.length<=sizeLine:=by rw [<-rel.length];exact z
  have hl:(zbg kvs k v).length<=sizeLine:=by have:=zic kvs k v;omega
  refine wpAny_setItem_pairs (hsz:=hz) (zid ry) dd λh' dd' hs=>h _ ?_;have he:∃q,h'.get? a=some q:=let ⟨q,_,_,hq,_⟩:=dd';⟨q,hq⟩
  exact zig I (by rw [e];exact True.intro) hs he (zye hl hd (rel.put k rv) dd')
 ·subst ey eH;cases (show u=Value.ref b from ry);obtain ⟨z,hd,xs,rel,dd⟩:=zkk I.hok e;have hz:xs.length<=sizeLine:=by rw [<-Paired.length rel];exact z
  have hl:(zbg kvs k v).length<=sizeLine:=by have:=zic kvs k v;omega
  refine wpAny_setItem_heap (hsz:=hz) (tupleKind_room_in1 hu) (zfd I.hok eb) dd λh' dd' hs=>h _ ?_;obtain ⟨q,es,ep,hq,h2,h3,h4,_,h5⟩:=dd';refine zig I (by rw [e];exact True.intro) hs ⟨q,hq⟩ ⟨hl,hd,_,(rel.put k eb rv).keeps λc ys ec=>?_,q,es,ep,hq,h2,h3,h4,h5⟩;rw [zaj (zcs ec e (λz=>nomatch z))];exact ec
end
section
end
def zyg (td ty tv:TE):TS:=λD σ H=>tv σ H λv H1=>td σ H1 λx H2=>ty σ H2 λy H3=>∃a H4,x=.ref a/\DPut H3 a y v H4/\D.nx σ H4
section
theorem zyh (hu:X.A.units+1<cLine) (ho:PE X o td) (hi:PE X i ty) (hv:PE X value tv) (hs:swapsWith value (some (.Subscript o i pos')) pos.line X.env=pure false) :
  PS X (.Assign [.Subscript o i pos'] value pos) (zyg td ty tv):=by
 intro pins s σ H D I h;refine wpAny_Assign_Subscript (thn (hv pins s σ H _ I h) λr s1 ⟨v,H1,I1,rv,q1⟩=>thn (ho pins s1 σ H1 _ I1 q1) λu s2 ⟨x,H2,I2,rx,q2⟩=>thn (hi pins s2 σ H2 _ I2 q2) λiv s3 ⟨y,H3,I3,ry,a,H4,ex,g,q3⟩=>?_) hs;subst ex;obtain rfl:u=Value.ref a:=rx;exact zyf hu I3 g ry rv λs4 I4=>⟨σ,H4,I4,q3⟩
end
theorem zok (h:Heap) (hb:sysModules<h.objs.size):ObjOk P w H (h.push {cls:=.type "dict",data:=.dict #[]}) h.objs.size (.dT []) :=
 ⟨Nat.zero_le _,beq_eq_false_iff_ne.mpr (Ne.symm (Nat.ne_of_lt hb)),[],.nil,_,#[],0,Heap.get?_push_size _ rfl,⟨rfl,rfl,rfl⟩,rfl,rfl,List.nodup_nil⟩
def zyi:TE:=λ_ H Q=>∀p,H p=none->Q (.ref p) (upd H p (.dT []))
section
theorem zyj:PE X (.Dict [] [] pos) zyi:=λpins s σ H Q I h=>
 wpAny_Dict_empty ⟨.ref s.heap.objs.size,_,I.laid (a:=s.heap.objs.size) (o:=.dT []) (t':=s.toks) (λ_ _ q=>qps _ q) (qlr _) (zok s.heap I.big),rfl,h _ (I.hok.fresh (qlr _))⟩
end
structure M2 (X:Cx) (o:Expr) (m:Str) (apos:Pos) (e f:Expr) (cpos:Pos):Prop where
 base:attributeBase o m X.env (eval o X.env)=eval o X.env
 few:((backTo cpos (starEach [e,f] X.env)).all (λx=>!x.1)&&(backToKw cpos (keywordEach [] X.env)).all (λx=>x.1.isSome)
  && decide (([e,f]:List Expr).length+([]:List Keyword).length+(if ([]:List Keyword).isEmpty then 0 else 1)<30))=true
 line:(apos.endLine==cpos.line)=true
 trees:backTo cpos (starEach [e,f] X.env)=[(false,eval e X.env),(false,eval f X.env)]
def IsD (H:Hp) (a:Addr):Prop:=(∃kvs,Rd H a (.dK kvs))\/∃kvs,Rd H a (.dT kvs)
theorem zol (I:'%') (d:IsD H a) :
  s.TypeIs (.ref a) "dict"/\(∀b,Value.ref a=.ref b->∃ob,s.heap.get? b=some ob/\ob.dict=none)/\(a==sysModules)=false:=by
 rcases d with ⟨kvs,e⟩|⟨kvs,e⟩
 ·obtain ⟨_,hd,vs,_,dd⟩:=zie I.hok e;refine ⟨dd.typeIs,λb q=>?_,hd⟩;cases q;obtain ⟨ob,_,_,h1,h2,_⟩:=dd;exact ⟨ob,h1,h2.2.1⟩
 ·obtain ⟨_,hd,xs,_,dd⟩:=zif I.hok e;refine ⟨dd.typeIs,λb q=>?_,hd⟩;cases q;obtain ⟨ob,_,_,h1,h2,_⟩:=dd;exact ⟨ob,h1,h2.2.1⟩
section
theorem zyk (hu:A.units+1<cLine) (I:'%') (g:zfe H a y o) (ry:RelV y u) (rd:RelV d r) (h:∀w' s',Inv X pins σ H s'->RelV (o.getD d) w'->Q w' s') :
  wpAny '#' A (call (.builtin "dict.get") [.ref a,u,r]) Q E s:=by
 rcases g with ⟨kvs,k,e,ey,l⟩|⟨kvs,k,b,e,ey,eb,l⟩
 ·subst ey;obtain ⟨z,hd,vs,rel,dd⟩:=zie I.hok e;refine call_meetsIn PySem.F.slot_dict_get dd.typeIs PySem.F.entry_dict_get (PySem.F.args_dict_get_3 _ _ _) (meets_dict_get_default (zby X.prog X.w) a (zid ry) hd r) ⟨_,dd.mapOf,h _ _ (I.tok _) ?_⟩;rw [l];exact (rel.val k).getD rd
 ·subst ey;cases (show u=Value.ref b from ry);obtain ⟨z,hd,xs,rel,dd⟩:=zif I.hok e;refine call_meetsIn PySem.F.slot_dict_get dd.typeIs PySem.F.entry_dict_get (PySem.F.args_dict_get_3 _ _ _) (meetsH_dict_get_default (tupleKind (zby X.prog X.w)) a b hd r) ⟨tupleKind_room_in1 hu,k,xs,zfd I.hok eb,dd,h _ _ (I.tok _) ?_⟩;rw [l];exact (rel.val k).getD rd
end
def zyl (td ty tx:TE):TE:=λσ H Q=>td σ H λx H1=>∃a,x=.ref a/\IsD H1 a/\ty σ H1 λy H2=>tx σ H2 λz H3=>∃o,zfe H3 a y o/\Q (o.getD z) H3
section
theorem zym (hu:X.A.units+1<cLine) (ho:PE X o td) (he:PE X e ty) (hf:PE X f tx) (m:M2 X o "get" apos e f cpos):PE X (.Call (.Attribute o "get" apos) [e,f] [] cpos) (zyl td ty tx):=by
 intro pins s σ H Q I h;refine wpAny_Call_method m.base m.few m.line PySem.F.plainAttrs_dict PySem.F.slot_dict_get PySem.F.type_dict_get (thn (ho pins s σ H _ I h) λu s1 ⟨x,H1,I1,rx,a,ex,d,q1⟩=>?_);subst ex;obtain rfl:u=Value.ref a:=rx;obtain ⟨t1,t2,_⟩:=zol I1 d;refine ⟨t1,t2,?_⟩;rw [m.trees];refine Calls.callWith_builtin rfl (Calls.evalArgs_plain (Calls.spliced_cons (thn (he pins s1 σ H1 _ I1 q1) λiv s2 ⟨y,H2,I2,ry,q2⟩=>
  Calls.spliced_cons (thn (hf pins s2 σ H2 _ I2 q2) λfv s3 ⟨z,H3,I3,rz,ov,g,q3⟩=>Calls.spliced_nil ?_))))
 exact zyk hu I3 g ry rz λw' s4 I4 rw'=>⟨_,H3,I4,rw',q3⟩
end
section
end
section
end
section
end
section
variable {κ:Type} [DecidableEq κ]
end
end L2
namespace L3
abbrev St:=L2.St
open PySem PySem.Spec PyProof.Rows L2
inductive D where
 |non|bl (b:Bool)|int (i:Int)|str (x:Str)|tup (xs:List D)|ref (n:Nat)|fn (a:Addr)
inductive Ob where
 |lst (xs:List D)|flst (xs:List D)|iset (f:Int->Bool) (n:Nat)|dct (kvs:List (Key×D))|fdct (kvs:List (Key×D))|tdct (kvs:List (List Key×D))|ftdct (kvs:List (List Key×D))|tset (ks:List (List Int))|fnc (x:Str)|exc (c:Str)
noncomputable def Ob.mut:Ob->Bool
 | .flst _=>false
 | .fnc _=>false
 |_=>true
abbrev Sto:=List Ob
abbrev Lo:=List (Option D)
mutual
inductive RD (ρ:List Addr) (H:Hp):D->V->Prop where
 |non:RD ρ H .non .non
 |bl (b:Bool):RD ρ H (.bl b) (.bl b)
 |int (i:Int):RD ρ H (.int i) (.int i)
 |str (x:Str):RD ρ H (.str x) (.str x)
 |tup {xs:List D} {a:Addr} {vs:List V}:H a=some (.tup vs)->RDs ρ H xs vs->RD ρ H (.tup xs) (.ref a)
 |ref {n:Nat} {a:Addr}:ρ[n]?=some a->RD ρ H (.ref n) (.ref a)
 |fn (a:Addr):RD ρ H (.fn a) (.ref a)
inductive RDs (ρ:List Addr) (H:Hp):List D->List V->Prop where
 |nil:RDs ρ H [] []
 |cons {x:D} {v:V} {xs:List D} {vs:List V}:RD ρ H x v->RDs ρ H xs vs->RDs ρ H (x::xs) (v::vs)
end
structure Ext0 (ρ:List Addr) (H:Hp) (ρ':List Addr) (H':Hp):Prop where
 pre:∀(n:Nat) (a:Addr),ρ[n]?=some a->ρ'[n]?=some a
 tup:∀a vs,H a=some (.tup vs)->H' a=some (.tup vs)
 frz:∀a o u,H a=some (.frz o u)->H' a=some (.frz o u)
structure Ext (ρ:List Addr) (H:Hp) (ρ':List Addr) (H':Hp):Prop extends Ext0 ρ H ρ' H' where
 out:∀a (vs:HO),H a=some vs->(∀n:Nat,ρ[n]?≠some a)->H' a=some vs/\∀n:Nat,ρ'[n]?≠some a
theorem Ext.refl (ρ:List Addr) (H:Hp):Ext ρ H ρ H:=⟨⟨λ_ _ h=>h,λ_ _ h=>h,λ_ _ _ h=>h⟩,λ_ _ h n=>⟨h,n⟩⟩
theorem Ext.trans (a:Ext ρ H ρ1 H1) (b:Ext ρ1 H1 ρ2 H2):Ext ρ H ρ2 H2 :=
 ⟨⟨λn x h=>b.pre n x (a.pre n x h),λn x h=>b.tup n x (a.tup n x h),λn o x h=>b.frz n o x (a.frz n o x h)⟩,λx vs h n=>let ⟨h1,n1⟩:=a.out x vs h n;b.out x vs h1 n1⟩
section
mutual
theorem RD.mono0 (e:Ext0 ρ H ρ' H'):∀{d:D}{v:V},RD ρ H d v->RD ρ' H' d v
 |_,_,.non=>.non
 |_,_,.bl b=>.bl b
 |_,_,.int i=>.int i
 |_,_,.str x=>.str x
 |_,_,.tup h r=>.tup (e.tup _ _ h) (RDs.mono0 e r)
 |_,_,.ref h=>.ref (e.pre _ _ h)
 |_,_,.fn a=>.fn a
theorem RDs.mono0 (e:Ext0 ρ H ρ' H'):∀{d:List D}{v:List V},RDs ρ H d v->RDs ρ' H' d v
 |_,_,.nil=>.nil
 |_,_,.cons r q=>.cons (RD.mono0 e r) (RDs.mono0 e q)
end
theorem RD.mono (r:RD ρ H d v) (e:Ext ρ H ρ' H'):RD ρ' H' d v:=r.mono0 e.toExt0
theorem RDs.mono (r:RDs ρ H d v) (e:Ext ρ H ρ' H'):RDs ρ' H' d v:=r.mono0 e.toExt0
theorem RDs.length:∀{d:List D}{v:List V},RDs ρ H d v->d.length=v.length
 |_,_,.nil=>rfl
 |_,_,.cons _ q=>congrArg (· + 1) (RDs.length q)
theorem RDs.get:∀{d:List D}{v:List V}{i:Nat}{x:D},RDs ρ H d v->d[i]?=some x->∃u,v[i]?=some u/\RD ρ H x u
 |_,_,_,_,.nil,e=>by simp at e
 |_,_,0,_,.cons r _,e=>by simp at e;subst e;exact ⟨_,rfl,r⟩
 |_,_,i+1,x,.cons _ q,e=>by obtain ⟨u,h1,h2⟩:=RDs.get (i:=i) (x:=x) q (by simpa using e);exact ⟨u,by simpa using h1,h2⟩
theorem RDs.set (r:RD ρ H x u):∀{d:List D}{v:List V}(i:Nat),RDs ρ H d v->RDs ρ H (d.set i x) (v.set i u)
 |_,_,_,.nil=>.nil
 |_,_,0,.cons _ q=>.cons r q
 |_,_,i+1,.cons p q=>.cons p (RDs.set r i q)
theorem RDs.append:∀{d e:List D}{v w:List V},RDs ρ H d v->RDs ρ H e w->RDs ρ H (d++e) (v++w)
 |_,_,_,_,.nil,q=>q
 |_,_,_,_,.cons r p,q=>.cons r (RDs.append p q)
theorem RDs.take:∀{d:List D}{v:List V}(n:Nat),RDs ρ H d v->RDs ρ H (d.take n) (v.take n)
 |_,_,0,_=>.nil
 |_,_,_+1,.nil=>.nil
 |_,_,n+1,.cons r t=>.cons r (RDs.take n t)
theorem RDs.drop:∀{d:List D}{v:List V}(n:Nat),RDs ρ H d v->RDs ρ H (d.drop n) (v.drop n)
 |_,_,0,r=>r
 |_,_,_+1,.nil=>.nil
 |_,_,n+1,.cons _ t=>RDs.drop n t
theorem RDs.reverse:∀{d:List D}{v:List V},RDs ρ H d v->RDs ρ H d.reverse v.reverse
 |_,_,.nil=>.nil
 |_,_,.cons r t=>by rw [List.reverse_cons,List.reverse_cons];exact RDs.append (RDs.reverse t) (.cons r .nil)
theorem RDs.rep (h:RDs ρ H xs us):∀k:Nat,RDs ρ H (List.replicate k xs).flatten (List.replicate k us).flatten
 |0=>.nil
 |k+1=>by rw [List.replicate_succ,List.replicate_succ,List.flatten_cons,List.flatten_cons];exact RDs.append h (RDs.rep h k)
theorem RDs.one (h:RDs ρ H [x] vs):∃v,vs=[v]/\RD ρ H x v:=by
 cases h with
 |cons r q=>cases q;exact ⟨_,rfl,r⟩
theorem RDs.two (h:RDs ρ H [x,y] vs):∃v u,vs=[v,u]/\RD ρ H x v/\RD ρ H y u:=by
 cases h with
 |cons r q=>obtain ⟨u,rfl,r2⟩:=q.one;exact ⟨_,_,rfl,r,r2⟩
end
def Fz (K:QFg) (H:Hp) (a:Addr) (xs:List V):Prop:=(∃o,H a=some (.frz o (.lst xs))) \/
  ∃(o:Obj) (its:Array Value) (n:Nat),K.lookup a=some o/\o.cls=.type "list"/\o.dict=none/\o.data=.seq its n/\its.size<=sizeLine/\Vals xs its.toList
theorem Fz.sq {K:QFg}{H:Hp}{a:Addr}{xs:List V}(h:Fz K H a xs):SqL K H a xs:=by
 rcases h with ⟨o,h⟩|h
 ·exact .inl (.inr ⟨o,h⟩)
 ·exact .inr h
def ObR (K:QFg) (ρ:List Addr) (H:Hp):Ob->Addr->Prop
 | .lst xs,a=>∃vs,H a=some (.lst vs)/\RDs ρ H xs vs
 | .flst xs,a=>∃vs,Fz K H a vs/\RDs ρ H xs vs
 | .iset f n,a=>H a=some (.set f n)
 | .dct kvs,a=>∃vs,H a=some (.dK ((kvs.map (·.1)).zip vs))/\RDs ρ H (kvs.map (·.2)) vs
 | .fdct kvs,a=>∃o vs,H a=some (.frz o (.dK ((kvs.map (·.1)).zip vs)))/\RDs ρ H (kvs.map (·.2)) vs
 | .tdct kvs,a=>∃vs,H a=some (.dT ((kvs.map (·.1)).zip vs))/\RDs ρ H (kvs.map (·.2)) vs
 | .ftdct kvs,a=>∃o vs,H a=some (.frz o (.dT ((kvs.map (·.1)).zip vs)))/\RDs ρ H (kvs.map (·.2)) vs
 | .tset ks,a=>∃xs:List (List Int×Addr),ks=xs.map (·.1)/\H a=some (.ext (TS.TSet a xs))/\∀p∈xs,H p.2=some (.tup (p.1.map V.int))
 | .fnc x,a=>PySem.W.nsIn K mainGlobals x=some (some (.ref a))/\∃o,K.lookup a=some o
 | .exc c,a=>∃C,PySem.W.nsIn K mainGlobals c=some (some (.ref C))/\H a=some (.ext (λh=>∃o,h.get? a=some o/\o.cls=.ref C))
structure Sim (K:QFg) (ρ:List Addr) (S:Sto) (H:Hp):Prop where
 len:ρ.length=S.length
 nd:∀(i j:Nat) (a:Addr) (o1 o2:Ob),ρ[i]?=some a->ρ[j]?=some a->S[i]?=some o1->S[j]?=some o2->o1.mut=true->o2.mut=true->i=j
 at':∀(n:Nat) (a:Addr) (o:Ob),ρ[n]?=some a->S[n]?=some o->ObR K ρ H o a
section
variable {K:QFg}{ρ ρ':List Addr}{H:Hp}{S:Sto}
theorem zbq {o:HO}(hp:H p=none):Ext ρ H ρ (upd H p o) :=
 ⟨⟨λ_ _ h=>h,λa vs h=>by rw [zaj (zay h hp)];exact h,λa o vs h=>by rw [zaj (zay h hp)];exact h⟩,λa vs h n=>⟨by rw [zaj (zay h hp)];exact h,n⟩⟩
theorem zff {o:HO}(hp:H p=some (.lst ys)):Ext0 ρ H ρ (upd H p o) :=
 ⟨λ_ _ h=>h,λa vs h=>by rw [zaj (zcs h hp (by intro z;cases z))];exact h,λa o vs h=>by rw [zaj (zcs h hp (by intro z;cases z))];exact h⟩
def zdn (u:HO):Prop:=(∀vs,u≠.tup vs)/\∀o v,u≠.frz o v
theorem zom (ys:List V):zdn (.lst ys):=⟨λ_ z=>(by cases z),λ_ _ z=>(by cases z)⟩
theorem zdc {o u:HO}(hp:H p=some u) (hu:zdn u):Ext0 ρ H ρ (upd H p o) :=
 ⟨λ_ _ h=>h,λa vs h=>by rw [zaj (zcs h hp (λz=>hu.1 vs z.symm))];exact h,λa o vs h=>by rw [zaj (zcs h hp (λz=>hu.2 o vs z.symm))];exact h⟩
theorem zkl {o u:HO}{n:Nat}(hn:ρ[n]?=some p) (hp:H p=some u) (hu:zdn u):Ext ρ H ρ (upd H p o) :=
 ⟨zdc hp hu,λa vs h hm=>⟨by rw [zaj (λz=>hm n (by rw [z];exact hn))];exact h,hm⟩⟩
theorem zfg {o:HO}{n:Nat}(hn:ρ[n]?=some p) (hp:H p=some (.lst ys)):Ext ρ H ρ (upd H p o) :=
 ⟨zff hp,λa vs h hm=>⟨by rw [zaj (λz=>hm n (by rw [z];exact hn))];exact h,hm⟩⟩
theorem ObR.laid {o:Ob}{u:HO}(h:ObR K ρ H o a) (hp:H p=none):ObR K ρ (upd H p u) o a:=by
 cases o with
 |lst xs=>obtain ⟨vs,e,r⟩:=h;exact ⟨vs,by rw [zaj (zay e hp)];exact e,r.mono (zbq hp)⟩
 |flst xs=>
  obtain ⟨vs,e,r⟩:=h;refine ⟨vs,?_,r.mono (zbq hp)⟩;rcases e with ⟨o,e⟩|e
  ·exact .inl ⟨o,by rw [zaj (zay e hp)];exact e⟩
  ·exact .inr e
 |iset f n=>show upd H p u a=some (.set f n);have e:H a=some (.set f n):=h;rw [zaj (zay e hp)];exact e
 |dct kvs=>obtain ⟨vs,e,r⟩:=h;exact ⟨vs,by rw [zaj (zay e hp)];exact e,r.mono (zbq hp)⟩
 |fdct kvs=>obtain ⟨o,vs,e,r⟩:=h;exact ⟨o,vs,by rw [zaj (zay e hp)];exact e,r.mono (zbq hp)⟩
 |tdct kvs=>obtain ⟨vs,e,r⟩:=h;exact ⟨vs,by rw [zaj (zay e hp)];exact e,r.mono (zbq hp)⟩
 |ftdct kvs=>obtain ⟨o,vs,e,r⟩:=h;exact ⟨o,vs,by rw [zaj (zay e hp)];exact e,r.mono (zbq hp)⟩
 |tset ks=>obtain ⟨xs,e0,e,r⟩:=h;exact ⟨xs,e0,by rw [zaj (zay e hp)];exact e,λp hq=>by rw [zaj (zay (r p hq) hp)];exact r p hq⟩
 |fnc x=>exact h
 |exc c=>obtain ⟨C,hc,e⟩:=h;exact ⟨C,hc,by rw [zaj (zay e hp)];exact e⟩
theorem ObR.writtenG {o:Ob}{u u0:HO}(h:ObR K ρ H o a) (hp:H p=some u0) (hu:zdn u0) (hn:o.mut=true->a≠p):ObR K ρ (upd H p u) o a:=by
 cases o with
 |lst xs=>obtain ⟨vs,e,r⟩:=h;exact ⟨vs,by rw [zaj (hn rfl)];exact e,r.mono0 (zdc hp hu)⟩
 |flst xs=>
  obtain ⟨vs,e,r⟩:=h;refine ⟨vs,?_,r.mono0 (zdc hp hu)⟩;rcases e with ⟨o,e⟩|e
  ·exact .inl ⟨o,by rw [zaj (zcs e hp (λz=>hu.2 _ _ z.symm))];exact e⟩
  ·exact .inr e
 |iset f n=>show upd H p u a=some (.set f n);rw [zaj (hn rfl)];exact h
 |dct kvs=>obtain ⟨vs,e,r⟩:=h;exact ⟨vs,by rw [zaj (hn rfl)];exact e,r.mono0 (zdc hp hu)⟩
 |tdct kvs=>obtain ⟨vs,e,r⟩:=h;exact ⟨vs,by rw [zaj (hn rfl)];exact e,r.mono0 (zdc hp hu)⟩
 |fdct kvs=>obtain ⟨o,vs,e,r⟩:=h;exact ⟨o,vs,by rw [zaj (hn rfl)];exact e,r.mono0 (zdc hp hu)⟩
 |ftdct kvs=>obtain ⟨o,vs,e,r⟩:=h;exact ⟨o,vs,by rw [zaj (hn rfl)];exact e,r.mono0 (zdc hp hu)⟩
 |tset ks=>obtain ⟨xs,e0,e,r⟩:=h;exact ⟨xs,e0,by rw [zaj (hn rfl)];exact e,λp hq=>(zdc (ρ:=ρ) hp hu).tup _ _ (r p hq)⟩
 |fnc x=>exact h
 |exc c=>obtain ⟨C,hc,e⟩:=h;exact ⟨C,hc,by rw [zaj (hn rfl)];exact e⟩
theorem ObR.written {o:Ob}{u:HO}(h:ObR K ρ H o a) (hp:H p=some (.lst ys)) (hn:o.mut=true->a≠p):ObR K ρ (upd H p u) o a:=h.writtenG hp (zom ys) hn
theorem ObR.more {o:Ob}(h:ObR K ρ H o a) (e:Ext0 ρ H ρ' H):ObR K ρ' H o a:=by
 cases o with
 |lst xs=>obtain ⟨vs,e1,r⟩:=h;exact ⟨vs,e1,r.mono0 e⟩
 |flst xs=>obtain ⟨vs,e1,r⟩:=h;exact ⟨vs,e1,r.mono0 e⟩
 |iset f n=>exact h
 |dct kvs=>obtain ⟨vs,e1,r⟩:=h;exact ⟨vs,e1,r.mono0 e⟩
 |tdct kvs=>obtain ⟨vs,e1,r⟩:=h;exact ⟨vs,e1,r.mono0 e⟩
 |fdct kvs=>obtain ⟨o,vs,e1,r⟩:=h;exact ⟨o,vs,e1,r.mono0 e⟩
 |ftdct kvs=>obtain ⟨o,vs,e1,r⟩:=h;exact ⟨o,vs,e1,r.mono0 e⟩
 |tset ks=>exact h
 |fnc x=>exact h
 |exc c=>exact h
theorem Sim.laid (s:Sim K ρ S H) {u:HO}(hp:H p=none):Sim K ρ S (upd H p u) :=
 ⟨s.len,s.nd,λn a o h1 h2=>(s.at' n a o h1 h2).laid hp⟩
theorem Sim.lst {n:Nat}(s:Sim K ρ S H) (h:S[n]?=some (.lst xs)):∃a vs,ρ[n]?=some a/\H a=some (.lst vs)/\RDs ρ H xs vs:=by
 have hl:n<ρ.length:=by rw [s.len];exact (qme h).1
 obtain ⟨vs,e,r⟩:=s.at' n _ _ (qge hl) h;exact ⟨_,vs,qge hl,e,r⟩
noncomputable def lstOf (S:Sto) (n:Nat):Option (List D):=match S[n]? with
 |some (.lst xs)=>some xs
 |some (.flst xs)=>some xs
 |_=>none
theorem Sim.lstOf {n:Nat}(s:Sim K ρ S H) (h:L3.lstOf S n=some xs):∃a vs,ρ[n]?=some a/\SqL K H a vs/\RDs ρ H xs vs:=by
 unfold L3.lstOf at h;cases e:S[n]? with
 |none=>rw [e] at h;cases h
 |some o=>
  have hl:n<ρ.length:=by rw [s.len];exact (qme e).1
  have q:=s.at' n _ _ (qge hl) e;rw [e] at h;cases o with
  |lst ys=>cases h;obtain ⟨vs,e1,r⟩:=q;exact ⟨_,vs,qge hl,.inl (.inl e1),r⟩
  |flst ys=>cases h;obtain ⟨vs,e1,r⟩:=q;exact ⟨_,vs,qge hl,e1.sq,r⟩
  |iset f n=>cases h
  |dct kvs=>cases h
  |fdct kvs=>cases h
  |ftdct kvs=>cases h
  |tset ks=>cases h
  |fnc x=>cases h
  |tdct kvs=>cases h
  |exc c=>cases h
theorem Sim.setG {n:Nat}{o0 o1:Ob}{u0 u1:HO}(s:Sim K ρ S H) (ha:ρ[n]?=some a) (hS:S[n]?=some o0) (hm0:o0.mut=true) (hH:H a=some u0) (hu:zdn u0) (r:ObR K ρ (upd H a u1) o1 a):Sim K ρ (S.set n o1) (upd H a u1):=by
 have hl:n<S.length:=(qme hS).1;have key:∀(m:Nat) (w:Ob),w.mut=true->(S.set n o1)[m]?=some w->∃w',S[m]?=some w'/\w'.mut=true:=λm w hw h=>by
  by_cases hmn:n=m
  ·subst hmn;exact ⟨_,hS,hm0⟩
  ·rw [List.getElem?_set_ne hmn] at h;exact ⟨_,h,hw⟩
 refine ⟨by rw [List.length_set];exact s.len,λi j b x1 x2 h1 h2 h3 h4 m1 m2=>?_,λm b o h1 h2=>?_⟩
 ·obtain ⟨_,h3,q3⟩:=key i x1 m1 h3;obtain ⟨_,h4,q4⟩:=key j x2 m2 h4;exact s.nd i j b _ _ h1 h2 h3 h4 q3 q4
 by_cases hmn:n=m
 ·subst hmn;rw [ha] at h1;cases h1;rw [List.getElem?_set_self hl] at h2;cases h2;exact r
 ·rw [List.getElem?_set_ne hmn] at h2;exact (s.at' m b o h1 h2).writtenG hH hu (λe z=>hmn (s.nd n m a _ _ ha (by rw [h1,z]) hS h2 hm0 e))
theorem Sim.set {n:Nat}(s:Sim K ρ S H) (ha:ρ[n]?=some a) (hS:S[n]?=some (.lst zs)) (hH:H a=some (.lst ys)) (r:RDs ρ H xs vs):Sim K ρ (S.set n (.lst xs)) (upd H a (.lst vs)) :=
 s.setG ha hS rfl hH (zom ys) ⟨vs,zbo,r.mono0 (zff hH)⟩
theorem ext0_push:Ext0 ρ H (ρ++[a]) H :=
 ⟨λn b h=>by rw [List.getElem?_append_left (qme h).1];exact h,λ_ _ h=>h,λ_ _ _ h=>h⟩
theorem za9 {α:Type}{l:List α}{a b:α}{n:Nat}(h:(l++[a])[n]?=some b):l[n]?=some b\/(n=l.length/\b=a):=by
 by_cases hl:n<l.length
 ·rw [List.getElem?_append_left hl] at h;exact .inl h
 ·rw [List.getElem?_append_right (by omega)] at h;have:n-l.length=0:=by have:=(qme h).1;simp at this;omega
  rw [this] at h;simp at h;exact .inr ⟨by omega,h.symm⟩
theorem zon {a:Addr}{vs:List V}(ha:H a=none):Ext ρ H (ρ++[a]) (upd H a (.lst vs)) :=
 ⟨⟨ext0_push.pre (H:=H),λb us h=>by rw [zaj (zay h ha)];exact h,λb o us h=>by rw [zaj (zay h ha)];exact h⟩,λb us h n=>⟨by rw [zaj (zay h ha)];exact h,λi hi=>by
  rcases za9 hi with hi|⟨_,e⟩
  ·exact n i hi
  ·rw [e,ha] at h;cases h⟩⟩
theorem zoo {a:Addr}{u:HO}(ha:H a=none):Ext ρ H (ρ++[a]) (upd H a u) :=
 ⟨⟨ext0_push.pre (H:=H),λb us h=>by rw [zaj (zay h ha)];exact h,λb o us h=>by rw [zaj (zay h ha)];exact h⟩,λb us h n=>⟨by rw [zaj (zay h ha)];exact h,λi hi=>by
  rcases za9 hi with hi|⟨_,e⟩
  ·exact n i hi
  ·rw [e,ha] at h;cases h⟩⟩
theorem Sim.pushG {a:Addr}{o1:Ob}{u:HO}(s:Sim K ρ S H) (ha:H a=none) (r:ObR K (ρ++[a]) (upd H a u) o1 a):Sim K (ρ++[a]) (S++[o1]) (upd H a u):=by
 have no:∀(n:Nat) (o:Ob),o.mut=true->ρ[n]?=some a->S[n]?=some o->False:=λn o hm h1 h2=>by
  have q:=s.at' n a _ h1 h2;cases o with
  |lst xs=>obtain ⟨vs,e,_⟩:=q;rw [ha] at e;cases e
  |flst xs=>cases hm
  |iset f n=>have q:H a=_:=q;rw [ha] at q;cases q
  |dct kvs=>obtain ⟨vs,e,_⟩:=q;rw [ha] at e;cases e
  |tdct kvs=>obtain ⟨vs,e,_⟩:=q;rw [ha] at e;cases e
  |fdct kvs=>obtain ⟨o,vs,e,_⟩:=q;rw [ha] at e;cases e
  |ftdct kvs=>obtain ⟨o,vs,e,_⟩:=q;rw [ha] at e;cases e
  |tset ks=>obtain ⟨xs,_,e,_⟩:=q;rw [ha] at e;cases e
  |fnc x=>cases hm
  |exc c=>obtain ⟨C,_,e⟩:=q;rw [ha] at e;cases e
 refine ⟨by simp [s.len],λi j b x1 x2 h1 h2 h3 h4 m1 m2=>?_,λn b o h1 h2=>?_⟩
 ·rcases za9 h3 with h3|⟨e3,_⟩<;>rcases za9 h4 with h4|⟨e4,_⟩
  ·have l1:=(qme h3).1;have l2:=(qme h4).1;rcases za9 h1 with h1|⟨e1,f1⟩<;>rcases za9 h2 with h2|⟨e2,f2⟩
   ·exact s.nd i j b _ _ h1 h2 h3 h4 m1 m2
   ·have:=s.len;omega
   ·have:=s.len;omega
   ·have:=s.len;omega
  ·have l1:=(qme h3).1;rcases za9 h2 with h2|⟨e2,f2⟩
   ·have:=(qme h2).1;have:=s.len;omega
   ·subst f2;rcases za9 h1 with h1|⟨e1,_⟩
    ·exact (no i _ m1 h1 h3).elim
    ·have:=s.len;omega
  ·have l1:=(qme h4).1;rcases za9 h1 with h1|⟨e2,f2⟩
   ·have:=(qme h1).1;have:=s.len;omega
   ·subst f2;rcases za9 h2 with h2|⟨e1,_⟩
    ·exact (no j _ m2 h2 h4).elim
    ·have:=s.len;omega
  ·omega
 ·rcases za9 h2 with h2|⟨e2,f2⟩
  ·rcases za9 h1 with h1|⟨e1,f1⟩
   ·exact ((s.at' n b o h1 h2).laid ha).more ext0_push
   ·have:=(qme h2).1;have:=s.len;omega
  ·rcases za9 h1 with h1|⟨e1,f1⟩
   ·have:=(qme h1).1;have:=s.len;omega
   ·subst f1 f2;exact r
theorem Sim.push (s:Sim K ρ S H) (ha:H a=none) (r:RDs ρ H xs vs):Sim K (ρ++[a]) (S++[.lst xs]) (upd H a (.lst vs)) :=
 s.pushG ha ⟨vs,zbo,r.mono (zon ha)⟩
theorem zd6 {α:Type}(l:List α) (a:α):(l++[a])[l.length]?=some a:=by rw [List.getElem?_append_right (qlr _)];simp
end
structure RO (ρ:List Addr) (H:Hp) (l:Lo) (σ:St):Prop where
 len:l.length=σ.length
 get:∀(i:Nat) (d:D),l[i]?=some (some d)->∃v,σ[i]?=some (some v)/\RD ρ H d v
theorem RO.mono {σ:St}(r:RO ρ H l σ) (e:Ext ρ H ρ' H'):RO ρ' H' l σ :=
 ⟨r.len,λi d h=>let ⟨v,h1,h2⟩:=r.get i d h;⟨v,h1,h2.mono e⟩⟩
theorem RO.set {σ:St}(r:RO ρ H l σ) (i:Nat) (h:RD ρ H d v):RO ρ H (l.set i (some d)) (σ.set i (some v)):=by
 refine ⟨by simp [r.len],λj x hj=>?_⟩;by_cases hij:i=j
 ·subst hij;have hl:i<l.length:=by have:=(qme hj).1;simpa using this
  rw [List.getElem?_set_self hl] at hj;cases hj;exact ⟨v,List.getElem?_set_self (by rw [<-r.len];exact hl),h⟩
 ·rw [List.getElem?_set_ne hij] at hj;rw [List.getElem?_set_ne hij];exact r.get j x hj
abbrev EM:=Lo->Sto->Option (D×Sto)
abbrev TM:=Lo->Sto->Option (Bool×Sto)
abbrev AM:=Lo->Sto->Option (List D×Sto)
abbrev FM:=List D->Sto->Option (D×Sto)
inductive Fl where
 |nx|bk|ct|rt (d:D)
abbrev SM:=Lo->Sto->Option (Fl×Lo×Sto)
abbrev GM:=D->Lo->Sto->Option (Lo×Sto)
abbrev GsM:=List D->Lo->Sto->Option (Lo×Sto)
def Pv (K:QFg) (ρ:List Addr) (H:Hp) (v:D) (S:Sto) (Q:VK):Prop:=∀ρ' H' v',Ext ρ H ρ' H'->Sim K ρ' S H'->RD ρ' H' v v'->Q v' H'
theorem Pv.ext {K:QFg}{ρ ρ1:List Addr}{H H1:Hp}{v:D}{S:Sto}{Q:VK}(p:Pv K ρ H v S Q) (e:Ext ρ H ρ1 H1):Pv K ρ1 H1 v S Q:=λρ' H' v' e' s r=>p ρ' H' v' (e.trans e') s r
inductive te (K:QFg) (m:EM) (σ:St) (H:Hp) (Q:VK):Prop
 |mk (ρ:_) (l:_) (S:_) (v:_) (S':_) (_:Sim K ρ S H) (_:RO ρ H l σ) (_:m l S=some (v,S')) (_:Pv K ρ H v S' Q)
inductive tt (K:QFg) (m:TM) (σ:St) (H:Hp) (Q:Bool->Hp->Prop):Prop
 |mk (ρ:_) (l:_) (S:_) (v:_) (S':_) (_:Sim K ρ S H) (_:RO ρ H l σ) (_:m l S=some (v,S')) (_:∀ρ' H',Ext ρ H ρ' H'->Sim K ρ' S' H'->Q v H')
inductive ta (K:QFg) (m:AM) (σ:St) (H:Hp) (Q:List V->Hp->Prop):Prop
 |mk (ρ:_) (l:_) (S:_) (v:_) (S':_) (_:Sim K ρ S H) (_:RO ρ H l σ) (_:m l S=some (v,S')) (_:∀ρ' H' vs,Ext ρ H ρ' H'->Sim K ρ' S' H'->RDs ρ' H' v vs->Q vs H')
def zgh (ρ:List Addr) (H:Hp) (E:Ends) (σ:St):Fl->Prop
 | .nx=>E.nx σ H
 | .bk=>E.bk σ H
 | .ct=>E.ct σ H
 | .rt d=>∀v,RD ρ H d v->E.rt v H
inductive ts (K:QFg) (m:SM) (E:Ends) (σ:St) (H:Hp):Prop
 |mk (ρ:_) (l:_) (S:_) (f:_) (l':_) (S':_) (_:Sim K ρ S H) (_:RO ρ H l σ) (_:m l S=some (f,l',S')) (_:∀ρ' H' σ',Ext ρ H ρ' H'->Sim K ρ' S' H'->RO ρ' H' l' σ'->zgh ρ' H' E σ' f)
inductive tg (K:QFg) (g:GM) (v:V) (σ:St) (H:Hp) (Q:St->Hp->Prop):Prop
 |mk (ρ:_) (l:_) (S:_) (d:_) (l':_) (S':_) (_:Sim K ρ S H) (_:RO ρ H l σ) (_:RD ρ H d v) (_:g d l S=some (l',S')) (_:∀ρ' H' σ',Ext ρ H ρ' H'->Sim K ρ' S' H'->RO ρ' H' l' σ'->Q σ' H')
inductive tgs (K:QFg) (g:GsM) (vs:List V) (σ:St) (H:Hp) (Q:St->Hp->Prop):Prop
 |mk (ρ:_) (l:_) (S:_) (ds:_) (l':_) (S':_) (_:Sim K ρ S H) (_:RO ρ H l σ) (_:RDs ρ H ds vs) (_:g ds l S=some (l',S')) (_:∀ρ' H' σ',Ext ρ H ρ' H'->Sim K ρ' S' H'->RO ρ' H' l' σ'->Q σ' H')
def PE3 (X:Cx) (e:Expr) (m:EM):Prop:=PE X e (te X.K m)
def PT3 (X:Cx) (e:Expr) (m:TM):Prop:=PT X e (tt X.K m)
def PW3 (X:Cx) (e:Expr) (m:TM):Prop:=PW X e (tt X.K m)
def PA3 (X:Cx) (es:List Expr) (m:AM):Prop:=PA X es (ta X.K m)
def PS3 (X:Cx) (st:Stmt) (m:SM):Prop:=PS X st (ts X.K m)
def PSs3 (X:Cx) (st:List Stmt) (m:SM):Prop:=PSs X st (ts X.K m)
def PG3 (X:Cx) (tg':Expr) (m:GM):Prop:=PG X tg' (tg X.K m)
def zih (X:Cx) (ts':List Expr) (m:GsM):Prop:=PGs X ts' (tgs X.K m)
theorem PE.imp {t u:TE}(h:PE X e t) (i:∀σ H Q,u σ H Q->t σ H Q):PE X e u:=λpins s σ H Q I q=>h pins s σ H Q I (i _ _ _ q)
theorem PT.imp {t u:TT}(h:PT X e t) (i:∀σ H Q,u σ H Q->t σ H Q):PT X e u:=λpins s σ H Q I q=>h pins s σ H Q I (i _ _ _ q)
theorem PW.imp {t u:TT}(h:PW X e t) (i:∀σ H Q,u σ H Q->t σ H Q):PW X e u:=λwh pins s σ H Q I q=>h wh pins s σ H Q I (i _ _ _ q)
theorem PA.imp {t u:TA}(h:PA X e t) (i:∀σ H Q,u σ H Q->t σ H Q):PA X e u:=λpos pins s σ H Q I q=>h pos pins s σ H Q I (i _ _ _ q)
theorem PS.imp {e:Stmt}{t u:TS}(h:PS X e t) (i:∀E σ H,u E σ H->t E σ H):PS X e u:=λpins s σ H Q I q=>h pins s σ H Q I (i _ _ _ q)
theorem PSs.imp {e:List Stmt}{t u:TS}(h:PSs X e t) (i:∀E σ H,u E σ H->t E σ H):PSs X e u:=λpins s σ H Q I q=>h pins s σ H Q I (i _ _ _ q)
theorem PG.imp {t u:TG}(h:PG X e t) (i:∀v σ H Q,u v σ H Q->t v σ H Q):PG X e u:=λpins s σ H v w Q I r q=>h pins s σ H v w Q I r (i _ _ _ _ q)
theorem PGs.imp {t u:TGs}(h:PGs X e t) (i:∀v σ H Q,u v σ H Q->t v σ H Q):PGs X e u:=λpins s σ H v w Q I r q=>h pins s σ H v w Q I r (i _ _ _ _ q)
inductive Bnd {α β:Type} (o:Option α) (f:α->Option β) (b:β):Prop
 |mk (a:α) (_:o=some a) (_:f a=some b)
theorem bnd {α β:Type}{o:Option α}{f:α->Option β}{b:β}(h:o.bind f=some b):Bnd o f b:=by obtain ⟨a,h1,h2⟩:=Option.bind_eq_some_iff.mp h;exact ⟨a,h1,h2⟩
noncomputable def zaa (i:Nat):EM:=λl S=>match l[i]? with
 |some (some d)=>some (d,S)
 |_=>none
noncomputable def eC (d:D):EM:=λ_ S=>some (d,S)
noncomputable def eOp (f:D->D->Sto->Option (D×Sto)) (a b:EM):EM:=λl S=>(a l S).bind λp=>(b l p.2).bind λq=>f p.1 q.1 q.2
noncomputable def eUn (f:D->Sto->Option (D×Sto)) (a:EM):EM:=λl S=>(a l S).bind λp=>f p.1 p.2
noncomputable def zac:AM:=λ_ S=>some ([],S)
noncomputable def zab (a:EM) (r:AM):AM:=λl S=>(a l S).bind λp=>(r l p.2).bind λq=>some (p.1::q.1,q.2)
noncomputable def zad (f:FM) (as:AM):EM:=λl S=>(as l S).bind λp=>f p.1 p.2
noncomputable def tE (a:EM):TM:=λl S=>(a l S).bind λp=>match p.1 with
 | .bl b=>some (b,p.2)
 |_=>none
noncomputable def zb9 (a b:TM):TM:=λl S=>(a l S).bind λp=>if p.1=true then b l p.2 else some (false,p.2)
noncomputable def zd7 (a b:TM):TM:=λl S=>(a l S).bind λp=>if p.1=true then some (true,p.2) else b l p.2
noncomputable def zcf (a:TM):TM:=λl S=>(a l S).bind λp=>some (!p.1,p.2)
noncomputable def zeq (a b:EM):EM:=λl S=>(a l S).bind λp=>match p.1 with
 | .bl true=>b l p.2
 | .bl false=>some (.bl false,p.2)
 |_=>none
def Op3 (K:QFg) (f:D->D->Sto->Option (D×Sto)) (r:R2):Prop :=
 ∀ρ S H x y x' y' v S' Q,Sim K ρ S H->RD ρ H x x'->RD ρ H y y'->f x y S=some (v,S')->Pv K ρ H v S' Q->r x' y' H Q
def Fn3 (K:QFg) (f:FM) (r:List V->Hp->VK->Prop):Prop :=
 ∀ρ S H xs vs v S' Q,Sim K ρ S H->RDs ρ H xs vs->f xs S=some (v,S')->Pv K ρ H v S' Q->r vs H Q
def Mt3 (K:QFg) (f:D->List D->Sto->Option (D×Sto)) (r:V->List V->Hp->VK->Prop):Prop :=
 ∀ρ S H x x' xs vs v S' Q,Sim K ρ S H->RD ρ H x x'->RDs ρ H xs vs->f x xs S=some (v,S')->Pv K ρ H v S' Q->r x' vs H Q
theorem zii {K:QFg}{f:D->D->Sto->Option (D×Sto)}{r:R2}(h:Op3 K f r) {a b:EM}(σ:St) (H:Hp) (Q:VK) (q:te K (eOp f a b) σ H Q):tOp r (te K a) (te K b) σ H Q:=by obtain ⟨ρ,l,S,v,S',sim,ro,hm,p⟩:=q;obtain ⟨⟨x,S1⟩,h1,hm⟩:=bnd hm;obtain ⟨⟨y,S2⟩,h2,hm⟩:=bnd hm;exact ⟨ρ,l,S,x,S1,sim,ro,h1,λρ1 H1 x' e1 s1 r1=>⟨ρ1,l,S1,y,S2,s1,ro.mono e1,h2,λρ2 H2 y' e2 s2 r2=>h ρ2 S2 H2 x y x' y' v S' Q s2 (r1.mono e2) r2 hm (p.ext (e1.trans e2))⟩⟩
section
variable {X:Cx}{a b c:Expr}{es:List Expr}{ma mb:EM}{mA:AM}{pos:Pos}
theorem zyn (i:Nat) (hN:X.N[i]?=some x:=by rfl) (hv:Vis X.env.scope x:=by first|exact Or.inl rfl|exact Or.inr (Or.inl rfl)|exact Or.inr (Or.inr rfl)) (hd:(x==("__debug__":Str))=false:=by decide)
  (hcd:(x==("__classdict__":Str))=false:=by decide):PE3 X (.Name x pos) (zaa i) :=
 PE.imp (zuw hN hv hd hcd) λσ H Q hx1_=>by
  obtain ⟨ρ,l,S,v,S',sim,ro,hm,p⟩:=hx1_;unfold zaa at hm;split at hm
  ·rename_i d e;cases hm;obtain ⟨w,h1,h2⟩:=ro.get i _ e;exact ⟨w,h1,p ρ H w (Ext.refl ..) sim h2⟩
  ·cases hm
theorem zij {K:QFg}{d:D}{v:V}(h:∀ρ H,RD ρ H d v) (σ:St) (H:Hp) (Q:VK) (q:te K (eC d) σ H Q):tC v σ H Q:=by obtain ⟨ρ,l,S,w,S',sim,ro,hm,p⟩:=q;cases hm;exact p ρ H v (Ext.refl ..) sim (h ρ H)
theorem zyo {i j}:PE3 X (.Constant (.int i) j pos) (eC (.int i)):=PE.imp zux (zij λ_ _=>.int i)
theorem zyp {i j}:PE3 X (.Constant (.bool i) j pos) (eC (.bl i)):=PE.imp zuy (zij λ_ _=>.bl i)
theorem zyq {j}:PE3 X (.Constant .none j pos) (eC .non):=PE.imp zuz (zij λ_ _=>.non)
theorem zyr {i:Int}{t:Tok}(hg:Gl X x) (hm:X.mg x=some (.int i t)) (hd:(x==("__debug__":Str))=false:=by decide):PE3 X (.Name x pos) (eC (.int i)) :=
 PE.imp (zu1 hg hm (v:=.int i) ⟨t,rfl⟩ hd) (zij λ_ _=>.int i)
theorem zdo {op:Operator}{f:D->D->Sto->Option (D×Sto)}{r:R2}(ho:OpR X (binaryOp op) r) (h3:Op3 X.K f r) (ha:PE3 X a ma) (hb:PE3 X b mb):PE3 X (.BinOp a op b pos) (eOp f ma mb):=PE.imp (zwd ho ha hb) (zii h3)
theorem zkm {op:CmpOp}{f:D->D->Sto->Option (D×Sto)}{r:R2}(ho:OpR X (compareOp op) r) (h3:Op3 X.K f r) (ha:PE3 X a ma) (hb:PE3 X b mb) (hm:behindInMarks op b=false):PE3 X (.Compare a [op] [b] pos) (eOp f ma mb):=PE.imp (zwq ho ha hb hm) (zii h3)
theorem zop {K:QFg}{m:EM}(σ:St) (H:Hp) (Q:Bool->Hp->Prop) (q:tt K (tE m) σ H Q):te K m σ H λx H'=>∃k,x=.bl k/\Q k H':=by
 obtain ⟨ρ,l,S,v,S',sim,ro,hm,p⟩:=q;obtain ⟨⟨x,S1⟩,h1,hm⟩:=bnd hm;refine ⟨ρ,l,S,x,S1,sim,ro,h1,λρ' H' v' e s r=>?_⟩;cases r with
 |bl k=>cases hm;exact ⟨_,rfl,p ρ' H' e s⟩
 |_=>cases hm
theorem zdp {op:CmpOp}{f:D->D->Sto->Option (D×Sto)}{r:R2}(ho:OpR X (compareOp op) r) (h3:Op3 X.K f r) (ha:PE3 X a ma) (hb:PE3 X b mb) (hm:behindInMarks op b=false):PT3 X (.Compare a [op] [b] pos) (tE (eOp f ma mb)) :=
 PT.imp (zws ho ha hb hm) λσ H Q q=>zii h3 σ H _ (zop σ H Q q)
theorem zys (h:PE3 X a m) (he:∀whole,isTrue a X.env whole=(do let v <-whole;standAt a.pos;holding [v] (truthy v)):=by intro _;rfl):PT3 X a (tE m) :=
 PT.imp (zu2 h he) λσ H Q q=>zop σ H Q q
variable {t u:TM}{rest:List Expr}
theorem zyt {K:QFg}(σ:St) (H:Hp) (Q:Bool->Hp->Prop) (q:tt K (zb9 t u) σ H Q):L2.tAnd (tt K t) (tt K u) σ H Q:=by
 obtain ⟨ρ,l,S,v,S',sim,ro,hm,p⟩:=q;obtain ⟨⟨x,S1⟩,h1,hm⟩:=bnd hm;refine ⟨ρ,l,S,x,S1,sim,ro,h1,λρ1 H1 e1 s1=>?_⟩;cases x with
 |true=>exact zdb ⟨ρ1,l,S1,v,S',s1,ro.mono e1,hm,λρ2 H2 e2 s2=>p ρ2 H2 (e1.trans e2) s2⟩
 |false=>cases hm;exact zda (p ρ1 H1 e1 s1)
theorem zyu {K:QFg}(σ:St) (H:Hp) (Q:Bool->Hp->Prop) (q:tt K (zd7 t u) σ H Q):L2.tOr (tt K t) (tt K u) σ H Q:=by
 obtain ⟨ρ,l,S,v,S',sim,ro,hm,p⟩:=q;obtain ⟨⟨x,S1⟩,h1,hm⟩:=bnd hm;refine ⟨ρ,l,S,x,S1,sim,ro,h1,λρ1 H1 e1 s1=>?_⟩;cases x with
 |false=>exact zda ⟨ρ1,l,S1,v,S',s1,ro.mono e1,hm,λρ2 H2 e2 s2=>p ρ2 H2 (e1.trans e2) s2⟩
 |true=>cases hm;exact zdb (p ρ1 H1 e1 s1)
theorem zyv (ha:PT3 X a t):PW3 X (.BoolOp .And [a] pos) t:=zu4 ha
theorem zyw (ha:PT3 X a t):PW3 X (.BoolOp .Or [a] pos) t:=zu5 ha
theorem zyx (ha:PT3 X a t) (hb:PW3 X (.BoolOp .And (b::rest) pos) u):PW3 X (.BoolOp .And (a::b::rest) pos) (zb9 t u):=PW.imp (zu6 ha hb) zyt
theorem zyy (ha:PT3 X a t) (hb:PW3 X (.BoolOp .Or (b::rest) pos) u):PW3 X (.BoolOp .Or (a::b::rest) pos) (zd7 t u):=PW.imp (zu7 ha hb) zyu
theorem zyz (h:PW3 X a t):PT3 X a t:=PW.pt h
theorem zy0 (ha:PT3 X a t):PT3 X (.UnaryOp .Not a pos) (zcf t):=PT.imp (zu8 ha) λσ H Q hx2_=>by obtain ⟨ρ,l,S,v,S',sim,ro,hm,p⟩:=hx2_;obtain ⟨⟨x,S1⟩,h1,hm⟩:=bnd hm;cases hm;exact ⟨ρ,l,S,x,S1,sim,ro,h1,p⟩
theorem zy1 {op}(h:PE3 X a ma):PE3 X (.BoolOp op [a] pos) ma:=zva h
theorem zy2 (ha:PE3 X a ma) (hb:PE3 X (.BoolOp .And (b::rest) pos) mb):PE3 X (.BoolOp .And (a::b::rest) pos) (zeq ma mb):=PE.imp (zvb ha hb) λσ H Q hx3_=>by
 obtain ⟨ρ,l,S,v,S',sim,ro,hm,p⟩:=hx3_;obtain ⟨⟨x,S1⟩,h1,hm⟩:=bnd hm;refine ⟨ρ,l,S,x,S1,sim,ro,h1,λρ1 H1 x' e1 s1 r1=>?_⟩;cases r1 with
 |bl k=>
  refine ⟨k,rfl,?_⟩;cases k with
  |true=>exact zdb ⟨ρ1,l,S1,v,S',s1,ro.mono e1,hm,p.ext e1⟩
  |false=>cases hm;exact zda (p ρ1 H1 _ e1 s1 (.bl false))
 |_=>cases hm
theorem zoq:PA3 X [] zac:=PA.imp zd5 λσ H Q hx7_=>by obtain ⟨ρ,l,S,v,S',sim,ro,hm,p⟩:=hx7_;cases hm;exact p ρ H [] (Ext.refl ..) sim .nil
theorem zor (ha:PE3 X a ma) (hr:PA3 X es mA) (hs:starEach (a::es) X.env=(false,eval a X.env)::starEach es X.env:=by rfl):PA3 X (a::es) (zab ma mA):=PA.imp (zct ha hr hs) λσ H Q hx8_=>by obtain ⟨ρ,l,S,v,S',sim,ro,hm,p⟩:=hx8_;obtain ⟨⟨x,S1⟩,h1,hm⟩:=bnd hm;obtain ⟨⟨y,S2⟩,h2,hm⟩:=bnd hm;cases hm;exact ⟨ρ,l,S,x,S1,sim,ro,h1,λρ1 H1 x' e1 s1 r1=>⟨ρ1,l,S1,y,_,s1,ro.mono e1,h2,λρ2 H2 vs e2 s2 r2=>p ρ2 H2 _ (e1.trans e2) s2 (.cons (r1.mono e2) r2)⟩⟩
noncomputable def zba:FM:=λxs S=>if xs.length<=sizeLine then some (.tup xs,S) else none
noncomputable def zbr:FM:=λxs S=>if xs.length<=sizeLine then some (.ref S.length,S++[.lst xs]) else none
theorem zbb {α:Type}{c:Prop} [Decidable c] {a b:α}(h:(if c then some a else none)=some b):c/\a=b:=by
 by_cases hc:c
 ·rw [if_pos hc] at h;exact ⟨hc,qoi h⟩
 ·rw [if_neg hc] at h;cases h
theorem zgi {K:QFg}{ρ:List Addr}{S:Sto}{H:Hp}{xs:List D}{vs:List V}{Q:VK}(sim:Sim K ρ S H) (r:RDs ρ H xs vs) (p:Pv K ρ H (.tup xs) S Q):∀a,H a=none->Q (.ref a) (upd H a (.tup vs)):=λa ha=>
 p ρ _ _ (zbq ha) (sim.laid ha) (.tup zbo (r.mono (zbq ha)))
theorem zgj {K:QFg}{ρ:List Addr}{S:Sto}{H:Hp}{xs:List D}{vs:List V}{Q:VK}(sim:Sim K ρ S H) (r:RDs ρ H xs vs) (p:Pv K ρ H (.ref S.length) (S++[.lst xs]) Q):∀a,H a=none->Q (.ref a) (upd H a (.lst vs)):=λa ha=>
 p (ρ++[a]) _ _ (zon ha) (sim.push ha r) (.ref (by rw [<-sim.len];exact zd6 ρ a))
theorem zy3 {x1}(h:PA3 X es mA):PE3 X (.Tuple es x1 pos) (zad zba mA):=PE.imp (znt h) λσ H Q hx9_=>by obtain ⟨ρ,l,S,v,S',sim,ro,hm,p⟩:=hx9_;obtain ⟨⟨x,S1⟩,h1,hm⟩:=bnd hm;obtain ⟨hz,e⟩:=zbb hm;cases e;exact ⟨ρ,l,S,x,_,sim,ro,h1,λρ1 H1 vs e1 s1 r1=>⟨by rw [<-r1.length];exact hz,zgi s1 r1 (p.ext e1)⟩⟩
theorem zy4 (h:PA3 X es mA):PE3 X (.List es pos) (zad zbr mA):=PE.imp (zw6 h) λσ H Q hx10_=>by obtain ⟨ρ,l,S,v,S',sim,ro,hm,p⟩:=hx10_;obtain ⟨⟨x,S1⟩,h1,hm⟩:=bnd hm;obtain ⟨hz,e⟩:=zbb hm;cases e;exact ⟨ρ,l,S,x,_,sim,ro,h1,λρ1 H1 vs e1 s1 r1=>⟨by rw [<-r1.length];exact hz,zgj s1 r1 (p.ext e1)⟩⟩
theorem zos {K:QFg}{f:FM}{r:List V->Hp->VK->Prop}(h3:Fn3 K f r) (σ:St) (H:Hp) (Q:VK) (q:te K (zad f mA) σ H Q):tCB r (ta K mA) σ H Q:=by obtain ⟨ρ,l,S,v,S',sim,ro,hm,p⟩:=q;obtain ⟨⟨x,S1⟩,h1,hm⟩:=bnd hm;exact ⟨ρ,l,S,x,S1,sim,ro,h1,λρ1 H1 vs e1 s1 r1=>h3 ρ1 S1 H1 x vs v S' Q s1 r1 hm (p.ext e1)⟩
theorem zdq {id:String}{r:List V->Hp->VK->Prop}(hc:CallR X (.builtin id) r) (h3:Fn3 X.K f r) (hg:Gl X x) (hm:X.mg x=none) (hv:bootBuiltins x=some (.builtin id)) (ha:PA3 X (a::es) mA) (hn:x≠"__name__":=by decide) (hdb:(x==("__debug__":Str))=false:=by decide)
  (he:starEach (a::es) X.env=(false,eval a X.env)::starEach es X.env:=by rfl) (hpl:(backTo pos (starEach es X.env)).any (·.1)=false:=by rfl):PE3 X (.Call (.Name x p) (a::es) [] pos) (zad f mA) :=
 PE.imp (zge hc hg hm hv ha hn hdb he hpl) (zos h3)
theorem zy5 {T:String}{r:List V->Hp->VK->Prop}(hc:CallR X (.type T) r) (h3:Fn3 X.K f r) (hg:Gl X x) (hm:X.mg x=none) (hv:bootBuiltins x=some (.type T)) (ha:PA3 X (a::es) mA) (hn:x≠"__name__":=by decide) (hdb:(x==("__debug__":Str))=false:=by decide)
  (he:starEach (a::es) X.env=(false,eval a X.env)::starEach es X.env:=by rfl) (hpl:(backTo pos (starEach es X.env)).any (·.1)=false:=by rfl):PE3 X (.Call (.Name x p) (a::es) [] pos) (zad f mA) :=
 PE.imp (zke hc hg hm hv ha hn hdb he hpl) (zos h3)
end
noncomputable def oI (C:Int->Int->Bool) (g:Int->Int->D):D->D->Sto->Option (D×Sto)
 | .int i,.int j,S=>if C i j=true then some (g i j,S) else none
 |_,_,_=>none
noncomputable def oI0 (g:Int->Int->D):D->D->Sto->Option (D×Sto)
 | .int i,.int j,S=>some (g i j,S)
 |_,_,_=>none
theorem zgk {K:QFg}{C:Int->Int->Bool}{C':Int->Int->Prop}{g:Int->Int->D}{g':Int->Int->V}(hC:∀i j,C i j=true->C' i j) (hg:∀ρ H i j,RD ρ H (g i j) (g' i j)):Op3 K (oI C g) (rI C' g'):=by
 intro ρ S H x y x' y' v S' Q sim rx ry h p;unfold oI at h;split at h
 ·rename_i i j;cases rx;cases ry;obtain ⟨hc,e⟩:=zbb h;cases e;exact ⟨i,j,rfl,rfl,hC i j hc,p ρ H _ (Ext.refl ..) sim (hg ρ H i j)⟩
 ·cases h
theorem zgl {K:QFg}{g:Int->Int->D}{g':Int->Int->V}(hg:∀ρ H i j,RD ρ H (g i j) (g' i j)):Op3 K (oI0 g) (rI0 g'):=by
 intro ρ S H x y x' y' v S' Q sim rx ry h p;unfold oI0 at h;split at h
 ·rename_i i j;cases rx;cases ry;cases h;exact ⟨i,j,rfl,rfl,p ρ H _ (Ext.refl ..) sim (hg ρ H i j)⟩
 ·cases h
theorem Op3.or {K:QFg}{f:D->D->Sto->Option (D×Sto)}{g:D->D->Sto->Option (D×Sto)}{r r':R2}(h:Op3 K f r) (h':Op3 K g r'):Op3 K (λx y S=>match f x y S with|some v=>some v|none=>g x y S) (λx y H Q=>r x y H Q\/r' x y H Q):=by
 intro ρ S H x y x' y' v S' Q sim rx ry hm p;dsimp only at hm;cases e:f x y S with
 |some w=>rw [e] at hm;cases hm;exact .inl (h ρ S H x y x' y' _ _ Q sim rx ry e p)
 |none=>rw [e] at hm;exact .inr (h' ρ S H x y x' y' _ _ Q sim rx ry hm p)
noncomputable abbrev zkn:=oI0 λi j=>.int (i-j)
noncomputable abbrev zik:=oI (λi j=>decide (0<j/\j<1073741824)) λi j=>.int (i/j)
noncomputable abbrev zcv:=oI (λi j=>decide (0<j)) λi j=>.int (i%j)
noncomputable abbrev zko:=oI (λi j=>decide (0<=j/\j<=1000000/\i.natAbs<2^64)) λi j=>.int (i^j.toNat)
noncomputable abbrev dLt:=oI0 λi j=>.bl (decide (i<j))
noncomputable abbrev dGt:=oI0 λi j=>.bl (decide (j<i))
noncomputable abbrev dGe:=oI0 λi j=>.bl (decide (j<=i))
section
theorem zy6 (ha:PE3 X a ma) (hb:PE3 X b mb):PE3 X (.BinOp a .Sub b pos) (eOp zkn ma mb):=zdo zwf (zgl λ_ _ _ _=>.int _) ha hb
theorem zy7 (ha:PE3 X a ma) (hb:PE3 X b mb):PE3 X (.BinOp a .FloorDiv b pos) (eOp zik ma mb):=zdo zwg (zgk (λi j h=>by first|(unfold CMul;exact of_decide_eq_true h)|(unfold zia;exact of_decide_eq_true h)|(unfold zfc;exact of_decide_eq_true h)|exact of_decide_eq_true h) λ_ _ _ _=>.int _) ha hb
theorem zy8 (ha:PE3 X a ma) (hb:PE3 X b mb):PE3 X (.BinOp a .Mod b pos) (eOp zcv ma mb):=zdo zwh (zgk (λi j h=>by first|(unfold CMul;exact of_decide_eq_true h)|(unfold zia;exact of_decide_eq_true h)|(unfold zfc;exact of_decide_eq_true h)|exact of_decide_eq_true h) λ_ _ _ _=>.int _) ha hb
theorem zy9 (ha:PE3 X a ma) (hb:PE3 X b mb):PE3 X (.BinOp a .Pow b pos) (eOp zko ma mb):=zdo zwi (zgk (λi j h=>by first|(unfold CMul;exact of_decide_eq_true h)|(unfold zia;exact of_decide_eq_true h)|(unfold zfc;exact of_decide_eq_true h)|exact of_decide_eq_true h) λ_ _ _ _=>.int _) ha hb
theorem zza (ha:PE3 X a ma) (hb:PE3 X b mb):PT3 X (.Compare a [.Lt] [b] pos) (tE (eOp dLt ma mb)):=zdp zwm (zgl λ_ _ _ _=>.bl _) ha hb (zc7 b)
theorem zzb (ha:PE3 X a ma) (hb:PE3 X b mb):PT3 X (.Compare a [.Gt] [b] pos) (tE (eOp dGt ma mb)):=zdp zwn (zgl λ_ _ _ _=>.bl _) ha hb (zc7 b)
theorem zzc (ha:PE3 X a ma) (hb:PE3 X b mb):PT3 X (.Compare a [.GtE] [b] pos) (tE (eOp dGe ma mb)):=zdp zwo (zgl λ_ _ _ _=>.bl _) ha hb (zc7 b)
end
noncomputable def sEq:D->D->Option Bool
 | .non,.non=>some true | .non,.int _=>some false | .int _,.non=>some false | .non,.bl _=>some false | .bl _,.non=>some false | .non,.str _=>some false | .str _,.non=>some false
 | .int i,.int j=>some (decide (i=j)) | .bl i,.bl j=>some (decide (i=j)) | .str i,.str j=>some (decide (i=j))
 | .int _,.str _=>some false | .str _,.int _=>some false | .bl _,.str _=>some false | .str _,.bl _=>some false
 |_,_=>none
noncomputable def dEq:D->D->Sto->Option (D×Sto):=λx y S=>(sEq x y).bind λb=>some (.bl b,S)
noncomputable def dNe:D->D->Sto->Option (D×Sto):=λx y S=>(sEq x y).bind λb=>some (.bl (!b),S)
theorem zot (rx:RD ρ H x x') (ry:RD ρ H y y') (h:sEq x y=some b):zkc x' y'=true/\decide (x'=y')=b:=by
 cases rx<;>cases ry<;>first
  |(cases (show (none:Option Bool)=some b from h))
  |(have h:=qoi h;subst h;exact ⟨rfl,rfl⟩)
  |(have h:=qoi h;subst h;exact ⟨rfl,by simp⟩)
theorem zou {K:QFg}:Op3 K dEq rEq:=by intro ρ S H x y x' y' v S' Q sim rx ry h p;obtain ⟨b,h1,h⟩:=bnd h;cases h;obtain ⟨h2,h3⟩:=zot rx ry h1;exact ⟨h2,by rw [h3];exact p ρ H _ (Ext.refl ..) sim (.bl b)⟩
theorem zov {K:QFg}:Op3 K dNe rNe:=by intro ρ S H x y x' y' v S' Q sim rx ry h p;obtain ⟨b,h1,h⟩:=bnd h;cases h;obtain ⟨h2,h3⟩:=zot rx ry h1;exact ⟨h2,by rw [h3];exact p ρ H _ (Ext.refl ..) sim (.bl _)⟩
noncomputable def zgm:D->Bool
 | .non=>true
 |_=>false
noncomputable def zfh:D->D->Sto->Option (D×Sto)
 |x,.non,S=>some (.bl (!zgm x),S)
 |_,_,_=>none
theorem zzd (r:RD ρ H x x'):decide (x'=.non)=zgm x:=by cases r<;>simp [zgm]
theorem zze {K:QFg}:Op3 K zfh (λx y H Q=>y=.non/\Q (.bl (!decide (x=.non))) H):=by
 intro ρ S H x y x' y' v S' Q sim rx ry h p;unfold zfh at h;split at h
 ·cases h;cases ry;exact ⟨rfl,by rw [zzd rx];exact p ρ H _ (Ext.refl ..) sim (.bl _)⟩
 ·cases h
section
theorem zzf (ha:PE3 X a ma) (hb:PE3 X b mb):PE3 X (.Compare a [.Eq] [b] pos) (eOp dEq ma mb):=zkm zno zou ha hb (zc7 b)
theorem zzg (ha:PE3 X a ma) (hb:PE3 X b mb):PE3 X (.Compare a [.NotEq] [b] pos) (eOp dNe ma mb):=zkm znp zov ha hb (zc7 b)
theorem zzh (ha:PE3 X a ma) (hb:PE3 X b mb):PE3 X (.Compare a [.IsNot] [b] pos) (eOp zfh ma mb):=zkm zwp zze ha hb (zc7 b)
theorem zzi (ha:PE3 X a ma) (hb:PE3 X b mb):PT3 X (.Compare a [.Eq] [b] pos) (tE (eOp dEq ma mb)):=zdp zno zou ha hb (zc7 b)
theorem zzj (ha:PE3 X a ma) (hb:PE3 X b mb):PT3 X (.Compare a [.NotEq] [b] pos) (tE (eOp dNe ma mb)):=zdp znp zov ha hb (zc7 b)
end
noncomputable def dIx:D->D->Sto->Option (D×Sto)
 | .tup xs,.int i,S=>(atI xs i).bind λv=>some (v,S)
 | .ref n,.int i,S=>(lstOf S n).bind λxs=>(atI xs i).bind λv=>some (v,S)
 |_,_,_=>none
theorem zow (r:RDs ρ H xs vs) (h:atI xs i=some x):∃v,atI vs i=some v/\RD ρ H x v:=by
 unfold atI at h ⊢;rw [<-r.length];cases e:ixN xs.length i with
 |none=>rw [e] at h;cases h
 |some j=>rw [e] at h;exact r.get (i:=j) h
theorem zzk {K:QFg}:Op3 K dIx (rIx K):=by
 intro ρ S H x y x' y' v S' Q sim rx ry h p;unfold dIx at h;split at h
 ·cases ry;obtain ⟨w,h1,h⟩:=bnd h;cases h;cases rx with
  |tup ha r=>obtain ⟨u,h2,r2⟩:=zow r h1;exact .inr (.inl ⟨_,_,_,u,rfl,rfl,SqT.of ha,h2,p ρ H u (Ext.refl ..) sim r2⟩)
 ·cases ry;obtain ⟨xs,h0,h⟩:=bnd h;obtain ⟨w,h1,h⟩:=bnd h;cases h;cases rx with
  |ref hn=>obtain ⟨a,vs,ha,sq,r⟩:=sim.lstOf h0;rw [ha] at hn;cases hn;obtain ⟨u,h2,r2⟩:=zow r h1;exact .inl ⟨_,_,_,u,rfl,rfl,sq,h2,p ρ H u (Ext.refl ..) sim r2⟩
 ·cases h
section
end
abbrev OM:=Lo->Sto->Option (Option Int×Sto)
noncomputable def zdr:OM:=λ_ S=>some (none,S)
noncomputable def zdd (m:EM):OM:=λl S=>(m l S).bind λp=>match p.1 with
 | .int i=>some (some i,p.2)
 |_=>none
noncomputable def zbj (xs:List D) (lo hi:Option Int):List D:=(xs.drop (HT.sIx xs.length 0 lo)).take (HT.sIx xs.length xs.length hi-HT.sIx xs.length 0 lo)
inductive tO (K:QFg) (m:OM) (σ:St) (H:Hp) (Q:Option Int->Hp->Prop):Prop
 |mk (ρ:_) (l:_) (S:_) (v:_) (S':_) (_:Sim K ρ S H) (_:RO ρ H l σ) (_:m l S=some (v,S')) (_:∀ρ' H',Ext ρ H ρ' H'->Sim K ρ' S' H'->Q v H')
def PO3 (X:Cx) (e:Option Expr) (m:OM):Prop:=PO X e (tO X.K m)
section
variable {X:Cx}{a b:Expr}{ma mb:EM}{pos p2:Pos}{lo hi:Option Expr}{ml mh:OM}
theorem PO.imp (h:PO X e t) (i:∀σ H Q,u σ H Q->t σ H Q):PO X e u:=λpins s σ H Q I q=>h pins s σ H Q I (i _ _ _ q)
theorem zzl:PO3 X none zdr:=PO.imp zxh λσ H Q hx1_=>by obtain ⟨ρ,l,S,v,S',sim,ro,hm,p⟩:=hx1_;cases hm;exact p ρ H (Ext.refl ..) sim
theorem zzm (h:PE3 X a ma):PO3 X (some a) (zdd ma):=PO.imp (zxi h) λσ H Q hx2_=>by
 obtain ⟨ρ,l,S,v,S',sim,ro,hm,p⟩:=hx2_;obtain ⟨⟨x,S1⟩,h1,hm⟩:=bnd hm;refine ⟨ρ,l,S,x,S1,sim,ro,h1,λρ1 H1 x' e1 s1 r1=>?_⟩;cases r1 with
 |int i=>cases hm;exact ⟨i,rfl,p ρ1 H1 e1 s1⟩
 |_=>cases hm
end
end L3
namespace HT
open PySem PyProof.Rows
section
theorem getItem_tuple_whole {items:Array Value}{lo hi:Option Int}{Q:Value->Shared->Prop}(ht:IsTup s.heap t items) (hs:s.heap.IsSliceOf sl vl vu .none) (pl:IsPart vl lo) (pu:IsPart vu hi)
  (hw:sIx items.size 0 lo=0/\sIx items.size items.size hi=items.size)
  (h:Q (.ref t) s):wpAny '&' A (getItem (.ref t) (.ref sl)) Q E s:=by
 obtain ⟨os,hos,hcs,hds⟩:=id hs;have hTs:s.TypeIs (.ref sl) "slice":=⟨os,hos,hcs⟩;unfold getItem
 try with_reducible refine wpAny_holding ?_
 first|refine qwb (qwp ?_)|skip
 refine qwb (wpAny_sequenceKey ht.typeIs '$' ?_);refine qwb (wpAny_callSpecial?_slot (name:=Str.ofString "__getitem__") ht.typeIs PyProof.Rows.slot_tuple_getitem
  (wpAny_call_entry PyProof.Rows.slot_tuple_getitem ht.typeIs entry_tuple_getitem ?_ (args_tuple_getitem _ _)))
 show wpAny _ _ (Builtin.Tuple.tupleItemsOf (.ref t)>>=_) _ _ s;refine qwb (tupleItemsOf_ ht ?_);refine qwb (wpAny_typeOf hTs ?_);rw [if_pos '$'];refine qwb (zn2 hs pl pu ?_);have hyes:((((sIx items.size 0 lo:Nat):Int)==0&&(1:Int)==1&&(sIx items.size items.size hi-sIx items.size 0 lo)==items.size)=true):=by rw [hw.1,hw.2];simp
 show wpAny _ _ (if (((sIx items.size 0 lo:Nat):Int)==0&&(1:Int)==1&&(sIx items.size items.size hi-sIx items.size 0 lo)==items.size)=true then _ else _) _ _ s;rw [if_pos hyes];unfold Builtin.Tuple.tupleIsExact;refine qwb (qwb (wpAny_typeOf ht.typeIs (qwp ?_)));rw [if_pos '$'];exact qwb (wpAny_rule (qwb (qwp (qwp ⟨_,rfl,qwp h⟩))))
end
end HT
namespace L3
open PySem PySem.Spec PyProof.Rows L2
section
variable {lo hi:Option Expr}{ml mh:OM}
def zzn (K:QFg):V->Option Int->Option Int->Hp->VK->Prop:=λx lo hi H Q=>∃a xs,x=.ref a/\SqT K H a xs /\
 (HT.sIx xs.length 0 lo=0/\HT.sIx xs.length xs.length hi=xs.length)/\Q (.ref a) H
theorem zzo:SlR X (zzn X.K):=by
 intro pins s σ H x v vl vu lo hi sl Q I rx hs pl pu h;obtain ⟨a,xs,rfl,hx,hw,q⟩:=h;cases rx;obtain ⟨its,r,ht,hz⟩:=I.tuple hx;have hlen:its.toArray.size=xs.length:=by rw [List.size_toArray];exact r.length.symm
 refine ⟨"tuple",_,PyProof.Rows.slot_tuple_getitem.lookup,ht.typeIs,?_⟩;exact HT.getItem_tuple_whole ht hs pl pu (by rw [hlen];exact hw) ⟨.ref a,H,I,rfl,q⟩
theorem zzp (xs:List D) (lo hi:Option Int) (h:HT.sIx xs.length 0 lo=0/\HT.sIx xs.length xs.length hi=xs.length):zbj xs lo hi=xs:=by unfold zbj;rw [h.1,h.2];simp
end
noncomputable def zkp:D->D->Sto->Option (D×Sto)
 | .tup xs,.tup ys,S=>if xs.length+ys.length<=sizeLine then some (.tup (xs++ys),S) else none
 |_,_,_=>none
def zkq (K:QFg):R2:=λx y H Q=>∃a b ys,x=.ref a/\y=.ref b/\SqT K H a []/\SqT K H b ys/\Q (.ref b) H
theorem zzq:OpR X (binaryOp .Add) (zkq X.K):=by
 intro pins s σ H x y v u Q I rx ry h;obtain ⟨a,b,ys,rfl,rfl,ha,hb,q⟩:=h;cases rx;cases ry;obtain ⟨its,r1,p1,_⟩:=I.tuple ha;obtain ⟨its2,r2,p2,_⟩:=I.tuple hb;cases r1;obtain ⟨⟨cls,dd,data,sl⟩,ho,hc,n,hd⟩:=id p1;obtain ⟨⟨cls2,dd2,data2,sl2⟩,ho2,hc2,n2,hd2⟩:=id p2;simp only at hc hd hc2 hd2;subst hc hd hc2 hd2;exact concat_meets ⟨_,ho,rfl⟩ ⟨_,ho2,rfl⟩ noFill_tuple_add seq_tuple_add PySem.F.slot_tuple_add PySem.F.entry_tuple_add (PySem.F.args_tuple_add_2 _ _)
   (tuple_addW0 a b ([]:List Value).toArray its2.toArray n n2 dd dd2 sl sl2 '*') ⟨ho,ho2,⟨.ref b,H,I,rfl,q⟩⟩
theorem zzr {K:QFg}:Op3 K zkp (λx y H Q=>zkf K x y H Q\/zkq K x y H Q):=by
 intro ρ S H x y x' y' v S' Q sim rx ry h p;unfold zkp at h;split at h
 ·obtain ⟨hz,e⟩:=zbb h;cases e;cases rx with
  | @tup xs a vs ha r =>
   cases ry with
   | @tup ys b ws hb q =>
    cases r with
    |nil=>exact .inr ⟨a,b,ws,rfl,rfl,SqT.of ha,SqT.of hb,p ρ H _ (Ext.refl ..) sim (.tup hb q)⟩
    |cons r1 r2=>
     refine .inl ⟨a,b,_,ws,rfl,rfl,SqT.of ha,SqT.of hb,by simp,by rw [<-(RDs.cons r1 r2).length,<-q.length];exact hz,λe=>?_,λ_=>?_⟩
     ·subst e;cases q;rw [List.append_nil] at p;exact p ρ H _ (Ext.refl ..) sim (.tup ha (.cons r1 r2))
     ·exact zgi sim ((RDs.cons r1 r2).append q) p
 ·cases h
section
end
noncomputable def zgn:FM
 |[.tup xs],S=>some (.int xs.length,S)
 |[.ref n],S=>(lstOf S n).bind λxs=>some (.int xs.length,S)
 |_,_=>none
noncomputable def zer:FM
 |[.int i],S=>some (.int (if i<0 then -i else i),S)
 |_,_=>none
noncomputable def zes:FM
 |[.tup xs],S=>some (.tup xs,S)
 |[.ref n],S=>(lstOf S n).bind λxs=>some (.tup xs,S)
 |_,_=>none
noncomputable def zgo:FM
 |[.int i,.int j],S=>some (.int (if j<i then j else i),S)
 |_,_=>none
noncomputable def zgp:FM
 |[.int i,.int j],S=>some (.int (if j>i then j else i),S)
 |_,_=>none
section
variable {K:QFg}
theorem zzs:Fn3 K zgn (λxs H Q=>∃p ys,xs=[.ref p]/\(SqL K H p ys\/SqT K H p ys)/\Q (.int ys.length) H):=by
 intro ρ S H xs vs v S' Q sim r h p;unfold zgn at h;split at h
 ·cases h;obtain ⟨w,rfl,rw'⟩:=r.one;cases rw' with
  |tup ha r2=>exact ⟨_,_,rfl,.inr (SqT.of ha),by rw [<-r2.length];exact p ρ H _ (Ext.refl ..) sim (.int _)⟩
 ·obtain ⟨ys,h1,h⟩:=bnd h;cases h;obtain ⟨w,rfl,rw'⟩:=r.one;obtain ⟨a,us,ha,sq,r2⟩:=sim.lstOf h1;cases rw' with
  |ref hn=>rw [ha] at hn;cases hn;exact ⟨_,_,rfl,.inl sq,by rw [<-r2.length];exact p ρ H _ (Ext.refl ..) sim (.int _)⟩
 ·cases h
theorem zzt:Fn3 K zer (λxs H Q=>∃i,xs=[.int i]/\Q (.int (if i<0 then -i else i)) H):=by
 intro ρ S H xs vs v S' Q sim r h p;unfold zer at h;split at h
 ·cases h;obtain ⟨w,rfl,rw'⟩:=r.one;cases rw';exact ⟨_,rfl,p ρ H _ (Ext.refl ..) sim (.int _)⟩
 ·cases h
theorem zzu:Fn3 K zgo (λxs H Q=>∃i j,xs=[.int i,.int j]/\Q (.int (if j<i then j else i)) H):=by
 intro ρ S H xs vs v S' Q sim r h p;unfold zgo at h;split at h
 ·cases h;obtain ⟨w,u,rfl,rw',ru⟩:=r.two;cases rw';cases ru;exact ⟨_,_,rfl,p ρ H _ (Ext.refl ..) sim (.int _)⟩
 ·cases h
theorem zzv:Fn3 K zgp (λxs H Q=>∃i j,xs=[.int i,.int j]/\Q (.int (if j>i then j else i)) H):=by
 intro ρ S H xs vs v S' Q sim r h p;unfold zgp at h;split at h
 ·cases h;obtain ⟨w,u,rfl,rw',ru⟩:=r.two;cases rw';cases ru;exact ⟨_,_,rfl,p ρ H _ (Ext.refl ..) sim (.int _)⟩
 ·cases h
theorem zzw:Fn3 K zes (λxs H Q=>∃p ys,xs=[.ref p]/\((SqL K H p ys/\∀l,H l=none->Q (.ref l) (upd H l (.tup ys)))\/(SqT K H p ys/\Q (.ref p) H))):=by
 intro ρ S H xs vs v S' Q sim r h p;unfold zes at h;split at h
 ·cases h;obtain ⟨w,rfl,rw'⟩:=r.one;cases rw' with
  |tup ha r2=>exact ⟨_,_,rfl,.inr ⟨SqT.of ha,p ρ H _ (Ext.refl ..) sim (.tup ha r2)⟩⟩
 ·obtain ⟨ys,h1,h⟩:=bnd h;cases h;obtain ⟨w,rfl,rw'⟩:=r.one;obtain ⟨a,us,ha,sq,r2⟩:=sim.lstOf h1;cases rw' with
  |ref hn=>rw [ha] at hn;cases hn;exact ⟨_,_,rfl,.inl ⟨sq,zgi sim r2 p⟩⟩
 ·cases h
end
noncomputable def tyD (S:Sto):D->Option String
 | .non=>some "NoneType" | .bl _=>some "bool" | .int _=>some "int" | .str _=>some "str" | .tup _=>some "tuple"
 | .ref n=>match S[n]? with
  |some (.lst _)=>some "list"
  |some (.dct _)=>some "dict"
  |_=>none
 | .fn _=>none
noncomputable def isI (T U:String):Bool:=T==U||(T == "bool" && U == "int")
noncomputable def zde (U:String):D->Sto->Option (D×Sto):=λx S=>(tyD S x).bind λT=>some (.bl (isI T U),S)
noncomputable def zb6:D->List D->Sto->Option (D×Sto)
 | .ref n,[x],S=>match S[n]? with
  |some (.lst xs)=>if xs.length<sizeLine then some (.non,S.set n (.lst (xs++[x]))) else none
  |_=>none
 |_,_,_=>none
noncomputable def zfi:D->List D->Sto->Option (D×Sto)
 | .ref n,[],S=>match S[n]? with
  |some (.lst xs)=>some (.non,S.set n (.lst xs.reverse))
  |_=>none
 |_,_,_=>none
noncomputable def zet:D->List D->Sto->Option (D×Sto)
 | .ref n,[],S=>match S[n]? with
  |some (.lst xs)=>(xs[xs.length-1]?).bind λy=>some (y,S.set n (.lst xs.dropLast))
  |_=>none
 |_,_,_=>none
theorem RDs.dropLast (h:RDs ρ H xs vs):RDs ρ H xs.dropLast vs.dropLast:=by rw [List.dropLast_eq_take,List.dropLast_eq_take,h.length];exact h.take _
section
variable {K:QFg}
theorem zzx:Mt3 K zb6 zob:=by
 intro ρ S H x x' xs vs v S' Q sim rx r h p;unfold zb6 at h;split at h
 ·split at h
  ·rename_i n y S ys e;obtain ⟨hz,e2⟩:=zbb h;cases e2;obtain ⟨w,rfl,rw'⟩:=r.one;obtain ⟨a,us,ha,hH,r2⟩:=sim.lst e;cases rx with
   |ref hn=>rw [ha] at hn;cases hn;exact ⟨a,us,w,rfl,rfl,hH,by rw [<-r2.length];exact hz,p ρ _ _ (zfg ha hH) (sim.set ha e hH (r2.append (.cons rw' .nil))) .non⟩
  ·cases h
 ·cases h
theorem zzy:Mt3 K zfi zod:=by
 intro ρ S H x x' xs vs v S' Q sim rx r h p;unfold zfi at h;split at h
 ·split at h
  ·rename_i n S ys e;cases h;cases r;obtain ⟨a,us,ha,hH,r2⟩:=sim.lst e;cases rx with
   |ref hn=>rw [ha] at hn;cases hn;exact ⟨a,us,rfl,rfl,hH,p ρ _ _ (zfg ha hH) (sim.set ha e hH r2.reverse) .non⟩
  ·cases h
 ·cases h
theorem zzz:Mt3 K zet zoc:=by
 intro ρ S H x x' xs vs v S' Q sim rx r h p;unfold zet at h;split at h
 ·split at h
  ·rename_i n S ys e;obtain ⟨y,h1,h⟩:=bnd h;cases h;cases r;obtain ⟨a,us,ha,hH,r2⟩:=sim.lst e;obtain ⟨w,hw,rw'⟩:=r2.get h1;cases rx with
   |ref hn=>rw [ha] at hn;cases hn;exact ⟨a,us,w,rfl,rfl,hH,by rw [<-r2.length];exact hw,p ρ _ _ (zfg ha hH) (sim.set ha e hH r2.dropLast) (rw'.mono (zfg ha hH))⟩
  ·cases h
 ·cases h
end
noncomputable def zfj:D->Sto->Option (List D)
 | .ref n,S=>lstOf S n
 |_,_=>none
noncomputable def zbu (f:D->List D->Sto->Option (D×Sto)) (o:EM) (as:AM):EM:=λl S=>(o l S).bind λp=>(zfj p.1 p.2).bind λ_=>(as l p.2).bind λq=>f p.1 q.1 q.2
section
variable {id:String}{f:D->List D->Sto->Option (D×Sto)}{r:V->List V->Hp->VK->Prop}
theorem zox {K:QFg}{ρ:List Addr}{S:Sto}{H:Hp}{x:D}{x':V}{xs:List D}(sim:Sim K ρ S H) (rx:RD ρ H x x') (h:zfj x S=some xs):tyV K "list" x' H:=by
 unfold zfj at h;split at h
 ·obtain ⟨a,us,ha,sq,r2⟩:=sim.lstOf h;cases rx with
  |ref hn=>rw [ha] at hn;cases hn;exact .inl ⟨rfl,us,sq⟩
 ·cases h
theorem zz0 (slot:Slot "list" name id) (hty:typeOf (.builtin id)=pure (.type "method_descriptor")) (hm:MtM X id r) (h3:Mt3 X.K f r) (ho:PE3 X o mo) (ha:PA3 X (e::es) mA)
  (hbase:attributeBase o name X.env (eval o X.env)=eval o X.env:=by rfl)
  (hfew:((backTo cpos (starEach (e :: es) X.env)).all (λx=>!x.1) && (backToKw cpos (keywordEach [] X.env)).all (λx=>x.1.isSome)
   && decide ((e::es).length+([]:List Keyword).length+(if ([]:List Keyword).isEmpty then 0 else 1)<30))=true:=by rfl)
  (hline:(apos.endLine==cpos.line)=true:=by rfl) (hs:starEach (e::es) X.env=(false,eval e X.env)::starEach es X.env:=by rfl) (hplain:(backTo cpos (starEach es X.env)).any (·.1)=false:=by rfl) :
  PE3 X (.Call (.Attribute o name apos) (e::es) [] cpos) (zbu f mo mA) :=
 PE.imp (zx0 PySem.F.plainAttrs_list slot hty hm ho ha hbase hfew hline hs hplain) λσ H Q hx1_=>by obtain ⟨ρ,l,S,v,S',sim,ro,hq,p⟩:=hx1_;obtain ⟨⟨x,S1⟩,h1,hq⟩:=bnd hq;obtain ⟨xs,h2,hq⟩:=bnd hq;obtain ⟨⟨ys,S2⟩,h4,hq⟩:=bnd hq;exact ⟨ρ,l,S,x,S1,sim,ro,h1,λρ1 H1 x' e1 s1 r1=>⟨zox s1 r1 h2,ρ1,l,S1,ys,S2,s1,ro.mono e1,h4,λρ2 H2 vs e2 s2 r2=>h3 ρ2 S2 H2 x x' ys vs v S' Q s2 (r1.mono e2) r2 hq (p.ext (e1.trans e2))⟩⟩
theorem zoy (slot:Slot "list" name id) (hty:typeOf (.builtin id)=pure (.type "method_descriptor")) (hm:MtM X id r) (h3:Mt3 X.K f r) (ho:PE3 X o mo)
  (hbase:attributeBase o name X.env (eval o X.env)=eval o X.env:=by rfl) (hline:(apos.endLine==cpos.line)=true:=by rfl) :
  PE3 X (.Call (.Attribute o name apos) [] [] cpos) (zbu f mo zac) :=
 PE.imp (zxz PySem.F.plainAttrs_list slot hty hm ho hbase hline) λσ H Q hx2_=>by obtain ⟨ρ,l,S,v,S',sim,ro,hq,p⟩:=hx2_;obtain ⟨⟨x,S1⟩,h1,hq⟩:=bnd hq;obtain ⟨xs,h2,hq⟩:=bnd hq;obtain ⟨⟨ys,S2⟩,h4,hq⟩:=bnd hq;cases h4;exact ⟨ρ,l,S,x,S1,sim,ro,h1,λρ1 H1 x' e1 s1 r1=>⟨zox s1 r1 h2,h3 ρ1 S1 H1 x x' [] [] v S' Q s1 r1 .nil hq (p.ext e1)⟩⟩
theorem zz1 (ho:PE3 X o mo) (he:PE3 X e m)
  (hbase:attributeBase o "append" X.env (eval o X.env)=eval o X.env:=by rfl)
  (hfew:((backTo cpos (starEach [e] X.env)).all (λx=>!x.1) && (backToKw cpos (keywordEach [] X.env)).all (λx=>x.1.isSome)
   && decide ([e].length+([]:List Keyword).length+(if ([]:List Keyword).isEmpty then 0 else 1)<30))=true:=by rfl)
  (hline:(apos.endLine==cpos.line)=true:=by rfl) (hs:starEach [e] X.env=(false,eval e X.env)::starEach [] X.env:=by rfl) :
  PE3 X (.Call (.Attribute o "append" apos) [e] [] cpos) (zbu zb6 mo (zab m zac)) :=
 zz0 PySem.F.slot_list_append PySem.F.type_list_append zkj zzx ho (zor he zoq hs) hbase hfew hline hs
theorem zz2 (ho:PE3 X o mo) (hbase:attributeBase o "reverse" X.env (eval o X.env)=eval o X.env:=by rfl) (hline:(apos.endLine==cpos.line)=true:=by rfl) :
  PE3 X (.Call (.Attribute o "reverse" apos) [] [] cpos) (zbu zfi mo zac):=zoy PySem.F.slot_list_reverse PySem.F.type_list_reverse zx4 zzy ho hbase hline
theorem zz3 (ho:PE3 X o mo) (hbase:attributeBase o "pop" X.env (eval o X.env)=eval o X.env:=by rfl) (hline:(apos.endLine==cpos.line)=true:=by rfl) :
  PE3 X (.Call (.Attribute o "pop" apos) [] [] cpos) (zbu zet mo zac):=zoy PySem.F.slot_list_pop PySem.F.type_list_pop zx3 zzz ho hbase hline
end
section
theorem zz4 {K:QFg}{T U:String}(hT:T∈["NoneType","bool","int","str","tuple","list","dict"]) (hU:U∈["bool","int","str","tuple","list"]):PySem.W.kitOne K (.type T) (.type U)=some (isI T U):=by simp only [List.mem_cons,List.not_mem_nil,or_false] at hT hU;rcases hT with rfl|rfl|rfl|rfl|rfl|rfl|rfl<;>rcases hU with rfl|rfl|rfl|rfl|rfl<;>rfl
theorem zil (hg:Gl X "isinstance") (hm:X.mg "isinstance" = none) (hgy:Gl X y) (hmy:X.mg y=none) (hv:bootBuiltins y=some (.type U)) (hU:U∈["bool","int","str","tuple","list"]) (ha:PE3 X a ma)
  (hn:y≠"__name__":=by decide) (hdb:(y==("__debug__":Str))=false:=by decide)
  (he:starEach (a::[.Name y p2]) X.env=(false,eval a X.env)::starEach [.Name y p2] X.env:=by rfl) (he2:starEach [.Name y p2] X.env=(false,eval (.Name y p2) X.env)::starEach [] X.env:=by rfl) (hpl:(backTo pos (starEach [.Name y p2] X.env)).any (·.1)=false:=by rfl) :
  PE3 X (.Call (.Name "isinstance" p) [a,.Name y p2] [] pos) (eUn (zde U) ma):=by
 have hy:PE X (.Name y p2) (tC (.ty U)):=znc hgy hmy hv rfl hn hdb;refine PE.imp (zge (id:="isinstance") (r:=λxs H Q=>∃x T,xs=[x,.ty U]/\TyOf X.K H x (.type T)/\T∈["NoneType","bool","int","str","tuple","list","dict"]/\Q (.bl (isI T U)) H) ?_ hg hm (by decide +kernel) (zct ha (zct hy zd5 he2) he) '$' '$' he hpl) ?_
 ·intro pins s σ H xs us Q I r h;obtain ⟨x,T,rfl,ty,hT,q⟩:=h;obtain ⟨u1,u2,rfl,r1,r2⟩:=r.two;cases r2;exact zw1 I r1 ty (zz4 hT hU) λtk=>⟨.bl _,H,I.tok tk,rfl,q⟩
 ·rintro σ H Q ⟨ρ,l,S,v,S',sim,ro,hq,p⟩;obtain ⟨⟨x,S1⟩,h1,hq⟩:=bnd hq;obtain ⟨T,h2,hq⟩:=bnd hq;cases hq;refine ⟨ρ,l,S,x,_,sim,ro,h1,λρ1 H1 x' e1 s1 r1=>⟨x',T,rfl,?_⟩⟩;have fin:=p ρ1 H1 _ e1 s1 (.bl (isI T U));cases r1 with
  |non=>cases h2;exact ⟨.non,by decide,fin⟩
  |bl b=>cases h2;exact ⟨.bl b,by decide,fin⟩
  |int b=>cases h2;exact ⟨.int b,by decide,fin⟩
  |str b=>cases h2;exact ⟨.str b,by decide,fin⟩
  |tup hh rr=>cases h2;exact ⟨.tup hh,by decide,fin⟩
  | @ref n b hn=>
   unfold tyD at h2;dsimp only at h2;split at h2
   ·rename_i ys ey;cases h2;obtain ⟨a',us,ha',hH,r2⟩:=s1.lst ey;rw [ha'] at hn;cases hn;exact ⟨.lst hH,by decide,fin⟩
   ·rename_i kvs ey;cases h2;obtain ⟨us,hH,r2⟩:=s1.at' n b _ hn ey;exact ⟨.dK hH,by decide,fin⟩
   ·cases h2
  |fn b=>cases h2
end
def sp3 (K:QFg) (n:Nat) (f:FM):Sp:=λvs H Q _=>vs.length=n/\∃ρ ds S v S',Sim K ρ S H/\RDs ρ H ds vs/\f ds S=some (v,S')/\Pv K ρ H v S' Q
section
theorem zz5 (F:FnOk X.prog X.w X.K X.mg X.base CX0 k f fd ps (sp3 X.K n m)) (hr:Room k X.A) (hg:Gl X x) (hm:X.mg x=some (.ref f)) (hk:PySem.W.keepIn X.K (.ref f)=true) (hb:Binds X.K fd ps [])
  (ha:PA3 X (a::es) mA) (hl:∀l S v S',mA l S=some (v,S')->v.length=n) (hdb:(x==("__debug__":Str))=false:=by decide) (he:starEach (a::es) X.env=(false,eval a X.env)::starEach es X.env:=by rfl) (hpl:(backTo pos (starEach es X.env)).any (·.1)=false:=by rfl) :
  PE3 X (.Call (.Name x p) (a::es) [] pos) (zad m mA) :=
 PE.imp (zw9 F hr hg hm hk hb .nil zya ha hdb he hpl) λσ H Q hx3_=>by obtain ⟨ρ,l,S,v,S',sim,ro,hq,p⟩:=hx3_;obtain ⟨⟨xs,S1⟩,h1,hq⟩:=bnd hq;exact ⟨ρ,l,S,xs,S1,sim,ro,h1,λρ1 H1 vs e1 s1 r1=>⟨by rw [List.append_nil,<-r1.length];exact hl _ _ _ _ h1,ρ1,xs,S1,v,S',s1,by rw [List.append_nil];exact r1,hq,p.ext e1⟩⟩
theorem zz6:∀l S v S',zac l S=some (v,S')->v.length=0:=λl S v S' h=>by cases h;rfl
theorem zz7 {n:Nat}{m:EM}{mA:AM}(h:∀l S v S',mA l S=some (v,S')->v.length=n):∀l S v S',zab m mA l S=some (v,S')->v.length=n+1:=λl S v S' q=>by obtain ⟨⟨x,S1⟩,h1,q⟩:=bnd q;obtain ⟨⟨y,S2⟩,h2,q⟩:=bnd q;cases q;rw [List.length_cons,h _ _ _ _ h2]
end
noncomputable def zbh:SM:=λl S=>some (.nx,l,S)
noncomputable def zaf (a b:SM):SM:=λl S=>(a l S).bind λp=>match p.1 with
 | .nx=>b p.2.1 p.2.2
 |f=>some (f,p.2)
noncomputable def zch (e:EM):SM:=λl S=>(e l S).bind λp=>some (.nx,l,p.2)
noncomputable def zaw (e:EM):SM:=λl S=>(e l S).bind λp=>some (.rt p.1,l,p.2)
noncomputable def sIf (c:TM) (a b:SM):SM:=λl S=>(c l S).bind λp=>if p.1=true then a l p.2 else b l p.2
noncomputable def zai (e:EM) (g:GM):SM:=λl S=>(e l S).bind λp=>(g p.1 l p.2).bind λq=>some (.nx,q)
noncomputable def zae (i:Nat):GM:=λd l S=>some (l.set i (some d),S)
noncomputable def zd8:GsM
 |[],l,S=>some (l,S)
 |_,_,_=>none
noncomputable def zci (g:GM) (r:GsM):GsM
 |x::xs,l,S=>(g x l S).bind λp=>r xs p.1 p.2
 |_,_,_=>none
noncomputable def zd9 (n:Nat) (g:GsM):GM
 | .tup xs,l,S=>if xs.length=n then g xs l S else none
 |_,_,_=>none
noncomputable def zcl:D->D->D->Sto->Option Sto
 | .ref n,.int i,v,S=>match S[n]? with
  |some (.lst xs)=>(ixN xs.length i).bind λj=>some (S.set n (.lst (xs.set j v)))
  |_=>none
 |_,_,_,_=>none
noncomputable def zcw (o i:EM):GM:=λv l S=>(o l S).bind λp=>(i l p.2).bind λq=>(zcl p.1 q.1 v q.2).bind λS'=>some (l,S')
section
variable {st:Stmt}{rest:List Stmt}
theorem zz8:PSs3 X [] zbh:=PSs.imp zvf λE σ H hx1_=>by obtain ⟨ρ,l,S,f,l',S',sim,ro,hm,p⟩:=hx1_;cases hm;exact p ρ H σ (Ext.refl ..) sim ro
theorem zz9 (h1:PS3 X st m) (h2:PSs3 X rest n):PSs3 X (st::rest) (zaf m n):=PSs.imp (zj7 h1 h2) λE σ H hx2_=>by
 obtain ⟨ρ,l,S,f,l',S',sim,ro,hm,p⟩:=hx2_;obtain ⟨⟨g,l1,S1⟩,q1,hm⟩:=bnd hm;refine ⟨ρ,l,S,g,l1,S1,sim,ro,q1,λρ1 H1 σ1 e1 s1 r1=>?_⟩;cases g with
 |nx=>exact ⟨ρ1,l1,S1,f,l',S',s1,r1,hm,λρ2 H2 σ2 e2 s2 r2=>p ρ2 H2 σ2 (e1.trans e2) s2 r2⟩
 |bk=>cases hm;exact p ρ1 H1 σ1 e1 s1 r1
 |ct=>cases hm;exact p ρ1 H1 σ1 e1 s1 r1
 |rt d=>cases hm;exact p ρ1 H1 σ1 e1 s1 r1
theorem yaa (h1:PS3 X st m):PSs3 X [st] m:=zvg h1
theorem yab (he:PE3 X e me) (hs:swapsWith e none pos.line X.env=pure false:=by rfl):PS3 X (.Expr e pos) (zch me):=PS.imp (zvi he hs) λE σ H hx6_=>by obtain ⟨ρ,l,S,f,l',S',sim,ro,hm,p⟩:=hx6_;obtain ⟨⟨x,S1⟩,q1,hm⟩:=bnd hm;cases hm;exact ⟨ρ,l,S,x,_,sim,ro,q1,λρ1 H1 x' e1 s1 _=>p ρ1 H1 σ e1 s1 (ro.mono e1)⟩
theorem yac (he:PE3 X e me):PS3 X (.Return (some e) pos) (zaw me):=PS.imp (zvk he) λE σ H hx7_=>by obtain ⟨ρ,l,S,f,l',S',sim,ro,hm,p⟩:=hx7_;obtain ⟨⟨x,S1⟩,q1,hm⟩:=bnd hm;cases hm;exact ⟨ρ,l,S,x,_,sim,ro,q1,λρ1 H1 x' e1 s1 r1=>p ρ1 H1 σ e1 s1 (ro.mono e1) x' r1⟩
theorem yad (hc:PT3 X c mc) (ha:PSs3 X a m) (hb:PSs3 X b n):PS3 X (.If c a b pos) (sIf mc m n):=PS.imp (znd hc ha hb) λE σ H hx9_=>by
 obtain ⟨ρ,l,S,f,l',S',sim,ro,hm,p⟩:=hx9_;obtain ⟨⟨x,S1⟩,q1,hm⟩:=bnd hm;refine ⟨ρ,l,S,x,S1,sim,ro,q1,λρ1 H1 e1 s1=>?_⟩;cases x with
 |true=>exact zdb ⟨ρ1,l,S1,f,l',S',s1,ro.mono e1,hm,λρ2 H2 σ2 e2 s2 r2=>p ρ2 H2 σ2 (e1.trans e2) s2 r2⟩
 |false=>exact zda ⟨ρ1,l,S1,f,l',S',s1,ro.mono e1,hm,λρ2 H2 σ2 e2 s2 r2=>p ρ2 H2 σ2 (e1.trans e2) s2 r2⟩
noncomputable def zgq:SM:=λ_ _=>none
theorem yae:PS3 X st zgq:=PS.imp zvn λE σ H hx10_=>by obtain ⟨ρ,l,S,f,l',S',sim,ro,hm,p⟩:=hx10_;cases hm
theorem zcj (j:Nat) (hN:X.N.Nodup) (hi:X.N[j]?=some x:=by rfl) (hx:Loc X.env.scope x:=by first|exact Or.inl rfl|exact Or.inr rfl) (hf:X.fn x=true\/X.env.scope.names.lookup x=some .local:=by first|exact .inl rfl|exact .inr rfl|assumption):PG3 X (.Name x pos) (zae j) :=
 PG.imp (zvo hN hi hx hf) λv σ H Q hx11_=>by obtain ⟨ρ,l,S,d,l',S',sim,ro,rd,hm,p⟩:=hx11_;cases hm;exact p ρ H _ (Ext.refl ..) sim (ro.set j rd)
theorem zoz:zih X [] zd8:=PGs.imp zvr λv σ H Q hx12_=>by
 obtain ⟨ρ,l,S,d,l',S',sim,ro,rd,hm,p⟩:=hx12_;cases rd with
 |nil=>cases hm;exact ⟨rfl,p ρ H _ (Ext.refl ..) sim ro⟩
 |cons _ _=>cases hm
theorem zkr (h1:PG3 X tgt g) (h2:zih X ts' gs) (hs:(assignEach (tgt::ts') X.env).map (·.2)=assign tgt X.env::(assignEach ts' X.env).map (·.2):=by rfl):zih X (tgt::ts') (zci g gs):=PGs.imp (zvs h1 h2 hs) λv σ H Q hx13_=>by
 obtain ⟨ρ,l,S,d,l',S',sim,ro,rd,hm,p⟩:=hx13_;cases rd with
 |nil=>cases hm
 | @cons x v' xs vs r1 r2=>obtain ⟨⟨l1,S1⟩,q1,hm⟩:=bnd hm;exact ⟨v',vs,rfl,ρ,l,S,x,l1,S1,sim,ro,r1,q1,λρ1 H1 σ1 e1 s1 ro1=>⟨ρ1,l1,S1,xs,l',S',s1,ro1,r2.mono e1,hm,λρ2 H2 σ2 e2 s2 ro2=>p ρ2 H2 σ2 (e1.trans e2) s2 ro2⟩⟩
theorem zo0 {k n:Nat}(hc:X.calm=true) (h:zih X es gs) (hn:(assignEach es X.env).length=n:=by rfl) (hst:(assignEach es X.env).findIdx? (·.1)=none:=by rfl):PG3 X (.Tuple es k pos) (zd9 n gs) :=
 PG.imp (zvu hc h hn hst) λv σ H Q hx14_=>by
  obtain ⟨ρ,l,S,d,l',S',sim,ro,rd,hm,p⟩:=hx14_;cases rd with
  | @tup xs a vs ha r=>
   have hm:(if xs.length=n then gs xs l S else none)=some (l',S'):=hm;by_cases hl:xs.length=n
   ·rw [if_pos hl] at hm;exact ⟨a,vs,rfl,SqT.of ha,by rw [<-r.length];exact hl,ρ,l,S,xs,l',S',sim,ro,r,hm,p⟩
   ·rw [if_neg hl] at hm;cases hm
  |_=>cases hm
theorem yaf {K:QFg}{ρ:List Addr}{S S':Sto}{H:Hp}{x y z:D}{x' y' z':V}{Q:Hp->Prop}(sim:Sim K ρ S H) (rx:RD ρ H x x') (ry:RD ρ H y y') (rz:RD ρ H z z') (h:zcl x y z S=some S') (q:∀H',Ext ρ H ρ H'->Sim K ρ S' H'->Q H'):rSetL x' y' z' H Q:=by
 unfold zcl at h;split at h
 ·split at h
  ·rename_i hx;obtain ⟨j,hj,h⟩:=bnd h;cases h;cases ry;obtain ⟨a,us,ha',hH,r3⟩:=sim.lst hx;cases rx with
   |ref hn=>rw [ha'] at hn;cases hn;exact ⟨a,us,_,j,rfl,rfl,hH,by rw [<-r3.length];exact hj,q _ (zfg ha' hH) (sim.set ha' hx hH (r3.set rz j))⟩
  ·cases h
 ·cases h
theorem yag (ho:PE3 X o mo) (hi:PE3 X i mi)
  (ha:∀v,assign (.Subscript o i pos) X.env v=(do
   let ov <-holding [v] (eval o X.env)
   let iv <-holding [v,ov] (eval i X.env)
   standAt pos
   holding [v,ov,iv] (setItem ov iv v)
   release [v,ov,iv] []):=by intro _;rfl):PG3 X (.Subscript o i pos) (zcw mo mi) :=
 PG.imp (zvw ho hi zxp ha) λv σ H Q hx15_=>by obtain ⟨ρ,l,S,d,l',S',sim,ro,rd,hm,p⟩:=hx15_;obtain ⟨⟨x,S1⟩,q1,hm⟩:=bnd hm;obtain ⟨⟨y,S2⟩,q2,hm⟩:=bnd hm;obtain ⟨S3,q3,hm⟩:=bnd hm;cases hm;exact ⟨ρ,l,S,x,S1,sim,ro,q1,λρ1 H1 x' e1 s1 r1=>⟨ρ1,l,S1,y,S2,s1,ro.mono e1,q2,λρ2 H2 y' e2 s2 r2=>yaf s2 (r1.mono e2) r2 (rd.mono (e1.trans e2)) q3 λH3 e3 s3=>p ρ2 H3 σ (e1.trans (e2.trans e3)) s3 (ro.mono (e1.trans (e2.trans e3)))⟩⟩
theorem yah (he:PE3 X e me) (hg:PG3 X tgt g) (hs:swapsWithSole [tgt] e pos.line X.env=pure false:=by rfl) (hw:swappedStores [tgt] e X.env=pure none:=by rfl)
  (h1:(assignEach [tgt] X.env).map (·.2)=[assign tgt X.env]:=by rfl):PS3 X (.Assign [tgt] e pos) (zai me g):=PS.imp (zvx he hg hs hw h1) λE σ H hx16_=>by
 obtain ⟨ρ,l,S,f,l',S',sim,ro,hm,p⟩:=hx16_;obtain ⟨⟨x,S1⟩,q1,hm⟩:=bnd hm;obtain ⟨⟨l2,S2⟩,q2,hm⟩:=bnd hm;cases hm;exact ⟨ρ,l,S,x,S1,sim,ro,q1,λρ1 H1 x' e1 s1 r1=>⟨ρ1,l,S1,x,_,_,s1,ro.mono e1,r1,q2,λρ2 H2 σ2 e2 s2 r2=>p ρ2 H2 σ2 (e1.trans e2) s2 r2⟩⟩
theorem yai (j:Nat) (hN:X.N.Nodup) (he:PE3 X e me) (hi:X.N[j]?=some x:=by rfl) (hx:Loc X.env.scope x:=by first|exact Or.inl rfl|exact Or.inr rfl) (hs:swapsWith e (some (.Name x pos')) pos.line X.env=pure false:=by rfl) (hf:X.fn x=true\/X.env.scope.names.lookup x=some .local:=by first|exact .inl rfl|exact .inr rfl|assumption) :
  PS3 X (.Assign [.Name x pos'] e pos) (zai me (zae j)):=PS.imp (zvy hN hi hx he hs hf) λE σ H hx17_=>by
 obtain ⟨ρ,l,S,f,l',S',sim,ro,hm,p⟩:=hx17_;obtain ⟨⟨x,S1⟩,q1,hm⟩:=bnd hm;cases hm;exact ⟨ρ,l,S,x,_,sim,ro,q1,λρ1 H1 x' e1 s1 r1=>p ρ1 H1 _ e1 s1 ((ro.mono e1).set j r1)⟩
end
noncomputable def zcx (g:GM) (b:SM):List D->SM
 |[],l,S=>some (.nx,l,S)
 |x::xs,l,S=>(g x l S).bind λp=>(b p.1 p.2).bind λq=>match q.1 with
  | .nx=>zcx g b xs q.2.1 q.2.2
  | .ct=>zcx g b xs q.2.1 q.2.2
  | .bk=>some (.nx,q.2)
  | .rt d=>some (.rt d,q.2)
noncomputable def zcy (g:GM) (b:SM) (n:Nat):Nat->Nat->SM
 |0,_,_,_=>none
 | k+1,i,l,S=>(lstOf S n).bind λxs=>match xs[i]? with
  |none=>some (.nx,l,S)
  |some x=>(g x l S).bind λp=>(b p.1 p.2).bind λq=>match q.1 with
   | .nx=>zcy g b n k (i+1) q.2.1 q.2.2
   | .ct=>zcy g b n k (i+1) q.2.1 q.2.2
   | .bk=>some (.nx,q.2)
   | .rt d=>some (.rt d,q.2)
noncomputable def zea (e:EM) (g:GM) (b:SM):SM:=λl S=>(e l S).bind λp=>match p.1 with
 | .tup xs=>zcx g b xs l p.2
 | .ref n=>(lstOf p.2 n).bind λxs=>zcy g b n (xs.length+1) 0 l p.2
 |_=>none
noncomputable def zal (lo:Int) (n:Nat):List D:=(List.range n).map λ(i:Nat)=>.int (lo+i)
noncomputable def za5 (as:AM):Lo->Sto->Option ((Int×Nat)×Sto):=λl S=>(as l S).bind λp=>match p.1 with
 |[.int j]=>if -(2^62)<=j/\j<2^62 then some ((0,j.toNat),p.2) else none
 |_=>none
noncomputable def zc1 (as:AM):Lo->Sto->Option ((Int×Nat)×Sto):=λl S=>(as l S).bind λp=>match p.1 with
 |[.int i,.int j]=>if -(2^62)<=i/\i<2^62/\-(2^62)<=j/\j<2^62 then some ((i,(j-i).toNat),p.2) else none
 |_=>none
noncomputable def zca (r:Lo->Sto->Option ((Int×Nat)×Sto)) (g:GM) (b:SM):SM:=λl S=>(r l S).bind λp=>zcx g b (zal p.1.1 p.1.2) l p.2
section
variable {K:QFg}{g:GM}{b:SM}{E:Ends}
theorem zks {next:SM}{x:D}{v:V}{ρ:List Addr}{l:Lo}{S:Sto}{H:Hp}{σ:St}{f:Fl}{l':Lo}{S':Sto}(sim:Sim K ρ S H) (ro:RO ρ H l σ) (rx:RD ρ H x v)
  (hm:((g x l S).bind λp=>(b p.1 p.2).bind λq=>match q.1 with
   | .nx=>next q.2.1 q.2.2
   | .ct=>next q.2.1 q.2.2
   | .bk=>some (.nx,q.2)
   | .rt d=>some (.rt d,q.2))=some (f,l',S')) (p:∀ρ' H' σ',Ext ρ H ρ' H'->Sim K ρ' S' H'->RO ρ' H' l' σ'->zgh ρ' H' E σ' f)
  {N:St->Hp->Prop} (hN:∀ρ1 H1 σ1 l1 S1,Ext ρ H ρ1 H1->Sim K ρ1 S1 H1->RO ρ1 H1 l1 σ1->next l1 S1=some (f,l',S')->N σ1 H1) :
  tg K g v σ H λσ2 H2=>ts K b {E with nx:=N,ct:=N,bk:=E.nx} σ2 H2:=by
 obtain ⟨⟨l1,S1⟩,q1,hm⟩:=bnd hm;obtain ⟨⟨fl,l2,S2⟩,q2,hm⟩:=bnd hm;refine ⟨ρ,l,S,x,l1,S1,sim,ro,rx,q1,λρ1 H1 σ1 e1 s1 r1=>⟨ρ1,l1,S1,fl,l2,S2,s1,r1,q2,λρ2 H2 σ2 e2 s2 r2=>?_⟩⟩;cases fl with
 |nx=>exact hN ρ2 H2 σ2 l2 S2 (e1.trans e2) s2 r2 hm
 |ct=>exact hN ρ2 H2 σ2 l2 S2 (e1.trans e2) s2 r2 hm
 |bk=>cases hm;exact p ρ2 H2 σ2 (e1.trans e2) s2 r2
 |rt d=>cases hm;exact p ρ2 H2 σ2 (e1.trans e2) s2 r2
end
section
variable {X:Cx}{tgt iter:Expr}{body:List Stmt}{g:GM}{b:SM}{m:EM}{pos:Pos}
theorem zkt {K:QFg}{J:It}{vs:List V}{xs:List D}{ρ:List Addr}{l:Lo}{S:Sto}{H:Hp}{σ:St}{f:Fl}{l':Lo}{S':Sto}{E:Ends}(R:List Addr->Hp->Prop) (hR:∀ρ H ρ' H',Ext ρ H ρ' H'->R ρ H->R ρ' H')
  (hgo:∀(i:Nat) ρ H v,R ρ H->vs[i]?=some v->J.go i H) (hy:∀(i:Nat) ρ H v H',R ρ H->i<vs.length->J.yld i H v H'->H'=H/\vs[i]?=some v) (hst:∀ρ H,R ρ H->J.stop vs.length H)
  (hv:∀ρ H,R ρ H->RDs ρ H xs vs) (r0:R ρ H)
  (sim:Sim K ρ S H) (ro:RO ρ H l σ) (hm:zcx g b xs l S=some (f,l',S')) (p:∀ρ' H' σ',Ext ρ H ρ' H'->Sim K ρ' S' H'->RO ρ' H' l' σ'->zgh ρ' H' E σ' f) :
  ∃W:Nat->Nat->St->Hp->Prop,(∃m,W 0 m σ H)/\∀i m σ H,W i m σ H ->
   (J.stop i H/\E.nx σ H)\/(J.go i H/\∃N:St->Hp->Prop,(∀σ' H',N σ' H'->∃m',m'<m/\W (i+1) m' σ' H')/\∀x H',J.yld i H x H'->tg K g x σ H' λσ2 H2=>ts K b {E with nx:=N,ct:=N,bk:=E.nx} σ2 H2):=by
 refine ⟨λi m σ1 H1=>m=xs.length-i/\i<=xs.length/\∃ρ1 l1 S1,Ext ρ H ρ1 H1/\Sim K ρ1 S1 H1/\RO ρ1 H1 l1 σ1/\zcx g b (xs.drop i) l1 S1=some (f,l',S'),⟨xs.length,by simp,Nat.zero_le _,ρ,l,S,Ext.refl ..,sim,ro,hm⟩,?_⟩;rintro i m σ1 H1 ⟨rfl,hi,ρ1,l1,S1,e1,s1,ro1,hm1⟩;have R1:=hR _ _ _ _ e1 r0;have hlen:=(hv _ _ r0).length;by_cases hlt:i<xs.length
 ·have hx:xs[i]?=some xs[i]:=qge hlt;obtain ⟨v,hvi,rv⟩:=(hv _ _ R1).get hx;rw [List.drop_eq_getElem_cons hlt] at hm1;refine .inr ⟨hgo i ρ1 H1 v R1 hvi,_,λσ' H' h=>h,λy H' hyl=>?_⟩;obtain ⟨e,hy2⟩:=hy i ρ1 H1 y H' R1 (by omega) hyl;subst e;rw [hvi] at hy2;cases hy2;refine zks (next:=zcx g b (xs.drop (i+1))) s1 ro1 rv hm1 (λρ' H' σ' e'=>p ρ' H' σ' (e1.trans e')) λρ2 H2 σ2 l2 S2 e2 s2 ro2 hm2=>?_;exact ⟨xs.length-(i+1),by omega,rfl,hlt,ρ2,l2,S2,e1.trans e2,s2,ro2,hm2⟩
 ·have hil:i=xs.length:=by omega
  subst hil;rw [List.drop_length] at hm1;cases hm1;exact .inl ⟨by rw [hlen];exact hst _ _ R1,p ρ1 H1 σ1 e1 s1 ro1⟩
theorem zku (ρ:List Addr) (H:Hp) (lo:Int) (n:Nat):RDs ρ H (zal lo n) ((List.range n).map λ(i:Nat)=>V.int (lo+i)):=by
 unfold zal;generalize List.range n=l;induction l with
 |nil=>exact .nil
 |cons a r ih=>exact .cons (.int _) ih
theorem zo1 {lo:Int}{n i:Nat}(h:i<n) (hv:v=.int (lo+i)):((List.range n).map λ(i:Nat)=>V.int (lo+i))[i]?=some v:=by rw [qgm,List.getElem?_range h,hv];rfl
theorem PI.or (h:PI X tgt iter wi) (h':PI X tgt iter wj):PI X tgt iter (λσ H R=>wi σ H R\/wj σ H R):=by
 intro pins s σ H R I q;rcases q with q|q
 ·exact h pins s σ H R I q
 ·exact h' pins s σ H R I q
theorem yaj {K:QFg}{n:Nat}{a:Addr}{ρ:List Addr}{l:Lo}{S:Sto}{H:Hp}{σ:St}{f:Fl}{l':Lo}{S':Sto}{E:Ends}{k:Nat}(ha:ρ[n]?=some a)
  (sim:Sim K ρ S H) (ro:RO ρ H l σ) (hm:zcy g b n k 0 l S=some (f,l',S')) (p:∀ρ' H' σ',Ext ρ H ρ' H'->Sim K ρ' S' H'->RO ρ' H' l' σ'->zgh ρ' H' E σ' f) :
  ∃W:Nat->Nat->St->Hp->Prop,(∃m,W 0 m σ H)/\∀i m σ H,W i m σ H ->
   ((Itl K a).stop i H/\E.nx σ H)\/((Itl K a).go i H/\∃N:St->Hp->Prop,(∀σ' H',N σ' H'->∃m',m'<m/\W (i+1) m' σ' H')/\∀x H',(Itl K a).yld i H x H'->tg K g x σ H' λσ2 H2=>ts K b {E with nx:=N,ct:=N,bk:=E.nx} σ2 H2):=by
 refine ⟨λi m σ1 H1=>∃ρ1 l1 S1,Ext ρ H ρ1 H1/\Sim K ρ1 S1 H1/\RO ρ1 H1 l1 σ1/\zcy g b n m i l1 S1=some (f,l',S'),⟨k,ρ,l,S,Ext.refl ..,sim,ro,hm⟩,?_⟩;rintro i m σ1 H1 ⟨ρ1,l1,S1,e1,s1,ro1,hm1⟩;cases m with
 |zero=>cases hm1
 |succ m=>
  have ha1:=e1.pre n a ha;unfold zcy at hm1;obtain ⟨xs,hx,hm1⟩:=bnd hm1;obtain ⟨a',vs,ha',sq,rv⟩:=s1.lstOf hx;rw [ha1] at ha';cases ha';cases hi:xs[i]? with
  |none=>rw [hi] at hm1;cases hm1;have hl:xs.length<=i:=List.getElem?_eq_none_iff.mp hi;exact .inl ⟨⟨vs,sq,by rw [<-rv.length];exact hl⟩,p ρ1 H1 σ1 e1 s1 ro1⟩
  |some x=>rw [hi] at hm1;obtain ⟨v,hvi,r⟩:=rv.get hi;refine .inr ⟨⟨vs,v,sq,hvi⟩,_,λσ' H' h=>h,λy H' hyl=>?_⟩;obtain ⟨e,hy2⟩:=hyl;subst e;have hy3:=hy2 vs sq;rw [hvi] at hy3;cases hy3;refine zks (next:=zcy g b n m (i+1)) s1 ro1 r hm1 (λρ' H' σ' e'=>p ρ' H' σ' (e1.trans e')) λρ2 H2 σ2 l2 S2 e2 s2 ro2 hm2=>?_;exact ⟨m,Nat.lt_succ_self m,ρ2,l2,S2,e1.trans e2,s2,ro2,hm2⟩
theorem yak (hp:PassesOwn '#' X.A X.env X.xe) (hc:X.calm=true) (hi:PE3 X iter m) (hg:PG3 X tgt g) (hb:PSs3 X body b)
  (hs:∀x,foldedSetIterable iter X.env x=pure x:=by intro _;rfl):PS3 X (.For tgt iter body [] pos) (zea m g b) :=
 PS.imp (zh9 hp hc (PI.or (znf hi) (zng hi)) hg hb hs) λE σ H hx18_=>by
  obtain ⟨ρ,l,S,f,l',S',sim,ro,hm,p⟩:=hx18_;obtain ⟨⟨x,S1⟩,q1,hm⟩:=bnd hm;dsimp only at hm;split at hm
  ·rename_i xs;refine .inr ⟨ρ,l,S,.tup xs,S1,sim,ro,q1,λρ1 H1 x' e1 s1 r1=>?_⟩;cases r1 with
   | @tup xs a vs ha r =>
    refine ⟨a,rfl,⟨vs,SqT.of ha⟩,zkt (vs:=vs) (λρ' H'=>H' a=some (.tup vs)/\RDs ρ' H' xs vs) (λρ H ρ' H' e ⟨h1,h2⟩=>⟨e.tup _ _ h1,h2.mono e⟩)
     (λi ρ H v ⟨h1,_⟩ hv=>⟨vs,v,SqT.of h1,hv⟩) (λi ρ H v H' ⟨h1,_⟩ _ hy=>⟨hy.1,hy.2 vs (SqT.of h1)⟩) (λρ H ⟨h1,_⟩=>⟨vs,SqT.of h1,qlr _⟩) (λρ H h=>h.2) ⟨ha,r⟩ s1 (ro.mono e1) hm λρ' H' σ' e'=>p ρ' H' σ' (e1.trans e')⟩
  ·rename_i n;obtain ⟨xs,hx,hm⟩:=bnd hm;refine .inl ⟨ρ,l,S,.ref n,S1,sim,ro,q1,λρ1 H1 x' e1 s1 r1=>?_⟩;obtain ⟨a,vs,ha,sq,rv⟩:=s1.lstOf hx;cases r1 with
   |ref hn=>rw [ha] at hn;cases hn;exact ⟨a,rfl,⟨vs,sq⟩,yaj ha s1 (ro.mono e1) hm (λρ' H' σ' e'=>p ρ' H' σ' (e1.trans e'))⟩
  ·cases hm
theorem yal {a:Expr}{mA:AM}{p0 pos':Pos}(hp:PassesOwn '#' X.A X.env X.xe) (hc:X.calm=true) (hgl:Gl X "range") (hmg:X.mg "range" = none) (ha:PA3 X [a] mA) (hg:PG3 X tgt g) (hb:PSs3 X body b)
  (hs:∀x,foldedSetIterable (.Call (.Name "range" p0) [a] [] pos') X.env x=pure x:=by intro _;rfl) (hst:starEach [a] X.env=[(false,eval a X.env)]:=by rfl):PS3 X (.For tgt (.Call (.Name "range" p0) [a] [] pos') body [] pos) (zca (za5 mA) g b) :=
 PS.imp (zh9 hp hc (zni hgl hmg ha hst) hg hb hs) λE σ H hx19_=>by
  obtain ⟨ρ,l,S,f,l',S',sim,ro,hm,p⟩:=hx19_;obtain ⟨⟨⟨lo,n⟩,S1⟩,q1,hm⟩:=bnd hm;obtain ⟨⟨xs,S2⟩,q2,q1⟩:=bnd q1;dsimp only at q1 hm;split at q1
  ·rename_i j;obtain ⟨hz,e⟩:=zbb q1;cases e;refine ⟨ρ,l,S,[.int j],S1,sim,ro,q2,λρ1 H1 vs e1 s1 r1=>?_⟩;obtain ⟨v,rfl,rv⟩:=r1.one;cases rv;refine ⟨j,rfl,hz.1,hz.2,zkt (vs:=(List.range j.toNat).map λ(i:Nat)=>V.int (0+i)) (λ_ _=>True) (λ_ _ _ _ _ h=>h) (λi ρ H v _ hv=>?_) (λi ρ H v H' _ hl hy=>⟨hy.1,?_⟩) (λρ H _=>?_) (λρ H _=>zku ρ H 0 j.toNat) trivial s1 (ro.mono e1) hm λρ' H' σ' e'=>p ρ' H' σ' (e1.trans e')⟩
   ·have:=(qme hv).1;simp at this;show i<j.toNat;omega
   ·obtain ⟨_,hy⟩:=hy;exact zo1 (by simpa using hl) hy
   ·show j.toNat<=_;simp
  ·cases q1
theorem yam {a a2:Expr}{mA:AM}{p0 pos':Pos}(hp:PassesOwn '#' X.A X.env X.xe) (hc:X.calm=true) (hgl:Gl X "range") (hmg:X.mg "range" = none) (ha:PA3 X [a,a2] mA) (hg:PG3 X tgt g) (hb:PSs3 X body b)
  (hs:∀x,foldedSetIterable (.Call (.Name "range" p0) [a,a2] [] pos') X.env x=pure x:=by intro _;rfl) (hst:starEach [a,a2] X.env=[(false,eval a X.env),(false,eval a2 X.env)]:=by rfl) (hst2:starEach [a2] X.env=[(false,eval a2 X.env)]:=by rfl):PS3 X (.For tgt (.Call (.Name "range" p0) [a,a2] [] pos') body [] pos) (zca (zc1 mA) g b) :=
 PS.imp (zh9 hp hc (znj hgl hmg ha hst hst2) hg hb hs) λE σ H hx20_=>by
  obtain ⟨ρ,l,S,f,l',S',sim,ro,hm,p⟩:=hx20_;obtain ⟨⟨⟨lo,n⟩,S1⟩,q1,hm⟩:=bnd hm;obtain ⟨⟨xs,S2⟩,q2,q1⟩:=bnd q1;dsimp only at q1 hm;split at q1
  ·rename_i i0 j;obtain ⟨hz,e⟩:=zbb q1;cases e;refine ⟨ρ,l,S,[.int lo,.int j],S1,sim,ro,q2,λρ1 H1 vs e1 s1 r1=>?_⟩;obtain ⟨v,u,rfl,rv,ru⟩:=r1.two;cases rv;cases ru;refine ⟨lo,j,rfl,hz,zkt (vs:=(List.range (j-lo).toNat).map λ(i:Nat)=>V.int (lo+i)) (λ_ _=>True) (λ_ _ _ _ _ h=>h) (λi ρ H v _ hv=>?_) (λi ρ H v H' _ hl hy=>⟨hy.1,?_⟩) (λρ H _=>?_) (λρ H _=>zku ρ H lo (j-lo).toNat) trivial s1 (ro.mono e1) hm λρ' H' σ' e'=>p ρ' H' σ' (e1.trans e')⟩
   ·have:=(qme hv).1;simp at this;show i<(j-lo).toNat;omega
   ·obtain ⟨_,hy⟩:=hy;exact zo1 (by simpa using hl) hy
   ·show (j-lo).toNat<=_;simp
  ·cases q1
end
noncomputable def zbc (n:Nat) (b:SM):FM:=λds S=>(b (ds.map some++List.replicate (n-ds.length) none) S).bind λp=>match p.1 with
 | .rt d=>some (d,p.2.2)
 | .nx=>some (.non,p.2.2)
 |_=>none
theorem RDs.locals (r:RDs ρ H ds vs) (N:List Str):RO ρ H (ds.map some++List.replicate (N.length-ds.length) none) (L2.start N vs):=by
 unfold L2.start;rw [<-r.length];refine ⟨by simp [r.length],λi d h=>?_⟩;by_cases hl:i<ds.length
 ·rw [List.getElem?_append_left (by simpa using hl),qgm] at h;cases e:ds[i]? with
  |none=>rw [e] at h;cases h
  |some d'=>rw [e] at h;have h':some (some d')=some (some d):=h;cases h';obtain ⟨v,h1,h2⟩:=r.get e;exact ⟨v,by rw [List.getElem?_append_left (by rw [qlm,<-r.length];exact hl),qgm,h1];rfl,h2⟩
 ·rw [List.getElem?_append_right (by simpa using hl),List.getElem?_replicate] at h;split at h
  ·cases h
  ·cases h
theorem zo2 {P:Program}{w:World}{K:QFg}{mg:Str->Option Value}{base:Heap}{x qual:Str}{st:Stmt}{f:Addr}{fd:FuncData}{N ps:List Str}{k n:Nat}{b:SM}(F:Fun K x qual st f fd) (S:FnScope N ps (zaq st)) (hn:ps.length=n)
  (hbody:∀(cdv:Value),PySem.W.codeIn K cdv qual=true->∀(A:Around) (outer:List Env) (s:Shared) (H:Hp) (E:XK),Room k (A.deeper (envOfC qual (zaq st) s.heap.objs.size f cdv)) ->
   PSs3 (zbp CX0 P w K mg base N qual (zaq st) f cdv A outer s H E).nox (zcu st) b):FnOk P w K mg base CX0 (k+1) f fd ps (sp3 K n (zbc N.length b)):=by
 obtain ⟨oc,od,kV,doc,pm,an,cdv,ct,osl,rfl,lk,hcd⟩:=F.ex;refine znz lk hcd S (λvs H Q E h=>by rw [h.1,hn]) λA outer s H vs Q E hr h=>?_;obtain ⟨hl,ρ,ds,S0,v,S',sim,rd,hm,p⟩:=h;refine ⟨_,PSs.nox (hbody cdv hcd A outer s H E hr),?_⟩;obtain ⟨⟨fl,l',S1⟩,q,hm⟩:=bnd hm;refine ⟨ρ,_,S0,fl,l',S1,sim,rd.locals N,q,λρ' H' σ' e' s' r'=>?_⟩;cases fl with
 |nx=>cases hm;exact p ρ' H' _ e' s' .non
 |rt d=>cases hm;exact λv' rv=>p ρ' H' v' e' s' rv
 |bk=>cases hm
 |ct=>cases hm
noncomputable def zbk (env:Env):List (Str×NameKind)->List (Str×Addr)->List (Str×Addr)
 |[],cs=>cs
 |(n,k)::r,cs=>if k == .free then (match env.cells.lookup n with|some c=>zbk env r ((n,c)::cs)|none=>zbk env r cs) else zbk env r cs
theorem zo3 (env:Env):∀(names:List (Str×NameKind)) (cs:List (Str×Addr)),(∀x∈names,x.2=.free->∃c,env.cells.lookup x.1=some c) ->
  (forIn names cs (λx r=>if (x.2==NameKind.free)=true then do let c <-cellOf env x.1;pure (ForInStep.yield ((x.1,c)::r)) else pure (ForInStep.yield r)):Sem (List (Str×Addr)))=pure (zbk env names cs)
 |[],cs,_=>rfl
 |(n,k)::r,cs,h=>by
  have ih:=λcs=>zo3 env r cs λx hx=>h x (List.mem_cons_of_mem _ hx);rw [List.forIn_cons];by_cases hk:k=.free
  ·subst hk;obtain ⟨c,hc⟩:=h (n,.free) List.mem_cons_self rfl;simp only [beq_self_eq_true,if_true,cellOf,hc,zbk,pure_bind,bind_assoc];exact ih _
  ·have hb:(k==NameKind.free)=false:=(by simpa using hk);simp only [hb,qbf,if_false,zbk,pure_bind];exact ih _
theorem yan (scope:Scope) (env:Env) (h:∀x∈scope.names,x.2=.free->∃c,env.cells.lookup x.1=some c):closureFor scope env=pure (zbk env scope.names []):=by have e:=zo3 env scope.names [] h;unfold closureFor;show (forIn scope.names ([]:List (Str×Addr)) (λ(x:Str×NameKind) (r:List (Str×Addr))=>if (x.2==NameKind.free)=true then do let c <-cellOf env x.1;pure (ForInStep.yield ((x.1,c)::r)) else pure (ForInStep.yield r))>>=λcs=>pure cs)=_;rw [e,pure_bind]
theorem zim (env:Env):∀(names:List (Str×NameKind)) (cs:List (Str×Addr)),(∀x c,cs.lookup x=some c->env.cells.lookup x=some c)->∀x c,(zbk env names cs).lookup x=some c->env.cells.lookup x=some c
 |[],cs,h,x,c,q=>h x c q
 | (n,k) :: r,cs,h,x,c,q=>by
  unfold zbk at q;split at q
  ·split at q
   ·rename_i c' e;refine zim env r _ (λy d hy=>?_) x c q;rw [List.lookup_cons] at hy;split at hy
    ·rename_i hb;have:y=n:=(by simpa using hb);cases hy;rw [this];exact e
    ·exact h y d hy
   ·exact zim env r cs h x c q
  ·exact zim env r cs h x c q
theorem zgr (env:Env):∀(names:List (Str×NameKind)) (cs:List (Str×Addr)) (x:Str),((x,NameKind.free)∈names\/∃c,cs.lookup x=some c)->(∃c,env.cells.lookup x=some c)->∃c,(zbk env names cs).lookup x=some c
 |[],cs,x,h,_=>by
  rcases h with h|h
  ·cases h
  ·exact h
 | (n,k) :: r,cs,x,h,hx=>by
  unfold zbk;by_cases hk:(k==NameKind.free)=true
  ·rw [if_pos hk];split
   ·rename_i c' e;refine zgr env r _ x ?_ hx;by_cases hxn:x=n
    ·exact .inr ⟨c',by rw [hxn,List.lookup_cons];simp⟩
    ·rcases h with h|⟨c,h⟩
     ·rcases List.mem_cons.mp h with h|h
      ·cases h;exact absurd rfl hxn
      ·exact .inl h
     ·exact .inr ⟨c,by
       rw [List.lookup_cons];have:(x==n)=false:=(by simpa using hxn);rw [this];exact h⟩
   ·rename_i e;refine zgr env r _ x ?_ hx;rcases h with h|h
    ·rcases List.mem_cons.mp h with h|h
     ·cases h;obtain ⟨c,hc⟩:=hx;rw [hc] at e;cases e
     ·exact .inl h
    ·exact .inr h
  ·rw [if_neg hk];refine zgr env r _ x ?_ hx;rcases h with h|h
   ·rcases List.mem_cons.mp h with h|h
    ·cases h;exact absurd rfl hk
    ·exact .inl h
   ·exact .inr h
section
end
def PTs (X:Cx) (ifs:List Expr) (t:TT):Prop:=∀(pins:'(') (s:Shared) (σ:St) (H:Hp) (Q:Bool->Hp->Prop),Inv X pins σ H s->t σ H Q ->
 wpAny '#' X.A (forIn ifs true λc r=>if r=true then do let ok <-isTrue c X.env (eval c X.env);pure (ForInStep.yield ok) else pure (ForInStep.yield r)) (TP X pins σ Q) X.xe s
theorem yao:PTs X [] (λ_ H Q=>Q true H):=λ_ _ _ H _ I h=>wpAny_tests_nil ⟨H,I,h⟩
theorem yap (h:PT X c t):PTs X [c] t:=λpins s σ H Q I q=>wpAny_tests_one (h pins s σ H Q I q)
def zin (K:QFg) (wi:TI) (src:St->St) (g:TG) (tts:TT) (t:TE):TE:=λσ H Q=>wi σ H λJ H1=>∀D,H1 D=none->K.lookup D=none->∃W:Nat->Nat->St->Hp->Prop,
 (∃m,W 0 m (src σ) (upd H1 D (.lst [])))/\∀i m σ' H',W i m σ' H' ->
  (J.stop i H'/\Q (.ref D) H')\/(J.go i H'/\∃N:St->Hp->Prop,(∀σ' H',N σ' H'->∃m',m' < m/\W (i+1) m' σ' H') /\
   ∀x H'',J.yld i H' x H''->g x σ' H'' λσ2 H2=>tts σ2 H2 λb H3=>if b=true then t σ2 H3 (λv H4=>∃ys,H4 D=some (.lst ys)/\ys.length<sizeLine/\N σ2 (upd H4 D (.lst (ys++[v])))) else N σ2 H3)
theorem zo4 {scope:Scope}{env:Env}:∀{names:List (Str×NameKind)}{x:Str},names.lookup x=some .free ->
  ((names.map λ(n,k)=>if (k == NameKind.free && env.scope.kind == .function && env.kindOf n == some .cell) then (n,NameKind.cell) else (n,k)).lookup x=some .cell \/
   (names.map λ(n,k)=>if (k==NameKind.free&&env.scope.kind == .function&&env.kindOf n==some .cell) then (n,NameKind.cell) else (n,k)).lookup x=some .free)
 |[],x,h=>by simp at h
 | (n,k) :: r,x,h=>by
  have ih:=@zo4 scope env r x;show List.lookup x ((if (k==NameKind.free&&env.scope.kind == .function&&env.kindOf n==some .cell)=true then (n,NameKind.cell) else (n,k))::_)=_\/List.lookup x ((if (k==NameKind.free&&env.scope.kind == .function&&env.kindOf n==some .cell)=true then (n,NameKind.cell) else (n,k))::_)=_;cases hx:x==n with
  |true=>
   simp only [List.lookup_cons,hx] at h;cases h;by_cases hc:(NameKind.free==NameKind.free&&env.scope.kind == .function&&env.kindOf n==some .cell)=true
   ·rw [if_pos hc];simp [List.lookup_cons,hx]
   ·rw [if_neg hc];simp [List.lookup_cons,hx]
  |false=>
   simp only [List.lookup_cons,hx] at h;by_cases hc:(k==NameKind.free&&env.scope.kind == .function&&env.kindOf n==some .cell)=true
   ·rw [if_pos hc];simp only [List.lookup_cons,hx];exact ih h
   ·rw [if_neg hc];simp only [List.lookup_cons,hx];exact ih h
structure CompSc (X:Cx) (N':List Str) (scope:Scope) (src:St->St):Prop where
 kind:scope.kind=.function
 nocell:∀y∈scope.names,y.2≠.cell
 names:∀y∈scope.names,y.2=.local->scope.names.lookup y.1=some .local
 free:∀y∈scope.names,y.2=.free->X.env.kindOf y.1=some .cell\/X.env.kindOf y.1=some .free
 rel:∀y,(relabel scope X.env).names.lookup y=some .cell\/(relabel scope X.env).names.lookup y=some .free->(y,NameKind.free)∈scope.names
 len:∀σ,(src σ).length=N'.length
 src:∀σ (i:Nat) v x,(src σ)[i]?=some (some v)->N'[i]?=some x->∃j:Nat,X.N[j]?=some x/\σ[j]?=some (some v)/\scope.names.lookup x=some .free
section
variable {K:QFg}{ρ ρ':List Addr}{H H':Hp}{S:Sto}
theorem Sim.notin (s:Sim K ρ S H) (h1:H a=none) (h2:K.lookup a=none):∀n:Nat,ρ[n]?≠some a:=λn hn=>by
 have hl:n<S.length:=by rw [<-s.len];exact (qme hn).1
 have q:=s.at' n a _ hn (qge hl);cases e:S[n] with
 |lst xs=>rw [e] at q;obtain ⟨vs,z,_⟩:=q;rw [h1] at z;cases z
 |flst xs=>
  rw [e] at q;obtain ⟨vs,z,_⟩:=q;rcases z with ⟨o,z⟩|⟨o,_,_,z,_⟩
  ·rw [h1] at z;cases z
  ·rw [h2] at z;cases z
 |iset g m=>rw [e] at q;have q:H a=_:=q;rw [h1] at q;cases q
 |dct kvs=>rw [e] at q;obtain ⟨vs,z,_⟩:=q;rw [h1] at z;cases z
 |tdct kvs=>rw [e] at q;obtain ⟨vs,z,_⟩:=q;rw [h1] at z;cases z
 |fdct kvs=>rw [e] at q;obtain ⟨o,vs,z,_⟩:=q;rw [h1] at z;cases z
 |ftdct kvs=>rw [e] at q;obtain ⟨o,vs,z,_⟩:=q;rw [h1] at z;cases z
 |tset ks=>rw [e] at q;obtain ⟨xs,_,z,_⟩:=q;rw [h1] at z;cases z
 |fnc x=>rw [e] at q;obtain ⟨_,o,z⟩:=q;rw [h2] at z;cases z
 |exc c=>rw [e] at q;obtain ⟨C,_,z⟩:=q;rw [h1] at z;cases z
theorem Sim.adopt (s:Sim K ρ S H) (ha:H a=some (.lst vs)) (hn:∀n:Nat,ρ[n]?≠some a) (r:RDs ρ H xs vs):Sim K (ρ++[a]) (S++[.lst xs]) H:=by
 refine ⟨by simp [s.len],λi j b x1 x2 h1 h2 h3 h4 m1 m2=>?_,λn b o h1 h2=>?_⟩
 ·rcases za9 h1 with g1|⟨e1,f1⟩<;>rcases za9 h2 with g2|⟨e2,f2⟩
  ·rcases za9 h3 with h3|⟨e3,_⟩<;>rcases za9 h4 with h4|⟨e4,_⟩
   ·exact s.nd i j b _ _ g1 g2 h3 h4 m1 m2
   ·have:=(qme g2).1;have:=s.len;omega
   ·have:=(qme g1).1;have:=s.len;omega
   ·omega
  ·subst f2;exact absurd g1 (hn i)
  ·subst f1;exact absurd g2 (hn j)
  ·omega
 ·rcases za9 h1 with h1|⟨e1,f1⟩
  ·rcases za9 h2 with h2|⟨e2,f2⟩
   ·exact (s.at' n b o h1 h2).more ext0_push
   ·have:=(qme h1).1;have:=s.len;omega
  ·subst f1;rcases za9 h2 with h2|⟨e2,f2⟩
   ·have:=(qme h2).1;have:=s.len;omega
   ·subst f2;exact ⟨vs,ha,r.mono0 ext0_push⟩
theorem Sim.beside (s:Sim K ρ S H) (ha:H a=some (.lst ys)) (hn:∀n:Nat,ρ[n]?≠some a):Sim K ρ S (upd H a u) :=
 ⟨s.len,s.nd,λn b o h1 h2=>(s.at' n b o h1 h2).written ha λ_ z=>hn n (by rw [h1,z])⟩
theorem Ext.beside (e:Ext ρ0 H0 ρ H) (h0:H0 a=none) (ha:H a=some (.lst ys)):Ext ρ0 H0 ρ (upd H a u) :=
 ⟨⟨e.pre,λb vs h=>by rw [zaj (zcs (e.tup b vs h) ha (by intro z;cases z))];exact e.tup b vs h,λb o vs h=>by rw [zaj (zcs (e.frz b o vs h) ha (by intro z;cases z))];exact e.frz b o vs h⟩,λb vs h n=>⟨by rw [zaj (zay h h0)];exact (e.out b vs h n).1,(e.out b vs h n).2⟩⟩
theorem Ext.adopt (e:Ext ρ0 H0 ρ H) (h0:H0 a=none):Ext ρ0 H0 (ρ++[a]) H :=
 ⟨⟨λn b h=>(ext0_push (H:=H)).pre n b (e.pre n b h),e.tup,e.frz⟩,λb vs h n=>⟨(e.out b vs h n).1,λi hi=>by
  rcases za9 hi with hi|⟨_,z⟩
  ·exact (e.out b vs h n).2 i hi
  ·rw [z,h0] at h;cases h⟩⟩
end
abbrev ItM:=Nat->Sto->Option (Option D)
abbrev IM:=Lo->Sto->Option (ItM×Nat×Sto)
def zds (K:QFg) (ρ:List Addr) (H:Hp) (it:ItM) (J:It):Prop:=∀(i:Nat) ρ' S' H',Ext ρ H ρ' H'->Sim K ρ' S' H' ->
 (it i S'=some none->J.stop i H')/\∀x,it i S'=some (some x)->J.go i H'/\∀y H'',J.yld i H' y H''->H''=H'/\RD ρ' H' x y
inductive ti (K:QFg) (im:IM) (σ:St) (H:Hp) (R:It->Hp->Prop):Prop
 |mk (ρ:_) (l:_) (S:_) (it:_) (k:_) (S':_) (_:Sim K ρ S H) (_:RO ρ H l σ) (_:im l S=some (it,k,S')) (_:∀ρ' H' J,Ext ρ H ρ' H'->Sim K ρ' S' H'->zds K ρ' H' it J->R J H')
def PI3 (X:Cx) (tgt iter:Expr) (im:IM):Prop:=PI X tgt iter (ti X.K im)
theorem PI.imp (h:PI X tgt iter t) (i:∀σ H R,u σ H R->t σ H R):PI X tgt iter u:=λpins s σ H Q I q=>h pins s σ H Q I (i _ _ _ q)
noncomputable def itX (xs:List D):ItM:=λi _=>some xs[i]?
noncomputable def itL (n:Nat):ItM:=λi S=>(lstOf S n).bind λxs=>some xs[i]?
noncomputable def zcm (e:EM):IM:=λl S=>(e l S).bind λp=>match p.1 with
 | .tup xs=>some (itX xs,xs.length+1,p.2)
 | .ref n=>(lstOf p.2 n).bind λxs=>some (itL n,xs.length+1,p.2)
 |_=>none
noncomputable def zc2 (r:Lo->Sto->Option ((Int×Nat)×Sto)):IM:=λl S=>(r l S).bind λp=>some (itX (zal p.1.1 p.1.2),p.1.2+1,p.2)
section
variable {K:QFg}
theorem zkv (ha:H a=some (.tup vs)) (r:RDs ρ H xs vs):zds K ρ H (itX xs) (Itt K a):=by
 intro i ρ' S' H' e s;have ha':=SqT.of (K:=K) (e.tup _ _ ha);have r':=r.mono e;refine ⟨λh=>?_,λx h=>?_⟩
 ·have h:xs[i]?=none:=qoi h;exact ⟨vs,ha',by rw [<-r.length];exact List.getElem?_eq_none_iff.mp h⟩
 ·have h:xs[i]?=some x:=qoi h;obtain ⟨v,hv,rv⟩:=r'.get h;refine ⟨⟨vs,v,ha',hv⟩,λy H'' ⟨e1,e2⟩=>⟨e1,?_⟩⟩;have:=e2 vs ha';rw [hv] at this;cases this;exact rv
theorem zkw (ha:ρ[n]?=some a):zds K ρ H (itL n) (Itl K a):=by
 intro i ρ' S' H' e s;have ha':=e.pre _ _ ha;refine ⟨λh=>?_,λx h=>?_⟩
 ·obtain ⟨xs,h1,h⟩:=bnd h;have h:xs[i]?=none:=qoi h;obtain ⟨b,vs,hb,sq,r⟩:=s.lstOf h1;rw [ha'] at hb;cases hb;exact ⟨vs,sq,by rw [<-r.length];exact List.getElem?_eq_none_iff.mp h⟩
 ·obtain ⟨xs,h1,h⟩:=bnd h;have h:xs[i]?=some x:=qoi h;obtain ⟨b,vs,hb,sq,r⟩:=s.lstOf h1;rw [ha'] at hb;cases hb;obtain ⟨v,hv,rv⟩:=r.get h;refine ⟨⟨vs,v,sq,hv⟩,λy H'' ⟨e1,e2⟩=>⟨e1,?_⟩⟩;have:=e2 vs sq;rw [hv] at this;cases this;exact rv
theorem yaq {lo:Int}{n:Nat}:zds K ρ H (itX (zal lo n)) (Itr lo n):=by
 intro i ρ' S' H' e s;refine ⟨λh=>?_,λx h=>?_⟩
 ·have h:(zal lo n)[i]?=none:=qoi h;have:=List.getElem?_eq_none_iff.mp h;simp [zal] at this;exact this
 ·have h:(zal lo n)[i]?=some x:=qoi h;have hl:=(qme h).1;simp only [zal,qlm,List.length_range] at hl;refine ⟨hl,λy H'' ⟨e1,e2⟩=>⟨e1,?_⟩⟩;unfold zal at h;rw [qgm,List.getElem?_range hl] at h;cases h;rw [e2];exact .int _
end
section
theorem yar (hi:PE3 X iter m):PI3 X tgt iter (zcm m):=PI.imp (PI.or (znf hi) (zng hi)) λσ H R hx1_=>by
 obtain ⟨ρ,l,S,it,k,S',sim,ro,hm,p⟩:=hx1_;obtain ⟨⟨x,S1⟩,q1,hm⟩:=bnd hm;dsimp only at hm;split at hm
 ·rename_i xs;cases hm;refine .inr ⟨ρ,l,S,.tup xs,_,sim,ro,q1,λρ1 H1 x' e1 s1 r1=>?_⟩;cases r1 with
  | @tup xs a vs ha r=>exact ⟨a,rfl,⟨vs,SqT.of ha⟩,p ρ1 H1 _ e1 s1 (zkv ha r)⟩
 ·rename_i n;obtain ⟨xs,hx,hm⟩:=bnd hm;cases hm;refine .inl ⟨ρ,l,S,.ref n,_,sim,ro,q1,λρ1 H1 x' e1 s1 r1=>?_⟩;obtain ⟨a,vs,ha,sq,rv⟩:=s1.lstOf hx;cases r1 with
  |ref hn=>rw [ha] at hn;cases hn;exact ⟨a,rfl,⟨vs,sq⟩,p ρ1 H1 _ e1 s1 (zkw ha)⟩
 ·cases hm
theorem yas (hgl:Gl X "range") (hmg:X.mg "range" = none) (ha:PA3 X [a] mA) (hst:starEach [a] X.env=[(false,eval a X.env)]:=by rfl):PI3 X tgt (.Call (.Name "range" p0) [a] [] pos') (zc2 (za5 mA)) :=
 PI.imp (zni hgl hmg ha hst) λσ H R hx2_=>by
  obtain ⟨ρ,l,S,it,k,S',sim,ro,hm,p⟩:=hx2_;obtain ⟨⟨⟨lo,n⟩,S1⟩,q1,hm⟩:=bnd hm;cases hm;obtain ⟨⟨xs,S2⟩,q2,q1⟩:=bnd q1;dsimp only at q1;split at q1
  ·rename_i j;obtain ⟨hz,e⟩:=zbb q1;cases e;refine ⟨ρ,l,S,[.int j],_,sim,ro,q2,λρ1 H1 vs e1 s1 r1=>?_⟩;obtain ⟨v,rfl,rv⟩:=r1.one;cases rv;exact ⟨j,rfl,hz.1,hz.2,p ρ1 H1 _ e1 s1 yaq⟩
  ·cases q1
end
noncomputable def zb2 (it:ItM) (g:GM) (t:TM) (e:EM):Nat->Nat->Lo->Sto->Option (List D×Sto)
 |0,_,_,_=>none
 |k+1,i,l,S=>(it i S).bind λo=>match o with
  |none=>some ([],S)
  |some x=>(g x l S).bind λp=>(t p.1 p.2).bind λq=>if q.1=true then (e p.1 q.2).bind λr=>(zb2 it g t e k (i+1) p.1 r.2).bind λz=>some (r.1::z.1,z.2) else zb2 it g t e k (i+1) p.1 q.2
noncomputable def zas {α:Type}(ixs:List (Option Nat)) (l:List (Option α)):List (Option α):=ixs.map λo=>match o with
 |some j=>(l[j]?).join
 |none=>none
noncomputable def zbv (im:IM) (ixs:List (Option Nat)) (g:GM) (t:TM) (e:EM):EM:=λl S=>(im l S).bind λp=>(zb2 p.1 g t e p.2.1 0 (zas ixs l) p.2.2).bind λz=>if z.1.length<=sizeLine then some (.ref z.2.length,z.2++[.lst z.1]) else none
noncomputable def za6:TM:=λ_ S=>some (true,S)
theorem zkx (ixs:List (Option Nat)) (r:RO ρ H l σ):RO ρ H (zas ixs l) (zas ixs σ):=by
 refine ⟨by simp [zas],λi d h=>?_⟩;unfold zas at h ⊢;rw [qgm] at h ⊢;cases e:ixs[i]? with
 |none=>rw [e] at h;cases h
 | some o =>
  rw [e] at h;cases o with
  |none=>cases h
  |some j=>
   have h:((l[j]?).join:Option D)=some d:=qoi h;cases e2:l[j]? with
   |none=>rw [e2] at h;cases h
   |some o2=>rw [e2] at h;have h:o2=some d:=h;subst h;obtain ⟨v,h1,h2⟩:=r.get j d e2;exact ⟨v,by show some ((σ[j]?).join)=_;rw [h1];rfl,h2⟩
inductive CI3 (K:QFg) (it:ItM) (g:GM) (t:TM) (e:EM) (S2:Sto) (all:List D) (ρ1:List Addr) (H1:Hp) (Da:Addr) (i m:Nat) (σ':St) (H':Hp):Prop
 |mk (ρ':List Addr) (l':Lo) (S':Sto) (ds:List D) (vs:List V) (rest:List D) (_:Ext ρ1 H1 ρ' H') (_:Sim K ρ' S' H') (_:RO ρ' H' l' σ') (_:H' Da=some (.lst vs)) (_:(∀n:Nat,ρ'[n]?≠some Da)) (_:RDs ρ' H' ds vs) (_:zb2 it g t e m i l' S'=some (rest,S2)) (_:ds++rest=all)
theorem zo5 {K:QFg}{im:IM}{ixs:List (Option Nat)}{g:GM}{t:TM}{e:EM}(σ:St) (H:Hp) (Q:VK) (q:te K (zbv im ixs g t e) σ H Q):zin K (ti K im) (zas ixs) (tg K g) (tt K t) (te K e) σ H Q:=by
 obtain ⟨ρ,l,S,v,S',sim,ro,hm,p⟩:=q;obtain ⟨⟨it,k,S1⟩,q1,hm⟩:=bnd hm;obtain ⟨⟨all,S2⟩,q2,hm⟩:=bnd hm;obtain ⟨hz,he⟩:=zbb hm;cases he;refine ⟨ρ,l,S,it,k,S1,sim,ro,q1,λρ1 H1 J e1 s1 io D hD hK=>?_⟩;dsimp only at q2 hz p;refine ⟨λi m σ' H'=>CI3 K it g t e S2 all ρ1 H1 D i m σ' H',⟨k,?_⟩,?_⟩
 ·exact ⟨ρ1,zas ixs l,S1,[],[],all,zbq hD,s1.laid hD,(zkx ixs (ro.mono e1)).mono (zbq hD),zbo,s1.notin hD hK,.nil,q2,rfl⟩
 ·rintro i m σ' H' ⟨ρ',l',S',ds,vs,rest,e2,s2,ro2,hD2,hn2,rd2,hc,hall⟩;cases m with
  |zero=>cases hc
  | succ m =>
   unfold zb2 at hc;obtain ⟨o,ho,hc⟩:=bnd hc;obtain ⟨iStop,iGo⟩:=io i ρ' S' H' e2 s2;cases o with
   |none=>cases hc;rw [List.append_nil] at hall;subst hall;refine .inl ⟨iStop ho,p (ρ'++[D]) H' (.ref D) (e1.trans (e2.adopt hD)) (s2.adopt hD2 hn2 rd2) (.ref ?_)⟩;rw [<-s2.len];exact zd6 ρ' D
   |some x=>
    obtain ⟨⟨l3,S3⟩,q3,hc⟩:=bnd hc;obtain ⟨⟨b,S4⟩,q4,hc⟩:=bnd hc;obtain ⟨hgo,hy⟩:=iGo x ho;refine .inr ⟨hgo,_,λσ' H' h=>h,λy H'' hyl=>?_⟩;obtain ⟨rfl,ry⟩:=hy y H'' hyl;refine ⟨ρ',l',S',x,l3,S3,s2,ro2,ry,q3,λρ3 H3 σ3 e3 s3 ro3=>⟨ρ3,l3,S3,b,S4,s3,ro3,q4,λρ4 H4 e4 s4=>?_⟩⟩;obtain ⟨hD3,hn3⟩:=e3.out D _ hD2 hn2;obtain ⟨hD4,hn4⟩:=e4.out D _ hD3 hn3;cases b with
    |false=>exact zda ⟨m,Nat.lt_succ_self m,ρ4,l3,S4,ds,vs,rest,e2.trans (e3.trans e4),s4,ro3.mono e4,hD4,hn4,rd2.mono (e3.trans e4),hc,hall⟩
    |true=>have hc:((e l3 S4).bind λr=>(zb2 it g t e m (i+1) l3 r.2).bind λz=>some (r.1::z.1,z.2))=some (rest,S2):=hc;obtain ⟨⟨y5,S5⟩,q5,hc⟩:=bnd hc;obtain ⟨⟨rest',S6⟩,q6,hc⟩:=bnd hc;cases hc;refine zdb ⟨ρ4,l3,S4,y5,S5,s4,ro3.mono e4,q5,λρ5 H5 v5 e5 s5 r5=>?_⟩;obtain ⟨hD5,hn5⟩:=e5.out D _ hD4 hn4;have e25:=e2.trans (e3.trans (e4.trans e5));have rd5:=rd2.mono (e3.trans (e4.trans e5));have hlen:vs.length<sizeLine:=(by have h1:=rd5.length;have h2:=congrArg List.length hall;rw [qla,List.length_cons] at h2;omega);refine ⟨vs,hD5,hlen,m,Nat.lt_succ_self m,ρ5,l3,S5,ds++[y5],vs++[v5],rest',e25.beside hD hD5,s5.beside hD5 hn5,?_,zbo,hn5,((rd5.append (.cons r5 .nil)).mono0 (zff hD5)),q6,by rw [<-hall];simp⟩;have r0:=(ro3.mono e4).mono e5;exact ⟨r0.len,λi d h=>let ⟨w,h1,h2⟩:=r0.get i d h;⟨w,h1,h2.mono0 (zff hD5)⟩⟩
theorem yat:PTs X [] (tt X.K za6):=λpins s σ H Q I hx4_=>by obtain ⟨ρ,l,S,v,S',sim,ro,hm,p⟩:=hx4_;cases hm;exact yao pins s σ H Q I (p ρ H (Ext.refl ..) sim)
theorem yau (h:PT3 X c t):PTs X [c] (tt X.K t):=yap h
noncomputable def zky:D->D->Sto->Option (D×Sto)
 | .int i,.int j,S=>some (.int (i+j),S)
 | .tup xs,.tup ys,S=>if xs.length+ys.length<=sizeLine then some (.tup (xs++ys),S) else none
 | .ref n,.ref m,S=>match S[n]?,S[m]? with
  |some (.lst xs),some (.lst ys)=>if xs.length+ys.length<=sizeLine then some (.ref S.length,S++[.lst (xs++ys)]) else none
  |_,_=>none
 |_,_,_=>none
theorem yav {K:QFg}:Op3 K zky (λx y H Q=>rI0 (λi j=>.int (i+j)) x y H Q\/(zkf K x y H Q\/zkq K x y H Q)\/zoe x y H Q):=by
 intro ρ S H x y x' y' v S' Q sim rx ry h p;unfold zky at h;split at h
 ·cases rx;cases ry;cases h;exact .inl ⟨_,_,rfl,rfl,p ρ H _ (Ext.refl ..) sim (.int _)⟩
 ·refine .inr (.inl (zzr ρ S H _ _ x' y' v S' Q sim rx ry ?_ p));unfold zkp;exact h
 ·split at h
  ·rename_i xs ys e1 e2;obtain ⟨hz,e⟩:=zbb h;cases e;obtain ⟨a,us,ha,hH,r2⟩:=sim.lst e1;obtain ⟨b,ws,hb,hH2,r3⟩:=sim.lst e2;cases rx with
   |ref hn=>
    rw [ha] at hn;cases hn;cases ry with
    |ref hm=>rw [hb] at hm;cases hm;exact .inr (.inr ⟨a,b,us,ws,rfl,rfl,hH,hH2,by rw [<-r2.length,<-r3.length];exact hz,zgj sim (r2.append r3) p⟩)
  ·cases h
 ·cases h
section
end
def Has (P:Program) (w:World) (K:QFg) (mg:Str->Option Value) (base:Heap) (x:Str) (k n:Nat) (m:FM):Prop :=
 ∃(f:Addr) (fd:FuncData) (ps:List Str),FnOk P w K mg base CX0 k f fd ps (sp3 K n m)/\mg x=some (.ref f)/\PySem.W.keepIn K (.ref f)=true/\Binds K fd ps []
section
theorem yaw (F:Has X.prog X.w X.K X.mg X.base x k n m) (hr:Room j X.A) (hkj:k<=j) (hg:Gl X x)
  (ha:PA3 X (a::es) mA) (hl:∀l S v S',mA l S=some (v,S')->v.length=n) (hdb:(x==("__debug__":Str))=false:=by decide) (he:starEach (a::es) X.env=(false,eval a X.env)::starEach es X.env:=by rfl) (hpl:(backTo pos (starEach es X.env)).any (·.1)=false:=by rfl) :
  PE3 X (.Call (.Name x p) (a::es) [] pos) (zad m mA):=by
 obtain ⟨f,fd,ps,F,hm,hk,hb⟩:=F;exact zz5 F (hr.mono hkj) hg hm hk hb ha hl hdb he hpl
theorem yax:bootBuiltins "abs" = some (.builtin "abs"):=by decide +kernel
theorem yay:bootBuiltins "int" = some (.type "int"):=by decide +kernel
theorem zo6:bootBuiltins "tuple" = some (.type "tuple"):=by decide +kernel
theorem zo7:bootBuiltins "list" = some (.type "list"):=by decide +kernel
theorem yaz:bootBuiltins "bool" = some (.type "bool"):=by decide +kernel
theorem zo8:bootBuiltins "min" = some (.builtin "min"):=by decide +kernel
theorem zo9:bootBuiltins "max" = some (.builtin "max"):=by decide +kernel
theorem ya0 (hg:Gl X "abs") (hm:X.mg "abs" = none) (ha:PA3 X (a::es) mA) (he:starEach (a::es) X.env=(false,eval a X.env)::starEach es X.env:=by rfl) (hpl:(backTo pos (starEach es X.env)).any (·.1)=false:=by rfl):PE3 X (.Call (.Name "abs" p) (a::es) [] pos) (zad zer mA) :=
 zdq zww zzt hg hm yax ha '$' '$' he hpl
theorem ya1 (hg:Gl X "tuple") (hm:X.mg "tuple" = none) (ha:PA3 X (a::es) mA) (he:starEach (a::es) X.env=(false,eval a X.env)::starEach es X.env:=by rfl) (hpl:(backTo pos (starEach es X.env)).any (·.1)=false:=by rfl):PE3 X (.Call (.Name "tuple" p) (a::es) [] pos) (zad zes mA) :=
 zy5 zxx zzw hg hm zo6 ha '$' '$' he hpl
theorem ya2 (hc:X.calm=true) (hg:Gl X "min") (hm:X.mg "min" = none) (ha:PA3 X (a::es) mA) (he:starEach (a::es) X.env=(false,eval a X.env)::starEach es X.env:=by rfl) (hpl:(backTo pos (starEach es X.env)).any (·.1)=false:=by rfl):PE3 X (.Call (.Name "min" p) (a::es) [] pos) (zad zgo mA) :=
 zdq (zwy hc) zzu hg hm zo8 ha '$' '$' he hpl
theorem ya3 (hc:X.calm=true) (hg:Gl X "max") (hm:X.mg "max" = none) (ha:PA3 X (a::es) mA) (he:starEach (a::es) X.env=(false,eval a X.env)::starEach es X.env:=by rfl) (hpl:(backTo pos (starEach es X.env)).any (·.1)=false:=by rfl):PE3 X (.Call (.Name "max" p) (a::es) [] pos) (zad zgp mA) :=
 zdq (zwx hc) zzv hg hm zo9 ha '$' '$' he hpl
end
theorem ya4 {P:Program}{w:World}{K:QFg}{mg:Str->Option Value}{base:Heap}{x:Str}{st:Stmt}{f:Addr}{fd:FuncData}{N ps:List Str}{k n:Nat}{b:SM}(F:Fun K x x st f fd) (hm:mg x=some (.ref f)) (S:FnScope N ps (zaq st)) (hn:ps.length=n) (hb:Binds K fd ps [])
  (hbody:∀(cdv:Value),PySem.W.codeIn K cdv x=true->∀(A:Around) (outer:List Env) (s:Shared) (H:Hp) (E:XK),Room k (A.deeper (envOfC x (zaq st) s.heap.objs.size f cdv)) ->
   PSs3 (zbp CX0 P w K mg base N x (zaq st) f cdv A outer s H E).nox (zcu st) b):Has P w K mg base x (k+1) n (zbc N.length b) :=
 ⟨f,fd,ps,zo2 F S hn hbody,hm,F.kp,hb⟩
noncomputable def chk (scO scope:Scope) (NO N':List Str) (ixs:List (Option Nat)):Bool :=
 decide (scope.kind=.function)&&(scope.names.all λy=>y.2 != .cell)&&(scope.names.all λy=>y.2 != .local||scope.names.lookup y.1==some .local) &&
 (scope.names.all λy=>y.2 != .free||(scO.names.lookup y.1==some .cell||scO.names.lookup y.1==some .free))&&(ixs.length==N'.length) &&
 ((List.range ixs.length).all λi=>match ixs[i]? with|some (some j)=>(NO[j]? == N'[i]? && (match N'[i]? with|some x=>scope.names.lookup x==some .free|none=>false))|_=>true)
theorem ya5 (hX:X.env.scope=scO) (hN:X.N=NO) (h:chk scO scope NO N' ixs=true):CompSc X N' scope (zas ixs):=by
 unfold chk at h;simp only [Bool.and_eq_true,decide_eq_true_eq,List.all_eq_true,beq_iff_eq,Bool.or_eq_true,bne_iff_ne,ne_eq] at h;obtain ⟨⟨⟨⟨⟨h1,h2⟩,h3⟩,h4⟩,h5⟩,h6⟩:=h;refine ⟨h1,h2,λy hy hl=>?_,λy hy hl=>?_,λy hy=>?_,λσ=>by simp [zas,h5],λσ i v x hv hx=>?_⟩
 ·rcases h3 y hy with z|z
  ·exact absurd hl z
  ·exact z
 ·show X.env.scope.names.lookup y.1=_\/X.env.scope.names.lookup y.1=_;rw [hX];rcases h4 y hy with z|z
  ·exact absurd hl z
  ·exact z
 ·have mem:∃k,(k=NameKind.cell\/k=NameKind.free)/\(y,k)∈(relabel scope X.env).names:=by
   rcases hy with z|z
   ·exact ⟨_,.inl rfl,PySem.mem_of_lookup z⟩
   ·exact ⟨_,.inr rfl,PySem.mem_of_lookup z⟩
  obtain ⟨k,hk,hm⟩:=mem;unfold relabel at hm;obtain ⟨⟨n,k'⟩,hm1,hm2⟩:=List.mem_map.mp hm;dsimp only at hm2;split at hm2
  ·rename_i hc;have:k'=.free:=(by rw [Bool.and_eq_true,Bool.and_eq_true] at hc;exact eq_of_beq hc.1.1);cases hm2;rw [<-this];exact hm1
  ·cases hm2;rcases hk with z|z
   ·exact absurd z (h2 _ hm1)
   ·rw [<-z];exact hm1
 ·have hl:i<ixs.length:=by have:=(qme hv).1;simpa [zas] using this
  unfold zas at hv;rw [qgm] at hv;have q:=h6 i (List.mem_range.mpr hl);cases e:ixs[i]? with
  |none=>rw [e] at hv;cases hv
  | some o =>
   rw [e] at hv;cases o with
   |none=>cases hv
   |some j=>
    rw [e] at q;dsimp only at q;rw [hx] at q;simp only [Bool.and_eq_true,beq_iff_eq] at q;have hv:((σ[j]?).join:Option V)=some v:=qoi hv;refine ⟨j,by rw [hN];exact q.1,?_,q.2⟩;cases e2:σ[j]? with
    |none=>rw [e2] at hv;cases hv
    |some o2=>rw [e2] at hv;have hv:o2=some v:=hv;rw [hv]
theorem ya6 {K:QFg}{H:Hp}{a:Addr}{ns:List Int}{m:FM}(hO:zib H) (hS:SqL K H a (ns.map V.int)) (h:∃S',m [.ref 0] [.flst (ns.map D.int)]=some (.bl true,S')):sp3 K 1 m [.ref a] H (λv _=>v=.bl true) λ_ _ _=>False:=by
 obtain ⟨S',h⟩:=h;have rn:∀ns:List Int,RDs [a] H (ns.map D.int) (ns.map V.int):=λns=>by
  induction ns with
  |nil=>exact .nil
  |cons x r ih=>exact .cons (.int x) ih
 refine ⟨rfl,[a],[.ref 0],_,_,S',⟨rfl,λi j b o1 o2 h1 h2 h3 h4 m1 m2=>?_,λn b o h1 h2=>?_⟩,.cons (.ref rfl) .nil,h,λρ' H' v' e s r=>?_⟩
 ·cases i with
  |zero=>cases h3;cases m1
  |succ i=>cases h3
 ·cases n with
  |succ n=>cases h1
  |zero=>
   cases h1;cases h2;refine ⟨_,?_,rn ns⟩;rcases hS with (z|⟨o,z⟩)|z
   ·rcases hO a with y|⟨o,xs,y⟩<;>(rw [z] at y;cases y)
   ·exact .inl ⟨o,z⟩
   ·exact .inr z
 ·cases r;rfl
noncomputable def top (b:List Stmt) (i:Nat):Stmt:=b.getD i (.Pass ⟨0,0,0,0⟩)
def We (m:EM) (l:Lo) (S:Sto) (Q:D->Sto->Prop):Prop:=∃v S',m l S=some (v,S')/\Q v S'
def Wt (m:TM) (l:Lo) (S:Sto) (Q:Bool->Sto->Prop):Prop:=∃v S',m l S=some (v,S')/\Q v S'
def Wa (m:AM) (l:Lo) (S:Sto) (Q:List D->Sto->Prop):Prop:=∃v S',m l S=some (v,S')/\Q v S'
def Wo (o:Option (D×Sto)) (Q:D->Sto->Prop):Prop:=∃v S',o=some (v,S')/\Q v S'
def Wg (o:Option (Lo×Sto)) (Q:Lo->Sto->Prop):Prop:=∃l S',o=some (l,S')/\Q l S'
def Wr (o:Option (Fl×Lo×Sto)) (Q:Fl->Lo->Sto->Prop):Prop:=∃f l S',o=some (f,l,S')/\Q f l S'
abbrev Ws (m:SM) (l:Lo) (S:Sto) (Q:Fl->Lo->Sto->Prop):Prop:=Wr (m l S) Q
section
theorem zah {i:Nat}:We (zaa i) l S Q=∃d,l[i]?=some (some d)/\Q d S:=by
 apply propext;unfold We zaa;constructor
 ·rintro ⟨v,S',h,q⟩;split at h
  ·rename_i d e;cases h;exact ⟨_,e,q⟩
  ·cases h
 ·rintro ⟨d,e,q⟩;exact ⟨d,S,by rw [e],q⟩
theorem zau:We (eC d) l S Q=Q d S:=by apply propext;unfold We eC;exact ⟨λhx1_=>by obtain ⟨v,S',h,q⟩:=hx1_;cases h;exact q,λq=>⟨_,_,rfl,q⟩⟩
theorem zaz {f:D->D->Sto->Option (D×Sto)}:We (eOp f a b) l S Q=We a l S λx S1=>We b l S1 λy S2=>Wo (f x y S2) Q:=by
 apply propext;constructor
 ·rintro ⟨v,S',h,q⟩;obtain ⟨⟨x,S1⟩,h1,h⟩:=bnd h;obtain ⟨⟨y,S2⟩,h2,h⟩:=bnd h;exact ⟨x,S1,h1,y,S2,h2,v,S',h,q⟩
 ·rintro ⟨x,S1,h1,y,S2,h2,v,S',h,q⟩;exact ⟨v,S',by unfold eOp;rw [h1];show (b l S1).bind _=_;rw [h2];exact h,q⟩
theorem zeb {f:D->Sto->Option (D×Sto)}:We (eUn f a) l S Q=We a l S λx S1=>Wo (f x S1) Q:=by
 apply propext;constructor
 ·rintro ⟨v,S',h,q⟩;obtain ⟨⟨x,S1⟩,h1,h⟩:=bnd h;exact ⟨x,S1,h1,v,S',h,q⟩
 ·rintro ⟨x,S1,h1,v,S',h,q⟩;exact ⟨v,S',by unfold eUn;rw [h1];exact h,q⟩
theorem zam:Wa zac l S QA=QA [] S:=by apply propext;exact ⟨λhx2_=>by obtain ⟨v,S',h,q⟩:=hx2_;cases h;exact q,λq=>⟨_,_,rfl,q⟩⟩
theorem zan:Wa (zab a r) l S QA=We a l S λx S1=>Wa r l S1 λxs S2=>QA (x::xs) S2:=by
 apply propext;constructor
 ·rintro ⟨v,S',h,q⟩;obtain ⟨⟨x,S1⟩,h1,h⟩:=bnd h;obtain ⟨⟨y,S2⟩,h2,h⟩:=bnd h;cases h;exact ⟨x,S1,h1,y,_,h2,q⟩
 ·rintro ⟨x,S1,h1,y,S2,h2,q⟩;exact ⟨x::y,S2,by unfold zab;rw [h1];show (r l S1).bind _=_;rw [h2];rfl,q⟩
theorem zap:We (zad f r) l S Q=Wa r l S λxs S1=>Wo (f xs S1) Q:=by
 apply propext;constructor
 ·rintro ⟨v,S',h,q⟩;obtain ⟨⟨x,S1⟩,h1,h⟩:=bnd h;exact ⟨x,S1,h1,v,S',h,q⟩
 ·rintro ⟨x,S1,h1,v,S',h,q⟩;exact ⟨v,S',by unfold zad;rw [h1];exact h,q⟩
theorem zcz {f:D->List D->Sto->Option (D×Sto)}:We (zbu f a r) l S Q=We a l S λx S1=>(∃xs,zfj x S1=some xs)/\Wa r l S1 λys S2=>Wo (f x ys S2) Q:=by
 apply propext;constructor
 ·rintro ⟨v,S',h,q⟩;obtain ⟨⟨x,S1⟩,h1,h⟩:=bnd h;obtain ⟨xs,h2,h⟩:=bnd h;obtain ⟨⟨y,S2⟩,h3,h⟩:=bnd h;exact ⟨x,S1,h1,⟨xs,h2⟩,y,S2,h3,v,S',h,q⟩
 ·rintro ⟨x,S1,h1,⟨xs,h2⟩,y,S2,h3,v,S',h,q⟩;refine ⟨v,S',?_,q⟩;unfold zbu;rw [h1];show (zfj x S1).bind _=_;rw [h2];show (r l S1).bind _=_;rw [h3];exact h
theorem zbl:Wt (tE a) l S QB=We a l S λx S1=>∃k,x=.bl k/\QB k S1:=by
 apply propext;constructor
 ·rintro ⟨v,S',h,q⟩;obtain ⟨⟨x,S1⟩,h1,h⟩:=bnd h;refine ⟨x,S1,h1,?_⟩;cases x with
  |bl k=>cases h;exact ⟨_,rfl,q⟩
  |_=>cases h
 ·rintro ⟨x,S1,h1,k,rfl,q⟩;exact ⟨k,S1,by unfold tE;rw [h1];rfl,q⟩
theorem zeu:Wt (zb9 t u) l S QB=Wt t l S λk S1=>if k=true then Wt u l S1 QB else QB false S1:=by
 apply propext;constructor
 ·rintro ⟨v,S',h,q⟩;obtain ⟨⟨x,S1⟩,h1,h⟩:=bnd h;refine ⟨x,S1,h1,?_⟩;cases x with
  |true=>exact ⟨v,S',h,q⟩
  |false=>cases h;exact q
 ·rintro ⟨x,S1,h1,h⟩;cases x with
  |true=>obtain ⟨v,S',h,q⟩:=h;exact ⟨v,S',by unfold zb9;rw [h1];exact h,q⟩
  |false=>exact ⟨false,S1,by unfold zb9;rw [h1];rfl,h⟩
theorem zgs:Wt (zd7 t u) l S QB=Wt t l S λk S1=>if k=true then QB true S1 else Wt u l S1 QB:=by
 apply propext;constructor
 ·rintro ⟨v,S',h,q⟩;obtain ⟨⟨x,S1⟩,h1,h⟩:=bnd h;refine ⟨x,S1,h1,?_⟩;cases x with
  |false=>exact ⟨v,S',h,q⟩
  |true=>cases h;exact q
 ·rintro ⟨x,S1,h1,h⟩;cases x with
  |false=>obtain ⟨v,S',h,q⟩:=h;exact ⟨v,S',by unfold zd7;rw [h1];exact h,q⟩
  |true=>exact ⟨true,S1,by unfold zd7;rw [h1];rfl,h⟩
theorem zc3:Wt (zcf t) l S QB=Wt t l S λk S1=>QB (!k) S1:=by
 apply propext;constructor
 ·rintro ⟨v,S',h,q⟩;obtain ⟨⟨x,S1⟩,h1,h⟩:=bnd h;cases h;exact ⟨x,_,h1,q⟩
 ·rintro ⟨x,S1,h1,q⟩;exact ⟨!x,S1,by unfold zcf;rw [h1];rfl,q⟩
theorem zgt:Wt za6 l S QB=QB true S:=by apply propext;exact ⟨λhx3_=>by obtain ⟨v,S',h,q⟩:=hx3_;cases h;exact q,λq=>⟨_,_,rfl,q⟩⟩
theorem zkz:We (zeq a b) l S Q=We a l S λx S1=>∃k,x=.bl k/\if k=true then We b l S1 Q else Q (.bl false) S1:=by
 apply propext;constructor
 ·rintro ⟨v,S',h,q⟩;obtain ⟨⟨x,S1⟩,h1,h⟩:=bnd h;refine ⟨x,S1,h1,?_⟩;cases x with
  |bl k=>
   cases k with
   |true=>exact ⟨true,rfl,v,S',h,q⟩
   |false=>cases h;exact ⟨false,rfl,q⟩
  |_=>cases h
 ·rintro ⟨x,S1,h1,k,rfl,h⟩;cases k with
  |true=>obtain ⟨v,S',h,q⟩:=h;exact ⟨v,S',by unfold zeq;rw [h1];exact h,q⟩
  |false=>exact ⟨_,S1,by unfold zeq;rw [h1];rfl,h⟩
theorem zcb:Ws zbh l S QS=QS .nx l S:=by apply propext;exact ⟨λhx4_=>by obtain ⟨f,v,S',h,q⟩:=hx4_;cases h;exact q,λq=>⟨_,_,_,rfl,q⟩⟩
theorem zio:Ws (zaf m n) l S QS=Ws m l S λf l1 S1=>match f with | .nx=>Ws n l1 S1 QS|f=>QS f l1 S1:=by
 apply propext;constructor
 ·rintro ⟨f,v,S',h,q⟩;obtain ⟨⟨g,l1,S1⟩,h1,h⟩:=bnd h;refine ⟨g,l1,S1,h1,?_⟩;cases g with
  |nx=>exact ⟨f,v,S',h,q⟩
  |_=>cases h;exact q
 ·rintro ⟨g,l1,S1,h1,h⟩;cases g with
  |nx=>obtain ⟨f,v,S',h,q⟩:=h;exact ⟨f,v,S',by unfold zaf;rw [h1];exact h,q⟩
  |bk=>exact ⟨_,_,_,by unfold zaf;rw [h1];rfl,h⟩
  |ct=>exact ⟨_,_,_,by unfold zaf;rw [h1];rfl,h⟩
  |rt d=>exact ⟨_,_,_,by unfold zaf;rw [h1];rfl,h⟩
theorem za1 (R:Lo->Sto->Prop) (h1:Ws m l S λf l1 S1=>f=.nx/\R l1 S1) (h2:∀l1 S1,R l1 S1->Ws n l1 S1 QS):Ws (zaf m n) l S QS:=by rw [zio];obtain ⟨f,l1,S1,e,rfl,r⟩:=h1;exact ⟨_,_,_,e,h2 l1 S1 r⟩
theorem zpa:Ws (sIf t m n) l S QS=Wt t l S λk S1=>if k=true then Ws m l S1 QS else Ws n l S1 QS:=by
 apply propext;constructor
 ·rintro ⟨f,v,S',h,q⟩;obtain ⟨⟨x,S1⟩,h1,h⟩:=bnd h;refine ⟨x,S1,h1,?_⟩;cases x with
  |true=>exact ⟨f,v,S',h,q⟩
  |false=>exact ⟨f,v,S',h,q⟩
 ·rintro ⟨x,S1,h1,h⟩;cases x with
  |true=>obtain ⟨f,v,S',h,q⟩:=h;exact ⟨f,v,S',by unfold sIf;rw [h1];exact h,q⟩
  |false=>obtain ⟨f,v,S',h,q⟩:=h;exact ⟨f,v,S',by unfold sIf;rw [h1];exact h,q⟩
theorem zdf:Ws (zch a) l S QS=We a l S λ_ S1=>QS .nx l S1:=by
 apply propext;constructor
 ·rintro ⟨f,v,S',h,q⟩;obtain ⟨⟨x,S1⟩,h1,h⟩:=bnd h;cases h;exact ⟨x,_,h1,q⟩
 ·rintro ⟨x,S1,h1,q⟩;exact ⟨_,_,_,by unfold zch;rw [h1];rfl,q⟩
theorem zcc:Ws (zaw a) l S QS=We a l S λx S1=>QS (.rt x) l S1:=by
 apply propext;constructor
 ·rintro ⟨f,v,S',h,q⟩;obtain ⟨⟨x,S1⟩,h1,h⟩:=bnd h;cases h;exact ⟨x,_,h1,q⟩
 ·rintro ⟨x,S1,h1,q⟩;exact ⟨_,_,_,by unfold zaw;rw [h1];rfl,q⟩
theorem za7:Ws (zai a g) l S QS=We a l S λx S1=>Wg (g x l S1) λl2 S2=>QS .nx l2 S2:=by
 apply propext;constructor
 ·rintro ⟨f,v,S',h,q⟩;obtain ⟨⟨x,S1⟩,h1,h⟩:=bnd h;obtain ⟨⟨l2,S2⟩,h2,h⟩:=bnd h;cases h;exact ⟨x,S1,h1,_,_,h2,q⟩
 ·rintro ⟨x,S1,h1,l2,S2,h2,q⟩;refine ⟨_,_,_,?_,q⟩;unfold zai;rw [h1];show (g x l S1).bind _=_;rw [h2];rfl
theorem zao {i:Nat}:Wg (zae i d l S) QG=QG (l.set i (some d)) S:=by apply propext;exact ⟨λhx7_=>by obtain ⟨v,S',h,q⟩:=hx7_;cases h;exact q,λq=>⟨_,_,rfl,q⟩⟩
theorem zfk {k:Nat}{gs:GsM}:Wg (zd9 k gs (.tup xs) l S) QG=(xs.length=k/\Wg (gs xs l S) QG):=by
 apply propext;constructor
 ·rintro ⟨v,S',h,q⟩;have h:(if xs.length=k then gs xs l S else none)=some (v,S'):=h;by_cases hl:xs.length=k
  ·rw [if_pos hl] at h;exact ⟨hl,v,S',h,q⟩
  ·rw [if_neg hl] at h;cases h
 ·rintro ⟨hl,v,S',h,q⟩;exact ⟨v,S',by show (if xs.length=k then gs xs l S else none)=_;rw [if_pos hl];exact h,q⟩
theorem zfl:Wg (zd8 [] l S) QG=QG l S:=by apply propext;exact ⟨λhx8_=>by obtain ⟨v,S',h,q⟩:=hx8_;cases h;exact q,λq=>⟨_,_,rfl,q⟩⟩
theorem zfm {gs:GsM}:Wg (zci g gs (x::xs) l S) QG=Wg (g x l S) λl1 S1=>Wg (gs xs l1 S1) QG:=by
 apply propext;constructor
 ·rintro ⟨v,S',h,q⟩;obtain ⟨⟨l1,S1⟩,h1,h⟩:=bnd h;exact ⟨l1,S1,h1,v,S',h,q⟩
 ·rintro ⟨l1,S1,h1,v,S',h,q⟩;exact ⟨v,S',by show (g x l S).bind _=_;rw [h1];exact h,q⟩
theorem ziq:Wg (zcw o i v l S) QG=We o l S λx S1=>We i l S1 λy S2=>∃S',zcl x y v S2=some S'/\QG l S':=by
 apply propext;constructor
 ·rintro ⟨l',S',h,q⟩;obtain ⟨⟨x,S1⟩,h1,h⟩:=bnd h;obtain ⟨⟨y,S2⟩,h2,h⟩:=bnd h;obtain ⟨S3,h3,h⟩:=bnd h;cases h;exact ⟨x,S1,h1,y,S2,h2,_,h3,q⟩
 ·rintro ⟨x,S1,h1,y,S2,h2,S3,h3,q⟩;refine ⟨l,S3,?_,q⟩;unfold zcw;rw [h1];show (i l S1).bind _=_;rw [h2];show (zcl x y v S2).bind _=_;rw [h3];rfl
theorem zbd:Wo (some (d,S)) Q=Q d S:=by apply propext;exact ⟨λhx9_=>by obtain ⟨v,S',h,q⟩:=hx9_;cases h;exact q,λq=>⟨_,_,rfl,q⟩⟩
theorem zev {α:Type}{o:Option α}{f:α->Option (D×Sto)}:Wo (o.bind f) Q=∃x,o=some x/\Wo (f x) Q:=by
 cases o with
 |none=>simp [Wo]
 |some x=>simp [Wo]
theorem zec {p:Prop} [Decidable p] {x:D×Sto}:Wo (if p then some x else none) Q=(p/\Q x.1 x.2):=by
 obtain ⟨a,b⟩:=x;by_cases hp:p
 ·rw [if_pos hp];apply propext;exact ⟨λhx10_=>by obtain ⟨v,S',h,q⟩:=hx10_;cases h;exact ⟨hp,q⟩,λq=>⟨a,b,rfl,q.2⟩⟩
 ·simp [hp,Wo]
theorem zed {g:Int->Int->D}{i j:Int}:Wo (oI0 g (.int i) (.int j) S) Q=Q (g i j) S:=zbd
theorem zee {C:Int->Int->Bool}{g:Int->Int->D}{i j:Int}:Wo (oI C g (.int i) (.int j) S) Q=(C i j=true/\Q (g i j) S):=zec
theorem zk0 {xs:List D}{i:Int}:Wo (dIx (.tup xs) (.int i) S) Q=∃v,L2.atI xs i=some v/\Q v S:=by show Wo ((L2.atI xs i).bind λv=>some (v,S)) Q=_;rw [zev];simp only [zbd]
theorem zk1 {k:Nat}{i:Int}:Wo (dIx (.ref k) (.int i) S) Q=∃xs,lstOf S k=some xs/\∃v,L2.atI xs i=some v/\Q v S:=by show Wo ((lstOf S k).bind λxs=>(L2.atI xs i).bind λv=>some (v,S)) Q=_;rw [zev];simp only [zev,zbd]
theorem zk2:Wo (zgn [.tup xs] S) Q=Q (.int xs.length) S:=zbd
theorem zk3 {k:Nat}:Wo (zgn [.ref k] S) Q=∃xs,lstOf S k=some xs/\Q (.int xs.length) S:=by show Wo ((lstOf S k).bind λxs=>some (.int xs.length,S)) Q=_;rw [zev];simp only [zbd]
theorem zpb {i:Int}:Wo (zer [.int i] S) Q=Q (.int (if i<0 then -i else i)) S:=zbd
theorem zcn:Wo (zba xs S) Q=(xs.length<=sizeLine/\Q (.tup xs) S):=zec
theorem zdg:Wo (zbr xs S) Q=(xs.length<=sizeLine/\Q (.ref S.length) (S++[.lst xs])):=zec
theorem zir {k:Nat}:Wo (zes [.ref k] S) Q=∃xs,lstOf S k=some xs/\Q (.tup xs) S:=by show Wo ((lstOf S k).bind λxs=>some (.tup xs,S)) Q=_;rw [zev];simp only [zbd]
theorem zgu {i j:Int}:Wo (dEq (.int i) (.int j) S) Q=Q (.bl (decide (i=j))) S:=zbd
theorem zpc:Wo (zfh x .non S) Q=Q (.bl (!zgm x)) S:=by cases x<;>exact zbd
theorem ya7 {k:Nat}:Wo (zb6 (.ref k) [x] S) Q=∃xs,S[k]?=some (.lst xs)/\xs.length<sizeLine/\Q .non (S.set k (.lst (xs++[x]))):=by
 show Wo (match S[k]? with|some (.lst xs)=>if xs.length<sizeLine then some (.non,S.set k (.lst (xs++[x]))) else none|_=>none) Q=_;cases e:S[k]? with
 |none=>simp [Wo]
 |some o=>
  cases o with
  |lst xs=>simp [zec]
  |flst xs=>simp [Wo]
  |iset f n=>simp [Wo]
  |dct kvs=>simp [Wo]
  |fdct kvs=>simp [Wo]
  |ftdct kvs=>simp [Wo]
  |tset ks=>simp [Wo]
  |fnc x=>simp [Wo]
  |tdct kvs=>simp [Wo]
  |exc c=>simp [Wo]
theorem zbw {k:Nat}{b:SM}{ds:List D}:Wo (zbc k b ds S) Q=Ws b (ds.map some++List.replicate (k-ds.length) none) S λf _ S1=>match f with | .rt d=>Q d S1 | .nx=>Q .non S1|_=>False:=by
 apply propext;constructor
 ·rintro ⟨v,S',h,q⟩;obtain ⟨⟨f,l1,S1⟩,h1,h⟩:=bnd h;refine ⟨f,l1,S1,h1,?_⟩;cases f with
  |rt d=>cases h;exact q
  |nx=>cases h;exact q
  |bk=>cases h
  |ct=>cases h
 ·rintro ⟨f,l1,S1,h1,q⟩;cases f with
  |rt d=>exact ⟨_,_,by unfold zbc;rw [h1];rfl,q⟩
  |nx=>exact ⟨_,_,by unfold zbc;rw [h1];rfl,q⟩
  |bk=>cases q
  |ct=>cases q
end
theorem Wo.mono {o:Option (D×Sto)}(h:Wo o Q) (i:∀v S,Q v S->Q' v S):Wo o Q':=let ⟨v,S,e,q⟩:=h;⟨v,S,e,i v S q⟩
theorem Wr.mono {o:Option (Fl×Lo×Sto)}(h:Wr o Q) (i:∀f v S,Q f v S->Q' f v S):Wr o Q':=let ⟨f,v,S,e,q⟩:=h;⟨f,v,S,e,i f v S q⟩
section
theorem ya8:Ws (zca (za5 as) g b) l S QS=Wa as l S λxs S1=>∃j,xs=[.int j]/\(-(2^62)<=j/\j<2^62)/\Wr (zcx g b (zal 0 j.toNat) l S1) QS:=by
 apply propext;constructor
 ·rintro ⟨f,v,S',h,q⟩;obtain ⟨⟨⟨lo,n⟩,S1⟩,h1,h⟩:=bnd h;obtain ⟨⟨xs,S2⟩,h2,h1⟩:=bnd h1;dsimp only at h1;split at h1
  ·rename_i j;obtain ⟨hz,e⟩:=zbb h1;cases e;exact ⟨_,_,h2,j,rfl,hz,f,v,S',h,q⟩
  ·cases h1
 ·rintro ⟨xs,S1,h1,j,rfl,hz,f,v,S',h,q⟩;refine ⟨f,v,S',?_,q⟩;have:za5 as l S=some ((0,j.toNat),S1):=by unfold za5;rw [h1];show (if _ then _ else _)=_;rw [if_pos hz]
  unfold zca;show (za5 as l S).bind _=_;rw [this];exact h
theorem ya9:Ws (zea e g b) l S QS=We e l S λx S1=>Wr (match x with | .tup xs=>zcx g b xs l S1 | .ref n=>(lstOf S1 n).bind λxs=>zcy g b n (xs.length+1) 0 l S1|_=>none) QS:=by
 apply propext;constructor
 ·rintro ⟨f,v,S',h,q⟩;obtain ⟨⟨x,S1⟩,h1,h⟩:=bnd h;exact ⟨x,S1,h1,f,v,S',h,q⟩
 ·rintro ⟨x,S1,h1,f,v,S',h,q⟩;exact ⟨f,v,S',by unfold zea;rw [h1];exact h,q⟩
theorem zis {lo:Int}{n i:Nat}(h:(zal lo n)[i]?=some x):i<n/\x=.int (lo+i):=by have hl:=(qme h).1;simp only [zal,qlm,List.length_range] at hl;unfold zal at h;rw [qgm,List.getElem?_range hl] at h;exact ⟨hl,(qoi h).symm⟩
theorem zdt (lo:Int) (n:Nat):(zal lo n).length=n:=by simp [zal]
end
mutual
noncomputable def zbm (S:Sto):Nat->D->Option PyData
 |0,_=>none
 |_+1,.non=>some .none
 |_+1,.bl b=>some (.bool b)
 |_+1,.int i=>if i.natAbs.log2<1920 then some (.int i) else none
 |_+1,.str x=>some (.str x)
 |k+1,.tup xs=>(pyAll S k xs).bind λds=>some (.tuple ds)
 |k+1,.ref n=>(lstOf S n).bind λxs=>(pyAll S k xs).bind λds=>some (.list ds)
 |_+1,.fn _=>none
termination_by k=>(k,0)
noncomputable def pyAll (S:Sto):Nat->List D->Option (List PyData)
 |_,[]=>some []
 |k,x::xs=>(zbm S k x).bind λd=>(pyAll S k xs).bind λds=>some (d::ds)
termination_by k xs=>(k,xs.length+1)
end
section
theorem zpd (I:'%') (sim:Sim X.K ρ S H) (ih:∀(d:D) (v:V) (u:Value) (p:PyData),RD ρ H d v->RelV v u->zbm S k d=some p->(∃as,Reads s.heap u p as)/\p.showable=true/\p.hasDict=false/\p.depth<=k):∀(xs:List D) (vs:List V) (us:List Value) (ds:List PyData),RDs ρ H xs vs->Vals vs us->pyAll S k xs=some ds->(∃as,ReadsAll s.heap us ds as)/\PyData.showableAll ds=true/\PyData.hasDictAll ds=false/\PyData.depthAll ds<=k:=by
 intro xs;induction xs with
 |nil=>intro vs us ds r e h;unfold pyAll at h;cases h;cases r;cases e;exact ⟨⟨_,.nil⟩,rfl,rfl,Nat.zero_le _⟩
 | cons x xs ihx =>
  intro vs us ds r e h;unfold pyAll at h;obtain ⟨d,h1,h⟩:=bnd h;obtain ⟨ds',h2,h⟩:=bnd h;cases h;cases r with
  | cons r1 r2 =>
   cases e with
   |cons e1 e2=>
    obtain ⟨⟨as,q1⟩,q2,q3,q4⟩:=ih x _ _ d r1 e1 h1;obtain ⟨⟨bs,p1⟩,p2,p3,p4⟩:=ihx _ _ ds' r2 e2 h2;refine ⟨⟨_,.cons q1 p1⟩,?_,?_,?_⟩
    ·unfold PyData.showableAll;rw [q2,p2];rfl
    ·unfold PyData.hasDictAll;rw [q3,p3];rfl
    ·unfold PyData.depthAll;omega
theorem zpe (I:'%') (sim:Sim X.K ρ S H):∀(k:Nat) (d:D) (v:V) (u:Value) (p:PyData),RD ρ H d v->RelV v u->zbm S k d=some p->(∃as,Reads s.heap u p as)/\p.showable=true/\p.hasDict=false/\p.depth<=k:=by
 intro k;induction k with
 |zero=>intro d v u p _ _ h;unfold zbm at h;cases h
 | succ k ih =>
  intro d v u p r e h;cases d with
  |non  =>unfold zbm at h;cases h;cases r;cases e;exact ⟨⟨_,.none⟩,rfl,rfl,Nat.zero_le _⟩
  |bl b=>unfold zbm at h;cases h;cases r;cases e;exact ⟨⟨_,.bool b⟩,rfl,rfl,Nat.zero_le _⟩
  |int i=>unfold zbm at h;obtain ⟨hz,e2⟩:=zbb h;cases e2;cases r;obtain ⟨t,rfl⟩:=e;exact ⟨⟨_,.int i t⟩,by unfold PyData.showable;exact decide_eq_true hz,rfl,Nat.zero_le _⟩
  |str x=>unfold zbm at h;cases h;cases r;obtain ⟨t,rfl⟩:=e;exact ⟨⟨_,.str x t⟩,rfl,rfl,Nat.zero_le _⟩
  |fn _=>unfold zbm at h;cases h
  | tup xs =>
   unfold zbm at h;obtain ⟨ds,h1,h⟩:=bnd h;cases h;cases r with
   |tup ha r=>
    cases e;obtain ⟨its,rv,⟨o,ho,hc,n,hd⟩,hz⟩:=I.tuple (SqT.of ha);obtain ⟨⟨as,h2⟩,h3,h4,h5⟩:=zpd I sim ih xs _ _ ds r rv h1;refine ⟨⟨as,.tuple ho hc hd (by simpa using h2)⟩,?_,?_,?_⟩
    ·unfold PyData.showable;exact h3
    ·unfold PyData.hasDict;exact h4
    ·unfold PyData.depth;omega
  | ref n =>
   unfold zbm at h;obtain ⟨xs,h0,h⟩:=bnd h;obtain ⟨ds,h1,h⟩:=bnd h;cases h;obtain ⟨a,vs,ha,sq,rd⟩:=sim.lstOf h0;cases r with
   |ref hn=>
    rw [ha] at hn;cases hn;cases e;obtain ⟨its,rv,pl,hz⟩:=I.list sq;obtain ⟨o,ho,hc,m,hd⟩:=pl.isList;obtain ⟨⟨as,h2⟩,h3,h4,h5⟩:=zpd I sim ih xs _ _ ds rd rv h1;refine ⟨⟨_,.list ho hc hd (by simpa using h2)⟩,?_,?_,?_⟩
    ·unfold PyData.showable;exact h3
    ·unfold PyData.hasDict;exact h4
    ·unfold PyData.depth;omega
end
section
end
theorem yba:fillsNumberSlot (.type "tuple") "mul" = pure false :=
 PySem.fillsNumberSlot_seq (id:="tuple.__mul__") (r:=some (.builtin "tuple.__rmul__")) PySem.F.slot_tuple_mul.lookup (by decide +kernel) PySem.F.slot_tuple_rmul.lookup (by decide +kernel)
theorem ybb:seqRepeat? (.type "tuple")=pure (some (.builtin "tuple.__mul__")):=by unfold seqRepeat?;rw [PySem.seqSlot_of (T:="tuple") (name:="__mul__") (id:="tuple.__mul__") PySem.F.slot_tuple_mul.lookup (by decide +kernel),PySem.seqSlot_of (T:="tuple") (name:="__rmul__") (id:="tuple.__rmul__") PySem.F.slot_tuple_rmul.lookup (by decide +kernel)];rfl
open PySem.AutoSeq1 (wpAny_loadPart')
theorem ybc (a:Int) (t:Tok) (l:Addr) (items:Array Value) (n:Nat) (dd:Option Addr) (sl:Array (Option Value)) :
  Meets (Builtin.«int.__rmul__» ⟨[.int a t,.ref l],[]⟩) (λ_ R s=>s.heap.get? l=some {cls:=.type "tuple",dict:=dd,data:=.seq items n,slots:=sl}/\R (.ok (.ret Value.notImplemented)) s) :=
 .of_wp λprog w A R s h=>by obtain ⟨hp,g,d,tk,os⟩:=s;obtain ⟨hl,h⟩:=h;wp_walk;exact ⟨_,rfl,h⟩
section
theorem ybd (ht:IsTup s.heap t items) (k0:2<=k) (k1:k<2^31) (hi:items.isEmpty=false) (hz:items.size*k.toNat<=sizeLine)
  (h:Q (.ref s.heap.objs.size) {s with heap:=s.heap.push {cls:=.type "tuple",data:=.seq ((List.replicate k.toNat items).foldl (·++·) #[])}}) (h6:((List.replicate k.toNat items).foldl (·++·) #[]).size<=sizeLine) :
  wpAny '&' A (call (.builtin "tuple.__mul__") [.ref t,.int k u]) Q E s:=by
 refine wpAny_call_entry PySem.F.slot_tuple_mul ht.typeIs PySem.F.entry_tuple_mul ?_ (PySem.F.args_tuple_mul_2 _ _);show wpAny _ _ (asIndex (.int k u)>>=_) _ _ s;refine qwb ?_;show wpAny _ _ (pure k) _ _ s;refine qwp ?_;have e1:(decide (k < -(2^63))||decide (k≥2^63))=false:=by rw [Bool.or_eq_false_iff];exact ⟨decide_eq_false (by omega),decide_eq_false (by omega)⟩
 have e2:(items.isEmpty||k==1)=false:=by rw [hi,Bool.false_or];exact beq_false_of_ne (by omega)
 have e3:(decide (k<=0)||items.isEmpty)=false:=by rw [hi,Bool.or_false];exact decide_eq_false (by omega)
 show wpAny _ _ (if (decide (k < -(2^63))||decide (k≥2^63))=true then _ else _) _ _ s;rw [if_neg (by rw [e1];exact Bool.false_ne_true)];refine qwb (tupleItemsOf_ ht ?_);show wpAny _ _ (if (items.isEmpty||k==1)=true then _ else _) _ _ s;rw [if_neg (by rw [e2];exact Bool.false_ne_true)];show wpAny _ _ (if (decide (k<=0)||items.isEmpty)=true then _ else _) _ _ s;rw [if_neg (by rw [e3];exact Bool.false_ne_true)];have hk:(items.size:Int)*k=((items.size*k.toNat:Nat):Int):=by rw [Int.natCast_mul,Int.toNat_of_nonneg (by omega)]
 have hs:(sizeLine:Nat)=16777216:=by decide
 show wpAny _ _ (if (items.size:Int)*k>(2^63-1)/8 then _ else _) _ _ s;rw [if_neg (by rw [hk];omega)];show wpAny _ _ (if Builtin.Tuple.tupleTooMany ((items.size:Int)*k)=true then _ else _) _ _ s;rw [if_neg (by unfold Builtin.Tuple.tupleTooMany;rw [hk];simp only [decide_eq_true_eq];omega)]
 first
  |exact qwb (m:=Builtin.Tuple.tupleExact _) (wpAny_newObj_type (qwp ⟨_,rfl,h⟩) h6)
  |exact qwb (m:=Builtin.Tuple.tupleExact _) (wpAny_newObj_type (qwp ⟨_,rfl,qwp h⟩) h6)
theorem ybe (ht:IsTup s.heap t items) (h:Q (.ref t) s) :
  wpAny '&' A (call (.builtin "tuple.__mul__") [.ref t,.int 1 u]) Q E s:=by
 refine wpAny_call_entry PySem.F.slot_tuple_mul ht.typeIs PySem.F.entry_tuple_mul ?_ (PySem.F.args_tuple_mul_2 _ _);show wpAny _ _ (asIndex (.int 1 u)>>=_) _ _ s;refine qwb ?_;show wpAny _ _ (pure (1:Int)) _ _ s;refine qwp ?_;show wpAny _ _ (if (decide ((1:Int) < -(2^63))||decide ((1:Int)≥2^63))=true then _ else _) _ _ s;rw [if_neg '$'];refine qwb (tupleItemsOf_ ht ?_);show wpAny _ _ (if (items.isEmpty||(1:Int)==1)=true then _ else _) _ _ s;rw [if_pos '*'];unfold Builtin.Tuple.tupleIsExact;refine qwb (qwb (wpAny_typeOf ht.typeIs (qwp ?_)));rw [if_pos '$'];exact qwb (wpAny_rule (qwp ⟨_,rfl,h⟩))
theorem ybf (ht:IsTup s.heap t items) (k0:k=0) (hi:items.isEmpty=false)
  (h:Q (.ref s.heap.objs.size) {s with heap:=s.heap.push {cls:=.type "tuple",data:=.seq #[]}}) :
  wpAny '&' A (call (.builtin "tuple.__mul__") [.ref t,.int k u]) Q E s:=by
 subst k0;refine wpAny_call_entry PySem.F.slot_tuple_mul ht.typeIs PySem.F.entry_tuple_mul ?_ (PySem.F.args_tuple_mul_2 _ _);show wpAny _ _ (asIndex (.int 0 u)>>=_) _ _ s;refine qwb ?_;show wpAny _ _ (pure (0:Int)) _ _ s;refine qwp ?_;show wpAny _ _ (if (decide ((0:Int) < -(2^63))||decide ((0:Int)≥2^63))=true then _ else _) _ _ s;rw [if_neg '$'];refine qwb (tupleItemsOf_ ht ?_);show wpAny _ _ (if (items.isEmpty||(0:Int)==1)=true then _ else _) _ _ s;rw [if_neg (by rw [hi];decide)];show wpAny _ _ (if (decide ((0:Int)<=0)||items.isEmpty)=true then _ else _) _ _ s;rw [if_pos '*']
 first
  |exact qwb (m:=Builtin.Tuple.tupleExact _) (wpAny_newObj_type (qwp ⟨_,rfl,h⟩) (Nat.zero_le _))
  |exact qwb (m:=Builtin.Tuple.tupleExact _) (wpAny_newObj_type (qwp ⟨_,rfl,h⟩) '$')
end
def zpf (K:QFg):R2:=λx y H Q=>∃a k xs,x=.ref a/\y=.int k/\SqT K H a xs/\xs≠[]/\0<=k/\k<2^31/\xs.length*k.toNat<=sizeLine /\
 (k=1->Q (.ref a) H)/\(k≠1->∀p,H p=none->Q (.ref p) (upd H p (.tup (List.replicate k.toNat xs).flatten)))
theorem ybg:OpR X (binaryOp .Mult) (zpf X.K):=by
 intro pins s σ H x y v u Q I rx ry h;obtain ⟨a,k,xs,rfl,rfl,hx,hne,k0,k1,hz,q1,q2⟩:=h;cases rx;obtain ⟨t,rfl⟩:=ry;obtain ⟨its,r,pt,_⟩:=I.tuple hx;have hne':its≠[]:=λz=>hne (r.nil_iff.mp z);have hie:its.toArray.isEmpty=false:=by cases its with
  |nil=>exact absurd rfl hne'
  |cons _ _=>simp
 obtain ⟨⟨cls,dd,data,sl⟩,ho,hc,n,hd⟩:=id pt;simp only at hc hd;subst hc hd;refine wpAny_binaryOp_repeat_ref (T:="tuple") (U:="int") (by decide) ⟨_,ho,rfl⟩ (λs'=>typeIs_int s' k t) yba PySem.F.fills_int_mul PySem.F.slot_int_rmul ybb PySem.F.slot_int_index.lookup
  (call_meets PySem.F.slot_int_rmul (typeIs_int s k t) PySem.F.entry_int_rmul (PySem.F.args_int_rmul_2 _ _) (ybc k t a its.toArray n dd sl) ⟨ho,rfl,⟨_,ho,rfl⟩,?_⟩)
 have f0:∀m:Nat,List.foldl (λx1 x2=>x1++x2) #[] (List.replicate m its.toArray)=(List.replicate m its).flatten.toArray:=λm=>by have:=zoa its m [];rw [List.nil_append] at this;exact this
 have hl:xs.length=its.length:=r.length;by_cases e1:k=1
 ·subst e1;exact ybe pt ⟨.ref a,H,I,rfl,q1 rfl⟩
 ·by_cases e0:k=0
  ·refine ybf pt e0 hie ?_;have hv:Vals ([]:List V) ([]:List Value):=.nil;refine ⟨.ref s.heap.objs.size,_,I.laid (t':=s.toks) (o:=.tup []) (λb ob q=>qps _ q) (qlr _) ?_,rfl,?_⟩
   ·exact ⟨Nat.zero_le _,[],.nil,IsTD.new _ _⟩
   ·have:=q2 e1 _ (I.hok.fresh (qlr _));subst e0;exact this
  ·have hlen:(List.replicate k.toNat its).flatten.length=k.toNat*its.length:=zof its k.toNat;refine ybd pt (by omega) k1 hie (by rw [List.size_toArray,<-hl];exact hz) ?_ ?_
   ·rw [f0];refine ⟨.ref s.heap.objs.size,_,I.laid (t':=s.toks) (o:=.tup (List.replicate k.toNat xs).flatten) (λb ob q=>qps _ q) (qlr _) ?_,rfl,q2 e1 _ (I.hok.fresh (qlr _))⟩;exact ⟨by rw [zof,Nat.mul_comm];exact hz,_,r.rep k.toNat,IsTD.new _ _⟩
   ·rw [f0,List.size_toArray,hlen,Nat.mul_comm,<-hl];exact hz
noncomputable def zdu:D->D->Sto->Option (D×Sto)
 | .int i,.int j,S=>if (-(2^64)<i/\i<2^64)\/(-(2^64)<j/\j<2^64) then some (.int (i*j),S) else none
 | .tup (x::xs),.int k,S=>if 0<=k/\k<2^31/\(xs.length+1)*k.toNat<=sizeLine then some (.tup (List.replicate k.toNat (x::xs)).flatten,S) else none
 |_,_,_=>none
theorem ybh {K:QFg}:Op3 K zdu (λx y H Q=>rI CMul (λi j=>.int (i*j)) x y H Q\/zpf K x y H Q):=by
 intro ρ S H x y x' y' v S' Q sim rx ry h p;unfold zdu at h;split at h
 ·obtain ⟨hc,e⟩:=zbb h;cases e;cases rx;cases ry;exact .inl ⟨_,_,rfl,rfl,hc,p ρ H _ (Ext.refl ..) sim (.int _)⟩
 ·rename_i x xs k;obtain ⟨⟨k0,k1,hz⟩,e⟩:=zbb h;cases e;cases ry;cases rx with
  | @tup _ a vs ha r=>
   have hl:=r.length;refine .inr ⟨a,k,vs,rfl,rfl,SqT.of ha,?_,k0,k1,by rw [<-hl];exact hz,λe=>?_,λ_=>zgi sim (r.rep k.toNat) p⟩
   ·intro z;rw [z] at hl;cases hl
   ·subst e;have e2:(List.replicate (1:Int).toNat (x::xs)).flatten=x::xs:=(by simp);rw [e2] at p;exact p ρ H _ (Ext.refl ..) sim (.tup ha r)
 ·cases h
section
theorem ybi (ha:PE3 X a ma) (hb:PE3 X b mb):PE3 X (.BinOp a .Mult b pos) (eOp zdu ma mb):=zdo (op_mul.or ybg) ybh ha hb
end
noncomputable def whl (c:TM) (b:SM):Nat->SM
 |0,_,_=>none
 |k+1,l,S=>(c l S).bind λp=>if p.1=true then (b l p.2).bind λq=>match q.1 with
  | .nx=>whl c b k q.2.1 q.2.2
  | .ct=>whl c b k q.2.1 q.2.2
  | .bk=>some (.nx,q.2)
  | .rt d=>some (.rt d,q.2) else some (.nx,l,p.2)
section
theorem ybj (n:Nat) (hp:PassesOwn '#' X.A X.env X.xe) (hc:PT3 X c mc) (hb:PSs3 X body mb):PS3 X (.While c body [] pos) (whl mc mb n) :=
 PS.imp (zv2 hp hc hb) λE σ H hx1_=>by
  obtain ⟨ρ,l,S,f,l',S',sim,ro,hm,p⟩:=hx1_;refine ⟨λm σ1 H1=>∃ρ1 l1 S1,Ext ρ H ρ1 H1/\Sim X.K ρ1 S1 H1/\RO ρ1 H1 l1 σ1/\whl mc mb m l1 S1=some (f,l',S'),⟨n,ρ,l,S,Ext.refl ..,sim,ro,hm⟩,?_⟩;rintro m σ1 H1 ⟨ρ1,l1,S1,e1,s1,ro1,hm1⟩;cases m with
  |zero=>cases hm1
  | succ m =>
   unfold whl at hm1;obtain ⟨⟨k,S2⟩,q1,hm1⟩:=bnd hm1;refine ⟨ρ1,l1,S1,k,S2,s1,ro1,q1,λρ2 H2 e2 s2=>?_⟩;cases k with
   |false=>cases hm1;exact zda (p ρ2 H2 σ1 (e1.trans e2) s2 (ro1.mono e2))
   | true =>
    have hm1:((mb l1 S2).bind λq=>match q.1 with
     | .nx=>whl mc mb m q.2.1 q.2.2
     | .ct=>whl mc mb m q.2.1 q.2.2
     | .bk=>some (.nx,q.2)
     | .rt d=>some (.rt d,q.2))=some (f,l',S'):=hm1
    obtain ⟨⟨fl,l3,S3⟩,q2,hm1⟩:=bnd hm1;refine zdb ⟨_,λσ' H' h=>h,ρ2,l1,S2,fl,l3,S3,s2,ro1.mono e2,q2,λρ3 H3 σ3 e3 s3 ro3=>?_⟩;cases fl with
    |nx=>exact ⟨m,Nat.lt_succ_self m,ρ3,l3,S3,e1.trans (e2.trans e3),s3,ro3,hm1⟩
    |ct=>exact ⟨m,Nat.lt_succ_self m,ρ3,l3,S3,e1.trans (e2.trans e3),s3,ro3,hm1⟩
    |bk=>cases hm1;exact p ρ3 H3 σ3 (e1.trans (e2.trans e3)) s3 ro3
    |rt d=>cases hm1;exact p ρ3 H3 σ3 (e1.trans (e2.trans e3)) s3 ro3
end
section
end
noncomputable def zfn:D->D->Sto->Option (D×Sto):=λx y S=>(zbm S 60 x).bind λp=>(zbm S 60 y).bind λq=>if p.canLay0=true/\q.canLay0=true then some (.bl (!p.eqv q),S) else none
def zpg (K:QFg) (neg:Bool):R2:=λx y H Q=>∃ρ S dx dy p q,Sim K ρ S H/\RD ρ H dx x/\RD ρ H dy y/\zbm S 60 dx=some p/\zbm S 60 dy=some q/\p.canLay0=true/\q.canLay0=true/\Q (.bl (if neg then !p.eqv q else p.eqv q)) H
section
theorem ybk (hr:Room k X.A):OpR X (compareOp .NotEq) (zpg X.K true):=by
 intro pins s σ H x y v u Q I rx ry h;obtain ⟨ρ,S,dx,dy,p,q,sim,r1,r2,h1,h2,c1,c2,hq⟩:=h;obtain ⟨⟨as,k1⟩,_,_,k2⟩:=zpe I sim 60 dx x v p r1 rx h1;obtain ⟨⟨bs,k3⟩,_,_,k4⟩:=zpe I sim 60 dy y u q r2 ry h2;have hu:X.A.units+min p.depth q.depth<cLine:=by have:=hr.un;have:min p.depth q.depth<=p.depth:=Nat.min_le_left _ _;omega
 exact PySem.SeqAt.compareNe_reads k1 k3 c1 c2 hu ⟨.bl _,H,I,rfl,hq⟩
theorem ybl {K:QFg}:Op3 K zfn (zpg K true):=by intro ρ S H x y x' y' v S' Q sim rx ry h p;obtain ⟨d1,h1,h⟩:=bnd h;obtain ⟨d2,h2,h⟩:=bnd h;obtain ⟨hc,e⟩:=zbb h;cases e;exact ⟨ρ,_,x,y,d1,d2,sim,rx,ry,h1,h2,hc.1,hc.2,p ρ H _ (Ext.refl ..) sim (.bl _)⟩
theorem ybm (hr:Room k X.A) (ha:PE3 X a ma) (hb:PE3 X b mb):PT3 X (.Compare a [.NotEq] [b] pos) (tE (eOp zfn ma mb)):=zdp (ybk hr) ybl ha hb (zc7 b)
end
noncomputable def zit:D->Bool
 | .non=>true | .bl _=>true | .int _=>true | .str _=>true
 |_=>false
noncomputable def ziu:D->D->Bool
 | .non,.non=>true
 | .bl a,.bl b=>a==b
 | .bl a,.int b=>(if a then 1 else 0)==b
 | .int a,.bl b=>a==(if b then 1 else 0)
 | .int a,.int b=>a==b
 | .str a,.str b=>a==b
 |_,_=>false
noncomputable def ybn (S:Sto):D->Option (List D)
 | .tup xs=>some xs
 | .ref n=>lstOf S n
 |_=>none
noncomputable def zph (neg:Bool):D->D->Sto->Option (D×Sto):=λx y S=>(ybn S y).bind λxs=>if zit x=true/\xs.all zit=true then some (.bl (if neg then !(xs.any λy=>ziu y x) else xs.any λy=>ziu y x),S) else none
theorem zpi (r:RD ρ H x x'):zc9 x'=zit x:=by cases r<;>rfl
theorem ybo (r:RD ρ H x x') (r':RD ρ H y y'):eqV x' y'=ziu x y:=by cases r<;>cases r'<;>rfl
theorem zpj:∀{xs:List D}{vs:List V},RDs ρ H xs vs->vs.all zc9=xs.all zit
 |_,_,.nil=>rfl
 |_,_,.cons r q=>by rw [List.all_cons,List.all_cons,zpi r,zpj q]
theorem zpk (rx:RD ρ H x x'):∀{xs:List D}{vs:List V},RDs ρ H xs vs->inV x' vs=xs.any λy=>ziu y x
 |_,_,.nil=>rfl
 |_,_,.cons r q=>by have ih:=zpk rx q;unfold inV at ih ⊢;rw [List.any_cons,List.any_cons,ybo r rx,ih]
theorem ybp {K:QFg}{neg:Bool}:Op3 K (zph neg) (rIn K neg):=by
 intro ρ S H x y x' y' v S' Q sim rx ry h p;obtain ⟨xs,h1,h⟩:=bnd h;obtain ⟨hc,e⟩:=zbb h;cases e;have fin:∀a vs,y'=.ref a->(SqL K H a vs\/SqT K H a vs)->RDs ρ H xs vs->rIn K neg x' y' H Q:=λa vs e1 e2 r=>by refine ⟨a,vs,e1,e2,by rw [zpi rx];exact hc.1,by rw [zpj r];exact hc.2,?_⟩;rw [zpk rx r];exact p ρ H _ (Ext.refl ..) sim (.bl _)
 cases ry with
 |tup ha r=>cases h1;exact fin _ _ rfl (.inr (SqT.of ha)) r
 |ref hn=>obtain ⟨a,vs,ha,sq,r⟩:=sim.lstOf h1;rw [ha] at hn;cases hn;exact fin _ _ rfl (.inl sq) r
 |_=>cases h1
noncomputable def zk4:Sto->D->Option ((Int->Bool)×Nat)
 |S,.ref n=>match S[n]? with
  |some (.iset f k)=>some (f,k)
  |_=>none
 |_,_=>none
theorem Sim.isetOf {K:QFg}{ρ:List Addr}{S:Sto}{H:Hp}{x:D}{v:V}{f:Int->Bool}{k:Nat}(s:Sim K ρ S H) (r:RD ρ H x v) (h:zk4 S x=some (f,k)):∃n a,x=.ref n/\v=.ref a/\ρ[n]?=some a/\S[n]?=some (.iset f k)/\H a=some (.set f k):=by
 unfold zk4 at h;split at h
 ·rename_i n;split at h
  ·rename_i f' k' e;cases h;cases r with
   | @ref _ a hn=>exact ⟨n,a,rfl,rfl,hn,e,s.at' n a _ hn e⟩
  ·cases h
 ·cases h
noncomputable def zk5 (neg:Bool):D->D->Sto->Option (D×Sto)
 | .int i,y,S=>(zk4 S y).bind λp=>some (.bl (if neg then !p.1 i else p.1 i),S)
 |_,_,_=>none
def zpl (neg:Bool):R2:=λx y H Q=>∃i a f n,x=.int i/\y=.ref a/\H a=some (.set f n)/\Q (.bl (if neg then !f i else f i)) H
section
theorem op_notInI:OpR X (compareOp .NotIn) (zpl true):=by intro pins s σ H x y v u Q I rx ry h;obtain ⟨i,a,f,n,rfl,rfl,hH,q⟩:=h;obtain ⟨t,rfl⟩:=rx;cases ry;exact PySem.wpAny_notInSet_of (knd:=intKind X.prog X.w) (k:=i) (PySem.intKind_is X.prog X.w i t) rfl (I.hok a _ hH) ⟨.bl _,H,I.tok _,rfl,q⟩
theorem op3_inI {K:QFg}{neg:Bool}:Op3 K (zk5 neg) (zpl neg):=by
 intro ρ S H x y x' y' v S' Q sim rx ry h p;unfold zk5 at h;split at h
 ·obtain ⟨⟨f,k⟩,h1,h⟩:=bnd h;cases h;cases rx;obtain ⟨n,a,rfl,rfl,_,_,hH⟩:=sim.isetOf ry h1;exact ⟨_,a,f,k,rfl,rfl,hH,p ρ H _ (Ext.refl ..) sim (.bl _)⟩
 ·cases h
noncomputable def dIn (neg:Bool):D->D->Sto->Option (D×Sto):=λx y S=>match zk5 neg x y S with|some v=>some v|none=>zph neg x y S
theorem ybq (ha:PE3 X a ma) (hb:PE3 X b mb) (hm:behindInMarks .NotIn b=false:=by rfl):PT3 X (.Compare a [.NotIn] [b] pos) (tE (eOp (dIn true) ma mb)):=zdp (op_notInI.or zxv) (op3_inI.or ybp) ha hb hm
end
section
end
section
end
section
end
noncomputable def zef:Nat:=1000000
section
end
section
end
noncomputable def zfo (lo:Int) (n:Nat):List V:=(List.range n).map λ(i:Nat)=>V.int (lo+i)
theorem zpm:∀{xs:List V}{us:List Value},xs.length=us.length->(∀(j:Nat) x u,xs[j]?=some x->us[j]?=some u->RelV x u)->Vals xs us
 |[],[],_,_=>.nil
 |[],_::_,h,_=>by simp at h
 |_::_,[],h,_=>by simp at h
 |x::xs,u::us,h,q=>.cons (q 0 x u rfl rfl) (zpm (by simpa using h) λj y w h1 h2=>q (j+1) y w (by simpa using h1) (by simpa using h2))
section
theorem ybr:CallR X (.type "range") (λxs H Q=>∃j,xs=[.int j]/\∀r,H r=none->Q (.ref r) (upd H r (.rng 0 j))):=by intro pins s σ H xs us Q I r h;obtain ⟨j,rfl,q⟩:=h;obtain ⟨u1,rfl,r1⟩:=r.one;obtain ⟨t,rfl⟩:=r1;exact call_range_1 ⟨.ref _,_,I.laid (o:=.rng 0 j) (λb o e=>qps _ e) (qlr _) ⟨_,_,_,Heap.get?_push_size _ rfl⟩,rfl,q _ I.fresh⟩
theorem ybs (hc:X.calm=true):CallR X (.type "list") (λxs H Q=>∃p lo hi,xs=[.ref p]/\H p=some (.rng lo hi)/\(-(2^62)<=lo/\lo<2^62/\-(2^62)<=hi/\hi<2^62)/\(hi-lo).toNat<=sizeLine/\∀l,H l=none->Q (.ref l) (upd H l (.lst (zfo lo (hi-lo).toNat)))):=by
 intro pins s σ H xs us Q I r h;obtain ⟨p,lo,hi,rfl,hH,⟨b1,b2,b3,b4⟩,hz,q⟩:=h;obtain ⟨u1,rfl,r1⟩:=r.one;cases r1;obtain ⟨t,u,v,e⟩:=I.hok p _ hH;have hn:Builtin.Range.rangeSize lo hi 1=((hi-lo).toNat:Nat):=by rw [rangeSize_one];split<;>omega
 have hz2:(hi-lo).toNat<=2^24:=Nat.le_trans hz '$';refine PySem.call_list_range (n:=(hi-lo).toNat) (I.ok.hd hc) e (small_one b1 b2 b3 b4) (by rw [hn]) hz2 λh' tk acc c' k he hi'=>?_;obtain ⟨h1,h2⟩:=hi';refine ⟨.ref _,_,I.laid (o:=.lst (zfo lo (hi-lo).toNat)) k (qlr _) ⟨by unfold zfo;rw [qlm,List.length_range];exact hz,acc.toList,c',zpm (by simp [zfo,h1]) λj x w e1 e2=>?_,he⟩,rfl,q _ I.fresh⟩;rw [Array.getElem?_toList] at e2;obtain ⟨t',rfl⟩:=h2 j w e2;unfold zfo at e1;rw [qgm] at e1;cases e3:(List.range (hi-lo).toNat)[j]? with
 |none=>rw [e3] at e1;cases e1
 |some i=>rw [e3] at e1;cases e1;have:=(qme e3).2;simp at this;subst this;exact ⟨t',by rw [Int.mul_one]⟩
theorem ybt (ρ:List Addr) (H:Hp) (lo:Int) (n:Nat):RDs ρ H (zal lo n) (zfo lo n):=zku ρ H lo n
theorem ybu:bootBuiltins "range" = some (.type "range"):=by decide +kernel
noncomputable def ziv (r:Lo->Sto->Option ((Int×Nat)×Sto)):EM:=λl S=>(r l S).bind λp=>if p.1.2<=sizeLine then some (.ref p.2.length,p.2++[.lst (zal p.1.1 p.1.2)]) else none
theorem ybv (hc:X.calm=true) (hg:Gl X "list") (hm:X.mg "list" = none) (hgr:Gl X "range") (hmr:X.mg "range" = none) (ha:PA3 X [a] mA)
  (he:starEach [.Call (.Name "range" p0) [a] [] pos'] X.env=[(false,eval (.Call (.Name "range" p0) [a] [] pos') X.env)]:=by rfl)
  (he2:starEach [a] X.env=(false,eval a X.env)::starEach [] X.env:=by rfl) :
  PE3 X (.Call (.Name "list" p) [.Call (.Name "range" p0) [a] [] pos'] [] pos) (ziv (za5 mA)) :=
 PE.imp (zke (ybs hc) hg hm zo7 (zct (zke ybr hgr hmr ybu ha '$' '$' he2 rfl) zd5 he) '$' '$' he rfl) λσ H Q hx2_=>by
  obtain ⟨ρ,l,S,v,S',sim,ro,hm,p⟩:=hx2_;obtain ⟨⟨⟨lo,n⟩,S1⟩,q1,hm⟩:=bnd hm;obtain ⟨⟨xs,S2⟩,q2,q1⟩:=bnd q1;dsimp only at q1 hm;obtain ⟨hz,e⟩:=zbb hm;cases e;split at q1
  ·rename_i j;obtain ⟨hb,e⟩:=zbb q1;cases e;refine ⟨ρ,l,S,[.int j],S1,sim,ro,q2,λρ1 H1 vs e1 s1 r1=>?_⟩;obtain ⟨v,rfl,rv⟩:=r1.one;cases rv;refine ⟨j,rfl,λr hr=>⟨r,0,j,rfl,zbo,⟨by decide,by decide,hb.1,hb.2⟩,by simpa using hz,?_⟩⟩;have:=zgj (s1.laid (u:=.rng 0 j) hr) (ybt ρ1 _ 0 j.toNat) (p.ext (e1.trans (zbq hr)));simpa using this
  ·cases q1
end
noncomputable def isT:D->Bool
 | .bl b=>b
 |_=>false
noncomputable def zgv:D->Bool
 | .bl _=>true
 |_=>false
noncomputable def vT:V->Bool
 | .bl b=>b
 |_=>false
noncomputable def ziw:V->Bool
 | .bl _=>true
 |_=>false
noncomputable def zfp:FM
 |[.ref n],S=>(lstOf S n).bind λxs=>if xs.all zgv=true then some (.bl (xs.any isT),S) else none
 |_,_=>none
theorem ybw (r:RD ρ H x x'):vT x'=isT x/\ziw x'=zgv x:=by cases r<;>exact ⟨rfl,rfl⟩
theorem zpn:∀{xs:List D}{vs:List V},RDs ρ H xs vs->vs.all vT=xs.all isT/\vs.any vT=xs.any isT/\vs.all ziw=xs.all zgv
 |_,_,.nil=>⟨rfl,rfl,rfl⟩
 |_,_,.cons r q=>by obtain ⟨h1,h2⟩:=ybw r;obtain ⟨h3,h4,h5⟩:=zpn q;simp only [List.all_cons,List.any_cons,h1,h2,h3,h4,h5,and_self]
section
theorem ybx {ys:List V}(tr:Nat->Bool) (h:∀(i:Nat) y,ys[i]?=some y->tr i=vT y):(List.range ys.length).all tr=ys.all vT/\(List.range ys.length).any tr=ys.any vT:=by
 have e:(List.range ys.length).map tr=ys.map vT:=by
  apply List.ext_getElem?;intro i;rw [qgm,qgm];by_cases hi:i<ys.length
  ·rw [List.getElem?_range hi,qge hi];simp [h i _ (qge hi)]
  ·rw [List.getElem?_eq_none_iff.mpr (by simpa using hi),List.getElem?_eq_none_iff.mpr (by simpa using hi)];rfl
 have a1:(List.range ys.length).all tr=((List.range ys.length).map tr).all id:=by rw [List.all_map];rfl
 have a2:ys.all vT=(ys.map vT).all id:=by rw [List.all_map];rfl
 have a3:(List.range ys.length).any tr=((List.range ys.length).map tr).any id:=by rw [List.any_map];rfl
 have a4:ys.any vT=(ys.map vT).any id:=by rw [List.any_map];rfl
 exact ⟨by rw [a1,a2,e],by rw [a3,a4,e]⟩
def zpo (K:QFg) (f:List V->Bool):List V->Hp->VK->Prop:=λxs H Q=>∃p ys,xs=[.ref p]/\SqL K H p ys/\ys.all ziw=true/\Q (.bl (f ys)) H
theorem yby {pins:'('}{s:Shared}{σ:St}{H:Hp}{p:Addr}{ys:List V}{E:Value->Shared->Prop}{R:Bool->Bool->Shared->Prop}(hc:X.calm=true) (I:'%') (hq:SqL X.K H p ys) (hb:ys.all ziw=true)
  (h:∀s',Inv X pins σ H s'->R (ys.all vT) (ys.any vT) s') :
  wpAny (model X.prog X.w) X.A.in1 (pyIter (.ref p)) (λit s₂=>∃I fp wr n P St tr,it=.ref I/\Walks X.prog X.w X.A.in1 I fp wr n P St/\St 0 s₂.heap/\TruthOf X.prog X.w X.A.in1 P tr /\
   ∀h' tk,(∀b o,b∉wr->s₂.heap.get? b=some o->h'.get? b=some o)->R ((List.range n).all tr) ((List.range n).any tr) {s₂ with heap:=h',toks:=tk}) E s:=by
 obtain ⟨its,rv,pl,hz⟩:=I.list hq;refine wpAny_pyIter_list pl.isList ?_;have hne:p≠s.heap.objs.size:=by obtain ⟨o,ho,_⟩:=pl.isList;exact Nat.ne_of_lt (Heap.lt_size ho)
 have I1:Inv X pins σ H {s with heap:=s.heap.push {cls:=.type "list_iterator",data:=.fields #[.ref p,rawInt 0]}}:=I.kept (t':=s.toks) λb o e=>qps _ e;have fp:=I.fpOk (qlr s.heap.objs.size) I.fresh;refine ⟨_,_,_,its.toArray.size,_,_,λi=>match its[i]? with|some (.bool b)=>b|_=>false,rfl,Walks.list (A:=X.A.in1) (I.ok.hd hc) s.heap.objs.size p hne its.toArray,?_,?_,?_⟩
 ·obtain ⟨o,ho,hc',n,hd⟩:=pl.isList;exact ⟨⟨_,Heap.get?_push_size _ rfl,rfl,rfl⟩,⟨o,qps _ ho,hc',n,hd⟩⟩
 ·intro i v s' Q E' hP hQ;have e1:its[i]?=some v:=by simpa using hP
  have hl:=rv.length;have hi:i<ys.length:=by rw [hl];exact (qme e1).1
  obtain ⟨u,hu,ru⟩:=rv.get (qge hi);rw [e1] at hu;cases hu;have hb2:=List.all_eq_true.mp hb _ (qem hi);dsimp only at hQ;rw [e1] at hQ;revert ru hb2;generalize ys[i]=y;intro ru hb2;cases y with
  |bl b=>cases ru;exact wpAny_truthy_bool hQ
  |_=>exact absurd (show false=true from hb2) Bool.false_ne_true
 ·intro h' tk k;have hs:its.toArray.size=ys.length:=by rw [List.size_toArray,rv.length]
  obtain ⟨a1,a2⟩:=ybx (ys:=ys) (λi=>match its[i]? with|some (.bool b)=>b|_=>false) (λi y hy=>by
   obtain ⟨u,hu,ru⟩:=rv.get hy;have hb2:=List.all_eq_true.mp hb _ (qmg hy);rw [hu];cases y with
   |bl b=>cases ru;rfl
   |_=>exact absurd (show false=true from hb2) Bool.false_ne_true)
  rw [hs,a1,a2];exact h _ (I1.turned (t':=tk) (λb o hb' e=>k b o (by simpa using hb') e) fp.1 fp.2.1 fp.2.2.2.1 fp.2.2.2.2.1 fp.2.2.2.2.2)
theorem ybz (hc:X.calm=true):CallR X (.builtin "any") (zpo X.K λys=>ys.any vT):=by intro pins s σ H xs us Q I r h;obtain ⟨p,ys,rfl,hq,hb,q⟩:=h;obtain ⟨u1,rfl,r1⟩:=r.one;cases r1;exact PySem.call_any_walk (yby (R:=λ_ a s'=>EP X pins σ Q (.bool a) s') hc I hq hb λs' I'=>⟨.bl _,H,I',rfl,q⟩)
theorem yb0 {K:QFg}:Fn3 K zfp (zpo K λys=>ys.any vT):=by
 intro ρ S H xs vs v S' Q sim r h p;unfold zfp at h;split at h
 ·obtain ⟨ys,h1,h⟩:=bnd h;obtain ⟨hb,e⟩:=zbb h;cases e;obtain ⟨w,rfl,rw'⟩:=r.one;obtain ⟨a,us,ha,sq,r2⟩:=sim.lstOf h1;obtain ⟨t1,t2,t3⟩:=zpn r2;cases rw' with
  |ref hn=>rw [ha] at hn;cases hn;exact ⟨_,us,rfl,sq,by rw [t3];exact hb,by dsimp only;rw [t2];exact p ρ H _ (Ext.refl ..) sim (.bl _)⟩
 ·cases h
theorem yb1:bootBuiltins "any" = some (.builtin "any"):=by decide +kernel
theorem yb2 (hc:X.calm=true) (hg:Gl X "any") (hm:X.mg "any" = none) (ha:PA3 X (a::es) mA) (he:starEach (a::es) X.env=(false,eval a X.env)::starEach es X.env:=by rfl) (hpl:(backTo pos (starEach es X.env)).any (·.1)=false:=by rfl):PE3 X (.Call (.Name "any" p) (a::es) [] pos) (zad zfp mA) :=
 zdq (ybz hc) yb0 hg hm yb1 ha '$' '$' he hpl
end
section
end
noncomputable def zgw:D->D->Sto->Option (D×Sto)
 | .ref n,.ref m,S=>match S[n]?,S[m]? with
  |some (.lst xs),some (.lst [])=>some (.bl (!xs.isEmpty),S)
  |_,_=>none
 |_,_,_=>none
def zpp:R2:=λx y H Q=>∃a b xs,x=.ref a/\y=.ref b/\H a=some (.lst xs)/\H b=some (.lst [])/\Q (.bl (!xs.isEmpty)) H
section
theorem yb3 (hr:Room k X.A):OpR X (compareOp .NotEq) zpp:=by
 intro pins s σ H x y v u Q I rx ry h;obtain ⟨a,b,xs,rfl,rfl,ha,hb,q⟩:=h;cases rx;cases ry;obtain ⟨z,its,n,r,hl,e⟩:=I.lstM ha;obtain ⟨z2,its2,n2,r2,hl2,e2⟩:=I.lstM hb;cases r2;have hu:X.A.units<cLine:=by have:=hr.un;omega
 have l1:s.heap.IsList a its.toArray:=⟨_,e,rfl,n,rfl⟩;have l2:s.heap.IsList b ([]:List Value).toArray:=⟨_,e2,rfl,n2,rfl⟩;cases xs with
 |nil=>cases r;have:=SeqAt.RcNeAt.lists (A:=X.A) (e:=λ_=>true) l1 l2 rfl hu (λj h1 _=>by simp at h1);exact this X.prog X.w X.xe _ ⟨.bl _,H,I,rfl,q⟩
 |cons y ys=>
  cases r with
  |cons r1 r2=>exact SeqAt.RcNeAt.lists_lengths (A:=X.A) l1 l2 '*' hu X.prog X.w X.xe _ ⟨.bl _,H,I,rfl,q⟩
theorem yb4 {K:QFg}:Op3 K zgw zpp:=by
 intro ρ S H x y x' y' v S' Q sim rx ry h p;unfold zgw at h;split at h
 ·split at h
  ·rename_i n m S xs e1 e2;cases h;obtain ⟨a,us,ha,hH,r2⟩:=sim.lst e1;obtain ⟨b,ws,hb,hH2,r3⟩:=sim.lst e2;cases r3;cases rx with
   |ref hn=>
    rw [ha] at hn;cases hn;cases ry with
    |ref hm=>rw [hb] at hm;cases hm;refine ⟨a,b,us,rfl,rfl,hH,hH2,?_⟩;have:us.isEmpty=xs.isEmpty:=(by cases r2<;>rfl);rw [this];exact p ρ H _ (Ext.refl ..) sim (.bl _)
  ·cases h
 ·cases h
theorem yb5 (hr:Room k X.A) (ha:PE3 X a ma) (hb:PE3 X b mb):PT3 X (.Compare a [.NotEq] [b] pos) (tE (eOp zgw ma mb)):=zdp (yb3 hr) yb4 ha hb (zc7 b)
end
section
end
section
end
section
theorem yb6 (hb:s.heap.IsTupleIter b t n) (ht:s.heap.IsTuple t vs) (hu:vs[n]?=some u)
  (q:∀h1,h1.IsTupleIter b t (n+1)->Heap.SameBut b s.heap h1->Q u {s with heap:=h1}):wpAny '&' A (Builtin.SmallTypes.nextOf (.ref b)) Q E s:=by
 obtain ⟨ob,gb,cb,db⟩:=id hb;obtain ⟨ot,gt,_,nt,dt⟩:=ht;unfold Builtin.SmallTypes.nextOf;refine qwb (wpAny_callSpecial?_slot (name:=Str.ofString "__next__") hb.typeIs F.slot_tuple_iterator_next (wpAny_call_entry F.slot_tuple_iterator_next hb.typeIs F.entry_tuple_iterator_next ?_ (F.args_tuple_iterator_next_1 _)));show wpAny _ _ (field (.ref b) 0>>=_) _ _ s;refine qwb (wpAny_field gb db (x:=.ref t) rfl ?_);show wpAny _ _ (if (Value.ref t==Value.none)=true then _ else _) _ _ s;rw [if_neg (by intro z;cases z)];show wpAny _ _ (field (.ref b) 1>>=_) _ _ s;refine qwb (wpAny_field gb db (x:=.int n 0) rfl ?_);show wpAny _ _ (seqItems? (.ref t)>>=_) _ _ s;refine qwb (wpAny_seqItems gt dt ?_);simp only [Int.toNat_natCast,hu];refine qwb (wpAny_setField gb db '*' (qwp ⟨u,rfl,qwp (q _ ⟨_,Heap.get?_update_self _ gb (Obj.isFreed_of_fields (Obj.data_mapFields db _)),(Obj.cls_mapFields ..).trans cb,by rw [Obj.data_mapFields db];simp [rawInt]⟩ (Heap.SameBut.update ..))⟩))
theorem zk6 (hA:A.handled=none) (hb:s.heap.IsTupleIter b t n) (ht:s.heap.IsTuple t vs) (hu:vs[n]?=none)
  (q:∀h1 x,Heap.ExtBut b s.heap h1->(∃o,h1.get? x=some o/\o.cls=.type "StopIteration")->E (.ref x) {s with heap:=h1}):wpAny '&' A (Builtin.SmallTypes.nextOf (.ref b)) Q E s:=by
 obtain ⟨ob,gb,cb,db⟩:=id hb;obtain ⟨ot,gt,_,nt,dt⟩:=ht;unfold Builtin.SmallTypes.nextOf;refine qwb (wpAny_callSpecial?_slot (name:=Str.ofString "__next__") hb.typeIs F.slot_tuple_iterator_next (wpAny_call_entry F.slot_tuple_iterator_next hb.typeIs F.entry_tuple_iterator_next ?_ (F.args_tuple_iterator_next_1 _)));show wpAny _ _ (field (.ref b) 0>>=_) _ _ s;refine qwb (wpAny_field gb db (x:=.ref t) rfl ?_);show wpAny _ _ (if (Value.ref t==Value.none)=true then _ else _) _ _ s;rw [if_neg (by intro z;cases z)];show wpAny _ _ (field (.ref b) 1>>=_) _ _ s;refine qwb (wpAny_field gb db (x:=.int n 0) rfl ?_);show wpAny _ _ (seqItems? (.ref t)>>=_) _ _ s;refine qwb (wpAny_seqItems gt dt ?_);simp only [Int.toNat_natCast,hu];refine qwb (wpAny_rule (qwb (wpAny_setField gb db '*' ?_)));show wpAny _ _ (newExc (.type "StopIteration") []>>=_) _ _ _;refine qwb ?_;simp only [newExc,newTuple];refine qwb (wpAny_newObj_type ?_ (by size_fits));refine qwb (m:=firstArgMember _ _) (wpAny_of_eq (a:=Value.none) (by first|rfl|(simp only [firstArgMember];rfl)) ?_);refine wpAny_newObj_type ?_ (by size_fits);simp only [raiseNew];refine qwb (wpAny_handled ?_)
 first|rw [show A.in1.handled=none from hA]|rw [hA]
 refine qwb (qwp (wpAny_throw ?_));exact q _ _ (((Heap.SameBut.update ..).extBut.push _).push _) ⟨_,Heap.get?_push_size _ rfl,rfl⟩
end
theorem zpq (hA:A.handled=none) (b t:Addr) (hne:t≠b) (vs:Array Value) :
  Draws prog w A b [b,t] vs.size (λi v=>vs[i]?=some v) (λi h=>h.IsTupleIter b t i/\h.IsTuple t vs) where
 live:=λ_ _ st=>let ⟨o,ho,_⟩:=st.1;⟨o,ho⟩
 frame:=λ_ _ _ st hk=>⟨let ⟨o,ho,r⟩:=st.1;⟨o,hk b '*' o ho,r⟩,let ⟨o,ho,r⟩:=st.2;⟨o,hk t '*' o ho,r⟩⟩
 item:=λi s Q E hi st hQ=>yb6 st.1 st.2 (u:=vs[i]) (by simp [hi]) λh1 hb1 hs1=>hQ _ h1 s.toks (by simp [hi]) ⟨hb1,st.2.extBut hs1.extBut hne⟩ hs1
 done:=λs Q E st hE=>zk6 hA st.1 st.2 '*' hE
theorem Inv.dealt {X:Cx}{pins:'('}{σ:L2.St}{H:Hp}{s:Shared}{h1:Heap}{t1:Nat}{ch:List Addr}{xs:List V}{us:List Value}(I:'%') (hf:∀b∈ch,zb5 X pins H b)
  (k:∀b o,b∉ch->s.heap.get? b=some o->h1.get? b=some o) (g:IsTD h1 s.heap.objs.size us.toArray) (r:Vals xs us) (hz:xs.length<=sizeLine) :
  Inv X pins σ (upd H s.heap.objs.size (.tup xs)) {s with heap:=h1,toks:=t1}:=by
 have hn:H s.heap.objs.size=none:=I.hok.fresh (qlr _);have ne:∀b o,s.heap.get? b=some o->b≠s.heap.objs.size:=λb o e=>Nat.ne_of_lt (Heap.lt_size e);have nf:∀b u,H b=some u->b∉ch:=λb u e z=>by rw [(hf b z).1] at e;cases e
 refine I.step (g':=s.gens) (d':=s.drawn) (ch:=ch) (λb hb=>?_) (λb o _ _ hc e _=>k b o hc e) (λb o _ _ hc e _=>⟨o.slots,k b o hc e⟩) (λb o _ e n=>by rw [zaj (ne b o e)];exact n)
  (λb o hc e=>⟨o,k b o hc e⟩) (λb ys e=>by rw [zaj (zay e hn)];exact e) (λb o u e=>by rw [zaj (zay e hn)];exact e) (λb ps e=>⟨#[],by rw [zaj (zay e hn),e];simp⟩) (λm hm=>?_) (λb u e=>?_) I.bare
 ·obtain ⟨_,q1,_,q3,q4,q5⟩:=hf b hb;exact ⟨q3,q1,q4,q5⟩
 ·obtain ⟨o,es,ep,ho,q⟩:=hm;exact ⟨o,es,ep,k _ o (λz=>(hf _ z).2.1 rfl) ho,q⟩
 ·by_cases hb:b=s.heap.objs.size
  ·subst hb;rw [zbo] at e;cases e;exact ⟨hz,us,r,g⟩
  ·rw [zaj hb] at e;refine (I.hok b u e).stay (λc v hc q=>k c v ?_ q) (λc q=>by rw [zaj (zay q hn)];exact q) λc xs q=>(by rw [zaj (zay q hn)];exact q);rcases hc with z|z
   ·rw [z];exact nf b u e
   ·exact nf c _ z
noncomputable def Itn (J:It):It:=⟨J.go,λi H x H1=>∃y p,J.yld i H y H/\H p=none/\x=.ref p/\H1=upd H p (.tup [.int i,y]),J.stop⟩
section
variable {P:Program}{w:World}{K:QFg}{elts:List Expr}{z:Nat}{tp:Pos}
theorem zk7 {T:Heap->Prop}(hT:∀h,T h->∃o,h.get? b=some o/\∀v,o.data≠.cell v) (i:Nat) (h:Heap) (st:(∃old,IsEnum h e b i old)/\T h):∀c∈[e,b],∃o,h.get? c=some o/\∀v,o.data≠.cell v:=λc hc=>by
 have hc:c=e\/c=b:=by simpa using hc
 rcases hc with rfl|rfl
 ·obtain ⟨⟨old,q⟩,_⟩:=st;exact ⟨_,q,λv z=>by
   have z:Data.fields _=Data.cell v:=z;cases z⟩
 ·exact hT h st.2
theorem zix {h:Heap}{a b:Addr}{c d:Value}{p q:Obj->Prop}(ha:∃o,h.get? a=some o/\o.cls=c/\p o) (hb:∃o,h.get? b=some o/\o.cls=d/\q o) (n:c≠d):a≠b:=by rintro rfl;obtain ⟨o,e,c1,_⟩:=ha;obtain ⟨o2,e2,c2,_⟩:=hb;rw [e] at e2;cases e2;exact n (c1.symm.trans c2)
theorem zk8 {X:Cx}{pins:'('}{σ:L2.St}{H:Hp}{s:Shared}{e b:Addr}{i tk:Nat}{x:V}{u:Value}{h1 h2:Heap}{J:It}{T:Heap->Prop}(I:'%') (hf:∀c∈[e,b],zb5 X pins H c) (ru:RelV x u)
  (le:e<s.heap.objs.size) (lb:b<s.heap.objs.size) (hk:∀c o,c≠e->c≠b->s.heap.get? c=some o->h1.get? c=some o) (hT:h1.get? s.heap.objs.size=some {cls:=.type "tuple",data:=.seq #[.int i tk,u]})
  (he2:IsEnum h2 e b ((i:Int)+1) u) (hs2:Heap.SameBut e h1 h2) (t2:T h2) (y:J.yld i H x H) :
  ∃x1 H1,Inv X pins σ H1 {s with heap:=h2,toks:=tk+1}/\RelV x1 (.ref s.heap.objs.size)/\(Itn J).yld i H x1 H1/\((∃old,IsEnum h2 e b ((i+1:Nat):Int) old)/\T h2)/\∀c∈[e,b],H1 c=none:=by
 have hn:H s.heap.objs.size=none:=I.hok.fresh (qlr _);refine ⟨.ref s.heap.objs.size,upd H s.heap.objs.size (.tup [.int i,x]),?_,rfl,⟨x,s.heap.objs.size,y,hn,rfl,rfl⟩,⟨⟨u,by simpa using he2⟩,t2⟩,λc hc=>?_⟩
 ·refine Inv.dealt (us:=[.int i tk,u]) I hf (λc o hc q=>?_) ⟨_,(hs2.2 _ (Nat.ne_of_gt le)).trans hT,rfl,_,rfl,rfl⟩ (.cons ⟨tk,rfl⟩ (.cons ru .nil)) (by show 2<=sizeLine;decide);have h3:c≠e/\c≠b:=⟨λz=>hc (by simp [z]),λz=>hc (by simp [z])⟩;exact (hs2.2 c h3.1).trans (hk c o h3.1 h3.2 q)
 ·have:c≠s.heap.objs.size:=by
   have hc:c=e\/c=b:=(by simpa using hc);rcases hc with rfl|rfl
   ·exact Nat.ne_of_lt le
   ·exact Nat.ne_of_lt lb
  rw [zaj this];exact (hf c hc).1
theorem yb7 (a e b:Addr) (heb:e≠b):Turn P w K (.Tuple elts z tp) (Itn (Itl K a)) [e,b] e (λi h=>(∃old,IsEnum h e b i old)/\h.IsListIter b a i) where
 mem:=by simp
 obj:=λi h st=>zk7 (T:=λh=>h.IsListIter b a i) (λh ⟨o,q,c,d⟩=>⟨o,q,λv z=>by rw [d] at z;cases z⟩) i h st
 keep:=λi h h1 st k=>⟨let ⟨old,q⟩:=st.1;⟨old,k e '*' _ q⟩,st.2.at λo q=>k b '*' o q⟩
 item:=by
  intro X hP hw hK hc i pins s σ H E I hf st hg;subst hP hw hK;obtain ⟨xs,x,hq,hx⟩:=hg;obtain ⟨its,rv,p,hz⟩:=I.list hq;obtain ⟨u,hu,ru⟩:=rv.get hx;obtain ⟨⟨old,he⟩,hb⟩:=st;have nab:a≠b:=zix p.isList hb '$';have nae:a≠e:=zix (d:=.type "enumerate") (q:=λ_=>True) p.isList ⟨_,he,rfl,trivial⟩ '$';have hlt:i<its.toArray.size:=by simpa using (qme hu).1
  refine wpAny_pyNext_enum_itemD (Draws.list (A:=X.A.in1) (I.ok.hd hc) b a nab its.toArray) he ⟨hb,p.isList⟩ hlt heb (by simp [heb,nae.symm]) λx1 h1 tk hP ho hs1 hT hsz hk=>?_;have hx1:x1=u:=by have:its.toArray[i]?=some u:=(by simpa using hu);rw [this] at hP;exact (qoi hP).symm
  subst hx1;obtain ⟨ob,gb,_⟩:=id hb;refine ⟨_,rfl,wpAny_letOwnedTupleGo_enum ho λh2 he2 hs2=>?_⟩;replace hs2:Heap.SameBut e h1 h2:=hs2;exact zk8 (J:=Itl X.K a) (T:=λh=>h.IsListIter b a (i+1)) I hf ru (Heap.lt_size he) (Heap.lt_size gb) hk hT he2 hs2 (hs1.1.at λo q=>(hs2.2 b heb.symm).trans q) ⟨rfl,λys hy=>by rw [I.list_inj hy hq];exact hx⟩
 done:=by intro X hP hw hK hc i pins s σ H E I hf st hg;subst hP hw hK;obtain ⟨xs,hq,hx⟩:=hg;obtain ⟨its,rv,p,hz⟩:=I.list hq;obtain ⟨⟨old,he⟩,hb⟩:=st;obtain ⟨f0,f1,f2,f3,f4,f5⟩:=hf b '*';have hl:=rv.length;exact wpAny_pyNext_enum_end (I.ok.hd hc) he hb p.isList (by simp;omega) λh1 eb=>⟨rfl,I.turned (t':=s.toks) (λc o hb q=>eb c o hb q) f0 f1 f3 f4 f5⟩
 self:=λA i s Q E st h=>let ⟨old,q⟩:=st.1;wpAny_pyIter_enum q h
theorem yb8 {E:Value->Shared->Prop}{n:Nat}{vs:Array Value}{Q:Option Value->Shared->Prop}(hA:A.handled=none) (he:IsEnum s.heap e b n old) (hb:s.heap.IsTupleIter b t n)
  (ht:s.heap.IsTuple t vs) (hu:vs[n]?=none) (q:∀h1,Heap.ExtBut b s.heap h1->Q none {s with heap:=h1}):wpAny (model P w) A (pyNext (.ref e)) Q E s:=by
 have ty:s.TypeIs (.ref e) "enumerate":=⟨_,he,rfl⟩;unfold pyNext;refine qwb (wpAny_attempt (wpAny_callSpecial?_slot (name:=Str.ofString "__next__") ty F.slot_enumerate_next (wpAny_call_entry F.slot_enumerate_next ty F.entry_enumerate_next ?_ (F.args_enumerate_next_1 _))));show wpAny _ _ (field (.ref e) 2>>=_) _ _ _;refine qwb (wpAny_field he rfl (x:=.ref b) rfl ?_);refine qwb (zk6 hA hb ht hu λh1 x q1 ⟨o,g,c⟩=>?_);exact qwb (wpAny_isInstance (T:="StopIteration") (b:=true) ⟨o,g,c⟩ isSubtype_stop (qwp (q _ q1)))
theorem yb9 (a e b:Addr) (heb:e≠b):Turn P w K (.Tuple elts z tp) (Itn (Itt K a)) [e,b] e (λi h=>(∃old,IsEnum h e b i old)/\h.IsTupleIter b a i) where
 mem:=by simp
 obj:=λi h st=>zk7 (T:=λh=>h.IsTupleIter b a i) (λh ⟨o,q,c,d⟩=>⟨o,q,λv z=>by rw [d] at z;cases z⟩) i h st
 keep:=λi h h1 st k=>⟨let ⟨old,q⟩:=st.1;⟨old,k e '*' _ q⟩,let ⟨o,q,r⟩:=st.2;⟨o,k b '*' o q,r⟩⟩
 item:=by
  intro X hP hw hK hc i pins s σ H E I hf st hg;subst hP hw hK;obtain ⟨xs,x,hq,hx⟩:=hg;obtain ⟨its,rv,p,hz⟩:=I.tuple hq;obtain ⟨u,hu,ru⟩:=rv.get hx;obtain ⟨⟨old,he⟩,hb⟩:=st;have p:s.heap.IsTuple a its.toArray:=p;have nab:a≠b:=zix p hb '$';have nae:a≠e:=zix (d:=.type "enumerate") (q:=λ_=>True) p ⟨_,he,rfl,trivial⟩ '$';have hlt:i<its.toArray.size:=by simpa using (qme hu).1
  refine wpAny_pyNext_enum_itemD (zpq (A:=X.A.in1) (I.ok.hd hc) b a nab its.toArray) he ⟨hb,p⟩ hlt heb (by simp [heb,nae.symm]) λx1 h1 tk hP ho hs1 hT hsz hk=>?_;have hx1:x1=u:=by have:its.toArray[i]?=some u:=(by simpa using hu);rw [this] at hP;exact (qoi hP).symm
  subst hx1;obtain ⟨ob,gb,_⟩:=id hb;refine ⟨_,rfl,wpAny_letOwnedTupleGo_enum ho λh2 he2 hs2=>?_⟩;replace hs2:Heap.SameBut e h1 h2:=hs2;exact zk8 (J:=Itt X.K a) (T:=λh=>h.IsTupleIter b a (i+1)) I hf ru (Heap.lt_size he) (Heap.lt_size gb) hk hT he2 hs2 (hs1.1.extBut hs2.extBut heb.symm) ⟨rfl,λys hy=>by rw [I.tuple_inj hy hq];exact hx⟩
 done:=by intro X hP hw hK hc i pins s σ H E I hf st hg;subst hP hw hK;obtain ⟨xs,hq,hx⟩:=hg;obtain ⟨its,rv,p,hz⟩:=I.tuple hq;obtain ⟨⟨old,he⟩,hb⟩:=st;obtain ⟨f0,f1,f2,f3,f4,f5⟩:=hf b '*';have hl:=rv.length;exact yb8 (I.ok.hd hc) he hb p (by simp;omega) λh1 eb=>⟨rfl,I.turned (t':=s.toks) (λc o hb q=>eb c o hb q) f0 f1 f3 f4 f5⟩
 self:=λA i s Q E st h=>let ⟨old,q⟩:=st.1;wpAny_pyIter_enum q h
end
open AutoSeq1
theorem yca (t:Addr) (vs:Array Value) (m:Nat) (dc:Option Addr) (sl:Array (Option Value)) :
  Meets (Builtin.«enumerate.__new__» ⟨[.type "enumerate",.ref t],[]⟩) (λ_ R s=>s.heap.get? t=some {cls:=.type "tuple",dict:=dc,data:=.seq vs m,slots:=sl} /\
   R (.ok (.ret (.ref (s.heap.push {cls:=.type "tuple_iterator",data:=.fields #[.ref t,.int 0 0]}).objs.size)))
    {s with heap:=(s.heap.push {cls:=.type "tuple_iterator",data:=.fields #[.ref t,.int 0 0]}).push {cls:=.type "enumerate",data:=.fields #[.none,.bool false,.ref s.heap.objs.size,rawInt 0,.none,.none]}}) :=
 .of_wp λprog w A R s hx1_=>by
  obtain ⟨ht,h⟩:=hx1_;have sub1:=sub_enumerate;obtain ⟨hp,g,d,tk,os⟩:=s;have tt:Heap.IsTuple (Shared.heap ⟨hp,g,d,tk,os⟩) t vs:=⟨_,ht,rfl,m,rfl⟩
  wp_walk using wpAny_loadPart' ht
  refine wpAny_stack_any λ_=>qwp ?_;split
  ·rename_i c _ _ _ _ _;cases (c==Value.type "enumerate")<;>(wp_walk using wpAny_loadPart' ht,wpAny_pyIter_tuple tt;exact ⟨_,rfl,h⟩)
  ·wp_walk using wpAny_loadPart' ht,wpAny_pyIter_tuple tt
   exact ⟨_,rfl,h⟩
section
theorem ycb (ht:s.heap.IsTuple t vs)
  (q:∀h1,IsEnum h1 (s.heap.objs.size+1) s.heap.objs.size 0 .none->h1.IsTupleIter s.heap.objs.size t 0->(∀b o,s.heap.get? b=some o->h1.get? b=some o)->Q (.ref (s.heap.objs.size+1)) {s with heap:=h1}) :
  wpAny '&' A (call (.type "enumerate") [.ref t]) Q E s:=by
 obtain ⟨⟨c,dc,dt,sl⟩,gt,hc,m,hd⟩:=ht;replace hc:c=.type "tuple":=hc;replace hd:dt=.seq vs m:=hd;subst hc hd;refine callType_new F.called_enumerate '$' (F.typeCall_enumerate_1 _) (F.newCall_enumerate_1 _) (λo=>F.args_object_init_2 o _) F.entry_enumerate_new (yca t vs m dc sl) ⟨gt,?_⟩;have hz:(s.heap.push {cls:=.type "tuple_iterator",data:=.fields #[.ref t,.int 0 0]}).objs.size=s.heap.objs.size+1:=Heap.size_push ..;show _/\_;rw [hz];have he:IsEnum ((s.heap.push {cls:=.type "tuple_iterator",data:=.fields #[.ref t,.int 0 0]}).push {cls:=.type "enumerate",data:=.fields #[.none,.bool false,.ref s.heap.objs.size,rawInt 0,.none,.none]}) (s.heap.objs.size+1) s.heap.objs.size 0 .none:=by rw [<-hz];exact Heap.get?_push_size _ rfl
 exact ⟨⟨_,he,rfl⟩,q _ he ⟨_,qps _ (Heap.get?_push_size _ rfl),rfl,rfl⟩ λb o x=>qps _ (qps _ x)⟩
end
theorem zk9:bootBuiltins "enumerate" = some (.type "enumerate"):=by decide +kernel
section
def ycc (K:QFg) (ta:TA):TI:=λσ H R=>ta σ H λvs H1=>∃a,vs=[.ref a]/\(∃xs,SqL K H1 a xs)/\R (Itn (Itl K a)) H1
def ycd (K:QFg) (ta:TA):TI:=λσ H R=>ta σ H λvs H1=>∃a,vs=[.ref a]/\(∃xs,SqT K H1 a xs)/\R (Itn (Itt K a)) H1
theorem ziy {pins:List (Addr×Obj)}{σ:L2.St}{R:It->Hp->Prop}{E:Value->Shared->Prop}{J:It}{T:Nat->Heap->Prop}(I:Inv X pins σ H s) (tu:Turn X.prog X.w X.K (.Tuple elts z tp) J [s.heap.objs.size+1,s.heap.objs.size] (s.heap.objs.size+1) (λi h=>(∃old,IsEnum h (s.heap.objs.size+1) s.heap.objs.size i old)/\T i h))
  (he:IsEnum h1 (s.heap.objs.size+1) s.heap.objs.size 0 .none) (t0:T 0 h1) (hk:∀b o,s.heap.get? b=some o->h1.get? b=some o) (q:R J H):wpAny '#' X.A (pyIter (.ref (s.heap.objs.size+1))) (PIE X pins σ (.Tuple elts z tp) R) E {s with heap:=h1}:=by
 refine wpAny_pyIter_enum (s:={s with heap:=h1}) he ⟨_,_,_,J,H,rfl,I.kept (t':=s.toks) hk,tu,⟨⟨_,he⟩,t0⟩,λc hc=>?_,q⟩;have:s.heap.objs.size<=c:=by
  have hc:c=s.heap.objs.size+1\/c=s.heap.objs.size:=by simpa using hc
  rcases hc with rfl|rfl
  ·exact Nat.le_succ _
  ·exact qlr _
 exact I.fpOk this (I.hok.fresh this)
theorem yce {ta:TA}(hg:Gl X "enumerate") (hm:X.mg "enumerate" = none) (ha:PA X [a] ta) (hs:starEach [a] X.env=[(false,eval a X.env)]:=by rfl):PI X (.Tuple elts z tp) (.Call (.Name "enumerate" p) [a] [] pos) (ycc X.K ta):=by
 intro pins s σ H R I h;refine Call_ (zdm I hg hm zk9 (PyProof.Rows.callWith_type1 (thn (ha pos pins s σ H _ I h) λus s1 ⟨vs,H1,I1,r1,q1⟩=>?_) hs rfl));obtain ⟨b,rfl,⟨xs,hq⟩,q⟩:=q1;cases r1 with
 |cons r rr=>cases rr;cases r;obtain ⟨its,rv,pl,hz⟩:=I1.list hq;exact call_enumerate_list pl.isList λh1 he hb _ hk=>ziy (T:=λi h=>h.IsListIter s1.heap.objs.size b i) I1 (yb7 b _ _ (Nat.succ_ne_self _)) he hb hk q
theorem ycf {ta:TA}(hg:Gl X "enumerate") (hm:X.mg "enumerate" = none) (ha:PA X [a] ta) (hs:starEach [a] X.env=[(false,eval a X.env)]:=by rfl):PI X (.Tuple elts z tp) (.Call (.Name "enumerate" p) [a] [] pos) (ycd X.K ta):=by
 intro pins s σ H R I h;refine Call_ (zdm I hg hm zk9 (PyProof.Rows.callWith_type1 (thn (ha pos pins s σ H _ I h) λus s1 ⟨vs,H1,I1,r1,q1⟩=>?_) hs rfl));obtain ⟨b,rfl,⟨xs,hq⟩,q⟩:=q1;cases r1 with
 |cons r rr=>cases rr;cases r;obtain ⟨its,rv,pl,hz⟩:=I1.tuple hq;exact ycb (show s1.heap.IsTuple b its.toArray from pl) λh1 he hb hk=>ziy (T:=λi h=>h.IsTupleIter s1.heap.objs.size b i) I1 (yb9 b _ _ (Nat.succ_ne_self _)) he hb hk q
end
noncomputable def zc4 (it:ItM) (g:GM) (b:SM):Nat->Nat->SM
 |0,_,_,_=>none
 | k+1,i,l,S=>(it i S).bind λo=>match o with
  |none=>some (.nx,l,S)
  |some x=>(g x l S).bind λp=>(b p.1 p.2).bind λq=>match q.1 with
   | .nx=>zc4 it g b k (i+1) q.2.1 q.2.2
   | .ct=>zc4 it g b k (i+1) q.2.1 q.2.2
   | .bk=>some (.nx,q.2)
   | .rt d=>some (.rt d,q.2)
noncomputable def zgx (im:IM) (g:GM) (b:SM):SM:=λl S=>(im l S).bind λp=>zc4 p.1 g b p.2.1 0 l p.2.2
def ziz (K:QFg) (ρ:List Addr) (H:Hp) (it:ItM) (J:It):Prop:=∀(i:Nat) ρ' S' H',Ext ρ H ρ' H'->Sim K ρ' S' H' ->
 (it i S'=some none->J.stop i H')/\∀x,it i S'=some (some x)->J.go i H'/\∀y H'',J.yld i H' y H''->Ext ρ' H' ρ' H''/\Sim K ρ' S' H''/\RD ρ' H'' x y
noncomputable def itN (it:ItM):ItM:=λi S=>(it i S).map λo=>o.map λx=>.tup [.int i,x]
section
variable {K:QFg}
theorem zla (h:zds K ρ H it J):ziz K ρ H (itN it) (Itn J):=by
 intro i ρ1 S1 H1 e s;obtain ⟨h1,h2⟩:=h i ρ1 S1 H1 e s;unfold itN;refine ⟨λq=>?_,λx q=>?_⟩
 ·cases hi:it i S1 with
  |none=>rw [hi] at q;cases q
  |some o=>
   cases o with
   |none=>exact h1 hi
   |some x=>rw [hi] at q;cases q
 ·cases hi:it i S1 with
  |none=>rw [hi] at q;cases q
  |some o=>
   cases o with
   |none=>rw [hi] at q;cases q
   |some y=>rw [hi] at q;cases q;obtain ⟨q1,q2⟩:=h2 y hi;refine ⟨q1,λv H2 ⟨y2,p,hy1,hp,e1,e2⟩=>?_⟩;subst e1 e2;obtain ⟨_,r⟩:=q2 y2 H1 hy1;exact ⟨zbq hp,s.laid hp,.tup zbo (.cons (.int _) (.cons (r.mono (zbq hp)) .nil))⟩
theorem ycg (ok:ziz K ρ H it J)
  (sim:Sim K ρ S H) (ro:RO ρ H l σ) (hm:zc4 it g b k 0 l S=some (f,l',S')) (p:∀ρ' H' σ',Ext ρ H ρ' H'->Sim K ρ' S' H'->RO ρ' H' l' σ'->zgh ρ' H' E σ' f) :
  ∃W:Nat->Nat->L2.St->Hp->Prop,(∃m,W 0 m σ H)/\∀i m σ H,W i m σ H ->
   (J.stop i H/\E.nx σ H)\/(J.go i H/\∃N:L2.St->Hp->Prop,(∀σ' H',N σ' H'->∃m',m'<m/\W (i+1) m' σ' H')/\∀x H',J.yld i H x H'->tg K g x σ H' λσ2 H2=>ts K b {E with nx:=N,ct:=N,bk:=E.nx} σ2 H2):=by
 refine ⟨λi m σ1 H1=>∃ρ1 l1 S1,Ext ρ H ρ1 H1/\Sim K ρ1 S1 H1/\RO ρ1 H1 l1 σ1/\zc4 it g b m i l1 S1=some (f,l',S'),⟨k,ρ,l,S,Ext.refl ..,sim,ro,hm⟩,?_⟩;rintro i m σ1 H1 ⟨ρ1,l1,S1,e1,s1,ro1,hm1⟩;cases m with
 |zero=>cases hm1
 |succ m=>
  unfold zc4 at hm1;obtain ⟨o,hi,hm1⟩:=bnd hm1;obtain ⟨k1,k2⟩:=ok i ρ1 S1 H1 e1 s1;cases o with
  |none=>cases hm1;exact .inl ⟨k1 hi,p ρ1 H1 σ1 e1 s1 ro1⟩
  |some x=>obtain ⟨k3,k4⟩:=k2 x hi;refine .inr ⟨k3,_,λσ' H' h=>h,λy H2 hyl=>?_⟩;obtain ⟨x2,s2,r2⟩:=k4 y H2 hyl;refine zks (next:=zc4 it g b m (i+1)) s2 (ro1.mono x2) r2 hm1 (λρ' H' σ' e'=>p ρ' H' σ' ((e1.trans x2).trans e')) λρ3 H3 σ3 l3 S3 e3 s3 ro3 hm3=>?_;exact ⟨m,Nat.lt_succ_self m,ρ3,l3,S3,(e1.trans x2).trans e3,s3,ro3,hm3⟩
end
section
end
theorem zpr {α:Type}{c:Prop} [Decidable c] {a:Option α}{v:α}(h:(if c then a else none)=some v):c/\a=some v:=by
 by_cases hc:c
 ·rw [if_pos hc] at h;exact ⟨hc,h⟩
 ·rw [if_neg hc] at h;cases h
section
end
section
end
section
variable {lo hi:Option Expr}{ml mh:OM}
end
noncomputable abbrev zeg:=oI (λi j=>decide (0<=j/\j<=1000000/\i.natAbs<2^64)) λi j=>.int (i*2^j.toNat)
noncomputable abbrev zi0:=oI (λ_ j=>decide (0<=j)) λi j=>.int (i/2^j.toNat)
noncomputable abbrev zgy:=oI0 λi j=>.int (Builtin.bitAnd i j)
section
theorem ych (ha:PE3 X a ma) (hb:PE3 X b mb):PE3 X (.BinOp a .LShift b pos) (eOp zeg ma mb):=zdo zwj (zgk (λi j h=>by unfold zfc;exact of_decide_eq_true h) λ_ _ _ _=>.int _) ha hb
theorem yci (ha:PE3 X a ma) (hb:PE3 X b mb):PE3 X (.BinOp a .RShift b pos) (eOp zi0 ma mb):=zdo zwk (zgk (λi j h=>of_decide_eq_true h) λ_ _ _ _=>.int _) ha hb
theorem ycj (ha:PE3 X a ma) (hb:PE3 X b mb):PE3 X (.BinOp a .BitAnd b pos) (eOp zgy ma mb):=zdo zwl (zgl λ_ _ _ _=>.int _) ha hb
end
noncomputable def zlb:D->D->Sto->Option (D×Sto)
 | .str z,.int i,S=>if z.length<=sizeLine then (atI z.cps.toList i).bind λc=>some (.str ⟨#[c]⟩,S) else none
 |_,_,_=>none
noncomputable def zag:D->D->Sto->Option (D×Sto):=λx y S=>match dIx x y S with|some v=>some v|none=>zlb x y S
theorem yck {K:QFg}:Op3 K zlb zkg:=by
 intro ρ S H x y x' y' v S' Q sim rx ry h p;unfold zlb at h;split at h
 ·cases rx;cases ry;split at h
  ·rename_i hz;obtain ⟨c,h1,h⟩:=bnd h;cases h;exact ⟨_,_,c,rfl,rfl,hz,h1,p ρ H _ (Ext.refl ..) sim (.str _)⟩
  ·cases h
 ·cases h
theorem ycl {K:QFg}:Op3 K zag (rIx K):=by
 intro ρ S H x y x' y' v S' Q sim rx ry hm p;unfold zag at hm;cases e:dIx x y S with
 |some w=>rw [e] at hm;cases hm;exact zzk ρ S H x y x' y' _ _ Q sim rx ry e p
 |none=>rw [e] at hm;exact .inr (.inr (yck ρ S H x y x' y' _ _ Q sim rx ry hm p))
noncomputable def zb3:FM
 |[.str z],S=>if z.length<=sizeLine then some (.int z.length,S) else none
 |xs,S=>zgn xs S
section
variable {X:Cx}{a b:Expr}{ma mb:EM}{mA:AM}{es:List Expr}{pos p:Pos}{K:QFg}
theorem ycm (ha:PE3 X a ma) (hb:PE3 X b mb) (hs:zn5 b:=by intro _ _;rfl):PE3 X (.Subscript a b pos) (eOp zag ma mb):=PE.imp (zxl zxn ha hb hs) (zii ycl)
theorem ycn:Fn3 K zb3 (λxs H Q=>(∃p ys,xs=[.ref p]/\(SqL K H p ys\/SqT K H p ys)/\Q (.int ys.length) H)\/∃z,xs=[.str z]/\z.length<=sizeLine/\Q (.int z.length) H):=by
 intro ρ S H xs vs v S' Q sim r h p;unfold zb3 at h;split at h
 ·obtain ⟨hz,e⟩:=zbb h;cases e;obtain ⟨w,rfl,rw'⟩:=r.one;cases rw';exact .inr ⟨_,rfl,hz,p ρ H _ (Ext.refl ..) sim (.int _)⟩
 ·exact .inl (zzs ρ S H _ vs v S' Q sim r h p)
theorem yco (hg:Gl X "len") (hm:X.mg "len" = none) (ha:PA3 X (a::es) mA) (he:starEach (a::es) X.env=(false,eval a X.env)::starEach es X.env:=by rfl) (hpl:(backTo pos (starEach es X.env)).any (·.1)=false:=by rfl):PE3 X (.Call (.Name "len" p) (a::es) [] pos) (zad zb3 mA) :=
 zdq (call_len_seq.or zxw) ycn hg hm PySem.boot_len ha '$' '$' he hpl
end
noncomputable def zfq:D->Option Key
 | .int i=>some (.inl i)
 | .str x=>some (.inr x)
 |_=>none
noncomputable def zdv (kvs:List (Key×D)) (k:Key):Option D:=(kvs.find? λkv=>decide (kv.1=k)).map (·.2)
noncomputable def zi1 (kvs:List (Key×D)) (k:Key) (v:D):List (Key×D):=if (kvs.any λkv=>decide (kv.1=k))=true then kvs.map (λkv=>if kv.1=k then (kv.1,v) else kv) else kvs++[(k,v)]
section
variable {K:QFg}{ρ:List Addr}{H:Hp}{S:Sto}
theorem zlc:∀{kvs:List (Key×D)}{vs:List V},RDs ρ H (kvs.map (·.2)) vs->(zdv kvs k=none->zbi ((kvs.map (·.1)).zip vs) k=none)/\∀d,zdv kvs k=some d->∃v,zbi ((kvs.map (·.1)).zip vs) k=some v/\RD ρ H d v
 |[],vs,r=>by cases r;exact ⟨λ_=>rfl,λd h=>by cases h⟩
 | (k',d') :: kvs,vs,r=>by
  cases r with
  | @cons _ v _ vs r1 r2=>
   by_cases e:k'=k
   ·have e1:zdv ((k',d')::kvs) k=some d':=(by simp [zdv,e]);have e2:zbi ((((k',d')::kvs).map (·.1)).zip (v::vs)) k=some v:=zgf (p:=(k',v)) e;rw [e1,e2];exact ⟨λz=>(by cases z),λd h=>(by cases h;exact ⟨v,rfl,r1⟩)⟩
   ·have e1:zdv ((k',d')::kvs) k=zdv kvs k:=(by simp [zdv,e]);have e2:zbi ((((k',d')::kvs).map (·.1)).zip (v::vs)) k=zbi ((kvs.map (·.1)).zip vs) k:=zgg (p:=(k',v)) e;rw [e1,e2];exact zlc r2
theorem zps (k:Key):∀{kvs:List (Key×D)}{vs:List V},RDs ρ H (kvs.map (·.2)) vs->(((kvs.map (·.1)).zip vs).any λkv=>decide (kv.1=k))=kvs.any λkv=>decide (kv.1=k)
 |[],vs,r=>by cases r;rfl
 |(k',d')::kvs,vs,r=>by
  cases r with
  | @cons _ v _ vs r1 r2=>show (decide (k'=k)||(((kvs.map (·.1)).zip vs).any λkv=>decide (kv.1=k)))=(decide (k'=k)||_);rw [zps k r2]
theorem ycp (rv:RD ρ H d v) (r:RDs ρ H (kvs.map (·.2)) vs):∃ws,zbg ((kvs.map (·.1)).zip vs) k v=((zi1 kvs k d).map (·.1)).zip ws/\RDs ρ H ((zi1 kvs k d).map (·.2)) ws:=by
 unfold zbg zi1;rw [zps k r];by_cases e:(kvs.any λkv=>decide (kv.1=k))=true
 ·rw [if_pos e,if_pos e];clear e;induction kvs generalizing vs with
  |nil=>cases r;exact ⟨[],rfl,.nil⟩
  | cons p kvs ih =>
   obtain ⟨k',d'⟩:=p;cases r with
   | @cons _ u _ us r1 r2 =>
    obtain ⟨ws,h1,h2⟩:=ih r2;by_cases e:k'=k
    ·refine ⟨v::ws,?_,?_⟩
     ·simp only [List.map_cons,List.zip_cons_cons,if_pos e];rw [<-h1]
     ·simp only [List.map_cons,if_pos e];exact .cons rv h2
    ·refine ⟨u::ws,?_,?_⟩
     ·simp only [List.map_cons,List.zip_cons_cons,if_neg e];rw [<-h1]
     ·simp only [List.map_cons,if_neg e];exact .cons r1 h2
 ·rw [if_neg e,if_neg e];refine ⟨vs++[v],?_,?_⟩
  ·rw [List.map_append,List.zip_append (by rw [qlm];have:=r.length;rw [qlm] at this;exact this)];rfl
  ·rw [List.map_append];exact r.append (.cons rv .nil)
theorem zi2 (h:zfq d=some k) (r:RD ρ H d v):v=kV k:=by
 cases r<;>first|(cases h;rfl)|cases h
end
section
variable {X:Cx}{a b e:Expr}{ma mb me:EM}{pos pos':Pos}{k:Nat}
theorem zgz (hr:Room k X.A):X.A.units+1<cLine:=by have:=hr.un;omega
theorem ycq (hr:Room k X.A):OpR X (compareOp .NotIn) (λy x H Q=>∃a o,x=.ref a/\zfe H a y o/\Q (.bl (!o.isSome)) H):=by intro pins s σ H y x v u Q I ry rx h;obtain ⟨a,o,rfl,g,q⟩:=h;cases rx;exact zyd (zgz hr) I g ry λs' I'=>⟨.bl _,H,I',rfl,q⟩
end
theorem zpt (kvs:List (Key×V)):zdn (.dK kvs):=⟨λ_ z=>(by cases z),λ_ _ z=>(by cases z)⟩
section
end
section
end
section
end
noncomputable def sgn (z:Str):List D:=z.cps.toList.map λc=>.str ⟨#[c]⟩
noncomputable def Its (z:Str):It:=⟨λi _=>i<z.cps.size,λi H x H'=>H'=H/\∃c,z.cps[i]?=some c/\x=.str ⟨#[c]⟩,λi _=>z.cps.size<=i⟩
theorem zpu (z:Str):(sgn z).length=z.cps.size:=by simp [sgn]
theorem ycr {K:QFg}{ρ:List Addr}{H:Hp}{z:Str}:zds K ρ H (itX (sgn z)) (Its z):=by
 intro i ρ' S' H' e s;refine ⟨λh=>?_,λx h=>?_⟩
 ·have h:(sgn z)[i]?=none:=qoi h;have:=List.getElem?_eq_none_iff.mp h;rw [zpu] at this;exact this
 ·have h:(sgn z)[i]?=some x:=qoi h;have hl:=(qme h).1;rw [zpu] at hl;refine ⟨hl,λy H'' ⟨e1,c,e2,e3⟩=>⟨e1,?_⟩⟩;subst e3;unfold sgn at h;rw [qgm] at h;have e4:z.cps.toList[i]?=some c:=by simpa using e2
  rw [e4] at h;cases h;exact .str _
section
variable {P:Program}{w:World}{K:QFg}{elts:List Expr}{z:Nat}{tp:Pos}
theorem zpv (x:Str) (t:Tok) (T:String) (e b:Addr) (heb:e≠b) (Dr:∀A:Around,A.handled=none->Draws P w A b [b] x.cps.size (λi v=>∃c u,x.cps[i]?=some c/\v=.str ⟨#[c]⟩ u) (λi h=>h.IsStrIter b T x t i)) :
  Turn P w K (.Tuple elts z tp) (Itn (Its x)) [e,b] e (λi h=>(∃old,IsEnum h e b i old)/\(h.IsStrIter b T x t i/\i<=x.cps.size)) where
 mem:=by simp
 obj:=λi h st=>zk7 (T:=λh=>h.IsStrIter b T x t i/\i<=x.cps.size) (λh ⟨⟨o,q,c,d⟩,_⟩=>⟨o,q,λv z=>by rw [d] at z;cases z⟩) i h st
 keep:=λi h h1 st k=>⟨let ⟨old,q⟩:=st.1;⟨old,k e '*' _ q⟩,let ⟨⟨o,q,r⟩,l⟩:=st.2;⟨⟨o,k b '*' o q,r⟩,l⟩⟩
 item:=by intro X hP hw hK hc i pins s σ H E I hf st hg;subst hP hw hK;obtain ⟨⟨old,he⟩,hb,hle⟩:=st;have hlt:i<x.cps.size:=hg;refine wpAny_pyNext_enum_itemD (Dr X.A.in1 (I.ok.hd hc)) he hb hlt heb (by simp [heb]) λx1 h1 tk hP ho hs1 hT hsz hk=>?_;obtain ⟨c,u,hc1,rfl⟩:=hP;obtain ⟨ob,gb,_⟩:=id hb;refine ⟨_,rfl,wpAny_letOwnedTupleGo_enum ho λh2 he2 hs2=>?_⟩;replace hs2:Heap.SameBut e h1 h2:=hs2;exact zk8 (J:=Its x) (x:=.str ⟨#[c]⟩) (T:=λh=>h.IsStrIter b T x t (i+1)/\i+1<=x.cps.size) I hf ⟨u,rfl⟩ (Heap.lt_size he) (Heap.lt_size gb) hk hT he2 hs2 ⟨let ⟨o,q,r⟩:=hs1;⟨o,(hs2.2 b heb.symm).trans q,r⟩,hlt⟩ ⟨rfl,c,hc1,rfl⟩
 done:=by
  intro X hP hw hK hc i pins s σ H E I hf st hg;subst hP hw hK;obtain ⟨⟨old,he⟩,hb,hle⟩:=st;have hge:x.cps.size<=i:=hg;have hi:i=x.cps.size:=by omega
  subst hi;obtain ⟨f0,f1,f2,f3,f4,f5⟩:=hf b '*';exact wpAny_pyNext_enum_endD (Dr X.A.in1 (I.ok.hd hc)) he hb λh1 eb=>⟨rfl,I.turned (t':=s.toks) (λc o hb q=>eb c o hb q) f0 f1 f3 f4 f5⟩
 self:=λA i s Q E st h=>let ⟨old,q⟩:=st.1;wpAny_pyIter_enum q h
end
section
def ycs (ta:TA):TI:=λσ H R=>ta σ H λvs H1=>∃x,vs=[.str x]/\R (Itn (Its x)) H1
theorem yct {ta:TA}(hg:Gl X "enumerate") (hm:X.mg "enumerate" = none) (ha:PA X [a] ta) (hs:starEach [a] X.env=[(false,eval a X.env)]:=by rfl):PI X (.Tuple elts z tp) (.Call (.Name "enumerate" p) [a] [] pos) (ycs ta):=by
 intro pins s σ H R I h;refine Call_ (zdm I hg hm zk9 (PyProof.Rows.callWith_type1 (thn (ha pos pins s σ H _ I h) λus s1 ⟨vs,H1,I1,r1,q1⟩=>?_) hs rfl));obtain ⟨x,rfl,q⟩:=q1;cases r1 with
 |cons r rr=>
  cases rr;obtain ⟨t,rfl⟩:=r;refine call_enumerate_str λh1 he hb _ hk=>?_;cases hall:x.cps.all (· < 128)
  ·have hb':h1.IsStrIter s1.heap.objs.size "str_iterator" x t 0:=(by simpa [strIterType,hall] using hb);exact ziy (T:=λi h=>h.IsStrIter s1.heap.objs.size "str_iterator" x t i/\i<=x.cps.size) I1 (zpv x t _ _ _ (Nat.succ_ne_self _) λA hA=>Draws.strWide hA _ x t) he ⟨hb',Nat.zero_le _⟩ hk q
  ·have hb':h1.IsStrIter s1.heap.objs.size "str_ascii_iterator" x t 0:=(by simpa [strIterType,hall] using hb);exact ziy (T:=λi h=>h.IsStrIter s1.heap.objs.size "str_ascii_iterator" x t i/\i<=x.cps.size) I1 (zpv x t _ _ _ (Nat.succ_ne_self _) λA hA=>Draws.strAscii hA _ x t) he ⟨hb',Nat.zero_le _⟩ hk q
end
inductive tiL (K:QFg) (im:IM) (σ:St) (H:Hp) (R:It->Hp->Prop):Prop
 |mk (ρ:_) (l:_) (S:_) (it:_) (k:_) (S':_) (_:Sim K ρ S H) (_:RO ρ H l σ) (_:im l S=some (it,k,S')) (_:∀ρ' H' J,Ext ρ H ρ' H'->Sim K ρ' S' H'->ziz K ρ' H' it J->R J H')
def zg0 (X:Cx) (tgt iter:Expr) (im:IM):Prop:=PI X tgt iter (tiL X.K im)
noncomputable def zi3 (m:AM):IM:=λl S=>(m l S).bind λp=>match p.1 with
 |[.tup xs]=>some (itN (itX xs),xs.length+1,p.2)
 |[.ref n]=>(lstOf p.2 n).bind λxs=>some (itN (itL n),xs.length+1,p.2)
 |[.str z]=>some (itN (itX (sgn z)),z.cps.size+1,p.2)
 |_=>none
section
theorem ycu (hgl:Gl X "enumerate") (hmg:X.mg "enumerate" = none) (ha:PA3 X [a] mA) (hst:starEach [a] X.env=[(false,eval a X.env)]:=by rfl):zg0 X (.Tuple elts z tp) (.Call (.Name "enumerate" p0) [a] [] pos') (zi3 mA) :=
 PI.imp (PI.or (PI.or (yce hgl hmg ha hst) (ycf hgl hmg ha hst)) (yct hgl hmg ha hst)) λσ H R hx1_=>by
  obtain ⟨ρ,l,S,it,k,S',sim,ro,hm,p⟩:=hx1_;obtain ⟨⟨xs,S2⟩,q2,q1⟩:=bnd hm;dsimp only at q1;split at q1
  ·rename_i ys;cases q1;refine .inl (.inr ⟨ρ,l,S,[.tup ys],_,sim,ro,q2,λρ1 H1 vs e1 s1 r1=>?_⟩);obtain ⟨v,rfl,rv⟩:=r1.one;cases rv with
   | @tup _ c us hc' r=>exact ⟨c,rfl,⟨us,SqT.of hc'⟩,p ρ1 H1 _ e1 s1 (zla (zkv hc' r))⟩
  ·rename_i n;obtain ⟨ys,hx,q1⟩:=bnd q1;cases q1;refine .inl (.inl ⟨ρ,l,S,[.ref n],_,sim,ro,q2,λρ1 H1 vs e1 s1 r1=>?_⟩);obtain ⟨v,rfl,rv⟩:=r1.one;obtain ⟨c,us,hc',sq,rv'⟩:=s1.lstOf hx;cases rv with
   |ref hn=>rw [hc'] at hn;cases hn;exact ⟨c,rfl,⟨us,sq⟩,p ρ1 H1 _ e1 s1 (zla (zkw hc'))⟩
  ·rename_i y;cases q1;refine .inr ⟨ρ,l,S,[.str y],_,sim,ro,q2,λρ1 H1 vs e1 s1 r1=>?_⟩;obtain ⟨v,rfl,rv⟩:=r1.one;cases rv;exact ⟨y,rfl,p ρ1 H1 _ e1 s1 (zla ycr)⟩
  ·cases q1
theorem ycv {tgt iter:Expr}{im:IM}(hp:PassesOwn (model X.prog X.w) X.A X.env X.xe) (hc:X.calm=true) (hi:zg0 X tgt iter im) (hg:PG3 X tgt g) (hb:PSs3 X body b) (hs:∀x,foldedSetIterable iter X.env x=pure x:=by intro _;rfl) :
  PS3 X (.For tgt iter body [] pos) (zgx im g b) :=
 PS.imp (zh9 hp hc hi hg hb hs) λE σ H hx2_=>by obtain ⟨ρ,l,S,f,l',S',sim,ro,hm,p⟩:=hx2_;obtain ⟨⟨it,k,S1⟩,q1,hm⟩:=bnd hm;exact ⟨ρ,l,S,it,k,S1,sim,ro,q1,λρ1 H1 J e1 s1 ok=>ycg ok s1 (ro.mono e1) hm λρ' H' σ' e'=>p ρ' H' σ' (e1.trans e')⟩
end
section
end
def ycw:V->Option Int->Option Int->Hp->VK->Prop:=λx lo hi H Q=>∃z,x=.str z/\z.length<=sizeLine/\Q (.str (Txt.slice z lo hi)) H
theorem zpw (h:IsPart v o):∃l:Option (Int×Tok),v=partValue l/\o=l.map (·.1):=by
 cases h with
 |none=>exact ⟨none,rfl,rfl⟩
 |int i t=>exact ⟨some (i,t),rfl,rfl⟩
theorem ycx:SlR X ycw:=by intro pins s σ H x v vl vu lo hi sl Q I rx hs pl pu h;obtain ⟨z,rfl,hz,q⟩:=h;obtain ⟨t,rfl⟩:=rx;obtain ⟨l,rfl,rfl⟩:=zpw pl;obtain ⟨u,rfl,rfl⟩:=zpw pu;refine ⟨"str",_,F.slot_str_getitem.lookup,typeIs_str _ _ _,?_⟩;refine wpAny_getItem_str_slice (l:=l) (u:=u) (st:=none) hs rfl ?_;refine post_val_or_str ⟨Nat.le_trans (Txt.slice_le z _ _) hz,λt' k=>?_⟩;exact ⟨.str _,H,I.tok _,⟨t',rfl⟩,q⟩
noncomputable def zdh (m:EM) (lo hi:OM):EM:=λl S=>(m l S).bind λp=>(lo l p.2).bind λq=>(hi l q.2).bind λr=>match p.1 with
 | .tup xs=>some (.tup (zbj xs q.1 r.1),r.2)
 | .ref n=>(lstOf r.2 n).bind λxs=>some (.ref r.2.length,r.2++[.lst (zbj xs q.1 r.1)])
 | .str z=>if z.length<=sizeLine then some (.str (Txt.slice z q.1 r.1),r.2) else none
 |_=>none
section
variable {lo hi:Option Expr}{ml mh:OM}
theorem ycy (he:PE3 X a ma) (hl:PO3 X lo ml) (hu:PO3 X hi mh):PE3 X (.Subscript a (.Slice lo hi none p2) pos) (zdh ma ml mh):=PE.imp (zxj (((sl_tup.or zzo).or zxt).or ycx) he hl hu) λσ H Q hx1_=>by
 obtain ⟨ρ,l,S,v,S',sim,ro,hm,p⟩:=hx1_;obtain ⟨⟨x,S1⟩,h1,hm⟩:=bnd hm;obtain ⟨⟨y,S2⟩,h2,hm⟩:=bnd hm;obtain ⟨⟨z,S3⟩,h3,hm⟩:=bnd hm;refine ⟨ρ,l,S,x,S1,sim,ro,h1,λρ1 H1 x' e1 s1 r1=>⟨ρ1,l,S1,y,S2,s1,ro.mono e1,h2,λρ2 H2 e2 s2=>⟨ρ2,l,S2,z,S3,s2,ro.mono (e1.trans e2),h3,λρ3 H3 e3 s3=>?_⟩⟩⟩;have e13:=e1.trans (e2.trans e3);cases r1 with
 | @tup xs a vs ha r=>
  cases hm;have ha3:=(e2.trans e3).tup _ _ ha;have r3:=r.mono (e2.trans e3);have hlen:=r.length;by_cases hw:HT.sIx vs.length 0 y=0/\HT.sIx vs.length vs.length z=vs.length
  ·refine .inl (.inl (.inr ⟨a,vs,rfl,SqT.of ha3,hw,?_⟩));have:=zzp xs y z (by rw [hlen];exact hw);dsimp only at p;rw [this] at p;exact p ρ3 H3 _ e13 s3 (.tup ha3 r3)
  ·refine .inl (.inl (.inl ⟨a,vs,rfl,SqT.of ha3,hw,?_⟩));have rc:RDs ρ3 H3 (zbj xs y z) (zc8 vs y z):=(by unfold zbj zc8;rw [hlen];exact (r3.drop _).take _);exact zgi s3 rc (Pv.ext p e13)
 | @ref j b hj=>
  obtain ⟨xs,hx,hm⟩:=bnd (show (lstOf S3 j).bind (λxs=>some (D.ref S3.length,S3++[.lst (zbj xs y z)]))=some (v,S') from hm);cases hm;obtain ⟨c,us,hc,sq,rv⟩:=s3.lstOf hx;have:=(e2.trans e3).pre _ _ hj;rw [this] at hc;cases hc;have rc:RDs ρ3 H3 (zbj xs y z) (zc8 us y z):=by unfold zbj zc8;rw [rv.length];exact (rv.drop _).take _
  exact .inl (.inr ⟨b,us,rfl,sq,zgj s3 rc (Pv.ext p e13)⟩)
 |str t=>obtain ⟨hz,e⟩:=zbb (show (if t.length<=sizeLine then some (D.str (Txt.slice t y z),S3) else none)=some (v,S') from hm);cases e;exact .inr ⟨t,rfl,hz,p ρ3 H3 _ e13 s3 (.str _)⟩
 |_=>cases hm
end
noncomputable def zld:D->D->Sto->Option (D×Sto)
 | .str i,.str j,S=>if i.length+j.length<=sizeLine then some (.str (i++j),S) else none
 |_,_,_=>none
noncomputable def za8:D->D->Sto->Option (D×Sto):=λx y S=>match zld x y S with|some v=>some v|none=>zky x y S
theorem op3_plusS {K:QFg}:Op3 K zld (λx y H Q=>∃i j,x=.str i/\y=.str j/\i.length+j.length<=sizeLine/\Q (.str (i++j)) H):=by
 intro ρ S H x y x' y' v S' Q sim rx ry h p;unfold zld at h;split at h
 ·obtain ⟨hz,e⟩:=zbb h;cases e;cases rx;cases ry;exact ⟨_,_,rfl,rfl,hz,p ρ H _ (Ext.refl ..) sim (.str _)⟩
 ·cases h
theorem ycz (ha:PE3 X a ma) (hb:PE3 X b mb):PE3 X (.BinOp a .Add b pos) (eOp za8 ma mb):=zdo (op_add_str.or (op_add.or ((op_catT.or zzq).or zx5))) (op3_plusS.or yav) ha hb
section
variable {X:Cx}{a:Expr}{es:List Expr}{mA:AM}{pos p:Pos}{K:QFg}
end
section
end
noncomputable def zdw:List D->Option (List Int)
 |[]=>some []
 | .int i::r=>(zdw r).bind λns=>some (i::ns)
 |_=>none
noncomputable def zfr:FM
 |[.ref n],S=>(lstOf S n).bind λxs=>(zdw xs).bind λns=>some (.int ns.sum,S)
 |_,_=>none
theorem zle:∀{xs:List D}{ns:List Int}{vs:List V},zdw xs=some ns->RDs ρ H xs vs->vs=ns.map V.int
 |[],ts,vs,h,r=>by cases h;cases r;rfl
 | x :: xs,ts,vs,h,r=>by
  cases r with
  |cons r1 r2=>
   cases r1 with
   |int z=>obtain ⟨ts',h1,h⟩:=bnd (show (zdw xs).bind (λts=>some (z::ts))=some ts from h);cases h;rw [zle h1 r2];rfl
   |_=>cases h
theorem zpx:∀{ns:List Int}{us:List Value},Vals (ns.map V.int) us->∃ps:List (Int×Tok),us=ps.map (λp=>.int p.1 p.2)/\ps.map (·.1)=ns
 |[],us,h=>by cases h;exact ⟨[],rfl,rfl⟩
 |n::ns,us,h=>by
  cases h with
  |cons r q=>obtain ⟨t,rfl⟩:=r;obtain ⟨ps,rfl,h2⟩:=zpx q;exact ⟨(n,t)::ps,rfl,by rw [List.map_cons,h2]⟩
section
theorem yc0 (hc:X.calm=true):CallR X (.builtin "sum") (λxs H Q=>∃(p:Addr) (ns:List Int),xs=[.ref p]/\SqL X.K H p (ns.map V.int)/\Q (.int ns.sum) H):=by
 intro pins s σ H xs us Q I r h;obtain ⟨p,ns,rfl,sq,q⟩:=h;obtain ⟨u,rfl,ru⟩:=zd4 r;cases ru;obtain ⟨its,rv,pl,_⟩:=I.list sq;obtain ⟨ps,rfl,rfl⟩:=zpx rv;have hl:s.heap.IsList p (intItems ps.toArray):=by have:=pl.isList;simpa [intItems] using this
 refine sum_intListG (I.ok.hd hc) hl λh' tk t' hk=>?_;have e:preSum (numAt ps.toArray) ps.toArray.size=(ps.map (·.1)).sum:=by rw [preSum_eq,List.take_of_length_le '*']
 rw [e];exact ⟨.int _,H,I.kept (t':=tk) hk,⟨t',rfl⟩,q⟩
theorem yc1 {K:QFg}:Fn3 K zfr (λxs H Q=>∃(p:Addr) (ns:List Int),xs=[.ref p]/\SqL K H p (ns.map V.int)/\Q (.int ns.sum) H):=by
 intro ρ S H xs vs v S' Q sim r h p;unfold zfr at h;split at h
 ·obtain ⟨ys,h1,h⟩:=bnd h;obtain ⟨ns,h2,h⟩:=bnd h;cases h;obtain ⟨w,rfl,rw'⟩:=r.one;obtain ⟨a,us,ha,sq,r2⟩:=sim.lstOf h1;cases rw' with
  |ref hn=>rw [ha] at hn;cases hn;have:=zle h2 r2;subst this;exact ⟨_,ns,rfl,sq,p ρ H _ (Ext.refl ..) sim (.int _)⟩
 ·cases h
theorem yc2:bootBuiltins "sum" = some (.builtin "sum"):=by decide +kernel
theorem yc3 (hc:X.calm=true) (hg:Gl X "sum") (hm:X.mg "sum" = none) (ha:PA3 X (a::es) mA) (he:starEach (a::es) X.env=(false,eval a X.env)::starEach es X.env:=by rfl) (hpl:(backTo pos (starEach es X.env)).any (·.1)=false:=by rfl):PE3 X (.Call (.Name "sum" p) (a::es) [] pos) (zad zfr mA) :=
 zdq (yc0 hc) yc1 hg hm yc2 ha '$' '$' he hpl
end
section
variable {prog:Program}{w:World}{A:Around}{E:Value->Shared->Prop}{s:Shared}
end
section
variable {P:Program}{w:World}{K:QFg}{tg:Expr}
end
section
variable {X:Cx}{tg:Expr}
end
section
variable {X:Cx}{tgt:Expr}{a:Expr}{mA:AM}{p0 pos':Pos}
end
section
theorem yc4:bootBuiltins "sorted" = some (.builtin "sorted"):=by decide +kernel
end
section
end
section
end
noncomputable def zew (k v:EM):EM:=λl S=>(k l S).bind λp=>(v l p.2).bind λq=>some (.tup [p.1,q.1],q.2)
section
variable {K:QFg}{ρ:List Addr}{H:Hp}{S:Sto}
theorem Sim.besideG (s:Sim K ρ S H) (ha:H a=some u0) (hu:zdn u0) (hn:∀n:Nat,ρ[n]?≠some a):Sim K ρ S (upd H a u) :=
 ⟨s.len,s.nd,λn b o h1 h2=>(s.at' n b o h1 h2).writtenG ha hu λ_ z=>hn n (by rw [h1,z])⟩
theorem Ext.besideG (e:Ext ρ0 H0 ρ H) (h0:H0 a=none) (ha:H a=some u0) (hu:zdn u0):Ext ρ0 H0 ρ (upd H a u) :=
 ⟨⟨e.pre,λb vs h=>by rw [zaj (zcs (e.tup b vs h) ha (λz=>hu.1 vs z.symm))];exact e.tup b vs h,λb o vs h=>by rw [zaj (zcs (e.frz b o vs h) ha (λz=>hu.2 o vs z.symm))];exact e.frz b o vs h⟩,λb vs h n=>⟨by rw [zaj (zay h h0)];exact (e.out b vs h n).1,(e.out b vs h n).2⟩⟩
theorem Sim.adoptG (s:Sim K ρ S H) (ha:ObR K ρ H o1 a) (hn:∀n:Nat,ρ[n]?≠some a):Sim K (ρ++[a]) (S++[o1]) H:=by
 refine ⟨by simp [s.len],λi j b x1 x2 h1 h2 h3 h4 m1 m2=>?_,λn b o h1 h2=>?_⟩
 ·have hl:=s.len;rcases za9 h1 with g1|⟨e1,f1⟩<;>rcases za9 h2 with g2|⟨e2,f2⟩
  ·have l1:=(qme g1).1;have l2:=(qme g2).1;rcases za9 h3 with g3|⟨e3,_⟩<;>rcases za9 h4 with g4|⟨e4,_⟩
   ·exact s.nd i j b x1 x2 g1 g2 g3 g4 m1 m2
   ·omega
   ·omega
   ·omega
  ·subst f2;exact absurd g1 (hn i)
  ·subst f1;exact absurd g2 (hn j)
  ·omega
 ·rcases za9 h1 with h1|⟨e1,f1⟩
  ·rcases za9 h2 with h2|⟨e2,f2⟩
   ·exact (s.at' n b o h1 h2).more ext0_push
   ·have:=(qme h1).1;have:=s.len;omega
  ·subst f1;rcases za9 h2 with h2|⟨e2,f2⟩
   ·have:=(qme h2).1;have:=s.len;omega
   ·subst f2;exact ha.more ext0_push
end
theorem yc5 {kvs:List (Key×D)}(r:RDs ρ H (kvs.map (·.2)) vs):((kvs.map (·.1)).zip vs).length=kvs.length:=by rw [List.length_zip,qlm];have:=r.length;rw [qlm] at this;omega
section
variable {X:Cx}{tg:Expr}
end
section
variable {X:Cx}{tgt iter:Expr}{m:EM}
end
section
end
noncomputable def zlf (scope scO:Scope):Scope:={scope with names:=scope.names.map λ(n,k)=>if (k == .free&&scO.kind == .function&&scO.names.lookup n==some .cell) then (n,.cell) else (n,k)}
theorem yc6 (scope:Scope) (env:Env):relabel scope env=zlf scope env.scope:=rfl
open PySem.W
def Fly (h:Heap) (e C T:Addr):Prop:=∃oe vs oT ts a0,h.get? e=some oe/\oe.cls=.ref C/\oe.data=.fields vs/\vs[0]?=some a0/\vs[1]?=some (.ref T)/\T≠e/\h.get? T=some oT/\oT.data=.fields ts/\ts[3]?=some .none
structure Tr (fs:List Addr) (e T:Addr) (h h':Heap):Prop where
 keep:∀b o,b∉fs->b≠e->b≠T->h.get? b=some o->h'.get? b=some o
 slot:∀b o,b∈fs->h.get? b=some o->(∀vs,o.data≠.fields vs)->∃sl,h'.get? b=some {o with slots:=sl}
section
theorem zpy:∀env∈l,∀a,env.frame=some a->a∈frs l:=λenv he a ha=>List.mem_filterMap.mpr ⟨env,he,ha⟩
def New (h:Heap) (e C:Addr):Prop:=∃oe vs a0,h.get? e=some oe/\oe.cls=.ref C/\oe.data=.fields vs/\vs[0]?=some a0/\vs[1]?=some .none
theorem yc7 (hfr:A.frames=some (env::outer)) (hl:s.heap.FunFrames base (env::outer)) (hf:env.frame=some L) (fl:New s.heap e C)
  (hQ:∀h' T',Tr (frs (env::outer)) e e s.heap h'->Fly h' e C T'->s.heap.get? T'=none->Q () {s with heap:=h'}):wpAny M A (leaving env (.ref e)) Q E s:=by
 obtain ⟨oe,vs,a0,he,hc,hd,h0,h1⟩:=fl;refine wpAny_leaving_firstW (base:=hideAll s.heap (e::frs (env::outer))) (a0:=a0) hfr (funFrames_hide hl λv hv a ha=>List.mem_cons_of_mem _ (zpy v hv a ha)) hf he (λb o q=>of_hideAll _ q) (hideAll_none _ '*') hd h1 h0 λh' hL=>?_;obtain ⟨k1,k2,⟨oe',vs',T',oT',ts',e1,⟨c1,z1⟩,d1,f1,n1,ne1,g1,d1',t1⟩,k4⟩:=hL;refine hQ h' T' ⟨λb o hb h2 h3 q=>k1 b o (hideAll_get _ q (by simp only [List.mem_cons,not_or];exact ⟨h2,hb⟩)),λb o _ q hn=>k4 b o q hn⟩ ⟨oe',vs',oT',ts',a0,e1,c1.trans hc,d1,z1,f1,ne1,g1,d1',t1⟩ ?_;cases q:s.heap.get? T' with
 |none=>rfl
 | some o =>
  by_cases hm:T'∈e::frs (env::outer)
  ·rcases List.mem_cons.mp hm with z|z
   ·exact absurd z ne1
   ·obtain ⟨_,o2,ho2,hnf⟩:=hl.mem z;rw [q] at ho2;cases ho2;obtain ⟨sl,hs⟩:=k4 T' o q hnf;rw [g1] at hs;cases hs;exact absurd d1' (hnf ts')
  ·rw [hideAll_get _ q hm] at n1;cases n1
end
theorem ObjOk.there (x:ObjOk P w H h a o):∃q,h.get? a=some q:=by
 cases o with
 |lst xs=>obtain ⟨_,_,_,_,e⟩:=x;exact ⟨_,e⟩
 |tup xs=>obtain ⟨_,_,_,ob,e,_⟩:=x;exact ⟨_,e⟩
 |dK kvs=>obtain ⟨_,_,_,_,o,_,_,e,_⟩:=x;exact ⟨_,e⟩
 |dT kvs=>obtain ⟨_,_,_,_,o,_,_,e,_⟩:=x;exact ⟨_,e⟩
 |set S n=>obtain ⟨o,_,_,_,e,_⟩:=x;exact ⟨_,e⟩
 |ins C dx fs=>obtain ⟨_,_,_,e,_⟩:=x;exact ⟨_,e⟩
 |own y=>obtain ⟨_,e⟩:=x;exact ⟨_,e⟩
 |xd fs=>obtain ⟨_,⟨_,_,_,e,_⟩,_⟩:=x;exact ⟨_,e⟩
 |rng lo hi=>obtain ⟨_,_,_,e⟩:=x;exact ⟨_,e⟩
 |frz ob u=>obtain ⟨e,_⟩:=x;exact ⟨_,e⟩
 |tbl ps=>exact ⟨_,x⟩
 |met f y=>exact ⟨_,x⟩
 |ext φ=>obtain ⟨_,e,_⟩:=x;exact e
def CX1 (P:Program) (w:World):CXT:=λouter H s E x s'=>∃a C T H',x=.ref a/\s'.os=s.os/\AllBare s'.gens/\Un (frs outer) [] H H' s.heap s'.heap/\HOk P w H' s'.heap /\
 s.heap.get? a=none/\s.heap.get? T=none/\Fly s'.heap a C T/\H' a=none/\H' T=none/\E (.ref C) none H'
section
variable {P:Program}{w:World}{K:QFg}{mg:Str->Option Value}{base:Heap}{N:List Str}{qual:Str}{scope:Scope}{f:Addr}{cd:Value}{A:Around}{outer:List Env}{s:Shared}{H:Hp}{E:XK}
theorem yc8 (I:Inv (zbp (CX1 P w) P w K mg base N qual scope f cd A outer s H E) pins σ H1 s1)
  (na:s.heap.get? a=none) (nT:s.heap.get? T=none) (ha:H1 a=none) (hT:H1 T=none) (hE:E (.ref C) none H1)
  (tr:Tr (frs (envOfC qual scope s.heap.objs.size f cd::outer)) a T s1.heap h') (fl:Fly h' a C T') (hT':T'=T\/s1.heap.get? T'=none) :
  CX1 P w outer H s E (.ref a) {s1 with heap:=h'}:=by
 have hsub:∀b,b∈frs (envOfC qual scope s.heap.objs.size f cd::outer)->b=s.heap.objs.size\/b∈frs outer:=λb hb=>by
  rcases List.mem_cons.mp (I.stkSub b hb) with z|z
  ·exact .inl z
  ·exact .inr z
 have hne:∀b o,s.heap.get? b=some o->b≠a/\b≠T/\b≠s.heap.objs.size:=λb o q=>⟨λz=>(by rw [z,na] at q;cases q),λz=>(by rw [z,nT] at q;cases q),Nat.ne_of_lt (Heap.lt_size q)⟩;have nT':s.heap.get? T'=none:=by
  rcases hT' with rfl|q
  ·exact nT
  ·cases z:s.heap.get? T' with
   |none=>rfl
   |some o=>obtain ⟨o',e⟩:=I.base.there T' o z (by simp [zbp]);rw [q] at e;cases e
 have hT'':H1 T'=none:=by
  rcases hT' with rfl|q
  ·exact hT
  ·cases z:H1 T' with
   |none=>rfl
   |some u=>obtain ⟨o',e⟩:=ObjOk.there (I.hok T' u z);rw [q] at e;cases e
 refine ⟨a,C,T',H1,rfl,I.os,I.bare,⟨λb o q n hb hx=>?_,λb o q n hb hx=>?_,λb o q n hx=>?_,λb o q hx=>?_,I.base.tups,I.base.frzs,I.base.tbls⟩,λb u e=>?_,na,nT',fl,ha,hT'',hE⟩
 ·obtain ⟨h1,h2,h3⟩:=hne b o q;exact tr.keep b o (λz=>(hsub b z).elim h3 hb) h1 h2 (I.base.keep b o q n hb (by simp [zbp]))
 ·obtain ⟨sl,e⟩:=I.base.slot b o q n hb (by simp [zbp]);have hb':b∈frs (envOfC qual scope s.heap.objs.size f cd::outer):=by
   unfold frs at hb ⊢;rw [List.filterMap_cons];split
   ·exact hb
   ·exact List.mem_cons_of_mem _ hb
  obtain ⟨_,o2,ho2,hnf⟩:=I.funs.mem hb;rw [e] at ho2;cases ho2;obtain ⟨sl',e'⟩:=tr.slot b _ hb' e hnf;exact ⟨sl',e'⟩
 ·exact I.base.free b o q n (by simp [zbp])
 ·obtain ⟨h1,h2,h3⟩:=hne b o q;obtain ⟨o',e⟩:=I.base.there b o q (by simp [zbp]);by_cases hb:b∈frs (envOfC qual scope s.heap.objs.size f cd::outer)
  ·obtain ⟨_,o2,ho2,hnf⟩:=I.stack.mem hb;rw [e] at ho2;cases ho2;obtain ⟨sl,e'⟩:=tr.slot b _ hb e hnf;exact ⟨_,e'⟩
  ·exact ⟨o',tr.keep b o' hb h1 h2 e⟩
 ·refine (I.hok b u e).stay (λc v hc q=>?_) (λ_ q=>q) λ_ _ q=>q;have hcn:H1 c≠none:=by
   rcases hc with z|z
   ·rw [z,e];intro y;cases y
   ·rw [z];intro y;cases y
  exact tr.keep c v (λz=>hcn (I.stkFree c z)) (λz=>hcn (by rw [z];exact ha)) (λz=>hcn (by rw [z];exact hT)) q
theorem yc9 (I:Inv (zbp (CX1 P w) P w K mg base N qual scope f cd A outer s H E) pins σ H1 s1)
  (na:s.heap.get? a=none) (ha:H1 a=none) (fl:New s1.heap a C) (hE:E (.ref C) none H1) :
  (zbp (CX1 P w) P w K mg base N qual scope f cd A outer s H E).xe (.ref a) s1 :=
 yc7 (L:=s.heap.objs.size) I.ok.frames I.stack rfl fl λh' T' tr fl' hT'=>yc8 I na na ha ha hE tr fl' (.inr hT')
end
abbrev ZM:=Lo->Sto->Option (Str×Sto)
abbrev ZF:=List D->Sto->Option (Str×Sto)
def Rz (K:QFg) (E:XK) (CA:Str->Addr) (r:ZM):L2.St->Hp->Prop:=λσ H=>∃ρ l S C S',Sim K ρ S H/\RO ρ H l σ/\r l S=some (C,S')/\∀ρ' H',Ext ρ H ρ' H'->Sim K ρ' S' H'->E (.ref (CA C)) none H'
def PSz (X:Cx) (E:XK) (CA:Str->Addr) (st:Stmt) (r:ZM):Prop:=PS X st (λ_ σ H=>Rz X.K E CA r σ H)
def zeh (X:Cx) (E:XK) (CA:Str->Addr) (st:List Stmt) (r:ZM):Prop:=PSs X st (λ_ σ H=>Rz X.K E CA r σ H)
def spZ (K:QFg) (CA:Str->Addr) (n:Nat) (rx:ZF):Sp:=λvs H _ E=>vs.length=n/\∃ρ ds S C S',Sim K ρ S H/\RDs ρ H ds vs/\rx ds S=some (C,S')/\∀ρ' H',Ext ρ H ρ' H'->Sim K ρ' S' H'->E (.ref (CA C)) none H'
noncomputable def zlg:ZM:=λ_ _=>none
noncomputable def zi4 (m:SM) (r:ZM):ZM:=λl S=>(m l S).bind λq=>match q.1 with
 | .nx=>r q.2.1 q.2.2
 |_=>none
noncomputable def zIf (t:TM) (r q:ZM):ZM:=λl S=>(t l S).bind λp=>if p.1=true then r l p.2 else q l p.2
noncomputable def zlh (rx:ZF) (mA:AM):ZM:=λl S=>(mA l S).bind λp=>rx p.1 p.2
section
variable {E:XK}{CA:Str->Addr}{st:Stmt}{rest:List Stmt}{r q:ZM}
theorem Rz.none {K:QFg}{σ:L2.St}{H:Hp}(h:Rz K E CA zlg σ H):False:=by obtain ⟨ρ,l,S,C,S',sim,ro,hm,p⟩:=h;cases hm
theorem yda:zeh X E CA rest zlg:=λ_ _ _ _ _ _ h=>h.none.elim
theorem ydb:PSs X rest (λ_ _ _=>False):=λ_ _ _ _ _ _ h=>h.elim
theorem ydc (h:PSz X E CA st r):zeh X E CA (st::rest) r:=λpins s σ H D I q=>zj7 (u:=λ_ _ _=>False) h ydb pins s σ H D I q
theorem ydd (h:PS3 X st b) (h2:zeh X E CA rest r):zeh X E CA (st::rest) (zi4 b r):=λpins s σ H D I ⟨ρ,l,S,C,S',sim,ro,hm,p⟩=>zj7 h h2 pins s σ H D I (by
 obtain ⟨⟨g,l1,S1⟩,q1,hm⟩:=bnd hm;refine ⟨ρ,l,S,g,l1,S1,sim,ro,q1,λρ1 H1 σ1 e1 s1 r1=>?_⟩;cases g with
 |nx=>exact ⟨ρ1,l1,S1,C,S',s1,r1,hm,λρ2 H2 e2 s2=>p ρ2 H2 (e1.trans e2) s2⟩
 |_=>cases hm)
theorem yde (hc:PT3 X c mc) (ha:zeh X E CA a r) (hb:zeh X E CA d q):PSz X E CA (.If c a d pos) (zIf mc r q):=λpins s σ H D I ⟨ρ,l,S,C,S',sim,ro,hm,p⟩=>znd hc ha hb pins s σ H D I (by
 obtain ⟨⟨x,S1⟩,q1,hm⟩:=bnd hm;refine ⟨ρ,l,S,x,S1,sim,ro,q1,λρ1 H1 e1 s1=>?_⟩;cases x with
 |true=>exact zdb ⟨ρ1,l,S1,C,S',s1,ro.mono e1,hm,λρ2 H2 e2 s2=>p ρ2 H2 (e1.trans e2) s2⟩
 |false=>exact zda ⟨ρ1,l,S1,C,S',s1,ro.mono e1,hm,λρ2 H2 e2 s2=>p ρ2 H2 (e1.trans e2) s2⟩)
end
def zg1 (P:Program) (w:World) (K:QFg) (mg:Str->Option Value) (base:Heap) (CA:Str->Addr) (x:Str) (k n:Nat) (rx:ZF):Prop :=
 ∃(f:Addr) (fd:FuncData) (ps:List Str),FnOk P w K mg base (CX1 P w) k f fd ps (spZ K CA n rx)/\mg x=some (.ref f)/\PySem.W.keepIn K (.ref f)=true/\Binds K fd ps []
section
end
noncomputable abbrev zdx:List Value:=[.type "ValueError",.type "Exception",.type "BaseException",.type "object"]
noncomputable def zei (K:QFg) (C:Addr):List Value:=match K.lookup C with
 |some ⟨_,_,.cls cd,_⟩=>cd.mro.tail
 |_=>[]
theorem zi5 {K:QFg}{h:Heap}{C:Addr}{bmB:List Value}{newId:String}(X:K.In h) (q:excIn K C bmB newId=true) :
  ∃N nm qn bs hdct sn sub ab col dd k0 k1 k2 k3 k5 mN,h.get? C=some (excClassObj nm qn C N bs (zei K C) hdct sn sub ab col dd k0 k1 k2 k3 k5 newId)/\h.Ns N mN/\mN "__init__" = none/\OwnTail h bmB (zei K C):=by
 unfold excIn at q;split at q
 ·rename_i dd cd sl ho;split at q
  ·rename_i C' bm k0 k1 k2 k3 n k5 hm hs;simp only [Bool.and_eq_true,beq_iff_eq,Bool.not_eq_true'] at q;obtain ⟨⟨⟨⟨⟨rfl,rfl⟩,hdel⟩,ht⟩,hok⟩,hni⟩:=q;obtain ⟨nm,bs,mro,ns,qn,hd,sn,sub,ab,col,del⟩:=cd;dsimp only at hm hdel hok hni;subst hm hdel;have hsl:sl=#[k0,k1,k2,k3,some (.builtin n),k5]:=(by obtain ⟨l⟩:=sl;simp only at hs;rw [hs]);subst hsl;have et:zei K C'=bm:=(by unfold zei;rw [ho];rfl);rw [et];exact ⟨ns,nm,qn,bs,hd,sn,sub,ab,col,dd,k0,k1,k2,k3,k5,_,X _ _ ho,.of_isNs (isNs_of_in X hok),nsMap_none_of_in X hok hni,tail_of_in X ht⟩
  ·cases q
 ·cases q
section
variable {P:Program}{w:World}{K:QFg}{mg:Str->Option Value}{base:Heap}{N:List Str}{qual:Str}{scope:Scope}{f:Addr}{cd:Value}{A:Around}{outer:List Env}{s:Shared}{H:Hp}{E:XK}{CA:Str->Addr}
theorem ydf {x z:Str}{j:Nat}{np p1 cpos pos:Pos}(hg:Gl (zbp (CX1 P w) P w K mg base N qual scope f cd A outer s H E) x) (hm:mg x=some (.ref (CA x))) (q:excIn K (CA x) zdx "ValueError.__new__" = true) (hd:(x==("__debug__":Str))=false:=by decide) :
  PSz (zbp (CX1 P w) P w K mg base N qual scope f cd A outer s H E) E CA (.Raise (some (.Call (.Name x np) [.Constant (.str z) j p1] [] cpos)) none pos) (λ_ S=>some (x,S)):=by
 intro pins s1 σ H1 D I ⟨ρ,l,S,C,S',sim,ro,hz,p⟩;cases hz;have hE:=p ρ H1 (Ext.refl ..) sim;obtain ⟨N',nm,qn,bs,hdct,sn,sub,ab,col,dd,k0,k1,k2,k3,k5,mN,hC,hN,hni,T⟩:=zi5 (h:=base) I.mod.kin q;refine wpAny_Raise_call_subU (C:=CA x) (nm:=nm) (q:=qn) (N:=N') (bs:=bs) (bm:=zei K (CA x)) (hdct:=hdct) (sn:=sn) (sub:=sub) (ab:=ab) (col:=col) (dd:=dd) (k0:=k0) (k1:=k1) (k2:=k2) (k3:=k3) (k5:=k5)
  F.excBase_ValueError '$' F.excBase_ValueError (mN:=mN) (T.hasType F.excBase_ValueError.hasBase) (I.ok.hd rfl) rfl hni (zgd I hg hm ⟨rfl,?_⟩ hd)
 refine Calls.evalArgs_plain (thn (zct (X:=zbp (CX1 P w) P w K mg base N qual scope f cd A outer s H E) (e:=.Constant (.str z) j p1) zu0 zd5 rfl cpos pins s1 σ H1 (λvs H2=>H2=H1/\vs.length=1) I ⟨rfl,rfl⟩) λus s2 ⟨vs,H2,I2,r,e2,hl⟩=>?_);subst e2;refine ⟨rfl,by rw [<-r.length,hl];decide,I2.bk _ _ hC,hN.keeps I2.bk,T.keeps I2.bk,λh' e hm=>?_⟩;have I3:=I2.kept (h':=h') (t':=s2.toks) hm.keeps;have hne:=hm.new;have na:s.heap.get? e=none:=by
  cases z:s.heap.get? e with
  |none=>rfl
  |some o=>obtain ⟨o',e'⟩:=I2.base.there e o z (by simp [zbp]);rw [hne] at e';cases e'
 have ha:H2 e=none:=by
  cases z:H2 e with
  |none=>rfl
  |some u=>obtain ⟨o',e'⟩:=ObjOk.there (I2.hok e u z);rw [hne] at e';cases e'
 obtain ⟨t,ht,_,_⟩:=hm.there;exact yc9 (s1:={s2 with heap:=h'}) I3 na ha ⟨_,_,_,ht,rfl,rfl,rfl,rfl⟩ hE
end
section
variable {M:Model}{A:Around}{E:Value->Shared->Prop}{s:Shared}{base:Heap}{env:Env}{outer l:List Env}{L e C T:Addr}{Q:Unit->Shared->Prop}
theorem zpz (hl:s.heap.FunFrames base l) (held:Heap.FlyingW (hideAll s.heap (e::T::frs l)) l e (.ref C) a0 h') (sm:s.heap.UpToSlots h') :
  ∃T',Tr (frs l) e T s.heap h'/\Fly h' e C T'/\(T'=T\/s.heap.get? T'=none):=by
 obtain ⟨k1,k2,k3,oe',vs',T',oT',ts',e1,⟨c1,z1⟩,d1,f1,n1,ne1,g1,d1',t1⟩:=held;refine ⟨T',⟨λb o hb h2 h3 q=>k1 b o (hideAll_get _ q (by simp only [List.mem_cons,not_or];exact ⟨h2,h3,hb⟩)),λb o _ q hn=>sm b o q hn⟩,⟨oe',vs',oT',ts',a0,e1,c1,d1,z1,f1,ne1,g1,d1',t1⟩,?_⟩;cases q:s.heap.get? T' with
 |none=>exact .inr rfl
 | some o =>
  refine .inl ?_;by_cases hm:T'∈e::T::frs l
  ·rcases List.mem_cons.mp hm with z|z
   ·exact absurd z ne1
   ·rcases List.mem_cons.mp z with z|z
    ·exact z
    ·obtain ⟨_,o2,ho2,hnf⟩:=hl.mem z;rw [q] at ho2;cases ho2;obtain ⟨sl,hs⟩:=sm T' o q hnf;rw [g1] at hs;cases hs;exact absurd d1' (hnf ts')
  ·rw [hideAll_get _ q hm] at n1;cases n1
theorem zp0 (hl:s.heap.FunFrames base l) (fl:Fly s.heap e C T):∃a0,Heap.FlyingW (hideAll s.heap (e::T::frs l)) l e (.ref C) a0 s.heap:=by obtain ⟨oe,vs,oT,ts,a0,he,hc,hd,h0,h1,hTe,hT,hdT,h3⟩:=fl;exact ⟨a0,λb o q=>of_hideAll _ q,hideAll_none _ '*',funFrames_hide hl λv hv a ha=>List.mem_cons_of_mem _ (List.mem_cons_of_mem _ (zpy v hv a ha)),oe,vs,T,oT,ts,he,⟨hc,h0⟩,hd,h1,hideAll_none _ '*',hTe,hT,hdT,h3⟩
theorem ydg (hfr:A.frames=some (env::outer)) (hl:s.heap.FunFrames base (env::outer)) (hf:env.frame=some L) (fl:Fly s.heap e C T)
  (hQ:∀h' T',Tr (frs (env::outer)) e T s.heap h'->Fly h' e C T'->(T'=T\/s.heap.get? T'=none)->Q () {s with heap:=h'}) :
  wpAny M A (noteFrame (.ref e) env) (λ_ s₂=>wpAny M A (setFlight (.ref e) none) Q E s₂) E s:=by
 obtain ⟨a0,fw⟩:=zp0 hl fl;refine wpAny_looks_onW hfr hf fw λh4 held4 sm4=>?_;refine wpAny_landsW (s:={s with heap:=h4}) held4 λh5 held sm5=>?_;obtain ⟨T',t1,t2,t3⟩:=zpz hl held (sm4.trans sm5);exact hQ h5 T' t1 t2 t3
theorem ydh (hl:s.heap.FunFrames base l) (fl:Fly s.heap e C T)
  (hQ:∀h' T',Tr (frs l) e T s.heap h'->Fly h' e C T'->(T'=T\/s.heap.get? T'=none)->Q () {s with heap:=h'}):wpAny M A (setFlight (.ref e) none) Q E s:=by
 obtain ⟨a0,fw⟩:=zp0 hl fl;refine lands_againW fw λh5 held sm5=>?_;obtain ⟨T',t1,t2,t3⟩:=zpz hl held sm5;exact hQ h5 T' t1 t2 t3
end
section
theorem Inv.tr (I:'%') (hex:X.ex=[]) (tr:Tr (frs X.stack) a T s.heap h') (na:X.s₀.heap.get? a=none) (nT:X.s₀.heap.get? T=none) (ha:H a=none) (hT:H T=none)
  (oL:X.env.locals≠a/\X.env.locals≠T) (oC:∀x c,X.env.cells.lookup x=some c->c≠a/\c≠T) (oP:∀p∈X.pn++pins,p.1≠a/\p.1≠T):Inv X pins σ H {s with heap:=h',toks:=t'}:=by
 have kp:∀b o,(∀vs,o.data≠.fields vs)->b≠a->b≠T->s.heap.get? b=some o->∃sl,h'.get? b=some {o with slots:=sl}:=λb o hn h1 h2 q=>by
  by_cases hb:b∈frs X.stack
  ·exact tr.slot b o hb q hn
  ·exact ⟨o.slots,tr.keep b o hb h1 h2 q⟩
 have hne:∀b o,X.s₀.heap.get? b=some o->b≠a/\b≠T/\b≠X.env.locals:=λb o q=>⟨λz=>(by rw [z,na] at q;cases q),λz=>(by rw [z,nT] at q;cases q),Nat.ne_of_lt (Nat.lt_of_lt_of_le (Heap.lt_size q) I.ok.above)⟩;have nex:∀b,b∉X.ex:=λb=>by rw [hex];simp
 refine ⟨I.ok,I.os,I.bare,⟨λb o q n hb hx=>?_,λb o q n hb hx=>?_,I.base.free,λb o q hx=>?_,I.base.tups,I.base.frzs,I.base.tbls⟩,?_,λx c e=>?_,I.free,I.freeC,λp hp=>?_,λb u e=>?_,I.len⟩
 ·obtain ⟨h1,h2,h3⟩:=hne b o q;exact tr.keep b o (λz=>(List.mem_cons.mp (I.stkSub b z)).elim h3 hb) h1 h2 (I.base.keep b o q n hb hx)
 ·obtain ⟨h1,h2,h3⟩:=hne b o q;obtain ⟨sl,e⟩:=I.base.slot b o q n hb hx;obtain ⟨_,o2,ho2,hnf⟩:=I.funs.mem hb;rw [e] at ho2;cases ho2;obtain ⟨sl',e'⟩:=kp b _ hnf h1 h2 e;exact ⟨sl',e'⟩
 ·obtain ⟨h1,h2,h3⟩:=hne b o q;obtain ⟨o',e⟩:=I.base.there b o q hx;by_cases hb:b∈frs X.stack
  ·obtain ⟨_,o2,ho2,hnf⟩:=I.stack.mem hb;rw [e] at ho2;cases ho2;obtain ⟨sl,e'⟩:=tr.slot b _ hb e hnf;exact ⟨_,e'⟩
  ·exact ⟨o',tr.keep b o' hb h1 h2 e⟩
 ·obtain ⟨m,⟨o,es,ep,ho,hd,hr⟩,hl⟩:=I.loc;obtain ⟨sl,e'⟩:=kp _ o (λvs z=>by rw [hd] at z;cases z) oL.1 oL.2 ho;refine ⟨m,⟨_,es,ep,e',hd,hr⟩,λi x v h1 h2 h3=>?_⟩;obtain ⟨u,r,lk⟩:=hl i x v h1 h2 h3;refine ⟨u,r,?_⟩;rcases lk with lk|⟨k,c,hc,oc,hoc,hdc⟩
  ·exact .inl lk
  ·obtain ⟨sl2,e2⟩:=kp c oc (λvs z=>by rw [hdc] at z;cases z) (oC x c hc).1 (oC x c hc).2 hoc;exact .inr ⟨k,c,hc,_,e2,hdc⟩
 ·obtain ⟨v,o,ho,hd⟩:=I.cell x c e;obtain ⟨sl2,e2⟩:=kp c o (λvs z=>by rw [hd] at z;cases z) (oC x c e).1 (oC x c e).2 ho;exact ⟨v,_,e2,hd⟩
 ·obtain ⟨e,n,ne,nf,d⟩:=I.pin p hp;exact ⟨tr.keep _ _ (λz=>(List.mem_cons.mp (I.stkSub _ z)).elim ne nf) (oP p hp).1 (oP p hp).2 e,n,ne,nf,d⟩
 ·refine (I.hok b u e).stay (λc v hc q=>?_) (λ_ q=>q) λ_ _ q=>q;have hcn:H c≠none:=by
   rcases hc with z|z
   ·rw [z,e];intro y;cases y
   ·rw [z];intro y;cases y
  exact tr.keep c v (λz=>hcn (I.stkFree c z)) (λz=>hcn (by rw [z];exact ha)) (λz=>hcn (by rw [z];exact hT)) q
end
section
variable {M:Model}{A:Around}{E:Value->Shared->Prop}{h:Heap}{g:Array GenState}{d:Drawn}{t:Nat}{os:OsState}
variable {nm q nm' q':Str}{C N D N':Addr}{bs bm bs' bm':List Value}{hdct hdct':Bool}{sn sn':List Str}{sub sub':List Value}{ab ab':Bool}{col col':Option Bool}{dd dd':Option Addr}{k0 k1 k2 k3 k5 k0' k1' k2' k3' k5':Option Value}{newId newId':String}
theorem ydi
  (hC:h.get? C=some (excClassObj nm q C N bs bm hdct sn sub ab col dd k0 k1 k2 k3 k5 newId)) (hD:h.get? D=some (excClassObj nm' q' D N' bs' bm' hdct' sn' sub' ab' col' dd' k0' k1' k2' k3' k5' newId'))
  (he:h.get? e=some oe) (hcls:oe.cls=.ref C) (hbase:bm'.contains (.type "BaseException")=true) (hin:(Value.ref C::bm).contains (.ref D)=true)
  (hq:Q true ⟨h,g,d,t,os⟩):wpAny M A (excMatches (.ref e) (.ref D)) Q E ⟨h,g,d,t,os⟩:=by
 have hcB:(Value.ref D::bm').contains (.type "BaseException")=true:=by rw [List.contains_cons,hbase,Bool.or_true]
 have f:=tc_notTuple;unfold excMatches
 repeat (first|(with_reducible refine wpAny_loadPart_at he ?_;rw [hcls])|with_reducible refine wpAny_loadPart_at hD ?_|with_reducible refine wpAny_loadPart_at hC ?_|(with_reducible refine wpAny_isSubtype_exc hD ?_;rw [hcB])|(with_reducible refine wpAny_isSubtype_exc hC ?_;rw [hin])|wp_step)
 exact hq
end
noncomputable abbrev mk1 (X:Cx) (e:Value):Cx:={X with A:=X.A.mark (some e),calm:=false,xe:=λ_ _=>False}
def phi (e C:Addr):Heap->Prop:=λh=>∃o,h.get? e=some o/\o.cls=.ref C
section
theorem Inv.mk1 (I:'%'):Inv (L3.mk1 X e) pins σ H s :=
 ⟨⟨I.ok.mod,I.ok.kind,I.ok.glob,I.ok.blt,I.ok.above,I.ok.inj,I.ok.has,I.ok.cab,λh=>absurd (show false=true from h) Bool.false_ne_true,I.ok.frames,I.ok.stk,I.ok.exf,I.ok.bs,I.ok.bsz,I.ok.noex,I.ok.exfs,I.ok.funs,I.ok.frf⟩,I.os,I.bare,I.base,I.loc,I.cell,I.free,I.freeC,I.pin,I.hok,I.len⟩
theorem Inv.unmk1 (ok:X.Ok) (I:Inv (L3.mk1 X e) pins σ H s):Inv X pins σ H s:=⟨ok,I.os,I.bare,I.base,I.loc,I.cell,I.free,I.freeC,I.pin,I.hok,I.len⟩
theorem Inv.track (I:'%') (ha:H a=none) (na:X.s₀.heap.get? a=none) (oL:X.env.locals≠a) (oC:∀x c,X.env.cells.lookup x=some c->c≠a) (oP:∀p∈X.pn++pins,p.1≠a)
  (he:phi a C s.heap):Inv X pins σ (upd H a (.ext (phi a C))) s:=by
 have up:∀b u,H b=some u->upd H a (.ext (phi a C)) b=some u:=λb u q=>by rw [zaj (zay q ha)];exact q
 refine ⟨I.ok,I.os,I.bare,⟨I.base.keep,I.base.slot,λb o q n hx=>?_,I.base.there,λb xs q=>up _ _ (I.base.tups b xs q),λb o u q=>up _ _ (I.base.frzs b o u q),λb ps q=>?_⟩,I.loc,I.cell,?_,λx c q=>?_,λp hp=>?_,λb u q=>?_,I.len⟩
 ·rw [zaj (λz=>by rw [z,na] at q;cases q)];exact I.base.free b o q n hx
 ·obtain ⟨more,z⟩:=I.base.tbls b ps q;exact ⟨more,up _ _ z⟩
 ·rw [zaj oL];exact I.free
 ·rw [zaj (oC x c q)];exact I.freeC x c q
 ·obtain ⟨z,n,ne,nf,d⟩:=I.pin p hp;exact ⟨z,by rw [zaj (oP p hp)];exact n,ne,nf,d⟩
 ·by_cases hb:b=a
  ·subst hb;rw [zbo] at q;cases q;obtain ⟨o,h1,h2⟩:=he;exact ⟨⟨o,h1,h2⟩,⟨o,h1⟩,λh1 h2 ⟨o,z1,z2⟩ k=>⟨o,k o z1,z2⟩⟩
  ·rw [zaj hb] at q;exact (I.hok b u q).stay (λc v _ z=>z) (λc z=>up _ _ z) λc xs z=>up _ _ z
theorem Inv.unbound (I:'%') (hN:X.N.Nodup) (hi:X.N[i]?=some n)
  (hm:s.heap.Ns X.env.locals m) (hn:h'.Ns X.env.locals (λx=>if x=n then v else m x)) (sb:Heap.SameBut X.env.locals s.heap h'):Inv X pins (σ.set i none) H {s with heap:=h',toks:=t'}:=by
 have kp:∀b o,b≠X.env.locals->s.heap.get? b=some o->h'.get? b=some o:=λb o hb q=>sb.extBut b o hb q;have hL:∀b o,X.s₀.heap.get? b=some o->b≠X.env.locals:=λb o q=>Nat.ne_of_lt (Nat.lt_of_lt_of_le (Heap.lt_size q) I.ok.above);have nfs:X.env.locals∉X.fs:=λz=>by obtain ⟨_,o,ho,_⟩:=I.ok.funs.mem z;exact hL _ o ho rfl
 refine ⟨I.ok,I.os,I.bare,⟨λb o q n hb hx=>kp b o (hL b o q) (I.base.keep b o q n hb hx),λb o q n hb hx=>?_,I.base.free,λb o q hx=>?_,I.base.tups,I.base.frzs,I.base.tbls⟩,⟨_,hn,λj x u h1 h2 h3=>?_⟩,λx c q=>?_,I.free,I.freeC,λp hp=>?_,λb u q=>?_,by rw [List.length_set];exact I.len⟩
 ·obtain ⟨sl,z⟩:=I.base.slot b o q n hb hx;exact ⟨sl,kp b _ (hL b o q) z⟩
 ·obtain ⟨o',z⟩:=I.base.there b o q hx;exact ⟨o',kp b _ (hL b o q) z⟩
 ·have hji:i≠j:=λz=>by subst z;rw [List.getElem?_set_self (by have:=(qme hi).1;rw [I.len];exact this)] at h2;cases h2
  rw [List.getElem?_set_ne hji] at h2;have hxn:x≠n:=λz=>hji (zj5 hN hi (by rw [h1,z]));obtain ⟨m0,hn0,hl⟩:=I.loc;obtain ⟨w,r,lk⟩:=hl j x u h1 h2 h3;have em:m0=m:=by obtain ⟨o1,es1,ep1,ho1,hd1,hk1,hf1⟩:=hn0;obtain ⟨o2,es2,ep2,ho2,hd2,hk2,hf2⟩:=hm;rw [ho1] at ho2;cases ho2;rw [hd1] at hd2;cases hd2;funext y;rw [<-hf1 y,<-hf2 y]
  subst em;refine ⟨w,r,?_⟩;rcases lk with ⟨k,z⟩|⟨k,c,hc,o,ho,hd⟩
  ·exact .inl ⟨k,by show (if x=n then v else m0 x)=some w;rw [if_neg hxn];exact z⟩
  ·exact .inr ⟨k,c,hc,o,kp c o (I.cne x c hc) ho,hd⟩
 ·obtain ⟨w,o,ho,hd⟩:=I.cell x c q;exact ⟨w,o,kp c o (I.cne x c q) ho,hd⟩
 ·obtain ⟨z,n,ne,nf,d⟩:=I.pin p hp;exact ⟨kp _ _ ne z,n,ne,nf,d⟩
 ·refine (I.hok b u q).stay (λc w hc z=>kp c w (λy=>?_) z) (λ_ z=>z) λ_ _ z=>z;have hcn:H c≠none:=by
   rcases hc with y|y
   ·rw [y,q];intro z;cases z
   ·rw [y];intro z;cases z
  exact hcn (by rw [y];exact I.free)
end
def EH (X:Cx) (Dh:Addr) (tS:TS) (i:Nat) (D:Ends) (σ:L2.St):XK:=λc _ H'=>∃C,c=.ref C/\excIn X.K C zdx "ValueError.__new__" = true/\(Value.ref C::zei X.K C).contains (.ref Dh)=true /\
 ∀e,H' e=none->tS {nx:=λσ' H''=>D.nx (σ'.set i none) H'',rt:=λ_ _=>False} (σ.set i (some (.ref e))) (upd H' e (.ext (phi e C)))
section
theorem ydj (hstk:X.stack=X.env::X.outer) (hfm:X.env.frame=some X.env.locals) (hex:X.ex=[]) (hg:Gl X hx) (hm:X.mg hx=some (.ref Dh)) (qD:excIn X.K Dh zdx "ValueError.__new__" = true)
  (hS:∀e,PSs (mk1 X e) (b0::suite) tS) (hN:X.N.Nodup) (hi:X.N[i]?=some n) (hln:X.env.scope.names.lookup n=some .local) (hd:(hx==("__debug__":Str))=false)
  {H1:Hp} {s1 s2:Shared} {e:Value} {D:Ends} (I1:Inv X pins σ H1 s1) (cx:CX1 X.prog X.w X.stack H1 s1 (EH X Dh tS i D σ) e s2) :
  wpAny '#' X.A (noteFrame e X.env) (λ_ s₂=>wpAny '#' X.A (setFlight e none) (λ_ s₃=>
   wpAny '#' X.A (handleBy e X.env [.ExceptHandler (some (.Name hx np)) (some n) (b0::suite) hpos]) (SP X pins D) X.xe s₃) X.xe s₂) X.xe s2:=by
 obtain ⟨a,C,T,H',rfl,ho,hgn,un,hok,na,nT,fl,ha,hT,hE⟩:=cx;obtain ⟨C',hCe,qC,hin,hE⟩:=hE;cases hCe;have I2:Inv X pins σ H' s2:=I1.call' (s':=s2) (ch:=[]) ho un hok hgn (λb hb=>by cases hb);have up:∀b,s1.heap.get? b=none->X.s₀.heap.get? b=none:=λb q=>by
  cases z:X.s₀.heap.get? b with
  |none=>rfl
  |some o=>obtain ⟨o',e⟩:=I1.base.there b o z (by rw [hex];simp);rw [q] at e;cases e
 have out:∀b,s1.heap.get? b=none->X.env.locals≠b/\(∀x c,X.env.cells.lookup x=some c->c≠b)/\∀p∈X.pn++pins,p.1≠b:=λb q=>by
  refine ⟨λz=>?_,λx c hc z=>?_,λp hp z=>?_⟩
  ·obtain ⟨m,⟨o,_,_,h1,_⟩,_⟩:=I1.loc;rw [z,q] at h1;cases h1
  ·obtain ⟨v,o,h1,_⟩:=I1.cell x c hc;rw [z,q] at h1;cases h1
  ·have:=(I1.pin p hp).1;rw [z,q] at this;cases this
 have stk:∀{σ':L2.St} {H'':Hp} {s':Shared},Inv X pins σ' H'' s'->s'.heap.FunFrames X.base (X.env::X.outer):=λI=>by have:=I.stack;rw [hstk] at this;exact this
 have oa:=out a na;have oT:=out T nT;refine ydg (L:=X.env.locals) (by rw [I2.ok.frames,hstk]) (stk I2) hfm fl λh3 T3 tr3 fl3 hT3=>?_;rw [<-hstk] at tr3;have I3:Inv X pins σ H' {s2 with heap:=h3}:=Inv.tr (t':=s2.toks) I2 hex tr3 (up a na) (up T nT) ha hT ⟨oa.1,oT.1⟩ (λx c q=>⟨oa.2.1 x c q,oT.2.1 x c q⟩) (λp q=>⟨oa.2.2 p q,oT.2.2 p q⟩);have nT3:s1.heap.get? T3=none:=by
  rcases hT3 with rfl|q
  ·exact nT
  ·cases z:s1.heap.get? T3 with
   |none=>rfl
   |some o=>obtain ⟨o',e⟩:=un.there T3 o z '*';rw [q] at e;cases e
 have hT3':H' T3=none:=by
  rcases hT3 with rfl|q
  ·exact hT
  ·cases z:H' T3 with
   |none=>rfl
   |some u=>obtain ⟨o',e⟩:=ObjOk.there (hok T3 u z);rw [q] at e;cases e
 have oT3:=out T3 nT3;obtain ⟨N1,nm1,qn1,bs1,hdct1,sn1,sub1,ab1,col1,dd1,k01,k11,k21,k31,k51,mN1,hC1,_,_,_⟩:=zi5 (h:=h3) I3.kIn qC;obtain ⟨N2,nm2,qn2,bs2,hdct2,sn2,sub2,ab2,col2,dd2,k02,k12,k22,k32,k52,mN2,hC2,_,_,TL2⟩:=zi5 (h:=h3) I3.kIn qD;obtain ⟨oe,vs,oT',ts,a0,he,hcl,_⟩:=id fl3;refine wpAny_handleBy_cons (codeAny_handlers_test (Calls.Name_function_global I3.ok.kind hg (Calls.loadGlobal_global (by rw [I3.ok.glob];exact I3.mod.glob.keeps I3.bk) hm ?_) hd)) (by intro q;cases q);refine ydi hC1 hC2 he hcl (TL2.hasType F.excBase_ValueError.hasBase) hin ?_;refine codeAny_handlers_suite_as ?_;refine ydh (s:={s2 with heap:=h3}) (stk I3) fl3 λh4 T4 tr4 fl4 hT4=>?_;rw [<-hstk] at tr4;have I4:Inv X pins σ H' {s2 with heap:=h4}:=Inv.tr (s:={s2 with heap:=h3}) (t':=s2.toks) I3 hex tr4 (up a na) (up T3 nT3) ha hT3' ⟨oa.1,oT3.1⟩ (λx c q=>⟨oa.2.1 x c q,oT3.2.1 x c q⟩) (λp q=>⟨oa.2.2 p q,oT3.2.2 p q⟩);obtain ⟨oe4,vs4,oT4,ts4,a04,he4,hcl4,_⟩:=id fl4;have I5:=Inv.track (C:=C) I4 ha (up a na) oa.1 oa.2.1 oa.2.2 ⟨oe4,he4,hcl4⟩;refine zh6 (v:=.ref a) I5 hN hi (.inl hln) rfl (λs6 I6=>?_) (.inr hln);refine wpAny_mono (hS (.ref a) pins s6 (σ.set i (some (.ref a))) _ _ (Inv.mk1 I6) (hE a ha)) (λf s7 hf=>?_) λ_ _ z=>False.elim z;cases f with
 |next=>obtain ⟨σ',H'',I7,q7⟩:=hf;have I7:=Inv.unmk1 I6.ok I7;obtain ⟨m,hn,_⟩:=I7.loc;show wpAny _ X.A (do bindName X.env n .none;unbindBehindTheSuite X.env n hpos) _ _ s7;exact wpAny_nameGoes_keeps hln hn (by rw [I7.ok.kind];rfl) λh8 v hn8 sb8=>⟨σ'.set i none,H'',Inv.unbound I7 hN hi hn hn8 sb8,q7⟩
 |ret v=>obtain ⟨_,_,_,_,_,q⟩:=hf;exact q.elim
 |brk=>obtain ⟨_,_,_,q⟩:=hf;exact q.elim
 |cont=>obtain ⟨_,_,_,q⟩:=hf;exact q.elim
end
noncomputable def zi6 (k:Nat) (r:ZM):ZF:=λds S=>r (ds.map some++List.replicate (k-ds.length) none) S
theorem ydk {P:Program}{w:World}{K:QFg}{mg:Str->Option Value}{base:Heap}{CA:Str->Addr}{x:Str}{st:Stmt}{f:Addr}{fd:FuncData}{N ps:List Str}{k n:Nat}{r:ZM}(F:Fun K x x st f fd) (hm:mg x=some (.ref f)) (S:FnScope N ps (zaq st)) (hn:ps.length=n) (hb:Binds K fd ps [])
  (hbody:∀(cdv:Value),PySem.W.codeIn K cdv x=true->∀(A:Around) (outer:List Env) (s:Shared) (H:Hp) (E:XK),Room k (A.deeper (envOfC x (zaq st) s.heap.objs.size f cdv)) ->
   zeh (zbp (CX1 P w) P w K mg base N x (zaq st) f cdv A outer s H E) E CA (zcu st) r):zg1 P w K mg base CA x (k+1) n (zi6 N.length r):=by
 refine ⟨f,fd,ps,?_,hm,F.kp,hb⟩;obtain ⟨oc,od,kV,doc,pm,an,cdv,ct,osl,rfl,lk,hcd⟩:=F.ex;refine znz lk hcd S (λvs H Q E h=>by rw [h.1,hn]) λA outer s H vs Q E hr h=>?_;obtain ⟨hl,ρ,ds,S0,C,S',sim,rd,hz,p⟩:=h;exact ⟨_,hbody cdv hcd A outer s H E hr,ρ,_,S0,C,S',sim,rd.locals N,hz,p⟩
section
end
theorem RO.unset (r:RO ρ H l σ) (i:Nat):RO ρ H (l.set i none) (σ.set i none):=by
 refine ⟨by rw [List.length_set,List.length_set];exact r.len,λj d h=>?_⟩;by_cases e:i=j
 ·subst e;have hl:i<l.length:=by have:=(qme h).1;rw [List.length_set] at this;exact this
  rw [List.getElem?_set_self hl] at h;cases h
 ·rw [List.getElem?_set_ne e] at h ⊢;exact r.get j d h
noncomputable def zg2 (i:Nat) (ok:Str->Bool) (mN:SM) (r:ZM) (mS:SM):SM:=λl S=>match mN l S with
 |some q=>some q
 | none=>match r l S with
  |some (c,S')=>if ok c=true then (mS (l.set i (some (.ref S'.length))) (S'++[.exc c])).bind λq=>(match q.1 with
   | .nx=>some (.nx,q.2.1.set i none,q.2.2)
   |_=>none) else none
  |none=>none
section
end
open PySem.Builtin PySem.Builtin.ObjectAttr PySem.Builtin.Getset_descriptor
theorem zp6 (M:Model) (h:Heap) (p:phi a C h):Looks M h (typeOf (.ref a)) (.ref C):=by obtain ⟨o,h1,h2⟩:=p;exact h2▸(Looks.ld h1).andThen .now
section
variable {prog:Program}{w:World}{A:Around}{E:Value->Shared->Prop}{h:Heap}{g:Array GenState}{d:Drawn}{t:Nat}{os:OsState}{a:Addr}{o:Obj}{K:QFg}{C:Addr}
theorem ydl (X:K.In s.heap) (p:phi a C s.heap) (hm:mroIn K C (.type "object")=some true) (hq:R (.ok (.ret (.ref C))) s) :
  codeAny '&' A (.call (.builtin "getset_descriptor.__get__") ⟨[.builtin "object.__class__",.ref a,tp],[]⟩) R s:=by
 obtain ⟨hh,g,dr,t,os⟩:=s;have L0:=zp6 '&' hh p;have L1:=looks_mroIn (M:=model prog w) X hm;refine codeAny_call_builtin KF.slot_gs.plain KF.entry_gs (KF.slot_gs.check _ _ _ _ _ _ _ _ KF.type_class (KF.args_gs _ _ _) ?_);unfold Builtin.«getset_descriptor.__get__» descrGet;rw [dga_obj];refine qwb (qwp ?_);unfold descrGetter descrCheckInstance descrNameAndClass isInstance;simp only [KF.owner_class]
 repeat lk
 refine ⟨Code.quiet_builtin _ (by decide +kernel),codeAny_builtin KF.entry_class ?_⟩;unfold Builtin.«object.__class__» shownTypeOf
 repeat lk
 exact hq
theorem ydm (X:K.In h) (hx:h.get? a=some o) (hc:o.cls=.ref C) (hm:mroIn K C (.type "object")=some true) (hf:findIn K (.ref C) "__class__" = some (some (.builtin "object.__class__")))
  (hq:Q (.done (.ret (.ref C))) ⟨h,g,d,t,os⟩):wpAny '&' A (Builtin.«object.__getattribute__» ⟨[.ref a,.str "__class__" tk],[]⟩) Q E ⟨h,g,d,t,os⟩:=by
 have hT5:(⟨h,g,d,t,os⟩:Shared).TypeIs (.builtin "object.__class__") "getset_descriptor":=F.typeOf_object_class;have f5:=F.typeOf_object_class;have f6:=F.slot_gs_get.lookup;have f7:=F.slot_gs_set.lookup;have L:=looks_findIn (M:=model prog w) X hf
 repeat (any_goals (first|assumption|(with_reducible refine wpAny_loadPart_at hx ?_;rw [hc])|with_reducible refine L.at ?_|wp_step))
 refine ydl (s:=⟨h,g,d,t,os⟩) X ⟨o,hx,hc⟩ hm ?_
 repeat (any_goals (first|assumption|wp_step))
theorem ydn {M:Model}{nameV:Value}{Q:Unit->Shared->Prop}{nm q:Str}{N:Addr}{bs bm:List Value}{hdct:Bool}{sn:List Str}{sub:List Value}{ab:Bool}{col:Option Bool}{dd:Option Addr}{k0 k1 k2 k3 k5:Option Value}{newId:String}
  (hC:h.get? C=some (excClassObj nm q C N bs bm hdct sn sub ab col dd k0 k1 k2 k3 k5 newId)) (T:OwnTail h zdx bm)
  (hx:h.get? a=some o) (hc:o.cls=.ref C) (hq:Q () ⟨h,g,d,t,os⟩):wpAny M A (checkBuiltinCall "BaseException.__getattribute__" ⟨[.ref a,nameV],[]⟩) Q E ⟨h,g,d,t,os⟩:=by
 have hk:builtinKind "BaseException.__getattribute__" = some .slot:=by decide +kernel
 have hsplit:splitId "BaseException.__getattribute__" = some ("BaseException","__getattribute__"):=by decide +kernel
 have hcB:(Value.ref C::bm).contains (.type "BaseException")=true:=by rw [List.contains_cons,T.hasType F.excBase_ValueError.hasBase];rfl
 have ha:=F.args_bexc_ga (.ref a) nameV;simp only [checkBuiltinCall,hk,hsplit];refine qwb ?_
 ·unfold isInstance
  repeat (first|(with_reducible refine wpAny_loadPart_at hx ?_;rw [hc])|(with_reducible refine wpAny_isSubtype_exc hC ?_;rw [hcB])|wp_step)
  exact hq
end
structure ExcQ (K:QFg) (C:Addr):Prop where
 exc:excIn K C zdx "ValueError.__new__" = true
 obj:mroIn K C (.type "object")=some true
 cls:findIn K (.ref C) "__class__" = some (some (.builtin "object.__class__"))
 ga:findIn K (.ref C) "__getattribute__" = some (some (.builtin "BaseException.__getattribute__"))
 gr:findIn K (.ref C) "__getattr__" = some none
 is:(clsIn K C).isSome=true
section
variable {prog:Program}{w:World}{A:Around}{E:Value->Shared->Prop}{h:Heap}{g:Array GenState}{d:Drawn}{t:Nat}{os:OsState}{a:Addr}{o:Obj}{K:QFg}{C:Addr}
theorem ydo (X:K.In h) (c:ExcQ K C) (hx:h.get? a=some o) (hc:o.cls=.ref C) (hq:R (.ok (.ret (.ref C))) ⟨h,g,d,t,os⟩) :
  codeAny '&' A (.call (.builtin "BaseException.__getattribute__") ⟨[.ref a,.str "__class__" tk],[]⟩) R ⟨h,g,d,t,os⟩:=by
 obtain ⟨N,nm,qn,bs,hdct,sn,sub,ab,col,dd,k0,k1,k2,k3,k5,mN,hC,hN,hni,T⟩:=zi5 X c.exc;exact codeAny_call_builtin F.attrBase_ValueError.ga.plain F.entry_bexc_ga (ydn hC T hx hc (ydm X hx hc c.obj c.cls hq))
theorem ydp (X:K.In h) (c:ExcQ K C) (hx:h.get? a=some o) (hc:o.cls=.ref C) (hq:Q (.ref C) ⟨h,g,d,t,os⟩) :
  wpAny '&' A (getAttrBy (.ref a) (.str "__class__" tk) false) Q E ⟨h,g,d,t,os⟩:=by
 have f3:=F.attrBase_ValueError.ga.bind (.ref a);have hx2:(Value.builtin "BaseException.__getattribute__" == Value.builtin "object.__getattribute__")=false:=by decide +kernel
 have hx1:(onTheHeap (Value.ref C)&&Value.builtin "BaseException.__getattribute__" == Value.builtin "object.__getattribute__")=false:=by rw [hx2];rfl
 have L1:=looks_findIn (M:=model prog w) X c.ga;have L2:=looks_findIn (M:=model prog w) X c.gr
 repeat (any_goals (first|assumption|(with_reducible refine wpAny_loadPart_at hx ?_;rw [hc])|with_reducible refine L1.at ?_|with_reducible refine L2.at ?_|wp_step))
 refine ydo X c hx hc ?_
 repeat (any_goals (first|assumption|wp_step))
theorem ydq (X:K.In s.heap) (c:ExcQ K C) (p:phi a C s.heap) (hq:Q (some (.ref C)) {s with toks:=s.toks+1}) :
  wpAny '&' A (getAttr? (.ref a) "__class__") Q E s:=by
 obtain ⟨hh,g,d,t,os⟩:=s;obtain ⟨o,hx,hc⟩:=p;unfold getAttr? getAttrBy?
 repeat (any_goals (first|assumption|with_reducible apply ydp X c hx hc|wp_step))
theorem zp7 (c:ExcQ K C):KitX K (.ref a) (.ref C) (phi a C) where
 ty:=λM h _ p=>zp6 M h p
 it:=λ_ _ X _=>by
  obtain ⟨cdD,hcD⟩:=Option.isSome_iff_exists.mp c.is;unfold clsIn at hcD;split at hcD
  ·rename_i c' d' cd' sl' ho;intro A' Q' E' s' k q;unfold isType loadHead;exact qwb (wpAny_loadPart (k _ _ (X _ _ ho)) (qwp q))
  ·cases hcD
 ne:=λh tp dd its n sl X htp=>by
  obtain ⟨cdD,hcD⟩:=Option.isSome_iff_exists.mp c.is;refine Bool.eq_false_iff.mpr λq=>?_;have e:C=tp:=Value.ref.inj (beq_iff_eq.mp q);subst e;unfold clsIn at hcD;split at hcD
  ·rename_i c' d' cd' sl' ho;have z:=(X _ _ ho).symm.trans htp;cases z
  ·cases hcD
 ca:=λX p k=>ydq X c p k
end
def PN (X:Cx) (es:List Expr) (Cs:List Addr):Prop:=PA X es (λ_ H Q=>Q (Cs.map V.ref) H)
section
theorem zp8 (hg:Gl X y) (hm:X.mg y=some (.ref C)) (hd:(y==("__debug__":Str))=false:=by decide):PE X (.Name y p) (tC (.ref C)):=λ_ _ _ H _ I h=>zgd I hg hm ⟨.ref C,H,I,rfl,h⟩ hd
theorem zp9:PN X [] []:=λpos pins s σ H Q I h=>zd5 pos pins s σ H Q I h
theorem zc5 (hg:Gl X y) (hm:X.mg y=some (.ref C)) (h:PN X es Cs) (hd:(y==("__debug__":Str))=false:=by decide) (hs:starEach (.Name y p::es) X.env=(false,eval (.Name y p) X.env)::starEach es X.env:=by rfl):PN X (.Name y p::es) (C::Cs) :=
 λpos pins s σ H Q I q=>zct (zp8 hg hm hd) h hs pos pins s σ H Q I q
theorem zqa:∀{Cs:List Addr}{us:List Value},Vals (Cs.map V.ref) us->us=Cs.map Value.ref
 |[],us,h=>by cases h;rfl
 |C::Cs,us,h=>by
  cases h with
  |cons r q=>rw [zqa q];cases (show _=Value.ref C from r);rfl
def ydr (K:QFg):List V->Hp->VK->Prop:=λxs H Q=>∃(a tp C:Addr) (Cs:List Addr) (b:Bool),xs=[.ref a,.ref tp]/\H a=some (.ext (phi a C))/\H tp=some (.tup (Cs.map V.ref))/\ExcQ K C/\kitAny K (.ref C) (Cs.map Value.ref)=some b/\Q (.bl b) H
theorem yds:CallR X (.builtin "isinstance") (ydr X.K):=by intro pins s σ H xs us Q I r h;obtain ⟨a,tp,C,Cs,b,rfl,ha,ht,hc,hk,q⟩:=h;obtain ⟨u1,u2,rfl,r1,r2⟩:=r.two;cases (show u1=Value.ref a from r1);cases (show u2=Value.ref tp from r2);obtain ⟨ph,_⟩:=(show ObjOk X.prog X.w H s.heap a (.ext (phi a C)) from I.hok a _ ha);obtain ⟨its,rv,pt,_⟩:=I.tuple (SqT.of (K:=X.K) ht);have e:=zqa rv;subst e;obtain ⟨ob,h1,h2,h3⟩:=pt;obtain ⟨n,h3⟩:=h3;obtain ⟨c,dd,dt,sl⟩:=ob;cases h2;cases h3;exact kia_tup (zp7 hc) I.kIn ph h1 hk (λz=>nomatch z) λtk=>⟨.bl b,H,I.tok tk,rfl,q⟩
def ydt (K:QFg) (c:V) (cv:Value):List V->Hp->VK->Prop:=λxs H Q=>∃(a C:Addr) (b:Bool),xs=[.ref a,c]/\H a=some (.ext (phi a C))/\ExcQ K C/\kitOne K (.ref C) cv=some b/\Q (.bl b) H
theorem zqb (hcv:∀u,RelV c u->u=cv):CallR X (.builtin "isinstance") (ydt X.K c cv):=by intro pins s σ H xs us Q I r h;obtain ⟨a,C,b,rfl,ha,hc,hk,q⟩:=h;obtain ⟨u1,u2,rfl,r1,r2⟩:=r.two;cases (show u1=Value.ref a from r1);cases hcv u2 r2;obtain ⟨ph,_⟩:=(show ObjOk X.prog X.w H s.heap a (.ext (phi a C)) from I.hok a _ ha);exact kia_one (zp7 hc) I.kIn ph hk (λz=>nomatch z) λtk=>⟨.bl b,H,I.tok tk,rfl,q⟩
end
noncomputable def zco (tab:List (Str×Bool)):D->Sto->Option (D×Sto):=λx S=>match x with
 | .ref n=>(match S[n]? with
  |some (.exc c)=>(tab.lookup c).bind λb=>some (.bl b,S)
  |_=>none)
 |_=>none
theorem zli {K:QFg}{ρ:List Addr}{S:Sto}{H:Hp}{x v:D}{S':Sto}{x':V}{tab:List (Str×Bool)}(sim:Sim K ρ S H) (r:RD ρ H x x') (h:zco tab x S=some (v,S')) :
  S'=S/\∃a c C b,x'=.ref a/\tab.lookup c=some b/\v=.bl b/\nsIn K mainGlobals c=some (some (.ref C))/\H a=some (.ext (phi a C)):=by
 unfold zco at h;split at h
 ·split at h
  ·rename_i n S c e;obtain ⟨b,hb,h⟩:=bnd h;cases h;cases r with
   | @ref _ a hn=>obtain ⟨C,hc,hH⟩:=sim.at' n a _ hn e;exact ⟨rfl,a,c,C,b,rfl,hb,rfl,hc,hH⟩
  ·cases h
 ·cases h
section
theorem zlj:bootBuiltins "isinstance" = some (.builtin "isinstance"):=by decide +kernel
theorem zqc (hg:Gl X "isinstance") (hm:X.mg "isinstance" = none) (ha:PE3 X a ma) (hn:PN X es Cs) (hl:Cs.length<=sizeLine)
  (hk:∀c b C,tab.lookup c=some b->nsIn X.K mainGlobals c=some (some (.ref C))->ExcQ X.K C/\kitAny X.K (.ref C) (Cs.map Value.ref)=some b)
  (he:starEach (a::[.Tuple es x1 tp]) X.env=(false,eval a X.env)::starEach [.Tuple es x1 tp] X.env:=by rfl) (he2:starEach [.Tuple es x1 tp] X.env=(false,eval (.Tuple es x1 tp) X.env)::starEach [] X.env:=by rfl) (hpl:(backTo pos (starEach [.Tuple es x1 tp] X.env)).any (·.1)=false:=by rfl) :
  PE3 X (.Call (.Name "isinstance" p) [a,.Tuple es x1 tp] [] pos) (eUn (zco tab) ma) :=
 PE.imp (zge yds hg hm zlj (zct ha (zct (znt hn) zd5 he2) he) '$' '$' he hpl) λσ H Q hx1_=>by
  obtain ⟨ρ,l,S,v,S',sim,ro,hq,pz⟩:=hx1_;obtain ⟨⟨x,S1⟩,h1,hq⟩:=bnd hq;refine ⟨ρ,l,S,x,S1,sim,ro,h1,λρ1 H1 x' e1 s1 r1=>?_⟩;obtain ⟨rfl,a',c,C,b,rfl,hb,rfl,hc,hH⟩:=zli s1 r1 hq;obtain ⟨q1,q2⟩:=hk c b C hb hc;refine ⟨by rw [qlm];exact hl,λt ht=>?_⟩;refine ⟨a',t,C,Cs,b,rfl,?_,zbo,q1,q2,?_⟩
  ·rw [zaj (zay hH ht)];exact hH
  ·exact pz ρ1 _ _ (e1.trans (zbq ht)) (s1.laid ht) (.bl b)
theorem ydu (hg:Gl X "isinstance") (hm:X.mg "isinstance" = none) (ha:PE3 X a ma) (hgy:Gl X y) (hmy:X.mg y=some (.ref D0))
  (hk:∀c b C,tab.lookup c=some b->nsIn X.K mainGlobals c=some (some (.ref C))->ExcQ X.K C/\kitOne X.K (.ref C) (.ref D0)=some b) (hd:(y==("__debug__":Str))=false:=by decide)
  (he:starEach (a::[.Name y p2]) X.env=(false,eval a X.env)::starEach [.Name y p2] X.env:=by rfl) (he2:starEach [.Name y p2] X.env=(false,eval (.Name y p2) X.env)::starEach [] X.env:=by rfl) (hpl:(backTo pos (starEach [.Name y p2] X.env)).any (·.1)=false:=by rfl) :
  PE3 X (.Call (.Name "isinstance" p) [a,.Name y p2] [] pos) (eUn (zco tab) ma) :=
 PE.imp (zge (zqb (c:=.ref D0) (cv:=.ref D0) λu h=>h) hg hm zlj (zct ha (zct (zp8 hgy hmy hd) zd5 he2) he) '$' '$' he hpl) λσ H Q hx2_=>by obtain ⟨ρ,l,S,v,S',sim,ro,hq,pz⟩:=hx2_;obtain ⟨⟨x,S1⟩,h1,hq⟩:=bnd hq;refine ⟨ρ,l,S,x,S1,sim,ro,h1,λρ1 H1 x' e1 s1 r1=>?_⟩;obtain ⟨rfl,a',c,C,b,rfl,hb,rfl,hc,hH⟩:=zli s1 r1 hq;obtain ⟨q1,q2⟩:=hk c b C hb hc;exact ⟨a',C,b,rfl,hH,q1,q2,pz ρ1 _ _ e1 s1 (.bl b)⟩
theorem ydv (hg:Gl X "isinstance") (hm:X.mg "isinstance" = none) (ha:PE3 X a ma) (hgy:Gl X y) (hmy:X.mg y=none) (hv:bootBuiltins y=some (.type U))
  (hk:∀c b C,tab.lookup c=some b->nsIn X.K mainGlobals c=some (some (.ref C))->ExcQ X.K C/\kitOne X.K (.ref C) (.type U)=some b) (hn:y≠"__name__":=by decide) (hdb:(y==("__debug__":Str))=false:=by decide)
  (he:starEach (a::[.Name y p2]) X.env=(false,eval a X.env)::starEach [.Name y p2] X.env:=by rfl) (he2:starEach [.Name y p2] X.env=(false,eval (.Name y p2) X.env)::starEach [] X.env:=by rfl) (hpl:(backTo pos (starEach [.Name y p2] X.env)).any (·.1)=false:=by rfl) :
  PE3 X (.Call (.Name "isinstance" p) [a,.Name y p2] [] pos) (eUn (zco tab) ma) :=
 PE.imp (zge (zqb (c:=.ty U) (cv:=.type U) λu h=>h) hg hm zlj (zct ha (zct (znc (v:=.ty U) hgy hmy hv rfl hn hdb) zd5 he2) he) '$' '$' he hpl) λσ H Q hx3_=>by obtain ⟨ρ,l,S,v,S',sim,ro,hq,pz⟩:=hx3_;obtain ⟨⟨x,S1⟩,h1,hq⟩:=bnd hq;refine ⟨ρ,l,S,x,S1,sim,ro,h1,λρ1 H1 x' e1 s1 r1=>?_⟩;obtain ⟨rfl,a',c,C,b,rfl,hb,rfl,hc,hH⟩:=zli s1 r1 hq;obtain ⟨q1,q2⟩:=hk c b C hb hc;exact ⟨a',C,b,rfl,hH,q1,q2,pz ρ1 _ _ e1 s1 (.bl b)⟩
end
theorem zi7 {K:QFg}{c0:Str}{b0:Bool}{C0:Addr}{R:Addr->Bool->Prop}(hn:nsIn K mainGlobals c0=some (some (.ref C0))) (h:R C0 b0) :
  ∀c b C,([(c0,b0)]:List (Str×Bool)).lookup c=some b->nsIn K mainGlobals c=some (some (.ref C))->R C b:=λc b C hl hc=>by
 rw [List.lookup_cons] at hl;split at hl
 ·rename_i q;cases hl;have e:c=c0:=by simpa using q
  subst e;rw [hn] at hc;cases hc;exact h
 ·cases hl
theorem ydw {R:Str->Prop}(h:R c0):∀c,(c==c0)=true->R c:=λc hc=>by
 have e:c=c0:=by simpa using hc
 rw [e];exact h
section
variable {to:TE}{t:TA}{T id:String}{r:V->List V->Hp->VK->Prop}{ty:V->Hp->Prop}
end
theorem zqd (is:List Int):zdw (is.map D.int)=some is:=by
 induction is with
 |nil=>rfl
 |cons i r ih=>show (zdw (r.map D.int)).bind _=_;rw [ih];rfl
section
end
section
end
noncomputable def zg3:List D->Option (List Key)
 |[]=>some []
 |x::r=>(zfq x).bind λk=>(zg3 r).bind λks=>some (k::ks)
noncomputable def zcp:D->Option (List Key)
 | .tup xs=>zg3 xs
 |_=>none
theorem zqe:∀{xs:List D}{ks:List Key}{vs:List V},zg3 xs=some ks->RDs ρ H xs vs->vs=ks.map kV
 |[],ks,vs,h,r=>by cases h;cases r;rfl
 |x::xs,ks,vs,h,r=>by
  cases r with
  |cons r1 r2=>obtain ⟨k,h1,h⟩:=bnd (show (zfq x).bind (λk=>(zg3 xs).bind λks=>some (k::ks))=some ks from h);obtain ⟨ks',h2,h⟩:=bnd h;cases h;rw [zqe h2 r2,zi2 h1 r1];rfl
theorem zg4 (h:zcp d=some k) (r:RD ρ H d v):∃b,v=.ref b/\H b=some (.tup (k.map kV)):=by
 cases r with
 | @tup xs b vs hb rs=>have:=zqe (show zg3 xs=some k from h) rs;subst this;exact ⟨b,rfl,hb⟩
 |_=>cases h
noncomputable def zat (kvs:List (List Key×D)) (k:List Key):Option D:=(kvs.find? λkv=>decide (kv.1=k)).map (·.2)
noncomputable def zbz (kvs:List (List Key×D)) (k:List Key) (v:D):List (List Key×D):=if (kvs.any λkv=>decide (kv.1=k))=true then kvs.map (λkv=>if kv.1=k then (kv.1,v) else kv) else kvs++[(k,v)]
section
theorem zi8:∀{kvs:List (List Key×D)}{vs:List V},RDs ρ H (kvs.map (·.2)) vs->(zat kvs k=none->zbi ((kvs.map (·.1)).zip vs) k=none)/\∀d,zat kvs k=some d->∃v,zbi ((kvs.map (·.1)).zip vs) k=some v/\RD ρ H d v
 |[],vs,r=>by cases r;exact ⟨λ_=>rfl,λd h=>by cases h⟩
 | (k',d') :: kvs,vs,r=>by
  cases r with
  | @cons _ v _ vs r1 r2=>
   by_cases e:k'=k
   ·have e1:zat ((k',d')::kvs) k=some d':=(by simp [zat,e]);have e2:zbi ((((k',d')::kvs).map (·.1)).zip (v::vs)) k=some v:=zgf (p:=(k',v)) e;rw [e1,e2];exact ⟨λz=>(by cases z),λd h=>(by cases h;exact ⟨v,rfl,r1⟩)⟩
   ·have e1:zat ((k',d')::kvs) k=zat kvs k:=(by simp [zat,e]);have e2:zbi ((((k',d')::kvs).map (·.1)).zip (v::vs)) k=zbi ((kvs.map (·.1)).zip vs) k:=zgg (p:=(k',v)) e;rw [e1,e2];exact zi8 r2
theorem zqf (k:List Key):∀{kvs:List (List Key×D)}{vs:List V},RDs ρ H (kvs.map (·.2)) vs->(((kvs.map (·.1)).zip vs).any λkv=>decide (kv.1=k))=kvs.any λkv=>decide (kv.1=k)
 |[],vs,r=>by cases r;rfl
 |(k',d')::kvs,vs,r=>by
  cases r with
  | @cons _ v _ vs r1 r2=>show (decide (k'=k)||(((kvs.map (·.1)).zip vs).any λkv=>decide (kv.1=k)))=(decide (k'=k)||_);rw [zqf k r2]
theorem zlk (rv:RD ρ H d v) (r:RDs ρ H (kvs.map (·.2)) vs):∃ws,zbg ((kvs.map (·.1)).zip vs) k v=((zbz kvs k d).map (·.1)).zip ws/\RDs ρ H ((zbz kvs k d).map (·.2)) ws:=by
 unfold zbg zbz;rw [zqf k r];by_cases e:(kvs.any λkv=>decide (kv.1=k))=true
 ·rw [if_pos e,if_pos e];clear e;induction kvs generalizing vs with
  |nil=>cases r;exact ⟨[],rfl,.nil⟩
  | cons p kvs ih =>
   obtain ⟨k',d'⟩:=p;cases r with
   | @cons _ u _ us r1 r2 =>
    obtain ⟨ws,h1,h2⟩:=ih r2;by_cases e:k'=k
    ·refine ⟨v::ws,?_,?_⟩
     ·simp only [List.map_cons,List.zip_cons_cons,if_pos e];rw [<-h1]
     ·simp only [List.map_cons,if_pos e];exact .cons rv h2
    ·refine ⟨u::ws,?_,?_⟩
     ·simp only [List.map_cons,List.zip_cons_cons,if_neg e];rw [<-h1]
     ·simp only [List.map_cons,if_neg e];exact .cons r1 h2
 ·rw [if_neg e,if_neg e];refine ⟨vs++[v],?_,?_⟩
  ·rw [List.map_append,List.zip_append (by rw [qlm];have:=r.length;rw [qlm] at this;exact this)];rfl
  ·rw [List.map_append];exact r.append (.cons rv .nil)
end
noncomputable def dRd (S:Sto):D->D->Option (Option D)
 | .ref n,y=>match S[n]? with
  |some (.dct kvs)=>(zfq y).bind λk=>some (zdv kvs k)
  |some (.fdct kvs)=>(zfq y).bind λk=>some (zdv kvs k)
  |some (.tdct kvs)=>(zcp y).bind λk=>some (zat kvs k)
  |some (.ftdct kvs)=>(zcp y).bind λk=>some (zat kvs k)
  |_=>none
 |_,_=>none
noncomputable def isDc (S:Sto):D->Option Unit
 | .ref n=>match S[n]? with
  |some (.dct _)=>some ()
  |some (.fdct _)=>some ()
  |some (.tdct _)=>some ()
  |some (.ftdct _)=>some ()
  |_=>none
 |_=>none
def Ro1 (ρ:List Addr) (H:Hp) (o:Option D) (o':Option V):Prop:=(o=none->o'=none)/\∀d,o=some d->∃v,o'=some v/\RD ρ H d v
theorem Ro1.isSome (r:Ro1 ρ H o o'):o'.isSome=o.isSome:=by
 cases o with
 |none=>rw [r.1 rfl];rfl
 |some d=>obtain ⟨v,e,_⟩:=r.2 d rfl;rw [e];rfl
theorem Ro1.getD (r:Ro1 ρ H o o') (rz:RD ρ H z z'):RD ρ H (o.getD z) (o'.getD z'):=by
 cases o with
 |none=>rw [r.1 rfl];exact rz
 |some d=>obtain ⟨v,e,q⟩:=r.2 d rfl;rw [e];exact q
theorem Sim.isDc {K:QFg}{ρ:List Addr}{H:Hp}{S:Sto}{x:D}{x':V}(s:Sim K ρ S H) (rx:RD ρ H x x') (h:L3.isDc S x=some ()):∃a,x'=.ref a/\IsD H a:=by
 unfold L3.isDc at h;split at h
 ·cases rx with
  | @ref n a hn=>
   refine ⟨a,rfl,?_⟩;split at h
   ·rename_i e;obtain ⟨vs,hH,_⟩:=s.at' _ a _ hn e;exact .inl ⟨_,.inl hH⟩
   ·rename_i e;obtain ⟨o,vs,hH,_⟩:=s.at' _ a _ hn e;exact .inl ⟨_,.inr ⟨o,hH⟩⟩
   ·rename_i e;obtain ⟨vs,hH,_⟩:=s.at' _ a _ hn e;exact .inr ⟨_,.inl hH⟩
   ·rename_i e;obtain ⟨o,vs,hH,_⟩:=s.at' _ a _ hn e;exact .inr ⟨_,.inr ⟨o,hH⟩⟩
   ·cases h
 ·cases h
theorem Sim.dRd {K:QFg}{ρ:List Addr}{H:Hp}{S:Sto}{x y:D}{x' y':V}{o:Option D}(s:Sim K ρ S H) (rx:RD ρ H x x') (ry:RD ρ H y y') (h:L3.dRd S x y=some o):∃a o',x'=.ref a/\zfe H a y' o'/\Ro1 ρ H o o':=by
 unfold L3.dRd at h;split at h
 ·cases rx with
  | @ref n a hn=>
   split at h
   ·rename_i e;obtain ⟨k,hk,h⟩:=bnd h;cases h;obtain ⟨vs,hH,r⟩:=s.at' _ a _ hn e;have ey:=zi2 hk ry;subst ey;exact ⟨a,_,rfl,.inl ⟨_,k,.inl hH,rfl,rfl⟩,zlc r⟩
   ·rename_i e;obtain ⟨k,hk,h⟩:=bnd h;cases h;obtain ⟨ob,vs,hH,r⟩:=s.at' _ a _ hn e;have ey:=zi2 hk ry;subst ey;exact ⟨a,_,rfl,.inl ⟨_,k,.inr ⟨ob,hH⟩,rfl,rfl⟩,zlc r⟩
   ·rename_i e;obtain ⟨k,hk,h⟩:=bnd h;cases h;obtain ⟨vs,hH,r⟩:=s.at' _ a _ hn e;obtain ⟨b,rfl,hb⟩:=zg4 hk ry;exact ⟨a,_,rfl,.inr ⟨_,k,b,.inl hH,rfl,hb,rfl⟩,zi8 r⟩
   ·rename_i e;obtain ⟨k,hk,h⟩:=bnd h;cases h;obtain ⟨ob,vs,hH,r⟩:=s.at' _ a _ hn e;obtain ⟨b,rfl,hb⟩:=zg4 hk ry;exact ⟨a,_,rfl,.inr ⟨_,k,b,.inr ⟨ob,hH⟩,rfl,hb,rfl⟩,zi8 r⟩
   ·cases h
 ·cases h
noncomputable def zex (neg:Bool):D->D->Sto->Option (D×Sto):=λy x S=>(dRd S x y).bind λo=>some (.bl (if neg then !o.isSome else o.isSome),S)
theorem ydx {K:QFg}{neg:Bool}:Op3 K (zex neg) (λy x H Q=>∃a o,x=.ref a/\zfe H a y o/\Q (.bl (if neg then !o.isSome else o.isSome)) H):=by intro ρ S H y x y' x' v S' Q sim ry rx h p;obtain ⟨o,h1,h⟩:=bnd h;cases h;obtain ⟨a,o',rfl,g,r⟩:=sim.dRd rx ry h1;refine ⟨a,o',rfl,g,?_⟩;rw [r.isSome];exact p ρ H _ (Ext.refl ..) sim (.bl _)
section
theorem ydy (hr:Room k X.A) (ha:PE3 X a ma) (hb:PE3 X b mb) (hm:behindInMarks .NotIn b=false:=by rfl):PT3 X (.Compare a [.NotIn] [b] pos) (tE (eOp (zex true) ma mb)):=zdp (ycq hr) (ydx (neg:=true)) ha hb hm
noncomputable def zfs (o e f:EM):EM:=λl S=>(o l S).bind λp=>(isDc p.2 p.1).bind λ_=>(e l p.2).bind λq=>(f l q.2).bind λt=>(dRd t.2 p.1 q.1).bind λr=>some (r.getD t.1,t.2)
theorem ydz (hr:Room k X.A) (ho:PE3 X o mo) (he:PE3 X e me) (hf:PE3 X f mf) (m:M2 X o "get" apos e f cpos:=by exact ⟨rfl,rfl,rfl,rfl⟩):PE3 X (.Call (.Attribute o "get" apos) [e,f] [] cpos) (zfs mo me mf):=PE.imp (zym (zgz hr) ho he hf m) λσ H Q hx2_=>by obtain ⟨ρ,l,S,v,S',sim,ro,hq,p⟩:=hx2_;obtain ⟨⟨x,S1⟩,h1,hq⟩:=bnd hq;obtain ⟨_,h2,hq⟩:=bnd hq;obtain ⟨⟨y,S2⟩,h3,hq⟩:=bnd hq;obtain ⟨⟨z,S3⟩,h5,hq⟩:=bnd hq;obtain ⟨r,h4,hq⟩:=bnd hq;cases hq;refine ⟨ρ,l,S,x,S1,sim,ro,h1,λρ1 H1 x' e1 s1 r1=>?_⟩;obtain ⟨a,rfl,da⟩:=s1.isDc r1 h2;refine ⟨a,rfl,da,ρ1,l,S1,y,S2,s1,ro.mono e1,h3,λρ2 H2 y' e2 s2 r2=>⟨ρ2,l,S2,z,_,s2,(ro.mono e1).mono e2,h5,λρ3 H3 z' e3 s3 r3=>?_⟩⟩;obtain ⟨a',o',ea,g,ro'⟩:=s3.dRd ((r1.mono e2).mono e3) (r2.mono e3) h4;cases ea;exact ⟨o',g,p ρ3 H3 _ (e1.trans (e2.trans e3)) s3 (ro'.getD r3)⟩
end
noncomputable def zll:EM:=λ_ S=>some (.ref S.length,S++[.tdct []])
section
theorem yd0:PE3 X (.Dict [] [] pos) zll:=PE.imp zyj λσ H Q hx3_=>by obtain ⟨ρ,l,S,v,S',sim,ro,hm,p⟩:=hx3_;cases hm;intro a ha;exact p (ρ++[a]) _ _ (zoo ha) (sim.pushG ha ⟨[],zbo,.nil⟩) (.ref (by rw [<-sim.len];exact zd6 ρ a))
end
theorem zej (kvs:List (List Key×V)):zdn (.dT kvs):=⟨λ_ z=>(by cases z),λ_ _ z=>(by cases z)⟩
noncomputable def zey:D->D->D->Sto->Option Sto
 | .ref n,y,v,S=>match S[n]? with
  |some (.dct kvs)=>(zfq y).bind λk=>if kvs.length<sizeLine then some (S.set n (.dct (zi1 kvs k v))) else none
  |some (.tdct kvs)=>(zcp y).bind λk=>if kvs.length<sizeLine then some (S.set n (.tdct (zbz kvs k v))) else none
  |_=>none
 |_,_,_,_=>none
theorem zlm {kvs:List (List Key×D)}(r:RDs ρ H (kvs.map (·.2)) vs):((kvs.map (·.1)).zip vs).length=kvs.length:=by rw [List.length_zip,qlm];have:=r.length;rw [qlm] at this;omega
theorem yd1 {K:QFg}{ρ:List Addr}{S S':Sto}{H:Hp}{x y d:D}{x' y' v':V}(s:Sim K ρ S H) (rx:RD ρ H x x') (ry:RD ρ H y y') (rd:RD ρ H d v') (h:zey x y d S=some S'):∃a H',x'=.ref a/\DPut H a y' v' H'/\Ext ρ H ρ H'/\Sim K ρ S' H':=by
 unfold zey at h;split at h
 ·cases rx with
  | @ref n a hn=>
   split at h
   ·rename_i kvs e;obtain ⟨k,hk,h⟩:=bnd h;obtain ⟨hz,e2⟩:=zbb h;cases e2;obtain ⟨vs,hH,r⟩:=s.at' _ a _ hn e;have ey:=zi2 hk ry;subst ey;obtain ⟨ws,hw1,hw2⟩:=ycp (k:=k) rd r;have ex:=zkl (o:=.dK (zbg ((kvs.map (·.1)).zip vs) k v')) hn hH (zpt _);refine ⟨a,_,rfl,DPut.k hH (by rw [yc5 r];exact hz),ex,s.setG hn e rfl hH (zpt _) ⟨ws,by rw [zbo,hw1],hw2.mono ex⟩⟩
   ·rename_i kvs e;obtain ⟨k,hk,h⟩:=bnd h;obtain ⟨hz,e2⟩:=zbb h;cases e2;obtain ⟨vs,hH,r⟩:=s.at' _ a _ hn e;obtain ⟨b,rfl,hb⟩:=zg4 hk ry;obtain ⟨ws,hw1,hw2⟩:=zlk (k:=k) rd r;have ex:=zkl (o:=.dT (zbg ((kvs.map (·.1)).zip vs) k v')) hn hH (zej _);refine ⟨a,_,rfl,DPut.t hH hb (by rw [zlm r];exact hz),ex,s.setG hn e rfl hH (zej _) ⟨ws,by rw [zbo,hw1],hw2.mono ex⟩⟩
   ·cases h
 ·cases h
noncomputable def zg5 (o i:EM):GM:=λv l S=>(o l S).bind λp=>(i l p.2).bind λq=>(zey p.1 q.1 v q.2).bind λS'=>some (l,S')
section
theorem yd2 (hr:Room k X.A) (ho:PE3 X o mo) (hi:PE3 X i mi) (hv:PE3 X value mv) (hs:swapsWith value (some (.Subscript o i pos')) pos.line X.env=pure false:=by rfl) :
  PS3 X (.Assign [.Subscript o i pos'] value pos) (zai mv (zg5 mo mi)):=PS.imp (zyh (zgz hr) ho hi hv hs) λE σ H hx4_=>by
 obtain ⟨ρ,l,S,f,l',S',sim,ro,hm,p⟩:=hx4_;obtain ⟨⟨d,S1⟩,h1,hm⟩:=bnd hm;obtain ⟨⟨l2,S2⟩,h2,hm⟩:=bnd hm;obtain ⟨⟨x,S3⟩,h3,h2⟩:=bnd h2;obtain ⟨⟨y,S4⟩,h4,h2⟩:=bnd h2;obtain ⟨S5,h5,h2⟩:=bnd h2;cases h2;cases hm;refine ⟨ρ,l,S,d,S1,sim,ro,h1,λρ1 H1 v' e1 s1 r1=>⟨ρ1,l,S1,x,S3,s1,ro.mono e1,h3,λρ2 H2 x' e2 s2 r2=>⟨ρ2,l,S3,y,S4,s2,(ro.mono e1).mono e2,h4,λρ3 H3 y' e3 s3 r3=>?_⟩⟩⟩;obtain ⟨a,H4,rfl,pu,ex,s4⟩:=yd1 s3 (r2.mono e3) r3 (r1.mono (e2.trans e3)) h5;exact ⟨a,H4,rfl,pu,p ρ3 _ σ ((e1.trans (e2.trans e3)).trans ex) s4 ((((ro.mono e1).mono e2).mono e3).mono ex)⟩
end
def Fnc (K:QFg) (mg:Str->Option Value) (x:Str):Prop:=∃f o,PySem.W.nsIn K mainGlobals x=some (some (.ref f))/\K.lookup f=some o/\mg x=some (.ref f)
section
variable {K:QFg}{ρ:List Addr}{H:Hp}{S:Sto}
end
section
variable {X:Cx}{x y:Str}{pos p:Pos}{a:Expr}{es:List Expr}
end
section
theorem zln:∀{names:List (Str×NameKind)}{k:Nat}{acc:List (Str×Addr)}{x:Str}{c:Addr},(x,c)∈cellsFrom k names acc->(x,c)∈acc\/(k<=c/\(x,NameKind.cell)∈names)
 |[],_,_,_,_,h=>.inl h
 | (n,kd) :: r,k,acc,x,c,h=>by
  unfold cellsFrom at h;split at h
  ·rename_i hk;have hk:kd=.cell:=(by simpa using hk);subst hk;rcases zln h with h|⟨h1,h2⟩
   ·rcases List.mem_cons.mp h with e|h
    ·cases e;exact .inr ⟨qlr _,List.mem_cons_self⟩
    ·exact .inl h
   ·exact .inr ⟨by lia,List.mem_cons_of_mem _ h2⟩
  ·rcases zln h with h|⟨h1,h2⟩
   ·exact .inl h
   ·exact .inr ⟨h1,List.mem_cons_of_mem _ h2⟩
theorem zlo:∀{names:List (Str×NameKind)}{k:Nat}{acc:List (Str×Addr)},(∀x y c,(x,c)∈acc->(y,c)∈acc->x=y)->(∀x c,(x,c)∈acc->c<k)->∀x y c,(x,c)∈cellsFrom k names acc->(y,c)∈cellsFrom k names acc->x=y
 |[],_,_,hi,_,x,y,c,h1,h2=>hi x y c h1 h2
 | (n,kd) :: r,k,acc,hi,hl,x,y,c,h1,h2=>by
  unfold cellsFrom at h1 h2;split at h1
  ·rename_i hk;rw [if_pos hk] at h2;refine zlo (λx y c g1 g2=>?_) (λx c g=>?_) x y c h1 h2
   ·rcases List.mem_cons.mp g1 with e1|g1<;>rcases List.mem_cons.mp g2 with e2|g2
    ·cases e1;cases e2;rfl
    ·cases e1;exact absurd (hl _ _ g2) (Nat.lt_irrefl _)
    ·cases e2;exact absurd (hl _ _ g1) (Nat.lt_irrefl _)
    ·exact hi x y c g1 g2
   ·rcases List.mem_cons.mp g with e|g
    ·cases e;exact Nat.lt_succ_self _
    ·exact Nat.lt_succ_of_lt (hl _ _ g)
  ·rename_i hk;rw [if_neg hk] at h2;exact zlo hi hl x y c h1 h2
theorem zi9:∀{names:List (Str×NameKind)}{k:Nat}{acc:List (Str×Addr)}{x:Str},((x,NameKind.cell)∈names\/∃c,acc.lookup x=some c)->∃c,(cellsFrom k names acc).lookup x=some c
 |[],_,_,x,h=>by
  rcases h with h|h
  ·cases h
  ·exact h
 | (n,kd) :: r,k,acc,x,h=>by
  unfold cellsFrom;split
  ·rename_i hk;have hk:kd=.cell:=(by simpa using hk);subst hk;refine zi9 ?_;by_cases hx:x=n
   ·exact .inr ⟨k,by rw [hx,List.lookup_cons];simp⟩
   ·rcases h with h|⟨c,h⟩
    ·rcases List.mem_cons.mp h with e|h
     ·cases e;exact absurd rfl hx
     ·exact .inl h
    ·refine .inr ⟨c,?_⟩;rw [List.lookup_cons];have:(x==n)=false:=(by simpa using hx);rw [this];exact h
  ·rename_i hk;refine zi9 ?_;rcases h with h|h
   ·rcases List.mem_cons.mp h with e|h
    ·cases e;simp at hk
    ·exact .inl h
   ·exact .inr h
theorem zlp:∀{names:List (Str×NameKind)}{k:Nat}{acc:List (Str×Addr)}{x:Str},(x,NameKind.cell)∉names->(cellsFrom k names acc).lookup x=acc.lookup x
 |[],_,_,_,_=>rfl
 |(n,kd)::r,k,acc,x,h=>by
  unfold cellsFrom;split
  ·rename_i hk;have hk:kd=.cell:=(by simpa using hk);subst hk;rw [zlp λz=>h (List.mem_cons_of_mem _ z),List.lookup_cons];have:(x==n)=false:=(by have:x≠n:=λe=>h (by rw [e];exact List.mem_cons_self);simpa using this);rw [this]
  ·exact zlp λz=>h (List.mem_cons_of_mem _ z)
theorem zlq:∀{names:List (Str×NameKind)}{k k0:Nat}{acc:List (Str×Addr)}{x:Str}{c:Addr},k0<=k->((x,NameKind.cell)∈names\/∃c',acc.lookup x=some c'/\k0<=c')->(cellsFrom k names acc).lookup x=some c->k0<=c
 |[],k,k0,acc,x,c,_,h,e=>by
  have e:acc.lookup x=some c:=e;rcases h with h|⟨c',h,q⟩
  ·cases h
  ·rw [h] at e;cases e;exact q
 | (n,kd) :: r,k,k0,acc,x,c,hk0,h,e=>by
  unfold cellsFrom at e;split at e
  ·rename_i hk;have hk:kd=.cell:=(by simpa using hk);subst hk;refine zlq '!' ?_ e;by_cases hx:x=n
   ·exact .inr ⟨k,by rw [hx,List.lookup_cons];simp,hk0⟩
   ·rcases h with h|⟨c',h,q⟩
    ·rcases List.mem_cons.mp h with e|h
     ·cases e;exact absurd rfl hx
     ·exact .inl h
    ·refine .inr ⟨c',?_,q⟩;rw [List.lookup_cons];have:(x==n)=false:=(by simpa using hx);rw [this];exact h
  ·rename_i hk;refine zlq hk0 ?_ e;rcases h with h|h
   ·rcases List.mem_cons.mp h with e|h
    ·cases e;simp at hk
    ·exact .inl h
   ·exact .inr h
theorem zez (env:Env):∀(names:List (Str×NameKind)) (cs:List (Str×Addr)),(∀x c,(x,c)∈cs->env.cells.lookup x=some c)->∀x c,(x,c)∈zbk env names cs->env.cells.lookup x=some c
 |[],cs,h,x,c,q=>h x c q
 | (n,k) :: r,cs,h,x,c,q=>by
  unfold zbk at q;split at q
  ·split at q
   ·rename_i c' e;refine zez env r _ (λy d hy=>?_) x c q;rcases List.mem_cons.mp hy with z|hy
    ·cases z;exact e
    ·exact h y d hy
   ·exact zez env r cs h x c q
  ·exact zez env r cs h x c q
theorem zlr:∀{names:List (Str×NameKind)}{h:Heap}{acc:List (Str×Addr)}{x:Str}{c:Addr},(x,c)∈cellsFrom h.objs.size names acc->(x,c)∈acc\/(pushCells h names).IsCell c none
 |[],_,_,_,_,q=>.inl q
 | (n,kd) :: r,h,acc,x,c,q=>by
  unfold cellsFrom at q;unfold pushCells;split at q
  ·rename_i hk;rw [if_pos hk];have:=zlr (names:=r) (h:=h.push {cls:=.type "cell",data:=.cell none}) (acc:=(n,h.objs.size)::acc) (x:=x) (c:=c) (by rw [Heap.size_push];exact q);rcases this with z|z
   ·rcases List.mem_cons.mp z with e|z
    ·cases e;exact .inr ⟨_,pushCells_keeps r _ _ _ (Heap.get?_push_size _ rfl),rfl⟩
    ·exact .inl z
   ·exact .inr z
  ·rename_i hk;rw [if_neg hk];exact zlr q
end
theorem yd3 {M:Model}{A:Around}{E:Value->Shared->Prop}{s:Shared}{scope:Scope}{globals:Addr}{cl:List (Str×Addr)}{qual:Str}{outer:Env}{Q:Env->Shared->Prop}
  (hQ:∀h',h'.Ns s.heap.objs.size (λ_=>none)->(∀b o,s.heap.get? b=some o->h'.get? b=some o)->(∀x c,(x,c)∈cellsFrom (s.heap.objs.size+1) scope.names cl->(x,c)∈cl\/h'.IsCell c none) ->
   Q (newEnv scope s.heap.objs.size globals (cellsFrom (s.heap.objs.size+1) scope.names cl) qual none .none (some outer) builtinsNs) {s with heap:=h'}) :
  wpAny M A (newFunctionEnv scope globals cl [] qual none .none (some outer)) Q E s:=by
 unfold newFunctionEnv;refine qwb (wpAny_alloc ?_);refine qwb (wpAny_layCells _ (λname kind cells=>by cases hkc:kind==NameKind.cell<;>simp [hkc]) _ _ _ _ ?_);dsimp only;rw [List.forIn_nil];refine qwb (qwp (qwp ?_));have hz:(s.heap.push {cls:=.type "dict",data:=.dict #[]}).objs.size=s.heap.objs.size+1:=Heap.size_push ..;have h1:=hQ (pushCells (s.heap.push {cls:=.type "dict",data:=.dict #[]}) scope.names) ((Heap.Ns.new s.heap (.type "dict")).keeps (pushCells_keeps _ _)) (λb o e=>pushCells_keeps _ _ b o (qps _ e)) (λx c q=>zlr (by rw [hz];exact q));simp only [Option.isSome_some,if_true,hz];exact h1
noncomputable def cxD (X:Cx) (N':List Str) (scope:Scope) (C:Addr) (s:Shared) (H:Hp) (fp:List Addr) (pins:'('):Cx where
 prog:=X.prog
 w:=X.w
 K:=X.K
 mg:=X.mg
 base:=X.base
 A:=X.A
 N:=N'
 s₀:=s
 H₀:=H
 env:=compEnvC scope (cellsFrom (C+1) scope.names (zbk X.env scope.names [])) C X.env
 outer:=X.stack
 stack:=X.stack
 ex:=fp
 fn:=λx=>scope.names.contains (x,NameKind.cell)
 calm:=X.calm
 pn:=X.pn++pins
 xe:=λ_ _=>False
structure CompSd (X:Cx) (N':List Str) (scope:Scope) (src:St->St):Prop where
 kind:scope.kind=.function
 names:∀y∈scope.names,y.2=.local->scope.names.lookup y.1=some .local
 free:∀y∈scope.names,y.2=.free->X.env.kindOf y.1=some .cell\/X.env.kindOf y.1=some .free
 rel:∀y,(relabel scope X.env).names.lookup y=some .cell\/(relabel scope X.env).names.lookup y=some .free->(y,NameKind.free)∈scope.names\/(y,NameKind.cell)∈scope.names
 one:∀y,scope.names.lookup y=some .free->(y,NameKind.cell)∉scope.names
 len:∀σ,(src σ).length=N'.length
 src:∀σ (i:Nat) v x,(src σ)[i]?=some (some v)->N'[i]?=some x->∃j:Nat,X.N[j]?=some x/\σ[j]?=some (some v)/\scope.names.lookup x=some .free
theorem yd4 {X:Cx}{N':List Str}{scope:Scope}{src:St->St}{pins:'('}{σ:St}{H3:Hp}{s2:Shared}{h3 h':Heap}{fp:List Addr}(sc:CompSd X N' scope src) (I3:Inv X pins σ H3 {s2 with heap:=h3}) (f3:∀b∈fp,zb5 X pins H3 b) (fpIn3:∀b∈fp,∃o,h3.get? b=some o/\∀v,o.data≠.cell v)
  (hns:h'.Ns h3.objs.size (λ_=>none)) (old:∀b o,h3.get? b=some o->h'.get? b=some o) (hown0:∀x c,(x,c)∈cellsFrom (h3.objs.size+1) scope.names (zbk X.env scope.names [])->(x,c)∈zbk X.env scope.names []\/h'.IsCell c none) :
  Inv (cxD X N' scope h3.objs.size {s2 with heap:=h3} H3 fp pins) [] (src σ) H3 {s2 with heap:=h',toks:=s2.toks}/\∀{H':Hp},(∀b∈fp,H' b=none)->∀b∈fp,zb5 (cxD X N' scope h3.objs.size {s2 with heap:=h3} H3 fp pins) [] H' b:=by
 have hasC:∀x∈scope.names,x.2=.free->∃c,X.env.cells.lookup x.1=some c:=λx hx hf=>I3.ok.has x.1 (sc.free x hx hf);have stkNo:∀b,b≠X.env.locals->b∉X.fs->b∉frs X.stack:=λb h1 h2 hb=>by
  rcases List.mem_cons.mp (I3.stkSub b hb) with z|z
  ·exact h1 z
  ·exact h2 z
 have sub:=zim X.env scope.names [] (λx c z=>by simp at z);have clLt:∀x c,(x,c)∈zbk X.env scope.names []->c<h3.objs.size:=λx c z=>by obtain ⟨v,o,ho,_⟩:=I3.cell x c (zez X.env scope.names [] (λx c z=>by simp at z) x c z);exact Heap.lt_size ho
 have clInj:∀x y c,(x,c)∈zbk X.env scope.names []->(y,c)∈zbk X.env scope.names []->x=y:=λx y c z1 z2=>by have e1:=zez X.env scope.names [] (λx c z=>by simp at z) x c z1;have e2:=zez X.env scope.names [] (λx c z=>by simp at z) y c z2;exact I3.ok.inj x y c e1 e2
 have own:∀x c,(cellsFrom (h3.objs.size+1) scope.names (zbk X.env scope.names [])).lookup x=some c->X.env.cells.lookup x=some c\/(h3.objs.size+1<=c/\h'.IsCell c none):=λx c z=>by
  have zm:=PySem.mem_of_lookup z;rcases zln zm with y|⟨y,_⟩
  ·exact .inl (zez X.env scope.names [] (λx c z=>by simp at z) x c y)
  ·rcases hown0 x c zm with q|q
   ·exact absurd (clLt x c q) (Nat.not_lt.mpr (Nat.le_of_succ_le y))
   ·exact .inr ⟨y,q⟩
 have cNe:∀b o,h3.get? b=some o->b≠h3.objs.size:=λb o e=>Nat.ne_of_lt (Heap.lt_size e);have exf:∀b∈fp,∀x c,(cellsFrom (h3.objs.size+1) scope.names (zbk X.env scope.names [])).lookup x=some c->c≠b:=λb hb x c z=>by
  rcases own x c z with y|⟨y,_⟩
  ·exact (f3 b hb).2.2.2.2.1 x c y
  ·obtain ⟨o,e,_⟩:=fpIn3 b hb;exact λz=>absurd (Nat.lt_of_lt_of_le (Heap.lt_size e) (Nat.le_of_succ_le y)) (by rw [z];exact Nat.lt_irrefl _)
 have frC:∀x c,(cellsFrom (h3.objs.size+1) scope.names (zbk X.env scope.names [])).lookup x=some c->H3 c=none:=λx c z=>by
  rcases own x c z with y|⟨y,_⟩
  ·exact I3.freeC x c y
  ·exact I3.hok.fresh (Nat.le_of_succ_le y)
 have I4:Inv (cxD X N' scope h3.objs.size {s2 with heap:=h3} H3 fp pins) [] (src σ) H3 {s2 with heap:=h',toks:=s2.toks}:=by
  refine ⟨⟨I3.ok.mod,sc.kind,I3.ok.glob,I3.ok.blt,qlr _,λx y c h1 h2=>zlo clInj (λx c z=>Nat.lt_succ_of_lt (clLt x c z)) x y c (PySem.mem_of_lookup h1) (PySem.mem_of_lookup h2),λx hx=>?_,λx c z q=>Nat.le_of_succ_le (zlq (k0:=h3.objs.size+1) (qlr _) (.inl (by have z:scope.names.contains (x,NameKind.cell)=true:=z;simpa using z)) q),I3.ok.hd,I3.ok.frames,.inl rfl,λb hb=>⟨?_,λx c z=>exf b hb x c z⟩,λb o e=>I3.bs b o e,Nat.le_trans I3.ok.bsz I3.sz,λb o e hb=>?_,λb hb=>stkNo b (f3 b hb).2.1 (f3 b hb).2.2.1,I3.stack,I3.stkFree⟩,
   rfl,I3.bare,Un.kept old,⟨_,hns,λi x v h1 h2 h3'=>?_⟩,λx c z=>?_,I3.hok.fresh (qlr _),λx c z=>frC x c z,λp hp=>?_,I3.hok.kept old,sc.len σ⟩
  ·rcases sc.rel x hx with hm|hm
   ·exact zi9 (.inr (zgr X.env scope.names [] x (.inl hm) (hasC _ hm rfl)))
   ·exact zi9 (.inl hm)
  ·obtain ⟨o,e,_⟩:=fpIn3 b hb;exact cNe b o e
  ·rcases (f3 b hb).2.2.2.1 with z|z
   ·exact I3.ok.noex b o e z
   ·have:=Heap.lt_size (I3.ok.bs b o e).1;exact absurd (Nat.lt_of_lt_of_le this z) (Nat.lt_irrefl _)
  ·obtain ⟨j,e1,e2,e3⟩:=sc.src σ i v x h2 h1;obtain ⟨m,hn,hl⟩:=I3.loc;have hmem:=PySem.mem_of_lookup e3;have hk:=sc.free (x,.free) hmem rfl;have vis:Vis X.env.scope x:=by
    rcases hk with k|k
    ·exact .inr (.inl k)
    ·exact .inr (.inr k)
   obtain ⟨u,r,lk⟩:=hl j x v e1 e2 vis;refine ⟨u,r,.inr ⟨?_,?_⟩⟩
   ·exact zo4 (scope:=scope) e3
   ·rcases lk with ⟨k,_⟩|⟨_,c,hc,hcell⟩
    ·rcases hk with k' | k'<;>(rw [k] at k';cases k')
    ·obtain ⟨c',hc'⟩:=zgr X.env scope.names [] x (.inl hmem) ⟨c,hc⟩;have:=sub x c' hc';rw [hc] at this;cases this;have hc':(cellsFrom (h3.objs.size+1) scope.names (zbk X.env scope.names [])).lookup x=some c:=(by rw [zlp (sc.one x e3)];exact hc');obtain ⟨o,ho,hd⟩:=hcell;exact ⟨c,hc',o,old _ _ ho,hd⟩
  ·rcases own x c z with y|⟨_,y⟩
   ·obtain ⟨v,o,ho,hd⟩:=I3.cell x c y;exact ⟨v,o,old _ _ ho,hd⟩
   ·exact ⟨none,y⟩
  ·have hp':p∈X.pn++pins:=(by simpa [cxD] using hp);obtain ⟨e,n,ne,nf,d⟩:=I3.pin p hp';exact ⟨old _ _ e,n,cNe _ _ e,stkNo _ ne nf,d⟩
 refine ⟨I4,λhn b hb=>?_⟩;obtain ⟨g0,g1,g2,g3,g4,g5⟩:=f3 b hb;obtain ⟨o,e,_⟩:=fpIn3 b hb;exact ⟨hn b hb,cNe b o e,stkNo b g1 g2,.inl hb,λx c z=>exf b hb x c z,λp hp=>g5 p (by simpa [cxD] using hp)⟩
noncomputable abbrev zls (E:Expr) (k:Nat) (tgt iter:Expr) (ifs:List Expr) (B:Sem Fin->Sem Fin) (it acc:Value) (env:Env):Sem Fin:=do
  standAt iter.pos
  match <-pyNext it with
  |none=>pure (.done .next)
  | some v =>
   letOwnedTupleGo tgt it v
   assign tgt env v
   let mut ok:=true
   for c in ifs do
    if ok then ok <-isTrue c env (eval c env)
   if ok then B (again (.compLoop E k it acc env)) else again (.compLoop E k it acc env)
def wpK (M:Model) (A:Around) (B:Sem Fin->Sem Fin) (P:Shared->Prop) (s:Shared):Prop:=∀k Q E,(∀s',P s'->wpAny M A k Q E s')->wpAny M A (B k) Q E s
theorem zqg {prog:Program}{w:World}{A:Around}{R:Result->Shared->Prop}{s:Shared}{E tgt iter:Expr}{k:Nat}{ifs:List Expr}{B:Sem Fin->Sem Fin}{it acc:Value}{env:Env}(hU:A.under (.compLoop E k it acc env)=A) (hT:(model prog w).den (.compLoop E k it acc env)=(zls E k tgt iter ifs B it acc env).onRaise (λx=>do noteFrame x env;theTreesLotGoes x)) (I:Nat->Shared->Prop)
  (turn:∀n s,I n s->wpAny '&' A (pyNext it) (λr s₁=>match r with
   |none=>R (.ok .next) s₁
   | some v=>wpAny '&' A (letOwnedTupleGo tgt it v) (λ_ s₁'=>wpAny '&' A (assign tgt env v) (λ_ s₂ =>
     wpAny '&' A (forIn ifs true λc r=>if r=true then do let ok <-isTrue c env (eval c env);pure (ForInStep.yield ok) else pure (ForInStep.yield r)) (λok s₃=>
      if ok=true then wpK '&' A B (λs₆=>∃m,m<n/\I m s₆) s₃
      else ∃m,m<n/\I m s₃) (λ_ _=>False) s₂) (λ_ _=>False) s₁') (λ_ _=>False) s₁) (λ_ _=>False) s)
  (n:Nat) (h:I n s):codeAny '&' A (.compLoop E k it acc env) R s:=by
 refine codeAny_loop rfl I (λn s hI=>?_) n h;rw [hU];rw [hT];refine wpAny_noted ?_;refine qwb (wpAny_standAt (qwb (wpAny_mono (turn n s hI) (λr s₁ h₁=>?_) λ_ _ h'=>h'.elim)));cases r with
 |none=>exact qwp h₁
 |some v=>
  refine qwb (wpAny_mono h₁ (λ_ s₁' h₁=>?_) λ_ _ h'=>h'.elim);refine qwb (wpAny_mono h₁ (λ_ s₂ h₂=>qwb (wpAny_mono h₂ (λok s₃ h₃=>?_) λ_ _ h'=>h'.elim)) λ_ _ h'=>h'.elim);cases ok with
  |false=>exact qwp ⟨rfl,h₃⟩
  |true=>exact h₃ _ _ _ λs₄ h₄=>qwp ⟨rfl,h₄⟩
def yd5 (K:QFg) (O0:Addr->HO) (wi:TI) (src:St->St) (g:TG) (tts:TT) (tB:Addr->St->Hp->(St->Hp->Prop)->Prop):TE:=λσ H Q=>wi σ H λJ H1=>∀D,H1 D=none->K.lookup D=none->∃W:Nat->Nat->St->Hp->Prop,
 (∃m,W 0 m (src σ) (upd H1 D (O0 D)))/\∀i m σ' H',W i m σ' H' ->
  (J.stop i H'/\Q (.ref D) H')\/(J.go i H'/\∃N:St->Hp->Prop,(∀σ' H',N σ' H'->∃m',m' < m/\W (i+1) m' σ' H') /\
   ∀x H'',J.yld i H' x H''->g x σ' H'' λσ2 H2=>tts σ2 H2 λb H3=>if b=true then tB D σ2 H3 N else N σ2 H3)
theorem zlt {X:Cx}{N':List Str}{E iter tgt:Expr}{ifs:List Expr}{gs:List Comprehension}{scope:Scope}{pos':Pos}{use:Option (Value->Sem Unit)}{R:Value->Shared->Prop}{pins:'('}{s:Shared}{σ:St}{H:Hp}{Q:VK}{wi:TI}{src:St->St}{g:TG}{tts:TT}{mk:Sem Value}{o0:Obj}{O0:Addr->HO}{B:Addr->Env->Sem Fin->Sem Fin}{tB:Addr->St->Hp->(St->Hp->Prop)->Prop}(hcalm:X.calm=true) (sc:CompSd X N' scope src)
  (hE:clausesOf E=⟨tgt,iter,ifs,0⟩::gs) (hT:∀it D env,'#'.den (.compLoop E 0 it (.ref D) env)=(zls E 0 tgt iter ifs (B D env) it (.ref D) env).onRaise (λx=>do noteFrame x env;theTreesLotGoes x))
  (hU:∀it acc env,X.A.under (.compLoop E 0 it acc env)=X.A)
  (hst:∀{it acc env R s},codeAny '#' X.A (.compLoop E 0 it acc env) R s->wpAny '#' X.A (pyIter it) (λit' s'=>codeAny '#' X.A (.compLoop E 0 it' acc env) R s') (notedBy '#' X.A env λx s'=>R (.error x) s') s->codeAny '#' X.A (.compStart E 0 it acc env) R s)
  (hmk:∀(s2:Shared) (Q':Value->Shared->Prop) E',Q' (.ref s2.heap.objs.size) {s2 with heap:=s2.heap.push o0}->wpAny '#' X.A mk Q' E' s2)
  (h0:∀{H2:Hp} {s2:Shared},Inv X pins σ H2 s2->Inv X pins σ (upd H2 s2.heap.objs.size (O0 s2.heap.objs.size)) {s2 with heap:=s2.heap.push o0})
  (hi:PI X tgt iter wi) (hg:∀C s H fp pins,PG ')' tgt g) (ht:∀C s H fp pins,PTs ')' ifs tts)
  (hB:∀{pins'} C s H fp pins D s9 σ8 H9 N,Inv ')' pins' σ8 H9 s9->tB D σ8 H9 N->wpK '#' X.A (B D ')'.env) (λs'=>∃σ' H',Inv ')' pins' σ' H' s'/\N σ' H') s9)
  (hs:∀x,foldedSetIterable iter X.env x=pure x) (I:'%') (h:yd5 X.K O0 wi src g tts tB σ H Q)
  (fin:∀D H5 s6 C mC,Inv X pins σ H5 s6->zb5 X pins H5 C->s6.heap.Ns C mC->Q (.ref D) H5->compPost '#' X.A X.xe use R (.ref D) C (.ok .next) s6) :
  wpAny '#' X.A (comprehension E scope X.env pos' mk false (eval iter X.env) use) R X.xe s:=by
 have hasC:∀x∈scope.names,x.2=.free->∃c,X.env.cells.lookup x.1=some c:=λx hx hf=>I.ok.has x.1 (sc.free x hx hf);refine wpAny_comprehension_free (use:=use) (env:=X.env) hE hs (yan scope X.env hasC) sc.kind sc.names ?_;show wpAny '#' X.A (eval iter X.env) _ _ s;refine wpAny_mono (hi pins s σ H _ I h) (λv s1 h1=>wpAny_mono h1 (λitv s2 h2=>?_) λ_ _ z=>z) λ_ _ z=>z;obtain ⟨it,fp,tn,J,H2,rfl,I2,T,st2,f2,q⟩:=h2;refine hmk s2 _ _ ?_;have hD:H2 s2.heap.objs.size=none:=I2.hok.fresh (qlr _);have I3:=h0 I2;obtain ⟨W,⟨m0,w0⟩,turn⟩:=q s2.heap.objs.size hD (by
  cases e:X.K.lookup s2.heap.objs.size with
  |none=>rfl
  |some o=>exact absurd (Heap.lt_size (I2.kIn _ o e)) (Nat.lt_irrefl _))
 refine yd3 λh' hns old hown0=>?_;have fpIn:∀b∈fp,∃o,s2.heap.get? b=some o/\∀v,o.data≠.cell v:=T.obj 0 s2.heap st2;have fpD:∀b∈fp,b≠s2.heap.objs.size:=λb hb=>let ⟨o,e,_⟩:=fpIn b hb;Nat.ne_of_lt (Heap.lt_size e)
 have f3:∀b∈fp,zb5 X pins (upd H2 s2.heap.objs.size (O0 s2.heap.objs.size)) b:=λb hb=>⟨by rw [zaj (fpD b hb)];exact (f2 b hb).1,(f2 b hb).2⟩;have st3:tn 0 (s2.heap.push o0):=T.keep _ _ _ st2 λb hb o e=>qps _ e;clear q hD h st2 f2 fpD;generalize upd H2 s2.heap.objs.size (O0 s2.heap.objs.size)=H3 at *
 generalize hDe:s2.heap.objs.size=D at *
 have fpIn3:∀b∈fp,∃o,(s2.heap.push o0).get? b=some o/\∀v,o.data≠.cell v:=T.obj 0 _ st3;clear fpIn;generalize s2.heap.push o0=h3 at *
 obtain ⟨I4,stat⟩:=yd4 sc I3 f3 fpIn3 hns old hown0;have st4:tn 0 h':=T.keep _ _ _ st3 λb hb o e=>old b o e;have fr4:∀b∈fp,H3 b=none:=λb hb=>(f3 b hb).1;have loop:codeAny '#' X.A (.compLoop E 0 (.ref it) (.ref D) (compEnvC scope (cellsFrom (h3.objs.size+1) scope.names (zbk X.env scope.names [])) h3.objs.size X.env))
   (compPost '#' X.A X.xe use R (.ref D) h3.objs.size) {s2 with heap:=h',toks:=s2.toks}:=by
  refine zqg (hU _ _ _) (hT _ _ _) (λn s'=>∃i σ' H',Inv (cxD X N' scope h3.objs.size {s2 with heap:=h3} H3 fp pins) [] σ' H' s'/\tn i s'.heap/\(∀b∈fp,H' b=none)/\W i n σ' H') ?_ m0 ⟨0,src σ,H3,I4,st4,fr4,w0⟩;rintro n s5 ⟨i,σ5,H5,I5,st5,fr5,w5⟩;rcases turn i n σ5 H5 w5 with ⟨stop,qn⟩|⟨go,N,hN,step⟩
  ·refine wpAny_mono (T.done (cxD X N' scope h3.objs.size {s2 with heap:=h3} H3 fp pins) rfl rfl rfl hcalm i [] s5 σ5 H5 (λ_ _=>False) I5 (stat fr5) st5 stop) (λr s6 hr=>?_) λ_ _ z=>z;obtain ⟨hr,I6⟩:=hr;subst hr;obtain ⟨mC,hnC,_⟩:=I6.loc;have IX:Inv X pins σ H5 s6:=I3.call' (s':=s6) (ch:=fp) I6.os I6.base I6.hok I6.bare λb hb=>⟨(f3 b hb).2.2.2.1,(f3 b hb).2.1,(f3 b hb).2.2.2.2.1,(f3 b hb).2.2.2.2.2⟩;exact fin D H5 s6 h3.objs.size mC IX (I3.fpOk (qlr _) I6.free) hnC qn
  ·refine wpAny_mono (T.item (cxD X N' scope h3.objs.size {s2 with heap:=h3} H3 fp pins) rfl rfl rfl hcalm i [] s5 σ5 H5 (λ_ _=>False) I5 (stat fr5) st5 go) (λr s6 hr=>?_) λ_ _ z=>z;obtain ⟨u,hr,h6⟩:=hr;subst hr;refine wpAny_mono h6 (λ_ s7 h7=>?_) λ_ _ z=>z;obtain ⟨x,H7,I7,r7,y7,st7,fr7⟩:=h7;have I7':=I7.pinned (stat fr7) (T.obj _ _ st7);refine wpAny_mono (hg _ _ _ _ _ _ s7 σ5 H7 x u _ I7' r7 (step x H7 y7)) (λ_ s8 h8=>?_) λ_ _ z=>z;obtain ⟨σ8,H8,I8,q8⟩:=h8;have again:∀{σ9:St} {H9:Hp} {s9:Shared},Inv (cxD X N' scope h3.objs.size {s2 with heap:=h3} H3 fp pins) ([]++zfa fp s7.heap) σ9 H9 s9->N σ9 H9->∃m,m<n/\∃i σ' H',Inv (cxD X N' scope h3.objs.size {s2 with heap:=h3} H3 fp pins) [] σ' H' s9/\tn i s9.heap/\(∀b∈fp,H' b=none)/\W i m σ' H':=λ{σ9 H9 s9} I9 n9=>(by obtain ⟨m',hm,w9⟩:=hN σ9 H9 n9;refine ⟨m',hm,i+1,σ9,H9,I9.unpinned,T.keep _ _ _ st7 λb hb o e=>(I9.pin (b,o) (List.mem_append_right _ (List.mem_append_right _ (zfb hb e)))).1,λb hb=>?_,w9⟩;obtain ⟨o,e,d⟩:=T.obj _ _ st7 b hb;exact (I9.pin (b,o) (List.mem_append_right _ (List.mem_append_right _ (zfb hb e)))).2.1);refine wpAny_mono (ht _ _ _ _ _ _ s8 σ8 H8 _ I8 q8) (λok s9 h9=>?_) λ_ _ z=>z;obtain ⟨H9,I9,q9⟩:=h9;cases ok with
   |false=>exact again I9 q9
   |true=>intro k Q' E' hk;refine hB _ _ _ _ _ D s9 σ8 H9 N I9 q9 k Q' E' λs10 h10=>hk s10 ?_;obtain ⟨σ10,H10,I10,n10⟩:=h10;exact again I10 n10
 exact hst loop (T.self _ 0 _ _ _ st4 loop)
theorem zqh {X:Cx}{N':List Str}{elt iter tgt:Expr}{ifs:List Expr}{scope:Scope}{pos pos':Pos}{use:Option (Value->Sem Unit)}{R:Value->Shared->Prop}{pins:'('}{s:Shared}{σ:St}{H:Hp}{Q:VK}{wi:TI}{src:St->St}{g:TG}{tts:TT}{t:TE}(hcalm:X.calm=true) (sc:CompSd X N' scope src)
  (hi:PI X tgt iter wi) (hg:∀C s H fp pins,PG ')' tgt g) (ht:∀C s H fp pins,PTs ')' ifs tts) (he:∀C s H fp pins,PE ')' elt t)
  (hs:∀x,foldedSetIterable iter X.env x=pure x) (I:'%') (h:zin X.K wi src g tts t σ H Q)
  (fin:∀D H5 s6 C mC,Inv X pins σ H5 s6->zb5 X pins H5 C->s6.heap.Ns C mC->Q (.ref D) H5->compPost '#' X.A X.xe use R (.ref D) C (.ok .next) s6) :
  wpAny '#' X.A (comprehension (.ListComp elt [⟨tgt,iter,ifs,0⟩] scope pos) scope X.env pos' (newList []) false (eval iter X.env) use) R X.xe s:=by
 refine zlt (o0:={cls:=.type "list",data:=.seq ([]:List Value).toArray}) (O0:=λ_=>.lst []) (B:=λD env k=>(do let _ <-call (.builtin "list.append") [.ref D,<-eval elt env])>>=λ_=>k) hcalm sc rfl (λ_ _ _=>rfl) (λ_ _ _=>rfl) codeAny_compStart_list (λs2 Q' E' q=>wpAny_newObj_type q (by show 0<=sizeLine;exact Nat.zero_le _)) (λI2=>I2.lnew (t':=_) .nil (Nat.zero_le _)) hi hg ht ?_ hs I h fin;intro pins' C s0 H0 fp pins0 D s9 σ8 H9 N I9 q9 k Qk Ek hk;refine qwb ?_;refine qwb (wpAny_mono (he _ _ _ _ _ _ s9 σ8 H9 _ I9 q9) (λy s10 h10=>?_) λ_ _ z=>z.elim);obtain ⟨vy,H10,I10,r10,ys,hys,hz,nx⟩:=h10;refine qwb (wpAny_mono (zkj (X:=cxD X N' scope C s0 H0 fp pins0) _ s10 σ8 H10 (.ref D) [vy] (.ref D) [y] (λ_ H'=>N σ8 H') I10 rfl (.cons r10 .nil) ⟨D,ys,vy,rfl,rfl,hys,hz,nx⟩) (λ_ s11 h11=>?_) λ_ _ z=>z.elim);obtain ⟨_,H11,I11,_,n11⟩:=h11;exact qwp (hk _ ⟨_,_,I11,n11⟩)
theorem yd6 {X:Cx}{N':List Str}{elt iter tgt:Expr}{ifs:List Expr}{scope:Scope}{pos:Pos}{wi:TI}{src:St->St}{g:TG}{tts:TT}{t:TE}(hcalm:X.calm=true) (sc:CompSd X N' scope src)
  (hi:PI X tgt iter wi) (hg:∀C s H fp pins,PG ')' tgt g) (ht:∀C s H fp pins,PTs ')' ifs tts) (he:∀C s H fp pins,PE ')' elt t)
  (hs:∀x,foldedSetIterable iter X.env x=pure x:=by intro _;rfl):PE X (.ListComp elt [⟨tgt,iter,ifs,0⟩] scope pos) (zin X.K wi src g tts t):=by
 intro pins s σ H Q I h;rw [eval_ListComp];refine zqh (use:=none) hcalm sc hi hg ht he hs I h λD H5 s6 C mC IX fp hn q=>⟨mC,hn,λh'' sb=>⟨.ref D,H5,?_,rfl,q⟩⟩;exact IX.turned (t':=s6.toks) (λb o hb e=>sb.extBut b o hb e) fp.1 fp.2.1 fp.2.2.2.1 fp.2.2.2.2.1 fp.2.2.2.2.2
theorem yd7 {X:Cx}{N':List Str}{elt iter tgt:Expr}{ifs:List Expr}{scope:Scope}{pos spos py:Pos}{wi:TI}{src:St->St}{g:TG}{tts:TT}{t:TE}{i:Nat}{y:Str}(hN:X.N.Nodup) (hi':X.N[i]?=some y) (hx:Loc X.env.scope y)
  (hsw:swapsWith (.ListComp elt [⟨tgt,iter,ifs,0⟩] scope pos) (some (.Name y py)) spos.line X.env=pure true) (hf:X.fn y=true\/X.env.scope.names.lookup y=some .local)
  (hcalm:X.calm=true) (sc:CompSd X N' scope src)
  (hi:PI X tgt iter wi) (hg:∀C s H fp pins,PG ')' tgt g) (ht:∀C s H fp pins,PTs ')' ifs tts) (he:∀C s H fp pins,PE ')' elt t)
  (hs:∀x,foldedSetIterable iter X.env x=pure x:=by intro _;rfl):PS X (.Assign [.Name y py] (.ListComp elt [⟨tgt,iter,ifs,0⟩] scope pos) spos) (zh8 (zin X.K wi src g tts t) (zh7 i)):=by
 intro pins s σ H D I h;rw [exec_Assign_Name_used _ _ _ _ hsw];refine qwb (wpAny_standAt (qwb ?_));show wpAny _ X.A (do let _ <-comprehension (.ListComp elt [⟨tgt,iter,ifs,0⟩] scope pos) scope X.env _ (newList []) false (eval iter X.env) (some (assign (.Name y py) X.env))) _ _ s;refine qwb (wpAny_mono (zqh (use:=some (assign (.Name y py) X.env)) (R:=λ_ s'=>SP X pins D .next s') hcalm sc hi hg ht he hs I h λD' H5 s6 C mC IX fp hn q=>?_) (λ_ s' hq=>qwp (qwp hq)) λ_ _ e=>e);show wpAny _ X.A (assign (.Name y py) X.env (.ref D')) _ _ s6;refine wpAny_assign_Name (zj6 (v:=.ref D') IX hN hi' hx rfl (λs' I' ha=>?_) hf);obtain ⟨a,sb,ha⟩:=ha;have hCa:C≠a:=by
  rcases ha with ha|ha
  ·rw [ha];exact fp.2.1
  ·exact λz=>fp.2.2.2.2.1 y a ha z.symm
 refine ⟨mC,hn.sameBut sb hCa,λh'' sb''=>⟨_,H5,?_,q⟩⟩;exact I'.turned (t':=s'.toks) (λb o hb e=>sb''.extBut b o hb e) fp.1 fp.2.1 fp.2.2.2.1 fp.2.2.2.2.1 fp.2.2.2.2.2
theorem zek {X:Cx}{N':List Str}{elt iter tgt:Expr}{ifs:List Expr}{scope:Scope}{pos:Pos}{im:IM}{ixs:List (Option Nat)}{g:GM}{t:TM}{e:EM}(hcalm:X.calm=true) (sc:CompSd X N' scope (zas ixs))
  (hi:PI3 X tgt iter im) (hg:∀C s H fp pins,PG3 ')' tgt g) (ht:∀C s H fp pins,PTs ')' ifs (tt X.K t)) (he:∀C s H fp pins,PE3 ')' elt e)
  (hs:∀x,foldedSetIterable iter X.env x=pure x:=by intro _;rfl):PE3 X (.ListComp elt [⟨tgt,iter,ifs,0⟩] scope pos) (zbv im ixs g t e) :=
 PE.imp (yd6 (g:=tg X.K g) (tts:=tt X.K t) (t:=te X.K e) hcalm sc hi hg ht he hs) zo5
theorem yd8 (j:Nat) {X:Cx}{N':List Str}{elt iter tgt:Expr}{ifs:List Expr}{scope:Scope}{pos spos py:Pos}{y:Str}{im:IM}{ixs:List (Option Nat)}{g:GM}{t:TM}{e:EM}(hN:X.N.Nodup) (hcalm:X.calm=true) (sc:CompSd X N' scope (zas ixs))
  (hi:PI3 X tgt iter im) (hg:∀C s H fp pins,PG3 ')' tgt g) (ht:∀C s H fp pins,PTs ')' ifs (tt X.K t)) (he:∀C s H fp pins,PE3 ')' elt e)
  (hi':X.N[j]?=some y:=by rfl) (hx:Loc X.env.scope y:=by first|exact Or.inl rfl|exact Or.inr rfl)
  (hsw:swapsWith (.ListComp elt [⟨tgt,iter,ifs,0⟩] scope pos) (some (.Name y py)) spos.line X.env=pure true:=by with_unfolding_all rfl) (hf:X.fn y=true\/X.env.scope.names.lookup y=some .local:=by first|exact .inl rfl|exact .inr rfl|assumption)
  (hs:∀x,foldedSetIterable iter X.env x=pure x:=by intro _;rfl):PS3 X (.Assign [.Name y py] (.ListComp elt [⟨tgt,iter,ifs,0⟩] scope pos) spos) (zai (zbv im ixs g t e) (zae j)) :=
 PS.imp (yd7 (g:=tg X.K g) (tts:=tt X.K t) (t:=te X.K e) hN hi' hx hsw hf hcalm sc hi hg ht he hs) λE σ H hx1_=>by obtain ⟨ρ,l,S,f,l',S',sim,ro,hm,p⟩:=hx1_;obtain ⟨⟨x,S1⟩,q1,hm⟩:=bnd hm;cases hm;exact zo5 σ H _ ⟨ρ,l,S,x,S1,sim,ro,q1,λρ1 H1 x' e1 s1 r1=>p ρ1 H1 _ e1 s1 ((ro.mono e1).set j r1)⟩
noncomputable def zqi (scO scope:Scope) (NO N':List Str) (ixs:List (Option Nat)):Bool :=
 decide (scope.kind=.function)&&(scope.names.all λy=>y.2 != .local||scope.names.lookup y.1==some .local)&&(scope.names.all λy=>y.2 != .cell||scope.names.lookup y.1==some .cell) &&
 (scope.names.all λy=>y.2 != .free||(scO.names.lookup y.1==some .cell||scO.names.lookup y.1==some .free))&&(ixs.length==N'.length) &&
 ((List.range ixs.length).all λi=>match ixs[i]? with|some (some j)=>(NO[j]? == N'[i]? && (match N'[i]? with|some x=>scope.names.lookup x==some .free|none=>false))|_=>true)
theorem zdy (hX:X.env.scope=scO) (hN:X.N=NO) (h:zqi scO scope NO N' ixs=true):CompSd X N' scope (zas ixs):=by
 unfold zqi at h;simp only [Bool.and_eq_true,decide_eq_true_eq,List.all_eq_true,beq_iff_eq,Bool.or_eq_true,bne_iff_ne,ne_eq] at h;obtain ⟨⟨⟨⟨⟨h1,h3⟩,h2⟩,h4⟩,h5⟩,h6⟩:=h;refine ⟨h1,λy hy hl=>?_,λy hy hl=>?_,λy hy=>?_,λy hy hc=>?_,λσ=>by simp [zas,h5],λσ i v x hv hx=>?_⟩
 ·rcases h3 y hy with z|z
  ·exact absurd hl z
  ·exact z
 ·show X.env.scope.names.lookup y.1=_\/X.env.scope.names.lookup y.1=_;rw [hX];rcases h4 y hy with z|z
  ·exact absurd hl z
  ·exact z
 ·have mem:∃k,(k=NameKind.cell\/k=NameKind.free)/\(y,k)∈(relabel scope X.env).names:=by
   rcases hy with z|z
   ·exact ⟨_,.inl rfl,PySem.mem_of_lookup z⟩
   ·exact ⟨_,.inr rfl,PySem.mem_of_lookup z⟩
  obtain ⟨k,hk,hm⟩:=mem;unfold relabel at hm;obtain ⟨⟨n,k'⟩,hm1,hm2⟩:=List.mem_map.mp hm;dsimp only at hm2;split at hm2
  ·rename_i hc;have:k'=.free:=(by rw [Bool.and_eq_true,Bool.and_eq_true] at hc;exact eq_of_beq hc.1.1);cases hm2;rw [<-this];exact .inl hm1
  ·cases hm2;rcases hk with z|z
   ·rw [<-z];exact .inr hm1
   ·rw [<-z];exact .inl hm1
 ·rcases h2 (y,.cell) hc with z|z
  ·exact z rfl
  ·rw [hy] at z;cases z
 ·have hl:i<ixs.length:=by have:=(qme hv).1;simpa [zas] using this
  unfold zas at hv;rw [qgm] at hv;have q:=h6 i (List.mem_range.mpr hl);cases e:ixs[i]? with
  |none=>rw [e] at hv;cases hv
  | some o =>
   rw [e] at hv;cases o with
   |none=>cases hv
   |some j=>
    rw [e] at q;dsimp only at q;rw [hx] at q;simp only [Bool.and_eq_true,beq_iff_eq] at q;have hv:((σ[j]?).join:Option V)=some v:=qoi hv;refine ⟨j,by rw [hN];exact q.1,?_,q.2⟩;cases e2:σ[j]? with
    |none=>rw [e2] at hv;cases hv
    |some o2=>rw [e2] at hv;have hv:o2=some v:=hv;rw [hv]
theorem zqj (hX:X.env.scope=scO) (h:chk (zlf scope1 scO) scope2 N1 N' ixs=true):CompSc (cxD X N1 scope1 C s H fp pins) N' scope2 (zas ixs) :=
 ya5 (scO:=zlf scope1 scO) (NO:=N1) (by rw [<-hX];exact yc6 scope1 X.env) rfl h
def zlu (K:QFg) (wi:TI) (src:St->St) (g:TG) (tts:TT) (tk tv:TE):TE:=λσ H Q=>wi σ H λJ H1=>∀D,H1 D=none->K.lookup D=none->∃W:Nat->Nat->St->Hp->Prop,
 (∃m,W 0 m (src σ) (upd H1 D (.dT [])))/\∀i m σ' H',W i m σ' H' ->
  (J.stop i H'/\Q (.ref D) H')\/(J.go i H'/\∃N:St->Hp->Prop,(∀σ' H',N σ' H'->∃m',m' < m/\W (i+1) m' σ' H') /\
   ∀x H'',J.yld i H' x H''->g x σ' H'' λσ2 H2=>tts σ2 H2 λb H3=>if b=true then tk σ2 H3 (λkx H4=>tv σ2 H4 λvx H5=>∃kvs k b,H5 D=some (.dT kvs)/\kx=.ref b/\H5 b=some (.tup (k.map kV))/\kvs.length<sizeLine/\N σ2 (upd H5 D (.dT (zbg kvs k vx)))) else N σ2 H3)
theorem yd9 {X:Cx}{rk:Nat}{N':List Str}{elt vx iter tgt:Expr}{ifs:List Expr}{scope:Scope}{pos pos':Pos}{use:Option (Value->Sem Unit)}{R:Value->Shared->Prop}{pins:'('}{s:Shared}{σ:St}{H:Hp}{Q:VK}{wi:TI}{src:St->St}{g:TG}{tts:TT}{t tv:TE}(hr:Room rk X.A) (hcalm:X.calm=true) (sc:CompSd X N' scope src)
  (hi:PI X tgt iter wi) (hg:∀C s H fp pins,PG ')' tgt g) (ht:∀C s H fp pins,PTs ')' ifs tts) (he:∀C s H fp pins,PE ')' elt t) (hv:∀C s H fp pins,PE ')' vx tv)
  (hs:∀x,foldedSetIterable iter X.env x=pure x) (I:'%') (h:zlu X.K wi src g tts t tv σ H Q)
  (fin:∀D H5 s6 C mC,Inv X pins σ H5 s6->zb5 X pins H5 C->s6.heap.Ns C mC->Q (.ref D) H5->compPost '#' X.A X.xe use R (.ref D) C (.ok .next) s6) :
  wpAny '#' X.A (comprehension (.DictComp elt vx [⟨tgt,iter,ifs,0⟩] scope pos) scope X.env pos' newDict false (eval iter X.env) use) R X.xe s:=by
 refine zlt (o0:={cls:=.type "dict",data:=.dict #[]}) (O0:=λ_=>.dT []) (B:=λD env k=>(do let kv <-eval elt env;let vv <-holding [kv] (eval vx env);standAt {elt.pos with endLine:=vx.pos.endLine,endCol:=vx.pos.endCol};holding [kv,vv] (dictSet D kv vv))>>=λ_=>k) hcalm sc rfl (λ_ _ _=>rfl) (λ_ _ _=>rfl) codeAny_compStart_dict (λs2 Q' E' q=>wpAny_newObj_type q) (λI2=>I2.laid (t':=_) (λb u e=>qps _ e) (qlr _) (zok _ I2.big)) hi hg ht ?_ hs I h fin;intro pins' C s0 H0 fp pins0 D s9 σ8 H9 N I9 q9 k Qk Ek hk;refine qwb ?_;refine qwb (wpAny_mono (he _ _ _ _ _ _ s9 σ8 H9 _ I9 q9) (λy s10 h10=>?_) λ_ _ z=>z.elim);obtain ⟨vy,H10,I10,r10,q10⟩:=h10;refine qwb (wpAny_holding (wpAny_mono (hv _ _ _ _ _ _ s10 σ8 H10 _ I10 q10) (λz s11 h11=>?_) λ_ _ z=>z.elim));obtain ⟨vz,H11,I11,r11,kvs,kk,kb,hys,ek,hkb,hz,nx⟩:=h11;subst ek;cases r10;obtain ⟨z1,hsm,xs,rel,dd⟩:=zkk I11.hok hys;have hzv:xs.length<=sizeLine:=by rw [<-Paired.length rel];exact z1
 have hl:(zbg kvs kk vz).length<=sizeLine:=by have:=zic kvs kk vz;lia
 have hroom:(tupleKind (zby X.prog X.w)).room X.A:=Nat.lt_of_succ_lt (zgz hr);refine qwb (wpAny_standAt (wpAny_holding ?_));refine wpAny_dictSet_heap (hsz:=hzv) hroom (zfd I11.hok hkb) dd λh' dd' hs'=>?_;obtain ⟨q,es,ep,hq,g2,g3,g4,_,g5⟩:=dd';refine hk _ ⟨_,_,zig (ob:=.dT (zbg kvs kk vz)) (t':=s11.toks+(tupleKind (zby X.prog X.w)).draws kk) I11 (by rw [hys];exact True.intro) hs' ⟨q,hq⟩ ⟨hl,hsm,_,(rel.put kk hkb r11).keeps λc ys ec=>?_,q,es,ep,hq,g2,g3,g4,g5⟩,nx⟩;rw [zaj (zcs ec hys (λz=>nomatch z))];exact ec
theorem yea {X:Cx}{rk:Nat}{N':List Str}{elt vx iter tgt:Expr}{ifs:List Expr}{scope:Scope}{pos spos py:Pos}{wi:TI}{src:St->St}{g:TG}{tts:TT}{t tv:TE}{i:Nat}{y:Str}(hN:X.N.Nodup) (hi':X.N[i]?=some y) (hx:Loc X.env.scope y)
  (hsw:swapsWith (.DictComp elt vx [⟨tgt,iter,ifs,0⟩] scope pos) (some (.Name y py)) spos.line X.env=pure true) (hf:X.fn y=true\/X.env.scope.names.lookup y=some .local)
  (hr:Room rk X.A) (hcalm:X.calm=true) (sc:CompSd X N' scope src)
  (hi:PI X tgt iter wi) (hg:∀C s H fp pins,PG ')' tgt g) (ht:∀C s H fp pins,PTs ')' ifs tts) (he:∀C s H fp pins,PE ')' elt t) (hv:∀C s H fp pins,PE ')' vx tv)
  (hs:∀x,foldedSetIterable iter X.env x=pure x:=by intro _;rfl):PS X (.Assign [.Name y py] (.DictComp elt vx [⟨tgt,iter,ifs,0⟩] scope pos) spos) (zh8 (zlu X.K wi src g tts t tv) (zh7 i)):=by
 intro pins s σ H D I h;rw [exec_Assign_Name_used _ _ _ _ hsw];refine qwb (wpAny_standAt (qwb ?_));show wpAny _ X.A (do let _ <-comprehension (.DictComp elt vx [⟨tgt,iter,ifs,0⟩] scope pos) scope X.env _ newDict false (eval iter X.env) (some (assign (.Name y py) X.env))) _ _ s;refine qwb (wpAny_mono (yd9 (use:=some (assign (.Name y py) X.env)) (R:=λ_ s'=>SP X pins D .next s') hr hcalm sc hi hg ht he hv hs I h λD' H5 s6 C mC IX fp hn q=>?_) (λ_ s' hq=>qwp (qwp hq)) λ_ _ e=>e);show wpAny _ X.A (assign (.Name y py) X.env (.ref D')) _ _ s6;refine wpAny_assign_Name (zj6 (v:=.ref D') IX hN hi' hx rfl (λs' I' ha=>?_) hf);obtain ⟨a,sb,ha⟩:=ha;have hCa:C≠a:=by
  rcases ha with ha|ha
  ·rw [ha];exact fp.2.1
  ·exact λz=>fp.2.2.2.2.1 y a ha z.symm
 refine ⟨mC,hn.sameBut sb hCa,λh'' sb''=>⟨_,H5,?_,q⟩⟩;exact I'.turned (t':=s'.toks) (λb o hb e=>sb''.extBut b o hb e) fp.1 fp.2.1 fp.2.2.2.1 fp.2.2.2.2.1 fp.2.2.2.2.2
noncomputable def zft:List D->List (List Key×D)->Option (List (List Key×D))
 |[],acc=>some acc
 | .tup [k,v]::r,acc=>(zcp k).bind λkk=>zft r (zbz acc kk v)
 |_,_=>none
noncomputable def zg6 (im:IM) (ixs:List (Option Nat)) (g:GM) (t:TM) (k v:EM):EM:=λl S=>(im l S).bind λp=>(zb2 p.1 g t (zew k v) p.2.1 0 (zas ixs l) p.2.2).bind λz=>
 if z.1.length<=sizeLine then (zft z.1 []).bind λkvs=>some (.ref z.2.length,z.2++[.tdct kvs]) else none
theorem zqk (kvs:List (List Key×D)) (k:List Key) (v:D):(zbz kvs k v).length<=kvs.length+1:=by
 unfold zbz;split
 ·rw [qlm];lia
 ·simp
inductive CIT (K:QFg) (it:ItM) (g:GM) (t:TM) (ek ev:EM) (S2:Sto) (fin:List (List Key×D)) (ρ1:List Addr) (H1:Hp) (Da:Addr) (i m:Nat) (σ':St) (H':Hp):Prop
 |mk (ρ':List Addr) (l':Lo) (S':Sto) (acc:List (List Key×D)) (vs:List V) (rest:List D) (_:Ext ρ1 H1 ρ' H') (_:Sim K ρ' S' H') (_:RO ρ' H' l' σ') (_:H' Da=some (.dT ((acc.map (·.1)).zip vs))) (_:(∀n:Nat,ρ'[n]?≠some Da)) (_:RDs ρ' H' (acc.map (·.2)) vs) (_:zb2 it g t (zew ek ev) m i l' S'=some (rest,S2)) (_:zft rest acc=some fin) (_:acc.length+rest.length<=sizeLine)
theorem yeb {K:QFg}{im:IM}{ixs:List (Option Nat)}{g:GM}{t:TM}{ek ev:EM}(σ:St) (H:Hp) (Q:VK) (q:te K (zg6 im ixs g t ek ev) σ H Q):zlu K (tiL K im) (zas ixs) (tg K g) (tt K t) (te K ek) (te K ev) σ H Q:=by
 obtain ⟨ρ,l,S,v,S',sim,ro,hm,p⟩:=q;obtain ⟨⟨it,k,S1⟩,q1,hm⟩:=bnd hm;obtain ⟨⟨all,S2⟩,q2,hm⟩:=bnd hm;obtain ⟨hz,hm⟩:=zpr hm;obtain ⟨fin,hf,he⟩:=bnd hm;cases he;refine ⟨ρ,l,S,it,k,S1,sim,ro,q1,λρ1 H1 J e1 s1 io D hD hK=>?_⟩;dsimp only at q2 hz p hf;refine ⟨λi m σ' H'=>CIT K it g t ek ev S2 fin ρ1 H1 D i m σ' H',⟨k,?_⟩,?_⟩
 ·exact ⟨ρ1,zas ixs l,S1,[],[],all,zbq hD,s1.laid hD,(zkx ixs (ro.mono e1)).mono (zbq hD),zbo,s1.notin hD hK,.nil,q2,hf,by simpa using hz⟩
 ·rintro i m σ' H' ⟨ρ',l',S',acc,vs,rest,e2,s2,ro2,hD2,hn2,rd2,hc,hfold,hlen⟩;cases m with
  |zero=>cases hc
  | succ m =>
   unfold zb2 at hc;obtain ⟨o,ho,hc⟩:=bnd hc;obtain ⟨iStop,iGo⟩:=io i ρ' S' H' e2 s2;cases o with
   |none=>cases hc;cases hfold;refine .inl ⟨iStop ho,p (ρ'++[D]) H' (.ref D) (e1.trans (e2.adopt hD)) (s2.adoptG ⟨vs,hD2,rd2⟩ hn2) (.ref ?_)⟩;rw [<-s2.len];exact zd6 ρ' D
   |some x=>
    obtain ⟨⟨l3,S3⟩,q3,hc⟩:=bnd hc;obtain ⟨⟨b,S4⟩,q4,hc⟩:=bnd hc;obtain ⟨hgo,hy⟩:=iGo x ho;refine .inr ⟨hgo,_,λσ' H' h=>h,λy H'' hyl=>?_⟩;obtain ⟨ex,sx,ry⟩:=hy y H'' hyl;refine ⟨ρ',l',S',x,l3,S3,sx,ro2.mono ex,ry,q3,λρ3 H3 σ3 e3' s3 ro3=>⟨ρ3,l3,S3,b,S4,s3,ro3,q4,λρ4 H4 e4 s4=>?_⟩⟩;have e3:=ex.trans e3';obtain ⟨hD3,hn3⟩:=e3.out D _ hD2 hn2;obtain ⟨hD4,hn4⟩:=e4.out D _ hD3 hn3;cases b with
    |false=>exact zda ⟨m,Nat.lt_succ_self m,ρ4,l3,S4,acc,vs,rest,e2.trans (e3.trans e4),s4,ro3.mono e4,hD4,hn4,rd2.mono (e3.trans e4),hc,hfold,hlen⟩
    |true=>have hc:((zew ek ev l3 S4).bind λr=>(zb2 it g t (zew ek ev) m (i+1) l3 r.2).bind λz=>some (r.1::z.1,z.2))=some (rest,S2):=hc;obtain ⟨⟨y5,S5⟩,q5,hc⟩:=bnd hc;obtain ⟨⟨rest',S6⟩,q6,hc⟩:=bnd hc;cases hc;obtain ⟨⟨yk,S7⟩,q7,q5⟩:=bnd q5;obtain ⟨⟨yv,S8⟩,q8,q5⟩:=bnd q5;cases q5;obtain ⟨kk,hkk,hfold⟩:=bnd (show (zcp yk).bind (λkk=>zft rest' (zbz acc kk yv))=some fin from hfold);refine zdb ⟨ρ4,l3,S4,yk,S7,s4,ro3.mono e4,q7,λρ5 H5 v5 e5 s5 r5=>⟨ρ5,l3,S7,yv,S8,s5,(ro3.mono e4).mono e5,q8,λρ6 H6 v6 e6 s6 r6=>?_⟩⟩;obtain ⟨hD5,hn5⟩:=e5.out D _ hD4 hn4;obtain ⟨hD6,hn6⟩:=e6.out D _ hD5 hn5;have e26:=e2.trans (e3.trans (e4.trans (e5.trans e6)));have rd6:=rd2.mono (e3.trans (e4.trans (e5.trans e6)));obtain ⟨kb,ek,hkb⟩:=zg4 hkk r5;have hkb6:=e6.tup _ _ hkb;obtain ⟨ws,hw1,hw2⟩:=zlk (k:=kk) r6 rd6;have hl:acc.length+rest'.length+1<=sizeLine:=(by simpa [Nat.add_assoc] using hlen);have hpl:=zqk acc kk yv;refine ⟨_,kk,kb,hD6,ek,hkb6,by rw [zlm rd6];lia,m,Nat.lt_succ_self m,ρ6,l3,S8,zbz acc kk yv,ws,rest',e26.besideG hD hD6 (zej _),s6.besideG hD6 (zej _) hn6,?_,by rw [zbo,hw1],hn6,hw2.mono0 (zdc hD6 (zej _)),q6,hfold,by lia⟩;have r0:=((ro3.mono e4).mono e5).mono e6;exact ⟨r0.len,λi d h=>let ⟨w,h1,h2⟩:=r0.get i d h;⟨w,h1,h2.mono0 (zdc hD6 (zej _))⟩⟩
theorem yec {X:Cx}{tgt iter:Expr}{im:IM}(h:PI3 X tgt iter im):zg0 X tgt iter im:=PI.imp h λσ H R ⟨ρ,l,S,it,k,S',sim,ro,hm,p⟩=>⟨ρ,l,S,it,k,S',sim,ro,hm,λρ1 H1 J e1 s1 ok=>p ρ1 H1 J e1 s1 λi ρ2 S2 H2 e2 s2=>⟨(ok i ρ2 S2 H2 e2 s2).1,λx hx=>⟨((ok i ρ2 S2 H2 e2 s2).2 x hx).1,λy H3 hy=>by
 obtain ⟨e,r⟩:=((ok i ρ2 S2 H2 e2 s2).2 x hx).2 y H3 hy;subst e;exact ⟨Ext.refl ..,s2,r⟩⟩⟩⟩
theorem yed (j:Nat) {X:Cx}{rk:Nat}{N':List Str}{elt vx iter tgt:Expr}{ifs:List Expr}{scope:Scope}{pos spos py:Pos}{y:Str}{im:IM}{ixs:List (Option Nat)}{g:GM}{t:TM}{e ev:EM}(hN:X.N.Nodup) (hr:Room rk X.A) (hcalm:X.calm=true) (sc:CompSd X N' scope (zas ixs))
  (hi:zg0 X tgt iter im) (hg:∀C s H fp pins,PG3 ')' tgt g) (ht:∀C s H fp pins,PTs ')' ifs (tt X.K t)) (he:∀C s H fp pins,PE3 ')' elt e) (hv:∀C s H fp pins,PE3 ')' vx ev)
  (hi':X.N[j]?=some y:=by rfl) (hx:Loc X.env.scope y:=by first|exact Or.inl rfl|exact Or.inr rfl)
  (hsw:swapsWith (.DictComp elt vx [⟨tgt,iter,ifs,0⟩] scope pos) (some (.Name y py)) spos.line X.env=pure true:=by with_unfolding_all rfl) (hf:X.fn y=true\/X.env.scope.names.lookup y=some .local:=by first|exact .inl rfl|exact .inr rfl|assumption)
  (hs:∀x,foldedSetIterable iter X.env x=pure x:=by intro _;rfl):PS3 X (.Assign [.Name y py] (.DictComp elt vx [⟨tgt,iter,ifs,0⟩] scope pos) spos) (zai (zg6 im ixs g t e ev) (zae j)) :=
 PS.imp (yea (g:=tg X.K g) (tts:=tt X.K t) (t:=te X.K e) (tv:=te X.K ev) hN hi' hx hsw hf hr hcalm sc hi hg ht he hv hs) λE σ H hx1_=>by obtain ⟨ρ,l,S,f,l',S',sim,ro,hm,p⟩:=hx1_;obtain ⟨⟨x,S1⟩,q1,hm⟩:=bnd hm;cases hm;exact yeb σ H _ ⟨ρ,l,S,x,S1,sim,ro,q1,λρ1 H1 x' e1 s1 r1=>p ρ1 H1 _ e1 s1 ((ro.mono e1).set j r1)⟩
end L3
namespace SP
open PySem PySem.W PyProof.Rows PySem.Calls
section
end
end SP
namespace L3
open PySem PySem.Spec PyProof.Rows L2
noncomputable def pD (p:SP.Pr):D:=.tup [.int p.1,.int p.2]
section
end
section
end
end L3
namespace SP
open PySem PySem.W PyProof.Rows PySem.Calls
section
variable {prog:Program}{w:World}{A:Around}{E:Value->Shared->Prop}{s:Shared}{d it:Addr}{es:Array DictEntry}{ep i:Nat}
end
end SP
namespace L3
open PySem PySem.Spec PyProof.Rows L2
section
variable {X:Cx}{tg:Expr}
end
section
variable {X:Cx}{tgt iter:Expr}{m:EM}
end
section
end
section
end
theorem yee {α:Type}{c:Prop} [Decidable c] {x:Option α}{y:α}(h:(if c then x else none)=some y):c/\x=some y:=by
 by_cases e:c
 ·rw [if_pos e] at h;exact ⟨e,h⟩
 ·rw [if_neg e] at h;cases h
noncomputable def tL (m:EM):TM:=λl S=>(m l S).bind λp=>match p.1 with
 | .ref n=>(lstOf p.2 n).bind λxs=>some (!xs.isEmpty,p.2)
 |_=>none
section
theorem yef (h:PE3 X a m) (he:∀whole,isTrue a X.env whole=(do let v <-whole;standAt a.pos;holding [v] (truthy v)):=by intro _;rfl):PT3 X a (tL m) :=
 PT.imp (zwv h he) λσ H Q hx1_=>by
  obtain ⟨ρ,l,S,b,S',sim,ro,hm,p⟩:=hx1_;obtain ⟨⟨x,S1⟩,h1,hm⟩:=bnd hm;dsimp only at hm;split at hm
  ·rename_i n;obtain ⟨xs,h2,hm⟩:=bnd hm;cases hm;refine ⟨ρ,l,S,.ref n,_,sim,ro,h1,λρ1 H1 v' e1 s1 r1=>?_⟩;obtain ⟨c,us,hc,sq,rv⟩:=s1.lstOf h2;cases r1 with
   |ref hn=>rw [hc] at hn;cases hn;have eb:(!xs.isEmpty) = !us.isEmpty:=(by cases rv<;>rfl);exact ⟨!xs.isEmpty,.inl ⟨us,sq,eb⟩,p ρ1 H1 e1 s1⟩
  ·cases hm
end
noncomputable def zg7:FM
 |[.tup [.int i,.int j]],S=>some (.int (if j<i then j else i),S)
 |_,_=>none
noncomputable def zg8:FM
 |[.tup [.int i,.int j]],S=>some (.int (if j>i then j else i),S)
 |_,_=>none
section
variable {prog:Program}{w:World}{A:Around}{E:Value->Shared->Prop}{s:Shared}{c:Addr}{i j:Int}{t u:Tok}
theorem zql {Q:Value->Shared->Prop}(hT:s.heap.IsTuple c (intItems #[(i,t),(j,u)])) (h:Q (.ref s.heap.objs.size) {s with heap:=s.heap.push {cls:=.type "tuple_iterator",data:=.fields #[.ref c,.int 0 0]}}):wpAny '&' A (pyIter (.ref c)) Q E s:=wpAny_pyIter_tuple hT h
theorem zqm {o:Obj}{h':Heap}(hk:∀b q,b ∉ [s.heap.objs.size]->(s.heap.push o).get? b=some q->h'.get? b=some q) (b:Addr) (q:Obj) (e:s.heap.get? b=some q):h'.get? b=some q :=
 hk b q (λhm=>absurd (Heap.lt_size e) (by rw [List.mem_singleton.mp hm];exact Nat.lt_irrefl _)) (qps _ e)
theorem zqn (hc:c<s.heap.objs.size):∀b∈[s.heap.objs.size,c],b<(s.heap.push o).objs.size:=λb hb=>by
 rw [Heap.size_push];rcases List.mem_cons.mp hb with e|hb
 ·rw [e];exact Nat.lt_succ_self _
 ·rw [List.mem_singleton.mp hb];exact Nat.lt_succ_of_lt hc
theorem yeg {Q:Value->Shared->Prop}(hh:A.handled=none) (hT:s.heap.IsTuple c (intItems #[(i,t),(j,u)])) (h:∀h' tk,(∀b o,s.heap.get? b=some o->h'.get? b=some o)->Q (if j<i then .int j u else .int i t) {s with heap:=h',toks:=tk}) :
  wpAny '&' A (call (.builtin "min") [.ref c]) Q E s:=by
 have hlt:c<s.heap.objs.size:=by obtain ⟨_,e,_⟩:=hT;exact Heap.lt_size e
 refine call_min_walk (zql hT ⟨_,[_,c],[_],_,_,_,_,rfl,Walks.tuple (A:=A.in1) hh _ c (Nat.ne_of_lt hlt) (intItems #[(i,t),(j,u)]),⟨⟨_,Heap.get?_push_size _ rfl,rfl,rfl⟩,hT.push _⟩,zqn hlt,by simp [intItems],CmpOf.ints_lt (numAt #[(i,t),(j,u)]) (λ_ _=>intItems_at),λv h' tk hP hk=>?_⟩);have hz2:(intItems #[(i,t),(j,u)]).size-1=1:=by simp [intItems]
 rw [hz2] at hP;have e:v=if j<i then Value.int j u else Value.int i t:=by
  by_cases z:j<i
  ·have e:argBest (λa b=>decide (numAt #[(i,t),(j,u)] a<numAt #[(i,t),(j,u)] b)) 1=1:=(by simp [argBest,numAt,z]);rw [e] at hP;simpa [intItems,z] using hP.symm
  ·have e:argBest (λa b=>decide (numAt #[(i,t),(j,u)] a<numAt #[(i,t),(j,u)] b)) 1=0:=(by simp [argBest,numAt,z]);rw [e] at hP;simpa [intItems,z] using hP.symm
 rw [e];exact h h' tk (zqm hk)
theorem yeh {Q:Value->Shared->Prop}(hh:A.handled=none) (hT:s.heap.IsTuple c (intItems #[(i,t),(j,u)])) (h:∀h' tk,(∀b o,s.heap.get? b=some o->h'.get? b=some o)->Q (if j>i then .int j u else .int i t) {s with heap:=h',toks:=tk}) :
  wpAny '&' A (call (.builtin "max") [.ref c]) Q E s:=by
 have hlt:c<s.heap.objs.size:=by obtain ⟨_,e,_⟩:=hT;exact Heap.lt_size e
 refine call_max_walk (zql hT ⟨_,[_,c],[_],_,_,_,_,rfl,Walks.tuple (A:=A.in1) hh _ c (Nat.ne_of_lt hlt) (intItems #[(i,t),(j,u)]),⟨⟨_,Heap.get?_push_size _ rfl,rfl,rfl⟩,hT.push _⟩,zqn hlt,by simp [intItems],CmpOf.ints_gt (numAt #[(i,t),(j,u)]) (λ_ _=>intItems_at),λv h' tk hP hk=>?_⟩);have hz2:(intItems #[(i,t),(j,u)]).size-1=1:=by simp [intItems]
 rw [hz2] at hP;have e:v=if j>i then Value.int j u else Value.int i t:=by
  by_cases z:j>i
  ·have e:argBest (λa b=>decide (numAt #[(i,t),(j,u)] a>numAt #[(i,t),(j,u)] b)) 1=1:=(by simp [argBest,numAt,z]);rw [e] at hP;simpa [intItems,z] using hP.symm
  ·have e:argBest (λa b=>decide (numAt #[(i,t),(j,u)] a>numAt #[(i,t),(j,u)] b)) 1=0:=(by simp [argBest,numAt,z]);rw [e] at hP;simpa [intItems,z] using hP.symm
 rw [e];exact h h' tk (zqm hk)
end
def zqo (K:QFg):List V->Hp->VK->Prop:=λxs H Q=>∃p i j,xs=[.ref p]/\SqT K H p [.int i,.int j]/\Q (.int (if j<i then j else i)) H
def zqp (K:QFg):List V->Hp->VK->Prop:=λxs H Q=>∃p i j,xs=[.ref p]/\SqT K H p [.int i,.int j]/\Q (.int (if j>i then j else i)) H
section
theorem zqq {pins:'('}{σ:St}{i j:Int}(I:'%') (h:SqT X.K H p [.int i,.int j]):∃t u,s.heap.IsTuple p (intItems #[(i,t),(j,u)]):=by
 obtain ⟨its,rv,hp,_⟩:=I.tuple h;cases rv with
 |cons a1 a2=>
  cases a2 with
  |cons a3 a4=>cases a4;obtain ⟨t1,rfl⟩:=a1;obtain ⟨t2,rfl⟩:=a3;exact ⟨t1,t2,by obtain ⟨o,h1,h2,n,h3⟩:=hp;exact ⟨o,h1,h2,n,by simpa [intItems] using h3⟩⟩
theorem yei (hc:X.calm=true):CallR X (.builtin "min") (zqo X.K):=by
 intro pins s σ H xs us Q I r h;obtain ⟨p,i,j,rfl,sq,q⟩:=h;obtain ⟨u,rfl,ru⟩:=zd4 r;cases ru;obtain ⟨t,u,hT⟩:=zqq I sq;refine yeg (I.ok.hd hc) hT λh' tk k=>⟨_,H,I.kept k,?_,q⟩;by_cases hj:j<i
 ·rw [if_pos hj,if_pos hj];exact ⟨_,rfl⟩
 ·rw [if_neg hj,if_neg hj];exact ⟨_,rfl⟩
theorem yej (hc:X.calm=true):CallR X (.builtin "max") (zqp X.K):=by
 intro pins s σ H xs us Q I r h;obtain ⟨p,i,j,rfl,sq,q⟩:=h;obtain ⟨u,rfl,ru⟩:=zd4 r;cases ru;obtain ⟨t,u,hT⟩:=zqq I sq;refine yeh (I.ok.hd hc) hT λh' tk k=>⟨_,H,I.kept k,?_,q⟩;by_cases hj:j>i
 ·rw [if_pos hj,if_pos hj];exact ⟨_,rfl⟩
 ·rw [if_neg hj,if_neg hj];exact ⟨_,rfl⟩
end
theorem yek {K:QFg}:Fn3 K zg7 (zqo K):=by
 intro ρ S H xs vs v S' Q sim r h p;unfold zg7 at h;split at h
 ·cases h;obtain ⟨w,rfl,rw'⟩:=r.one;cases rw' with
  | @tup _ b us hb rs=>obtain ⟨x,y,rfl,q1,q2⟩:=rs.two;cases q1;cases q2;exact ⟨b,_,_,rfl,.inl (.inl hb),p ρ H _ (Ext.refl ..) sim (.int _)⟩
 ·cases h
theorem yel {K:QFg}:Fn3 K zg8 (zqp K):=by
 intro ρ S H xs vs v S' Q sim r h p;unfold zg8 at h;split at h
 ·cases h;obtain ⟨w,rfl,rw'⟩:=r.one;cases rw' with
  | @tup _ b us hb rs=>obtain ⟨x,y,rfl,q1,q2⟩:=rs.two;cases q1;cases q2;exact ⟨b,_,_,rfl,.inl (.inl hb),p ρ H _ (Ext.refl ..) sim (.int _)⟩
 ·cases h
section
theorem yem (hc:X.calm=true) (hg:Gl X "min") (hm:X.mg "min" = none) (ha:PA3 X (a::es) mA) (he:starEach (a::es) X.env=(false,eval a X.env)::starEach es X.env:=by rfl) (hpl:(backTo pos (starEach es X.env)).any (·.1)=false:=by rfl):PE3 X (.Call (.Name "min" p) (a::es) [] pos) (zad zg7 mA) :=
 zdq (yei hc) yek hg hm zo8 ha '$' '$' he hpl
theorem yen (hc:X.calm=true) (hg:Gl X "max") (hm:X.mg "max" = none) (ha:PA3 X (a::es) mA) (he:starEach (a::es) X.env=(false,eval a X.env)::starEach es X.env:=by rfl) (hpl:(backTo pos (starEach es X.env)).any (·.1)=false:=by rfl):PE3 X (.Call (.Name "max" p) (a::es) [] pos) (zad zg8 mA) :=
 zdq (yej hc) yel hg hm zo9 ha '$' '$' he hpl
end
section
variable {prog:Program}{w:World}{K:Type} [DecidableEq K] {knd:HeapKind prog w K}{A:Around}{E:Value->Shared->Prop}{s:Shared}{d a:Addr}{k:K}{xs:List (K×Addr×Value)}{z:Value}
theorem sdH {Q:Value->Shared->Prop}(hu:knd.room A) (hkey:knd.is s.heap k a) (hm:s.heap.DictOfH knd d xs) (hsz:xs.length<=sizeLine)
  (there:∀p,atKey xs k=some p->Q p.2 {s with toks:=s.toks+knd.draws k}) (new:atKey xs k=none->∀h',h'.DictOfH knd d (storedH xs k a z)->Heap.SameBut d s.heap h'->Q z {s with heap:=h',toks:=s.toks+knd.draws k}) :
  wpAny '&' A (dictSetDefault d (.ref a) z) Q E s:=by
 obtain ⟨o,es,ep,ho,hc,hd,he,his,hn⟩:=hm;unfold dictSetDefault
 try with_reducible refine wpAny_holding ?_
 refine qwb (knd.pyHash hu hkey (qwb (wpAny_dictFind_heap (s:={s with toks:=s.toks+knd.draws k}) hu hkey ho hd he his hn (λhno=>?_) λj p hj=>?_)))
 ·have e0:=atKey_none_of_get hno;have hnot:k∉xs.map (·.1):=not_mem_keys_of_get hno;refine qwb (wpAny_rule (qwb (wpAny_updateDictKeys (hz:=by have e:=size_of_entries he;omega) (s:={s with toks:=s.toks+knd.draws k}) ho hd (qwp (new e0 _ ⟨_,_,ep+1,Heap.get?_update_self _ ho (Obj.isFreed_of_dict (Obj.data_mapDictKeys hd _)),hc.mapDictKeys _,Obj.data_mapDictKeys hd _,?_,?_,?_⟩ (Heap.SameBut.update ..))))))
  ·rw [storedH_new e0];simp [he,entryOfKey]
  ·rw [storedH_new e0];intro x hx;rcases List.mem_append.mp hx with hx|hx
   ·exact knd.keeps (his x hx) ho hd (Heap.SameBut.update ..)
   ·cases (show x=(k,a,z) by simpa using hx);exact knd.keeps hkey ho hd (Heap.SameBut.update ..)
  ·rw [storedH_new e0,List.map_append,List.nodup_append];refine ⟨hn,by simp,λx hx y hy=>?_⟩;cases (show y=k by simpa using hy);exact λe=>hnot (e▸hx)
 ·refine qwb (wpAny_dictEntries (s:={s with toks:=s.toks+knd.draws k}) ho hd ?_);rw [entry_at he j,hj];exact qwb (wpAny_rule (qwp (there p (atKey_of_get hn hj))))
theorem yeo (hd:(d==sysModules)=false):MeetsIn prog w (Builtin.«dict.setdefault» ⟨[.ref d,.ref a,z],[]⟩) (λA R s=>knd.room A.in1/\∃k xs,knd.is s.heap k a/\s.heap.DictOfH knd d xs/\xs.length<=sizeLine /\
   (∀p,atKey xs k=some p->R (.ok (.ret p.2)) {s with toks:=s.toks+knd.draws k})/\(atKey xs k=none->∀h',h'.DictOfH knd d (storedH xs k a z)->Heap.SameBut d s.heap h'->R (.ok (.ret z)) {s with heap:=h',toks:=s.toks+knd.draws k})) :=
 .of_wp λA R s hx2_=>by obtain ⟨hu,k,xs,hkey,hm,hz,h1,h2⟩:=hx2_;unfold Builtin.«dict.setdefault» Builtin.Dict.keyAndDefault;refine qwb (qwb (wpAny_notOrdered_dict hm.typeIs (show wpAny _ _ (pure (d,Value.ref a,some z)) _ _ s from qwp ?_)));show wpAny _ _ (if (d==sysModules)=true then _ else (dictSetDefault d (.ref a) z>>=_)) _ _ s;rw [hd,if_neg Bool.false_ne_true];exact qwb (sdH hu hkey hm hz (λp hp=>qwp ⟨p.2,rfl,h1 p hp⟩) λhn h' hm' hs'=>qwp ⟨z,rfl,h2 hn h' hm' hs'⟩)
end
def yep (td ty tx:TE):TE:=λσ H Q=>td σ H λx H1=>∃a,x=.ref a/\IsD H1 a/\ty σ H1 λy H2=>tx σ H2 λz H3=>∃kvs k b,H3 a=some (.dT kvs)/\y=.ref b/\H3 b=some (.tup (k.map kV))/\kvs.length<sizeLine /\
 (∀v,zbi kvs k=some v->Q v H3)/\(zbi kvs k=none->Q z (upd H3 a (.dT (zbg kvs k z))))
section
variable {td ty tx:TE}
theorem yeq (hu:X.A.units+1<cLine) (ho:PE X o td) (he:PE X e ty) (hf:PE X f tx) (m:M2 X o "setdefault" apos e f cpos):PE X (.Call (.Attribute o "setdefault" apos) [e,f] [] cpos) (yep td ty tx):=by
 intro pins s σ H Q I h;refine wpAny_Call_method m.base m.few m.line PySem.F.plainAttrs_dict PySem.F.slot_dict_setdefault PySem.F.type_dict_setdefault (thn (ho pins s σ H _ I h) λu s1 ⟨x,H1,I1,rx,a,ex,d,q1⟩=>?_);subst ex;obtain rfl:u=Value.ref a:=rx;obtain ⟨t1,t2,_⟩:=zol I1 d;refine ⟨t1,t2,?_⟩;rw [m.trees];refine Calls.callWith_builtin rfl (Calls.evalArgs_plain (Calls.spliced_cons (thn (he pins s1 σ H1 _ I1 q1) λiv s2 ⟨y,H2,I2,ry,q2⟩=>Calls.spliced_cons (thn (hf pins s2 σ H2 _ I2 q2) λfv s3 ⟨z,H3,I3,rz,kvs,k,b,ea,ey,eb,hl,g1,g2⟩=>Calls.spliced_nil ?_))));subst ey;cases (show iv=Value.ref b from ry);obtain ⟨zz,hd,xs,rel,dd⟩:=zkk I3.hok ea;have hz:xs.length<=sizeLine:=by rw [<-Paired.length rel];exact zz
 have hp:(zbg kvs k z).length<=sizeLine:=by have:=zic kvs k z;omega
 refine call_meetsIn PySem.F.slot_dict_setdefault dd.typeIs PySem.F.entry_dict_setdefault (PySem.F.args_dict_setdefault_3 _ _ _) (yeo (knd:=tupleKind (zby X.prog X.w)) hd) ⟨tupleKind_room_in1 hu,k,xs,zfd I3.hok eb,dd,hz,λp hp=>?_,λhn h' dd' hs=>?_⟩
 ·have r:=rel.val k;rw [hp] at r;cases hv:zbi kvs k with
  |none=>rw [hv] at r;exact r.elim
  |some v=>rw [hv] at r;exact ⟨v,H3,I3.tok _,r,g1 v hv⟩
 ·have r:=rel.val k;rw [hn] at r;cases hv:zbi kvs k with
  |some v=>rw [hv] at r;exact r.elim
  |none=>obtain ⟨q,es,ep,hq,h2,h3,h4,_,h5⟩:=dd';refine ⟨z,_,zig (ob:=.dT (zbg kvs k z)) I3 (by rw [ea];exact True.intro) hs ⟨q,hq⟩ ⟨hp,hd,_,(rel.put k eb rz).keeps λc ys ec=>?_,q,es,ep,hq,h2,h3,h4,h5⟩,rz,g2 hv⟩;rw [zaj (zcs ec ea (λz=>nomatch z))];exact ec
end
noncomputable def ze0 (o e f:EM):EM:=λl S=>(o l S).bind λp=>(isDc p.2 p.1).bind λ_=>(e l p.2).bind λq=>(f l q.2).bind λt=>match p.1 with
 | .ref n=>match t.2[n]? with
  |some (.tdct kvs)=>(zcp q.1).bind λk=>if kvs.length<sizeLine then (match zat kvs k with
   |some v=>some (v,t.2)
   |none=>some (t.1,t.2.set n (.tdct (zbz kvs k t.1)))) else none
  |_=>none
 |_=>none
section
theorem yer (hr:Room k X.A) (ho:PE3 X o mo) (he:PE3 X e me) (hf:PE3 X f mf) (m:M2 X o "setdefault" apos e f cpos:=by exact ⟨rfl,rfl,rfl,rfl⟩):PE3 X (.Call (.Attribute o "setdefault" apos) [e,f] [] cpos) (ze0 mo me mf):=PE.imp (yeq (zgz hr) ho he hf m) λσ H Q hx3_=>by
 obtain ⟨ρ,l,S,v,S',sim,ro,hq,p⟩:=hx3_;obtain ⟨⟨x,S1⟩,h1,hq⟩:=bnd hq;obtain ⟨_,h2,hq⟩:=bnd hq;obtain ⟨⟨y,S2⟩,h3,hq⟩:=bnd hq;obtain ⟨⟨z,S3⟩,h5,hq⟩:=bnd hq;cases x with
 | ref n =>
  dsimp only at hq;cases hx:S3[n]? with
  |none=>rw [hx] at hq;cases hq
  |some ob=>
  rw [hx] at hq;cases ob with
  | tdct kvs =>
   dsimp only at hq;obtain ⟨kk,hk,hq⟩:=bnd hq;obtain ⟨hz,hq⟩:=yee hq;refine ⟨ρ,l,S,.ref n,S1,sim,ro,h1,λρ1 H1 x' e1 s1 r1=>?_⟩;obtain ⟨a,rfl,da⟩:=s1.isDc r1 h2;refine ⟨a,rfl,da,ρ1,l,S1,y,S2,s1,ro.mono e1,h3,λρ2 H2 y' e2 s2 r2=>⟨ρ2,l,S2,z,S3,s2,(ro.mono e1).mono e2,h5,λρ3 H3 z' e3 s3 r3=>?_⟩⟩;have r1':=(r1.mono e2).mono e3;cases r1' with
   | @ref _ _ hn =>
    obtain ⟨vs,hH,r⟩:=s3.at' _ a _ hn hx;obtain ⟨b,rfl,hb⟩:=zg4 hk (r2.mono e3);obtain ⟨g1,g2⟩:=zi8 (k:=kk) r;refine ⟨_,kk,b,hH,rfl,hb,by rw [zlm r];exact hz,λv' hv=>?_,λhv=>?_⟩
    ·cases hg:zat kvs kk with
     |none=>rw [g1 hg] at hv;cases hv
     |some d0=>rw [hg] at hq;obtain ⟨v0,hv0,rd⟩:=g2 d0 hg;cases hq;rw [hv] at hv0;cases hv0;exact p ρ3 H3 _ (e1.trans (e2.trans e3)) s3 rd
    ·cases hg:zat kvs kk with
     |some d0=>obtain ⟨v0,hv0,_⟩:=g2 d0 hg;rw [hv] at hv0;cases hv0
     |none=>rw [hg] at hq;cases hq;obtain ⟨ws,hw1,hw2⟩:=zlk (k:=kk) r3 r;have ex:=zkl (o:=.dT (zbg ((kvs.map (·.1)).zip vs) kk z')) hn hH (zej _);exact p ρ3 _ _ ((e1.trans (e2.trans e3)).trans ex) (s3.setG hn hx rfl hH (zej _) ⟨ws,by rw [zbo,hw1],hw2.mono ex⟩) (r3.mono ex)
  |_=>cases hq
 |_=>cases hq
end
section
end
section
end
section
end
section
end
section
end
section
end
section
end
section
end
theorem yet {X:Cx}{E tgt2 iter2:Expr}{ifs2:List Expr}{pins:'('}{s9:Shared}{σ8:St}{H9:Hp}{wi2:TI}{g2:TG}{tts2:TT}{B:Sem Fin->Sem Fin}{tB:St->Hp->(St->Hp->Prop)->Prop}{acc:Value}{N:St->Hp->Prop}(hcalm:X.calm=true) (hx:∀a b,X.xe a b->False) (hs:∀x,foldedSetIterable iter2 X.env x=pure x)
  (hT:∀it,'#'.den (.compLoop E 1 it acc X.env)=(zls E 1 tgt2 iter2 ifs2 B it acc X.env).onRaise (λx=>do noteFrame x X.env;theTreesLotGoes x)) (hU:∀it,X.A.under (.compLoop E 1 it acc X.env)=X.A)
  (hst:∀{it R s},codeAny '#' X.A (.compLoop E 1 it acc X.env) R s->wpAny '#' X.A (pyIter it) (λit' s'=>codeAny '#' X.A (.compLoop E 1 it' acc X.env) R s') (notedBy '#' X.A X.env λx s'=>R (.error x) s') s->codeAny '#' X.A (.compStart E 1 it acc X.env) R s)
  (hi2:PI X tgt2 iter2 wi2) (hg2:PG X tgt2 g2) (ht2:PTs X ifs2 tts2)
  (hB:∀pins s σ H N2,Inv X pins σ H s->tB σ H N2->wpK '#' X.A B (λs'=>∃σ' H',Inv X pins σ' H' s'/\N2 σ' H') s)
  (I9:Inv X pins σ8 H9 s9) (q9:wi2 σ8 H9 λJ2 H4=>∃W2:Nat->Nat->St->Hp->Prop,(∃m,W2 0 m σ8 H4)/\∀j m σ3 H5,W2 j m σ3 H5 ->
    (J2.stop j H5/\N σ3 H5)\/(J2.go j H5/\∃N2:St->Hp->Prop,(∀σ' H',N2 σ' H'->∃m',m' < m/\W2 (j+1) m' σ' H') /\
     ∀y H6,J2.yld j H5 y H6->g2 y σ3 H6 λσ4 H7=>tts2 σ4 H7 λb H8=>if b=true then tB σ4 H8 N2 else N2 σ4 H8)) :
  wpK '#' X.A (λk=>do let x <-eval iter2 X.env;standAt iter2.pos;let x <-foldedSetIterable iter2 X.env x;let _ <-runOwn (.compStart E 1 (<-holding [x] (pyIter x)) acc X.env) X.env;k) (λs'=>∃σ' H',Inv X pins σ' H' s'/\N σ' H') s9:=by
 intro kk QQ EE hkk;refine qwb (wpAny_mono (hi2 _ s9 σ8 H9 _ I9 q9) (λv s10 h10=>?_) λ_ _ z=>(hx _ _ z).elim);refine qwb (wpAny_standAt ?_);rw [hs v];refine qwb (qwp (qwb (wpAny_holding (wpAny_mono h10 (λitv s11 h11=>?_) λ_ _ z=>(hx _ _ z).elim))));obtain ⟨it2,fp2,tn2,J2,H11,rfl,I11,T2,st11,f11,W2,⟨m2,w2⟩,turn2⟩:=h11;have stat2:∀{H':Hp},(∀b∈fp2,H' b=none)->∀b∈fp2,zb5 X pins H' b:=λhn b hb=>⟨hn b hb,(f11 b hb).2⟩;have inner:codeAny '#' X.A (.compLoop E 1 (.ref it2) acc X.env)
   (λr s6=>r=.ok .next/\∃σ' H',Inv X pins σ' H' s6/\N σ' H') s11:=by
  refine zqg (hU _) (hT _) (λk s'=>∃j σ' H',Inv X pins σ' H' s'/\tn2 j s'.heap/\(∀b∈fp2,H' b=none)/\W2 j k σ' H') ?_ m2 ⟨0,σ8,H11,I11,st11,λb hb=>(f11 b hb).1,w2⟩;rintro k s12 ⟨j,σ12,H12,I12,st12,fr12,w12⟩;rcases turn2 j k σ12 H12 w12 with ⟨stop2,qn2⟩|⟨go2,N2,hN2,step2⟩
  ·refine wpAny_mono (T2.done X rfl rfl rfl hcalm j _ s12 σ12 H12 (λ_ _=>False) I12 (stat2 fr12) st12 stop2) (λr s13 hr=>?_) λ_ _ z=>z;obtain ⟨hr,I13⟩:=hr;subst hr;exact ⟨rfl,_,_,I13,qn2⟩
  ·refine wpAny_mono (T2.item X rfl rfl rfl hcalm j _ s12 σ12 H12 (λ_ _=>False) I12 (stat2 fr12) st12 go2) (λr s13 hr=>?_) λ_ _ z=>z;obtain ⟨u2,hr,h13⟩:=hr;subst hr;refine wpAny_mono h13 (λ_ s14 h14=>?_) λ_ _ z=>z;obtain ⟨x2,H14,I14,r14,y14,st14,fr14⟩:=h14;have I14':=I14.pinned (stat2 fr14) (T2.obj _ _ st14);refine wpAny_mono (hg2 _ s14 σ12 H14 x2 u2 _ I14' r14 (step2 x2 H14 y14)) (λ_ s15 h15=>?_) λ_ _ z=>(hx _ _ z).elim;obtain ⟨σ15,H15,I15,q15⟩:=h15;have again2:∀{σ16:St} {H16:Hp} {s16:Shared},Inv X (pins++zfa fp2 s14.heap) σ16 H16 s16->N2 σ16 H16->∃m,m<k/\∃j σ' H',Inv X pins σ' H' s16/\tn2 j s16.heap/\(∀b∈fp2,H' b=none)/\W2 j m σ' H':=λ{σ16 H16 s16} I16 n16=>(by obtain ⟨m',hm,w16⟩:=hN2 σ16 H16 n16;refine ⟨m',hm,j+1,σ16,H16,I16.unpinned,T2.keep _ _ _ st14 λb hb o e=>(I16.pin (b,o) (List.mem_append_right _ (List.mem_append_right _ (zfb hb e)))).1,λb hb=>?_,w16⟩;obtain ⟨o,e,d⟩:=T2.obj _ _ st14 b hb;exact (I16.pin (b,o) (List.mem_append_right _ (List.mem_append_right _ (zfb hb e)))).2.1);refine wpAny_mono (ht2 _ s15 σ15 H15 _ I15 q15) (λok s16 h16=>?_) λ_ _ z=>(hx _ _ z).elim;obtain ⟨H16,I16,q16⟩:=h16;cases ok with
   |false=>exact again2 I16 q16
   |true=>intro k3 Q3 E3 hk3;refine hB _ s16 σ15 H16 N2 I16 q16 k3 Q3 E3 λs17 h17=>hk3 s17 ?_;obtain ⟨σ17,H17,I17,n17⟩:=h17;exact again2 I17 n17
 refine qwb (wpAny_runOwn (codeAny_mono (hst inner (T2.self _ 0 _ _ _ st11 inner)) λr s₆ h₆=>?_));obtain ⟨rfl,h₆⟩:=h₆;exact hkk _ h₆
section
noncomputable abbrev two (elt t1 i1 t2 i2:Expr) (ifs1 ifs2:List Expr) (scope:Scope) (pos:Pos):Expr:=.ListComp elt [⟨t1,i1,ifs1,0⟩,⟨t2,i2,ifs2,0⟩] scope pos
theorem yeu (h0:codeAny '&' A (.compLoop (two elt t1 i1 t2 i2 ifs1 ifs2 scope pos) 1 it acc env) R s)
  (h:wpAny '&' A (pyIter it) (λit' s'=>codeAny '&' A (.compLoop (two elt t1 i1 t2 i2 ifs1 ifs2 scope pos) 1 it' acc env) R s') (notedBy '&' A env λx s'=>R (.error x) s') s) :
  codeAny '&' A (.compStart (two elt t1 i1 t2 i2 ifs1 ifs2 scope pos) 1 it acc env) R s:=by
 refine codeAny_of_tree ?_;show wpAny _ _ ((compStart (two elt t1 i1 t2 i2 ifs1 ifs2 scope pos) 1 it acc env).onRaise (λx=>do noteFrame x env;standAt theWindowsPlace)) _ _ s;refine wpAny_notedAt ?_;unfold compStart;show wpAny _ _ (ask>>=_) _ _ s;refine qwb (wpAny_askSetting (wpAny_ite ?_));split
 ·first
   |exact qwb (qwp (qwp (And.intro rfl h0)))
   |exact qwp (And.intro rfl h0)
 ·first
   |exact qwb (wpAny_rule (qwb (wpAny_standAt (qwb (wpAny_mono h (λit' s' h'=>qwp (And.intro rfl h')) λ_ _ x=>x)))))
   |(refine qwb (wpAny_rule ?_);show wpAny _ _ (standAt i2.pos>>=_) _ _ s;exact qwb (wpAny_standAt (qwb (wpAny_mono h (λit' s' h'=>qwp (And.intro rfl h')) λ_ _ x=>x))))
end
def zlv (K:QFg) (wi:TI) (src:St->St) (g:TG) (tts:TT) (wi2:TI) (g2:TG) (tts2:TT) (t:TE):TE:=λσ H Q=>wi σ H λJ H1=>∀D,H1 D=none->K.lookup D=none->∃W:Nat->Nat->St->Hp->Prop,
 (∃m,W 0 m (src σ) (upd H1 D (.lst [])))/\∀i m σ' H',W i m σ' H' ->
  (J.stop i H'/\Q (.ref D) H')\/(J.go i H'/\∃N:St->Hp->Prop,(∀σ' H',N σ' H'->∃m',m' < m/\W (i+1) m' σ' H') /\
   ∀x H'',J.yld i H' x H''->g x σ' H'' λσ2 H2=>tts σ2 H2 λb H3=>if b=true then wi2 σ2 H3 (λJ2 H4=>∃W2:Nat->Nat->St->Hp->Prop,(∃m,W2 0 m σ2 H4)/\∀j m σ3 H5,W2 j m σ3 H5 ->
    (J2.stop j H5/\N σ3 H5)\/(J2.go j H5/\∃N2:St->Hp->Prop,(∀σ' H',N2 σ' H'->∃m',m' < m/\W2 (j+1) m' σ' H') /\
     ∀y H6,J2.yld j H5 y H6->g2 y σ3 H6 λσ4 H7=>tts2 σ4 H7 λb H8=>if b=true then t σ4 H8 (λv H9=>∃ys,H9 D=some (.lst ys)/\ys.length<sizeLine/\N2 σ4 (upd H9 D (.lst (ys++[v])))) else N2 σ4 H8)) else N σ2 H3)
theorem yev {X:Cx}{N':List Str}{elt iter tgt iter2 tgt2:Expr}{ifs ifs2:List Expr}{scope:Scope}{pos pos':Pos}{use:Option (Value->Sem Unit)}{R:Value->Shared->Prop}{pins:'('}{s:Shared}{σ:St}{H:Hp}{Q:VK}{wi:TI}{src:St->St}{g g2:TG}{tts tts2:TT}{wi2:TI}{t:TE}(hcalm:X.calm=true) (sc:CompSd X N' scope src)
  (hi:PI X tgt iter wi) (hg:∀C s H fp pins,PG ')' tgt g) (ht:∀C s H fp pins,PTs ')' ifs tts) (he:∀C s H fp pins,PE ')' elt t)
  (hi2:∀C s H fp pins,PI ')' tgt2 iter2 wi2) (hg2:∀C s H fp pins,PG ')' tgt2 g2) (ht2:∀C s H fp pins,PTs ')' ifs2 tts2)
  (hs:∀x,foldedSetIterable iter X.env x=pure x) (hs2:∀C s H fp pins x,foldedSetIterable iter2 ')'.env x=pure x) (I:'%') (h:zlv X.K wi src g tts wi2 g2 tts2 t σ H Q)
  (fin:∀D H5 s6 C mC,Inv X pins σ H5 s6->zb5 X pins H5 C->s6.heap.Ns C mC->Q (.ref D) H5->compPost '#' X.A X.xe use R (.ref D) C (.ok .next) s6) :
  wpAny '#' X.A (comprehension (two elt tgt iter tgt2 iter2 ifs ifs2 scope pos) scope X.env pos' (newList []) false (eval iter X.env) use) R X.xe s:=by
 refine zlt (o0:={cls:=.type "list",data:=.seq ([]:List Value).toArray}) (O0:=λ_=>.lst []) (B:=λD env k=>do let x <-eval iter2 env;standAt iter2.pos;let x <-foldedSetIterable iter2 env x;let _ <-runOwn (.compStart (two elt tgt iter tgt2 iter2 ifs ifs2 scope pos) 1 (<-holding [x] (pyIter x)) (.ref D) env) env;k) hcalm sc rfl (λ_ _ _=>rfl) (λ_ _ _=>rfl) codeAny_compStart_list (λs2 Q' E' q=>wpAny_newObj_type q (by show 0<=sizeLine;exact Nat.zero_le _)) (λI2=>I2.lnew (t':=_) .nil (Nat.zero_le _)) hi hg ht ?_ hs I h fin;intro pins' C s0 H0 fp pins0 D s9 σ8 H9 N I9 q9;refine yet (B:=λk=>(do let _ <-call (.builtin "list.append") [.ref D,<-eval elt (cxD X N' scope C s0 H0 fp pins0).env])>>=λ_=>k) (tB:=λσ4 H8 N2=>t σ4 H8 λv H9=>∃ys,H9 D=some (.lst ys)/\ys.length<sizeLine/\N2 σ4 (upd H9 D (.lst (ys++[v])))) hcalm (λ_ _ z=>z) (hs2 C s0 H0 fp pins0) (λ_=>rfl) (λ_=>rfl) yeu (hi2 _ _ _ _ _) (hg2 _ _ _ _ _) (ht2 _ _ _ _ _) ?_ I9 q9;intro pins s16 σ15 H16 N2 I16 q16 k Qk Ek hk;refine qwb ?_;refine qwb (wpAny_mono (he _ _ _ _ _ _ s16 σ15 H16 _ I16 q16) (λy s17 h17=>?_) λ_ _ z=>z.elim);obtain ⟨vy,H17,I17,r17,ys,hys,hz,nx⟩:=h17;refine qwb (wpAny_mono (zkj (X:=(cxD X N' scope C s0 H0 fp pins0)) _ s17 σ15 H17 (.ref D) [vy] (.ref D) [y] (λ_ H'=>N2 σ15 H') I17 rfl (.cons r17 .nil) ⟨D,ys,vy,rfl,rfl,hys,hz,nx⟩) (λ_ s18 h18=>?_) λ_ _ z=>z.elim);obtain ⟨_,H18,I18,_,n18⟩:=h18;exact qwp (hk _ ⟨_,_,I18,n18⟩)
theorem yew {X:Cx}{N':List Str}{elt iter tgt iter2 tgt2:Expr}{ifs ifs2:List Expr}{scope:Scope}{pos:Pos}{wi wi2:TI}{src:St->St}{g g2:TG}{tts tts2:TT}{t:TE}(hcalm:X.calm=true) (sc:CompSd X N' scope src)
  (hi:PI X tgt iter wi) (hg:∀C s H fp pins,PG ')' tgt g) (ht:∀C s H fp pins,PTs ')' ifs tts) (he:∀C s H fp pins,PE ')' elt t)
  (hi2:∀C s H fp pins,PI ')' tgt2 iter2 wi2) (hg2:∀C s H fp pins,PG ')' tgt2 g2) (ht2:∀C s H fp pins,PTs ')' ifs2 tts2)
  (hs:∀x,foldedSetIterable iter X.env x=pure x) (hs2:∀C s H fp pins x,foldedSetIterable iter2 ')'.env x=pure x) :
  PE X (.ListComp elt [⟨tgt,iter,ifs,0⟩,⟨tgt2,iter2,ifs2,0⟩] scope pos) (zlv X.K wi src g tts wi2 g2 tts2 t):=by
 intro pins s σ H Q I h;rw [eval_ListComp];refine yev (use:=none) hcalm sc hi hg ht he hi2 hg2 ht2 hs hs2 I h λD H5 s6 C mC IX fp hn q=>⟨mC,hn,λh'' sb=>⟨.ref D,H5,?_,rfl,q⟩⟩;exact IX.turned (t':=s6.toks) (λb o hb e=>sb.extBut b o hb e) fp.1 fp.2.1 fp.2.2.2.1 fp.2.2.2.2.1 fp.2.2.2.2.2
abbrev RM:=Lo->Sto->Option ((Int×Nat)×Sto)
inductive tr (K:QFg) (r:RM) (σ:St) (H:Hp) (R:It->Hp->Prop):Prop
 |mk (ρ:_) (l:_) (S:_) (lo:_) (n:_) (S':_) (_:Sim K ρ S H) (_:RO ρ H l σ) (_:r l S=some ((lo,n),S')) (_:∀ρ' H',Ext ρ H ρ' H'->Sim K ρ' S' H'->R (Itr lo n) H')
def PR3 (X:Cx) (tgt iter:Expr) (r:RM):Prop:=PI X tgt iter (tr X.K r)
section
theorem yex (hgl:Gl X "range") (hmg:X.mg "range" = none) (ha:PA3 X [a,a2] mA) (hst:starEach [a,a2] X.env=[(false,eval a X.env),(false,eval a2 X.env)]:=by rfl) (hst2:starEach [a2] X.env=[(false,eval a2 X.env)]:=by rfl):PR3 X tgt (.Call (.Name "range" p0) [a,a2] [] pos') (zc1 mA) :=
 PI.imp (znj hgl hmg ha hst hst2) λσ H R hx2_=>by
  obtain ⟨ρ,l,S,lo,n,S',sim,ro,q1,p⟩:=hx2_;obtain ⟨⟨xs,S2⟩,q2,q1⟩:=bnd q1;dsimp only at q1;split at q1
  ·rename_i i0 j;obtain ⟨hz,e⟩:=zbb q1;cases e;refine ⟨ρ,l,S,[.int lo,.int j],_,sim,ro,q2,λρ1 H1 vs e1 s1 r1=>?_⟩;obtain ⟨v,u,rfl,rv,ru⟩:=r1.two;cases rv;cases ru;exact ⟨lo,j,rfl,hz,p ρ1 H1 e1 s1⟩
  ·cases q1
end
noncomputable def zck (xs:List D) (g:GM) (t:TM) (e:EM):Nat->Nat->Lo->Sto->Option (List D×Lo×Sto)
 |0,_,_,_=>none
 |k+1,i,l,S=>match xs[i]? with
  |none=>some ([],l,S)
  |some x=>(g x l S).bind λp=>(t p.1 p.2).bind λq=>if q.1=true then (e p.1 q.2).bind λr=>(zck xs g t e k (i+1) p.1 r.2).bind λz=>some (r.1::z.1,z.2) else zck xs g t e k (i+1) p.1 q.2
noncomputable def zcq (it:ItM) (g:GM) (t:TM) (r:RM) (g2:GM) (t2:TM) (e:EM):Nat->Nat->Lo->Sto->Option (List D×Sto)
 |0,_,_,_=>none
 |k+1,i,l,S=>(it i S).bind λo=>match o with
  |none=>some ([],S)
  |some x=>(g x l S).bind λp=>(t p.1 p.2).bind λq=>if q.1=true then (r p.1 q.2).bind λy=>(zck (zal y.1.1 y.1.2) g2 t2 e (y.1.2+1) 0 p.1 y.2).bind λu=>(zcq it g t r g2 t2 e k (i+1) u.2.1 u.2.2).bind λz=>some (u.1++z.1,z.2) else zcq it g t r g2 t2 e k (i+1) p.1 q.2
noncomputable def zja (im:IM) (ixs:List (Option Nat)) (g:GM) (t:TM) (r:RM) (g2:GM) (t2:TM) (e:EM):EM:=λl S=>(im l S).bind λp=>(zcq p.1 g t r g2 t2 e p.2.1 0 (zas ixs l) p.2.2).bind λz=>if z.1.length<=sizeLine then some (.ref z.2.length,z.2++[.lst z.1]) else none
inductive CI2 (K:QFg) (it:ItM) (g:GM) (t:TM) (r:RM) (g2:GM) (t2:TM) (e:EM) (S2:Sto) (all:List D) (ρ1:List Addr) (H1:Hp) (Da:Addr) (i m:Nat) (σ':St) (H':Hp):Prop
 |mk (ρ':List Addr) (l':Lo) (S':Sto) (ds:List D) (vs:List V) (rest:List D) (_:Ext ρ1 H1 ρ' H') (_:Sim K ρ' S' H') (_:RO ρ' H' l' σ') (_:H' Da=some (.lst vs)) (_:(∀n:Nat,ρ'[n]?≠some Da)) (_:RDs ρ' H' ds vs) (_:zcq it g t r g2 t2 e m i l' S'=some (rest,S2)) (_:ds++rest=all)
inductive CI2i (K:QFg) (lo:Int) (n:Nat) (g2:GM) (t2:TM) (e:EM) (l6:Lo) (S6:Sto) (rest' all:List D) (ρ1:List Addr) (H1:Hp) (Da:Addr) (i m:Nat) (σ':St) (H':Hp):Prop
 |mk (ρ':List Addr) (l':Lo) (S':Sto) (ds:List D) (vs:List V) (rest2:List D) (_:Ext ρ1 H1 ρ' H') (_:Sim K ρ' S' H') (_:RO ρ' H' l' σ') (_:H' Da=some (.lst vs)) (_:(∀n:Nat,ρ'[n]?≠some Da)) (_:RDs ρ' H' ds vs) (_:zck (zal lo n) g2 t2 e m i l' S'=some (rest2,l6,S6)) (_:ds++rest2++rest'=all)
theorem yey {K:QFg}{im:IM}{ixs:List (Option Nat)}{g g2:GM}{t t2:TM}{r:RM}{e:EM}(σ:St) (H:Hp) (Q:VK) (q:te K (zja im ixs g t r g2 t2 e) σ H Q):zlv K (ti K im) (zas ixs) (tg K g) (tt K t) (tr K r) (tg K g2) (tt K t2) (te K e) σ H Q:=by
 obtain ⟨ρ,l,S,v,S',sim,ro,hm,p⟩:=q;obtain ⟨⟨it,k,S1⟩,q1,hm⟩:=bnd hm;obtain ⟨⟨all,S2⟩,q2,hm⟩:=bnd hm;obtain ⟨hz,he⟩:=zbb hm;cases he;refine ⟨ρ,l,S,it,k,S1,sim,ro,q1,λρ1 H1 J e1 s1 io D hD hK=>?_⟩;dsimp only at q2 hz p;refine ⟨λi m σ' H'=>CI2 K it g t r g2 t2 e S2 all ρ1 H1 D i m σ' H',⟨k,?_⟩,?_⟩
 ·exact ⟨ρ1,zas ixs l,S1,[],[],all,zbq hD,s1.laid hD,(zkx ixs (ro.mono e1)).mono (zbq hD),zbo,s1.notin hD hK,.nil,q2,rfl⟩
 ·rintro i m σ' H' ⟨ρ',l',S',ds,vs,rest,e2,s2,ro2,hD2,hn2,rd2,hc,hall⟩;cases m with
  |zero=>cases hc
  | succ m =>
   unfold zcq at hc;obtain ⟨o,ho,hc⟩:=bnd hc;obtain ⟨iStop,iGo⟩:=io i ρ' S' H' e2 s2;cases o with
   |none=>cases hc;rw [List.append_nil] at hall;subst hall;refine .inl ⟨iStop ho,p (ρ'++[D]) H' (.ref D) (e1.trans (e2.adopt hD)) (s2.adopt hD2 hn2 rd2) (.ref ?_)⟩;rw [<-s2.len];exact zd6 ρ' D
   | some x =>
    obtain ⟨⟨l3,S3⟩,q3,hc⟩:=bnd hc;obtain ⟨⟨b,S4⟩,q4,hc⟩:=bnd hc;obtain ⟨hgo,hy⟩:=iGo x ho;refine .inr ⟨hgo,_,λσ' H' h=>h,λy H'' hyl=>?_⟩;obtain ⟨rfl,ry⟩:=hy y H'' hyl;refine ⟨ρ',l',S',x,l3,S3,s2,ro2,ry,q3,λρ3 H3 σ3 e3 s3 ro3=>⟨ρ3,l3,S3,b,S4,s3,ro3,q4,λρ4 H4 e4 s4=>?_⟩⟩;obtain ⟨hD3,hn3⟩:=e3.out D _ hD2 hn2;obtain ⟨hD4,hn4⟩:=e4.out D _ hD3 hn3;cases b with
    |false=>exact zda ⟨m,Nat.lt_succ_self m,ρ4,l3,S4,ds,vs,rest,e2.trans (e3.trans e4),s4,ro3.mono e4,hD4,hn4,rd2.mono (e3.trans e4),hc,hall⟩
    | true =>
     have hc:((r l3 S4).bind λy=>(zck (zal y.1.1 y.1.2) g2 t2 e (y.1.2+1) 0 l3 y.2).bind λu=>(zcq it g t r g2 t2 e m (i+1) u.2.1 u.2.2).bind λz=>some (u.1++z.1,z.2))=some (rest,S2):=hc;obtain ⟨⟨⟨lo,n⟩,S5⟩,q5,hc⟩:=bnd hc;obtain ⟨⟨r1,l6,S6⟩,q6,hc⟩:=bnd hc;obtain ⟨⟨rest',S7⟩,q7,hc⟩:=bnd hc;cases hc;dsimp only at q6 q7;refine zdb ⟨ρ4,l3,S4,lo,n,S5,s4,ro3.mono e4,q5,λρ5 H5 e5 s5=>?_⟩;obtain ⟨hD5,hn5⟩:=e5.out D _ hD4 hn4;refine ⟨λj m2 σ' H'=>CI2i K lo n g2 t2 e l6 S6 rest' all ρ1 H1 D j m2 σ' H',⟨n+1,?_⟩,?_⟩
     ·exact ⟨ρ5,l3,S5,ds,vs,r1,e2.trans (e3.trans (e4.trans e5)),s5,(ro3.mono e4).mono e5,hD5,hn5,rd2.mono (e3.trans (e4.trans e5)),q6,by rw [<-hall,qaa]⟩
     ·rintro j m2 σ6 H6 ⟨ρ6,l7,S8,ds6,vs6,rest6,e6,s6,ro6,hD6,hn6,rd6,hc6,hall6⟩;cases m2 with
      |zero=>cases hc6
      | succ m2 =>
       unfold zck at hc6;cases hx:(zal lo n)[j]? with
       |none=>rw [hx] at hc6;cases hc6;have hj:n<=j:=(by have:=List.getElem?_eq_none_iff.mp hx;simpa [zal] using this);rw [List.append_nil] at hall6;exact .inl ⟨hj,m,Nat.lt_succ_self m,ρ6,l6,S6,ds6,vs6,rest',e6,s6,ro6,hD6,hn6,rd6,q7,hall6⟩
       |some y=>
        rw [hx] at hc6;obtain ⟨hj,hy⟩:j<n/\y=.int (lo+j):=(by have hl:=(qme hx).1;simp only [zal,qlm,List.length_range] at hl;unfold zal at hx;rw [qgm,List.getElem?_range hl] at hx;cases hx;exact ⟨hl,rfl⟩);subst hy;obtain ⟨⟨l9,S9⟩,q9,hc6⟩:=bnd hc6;obtain ⟨⟨b9,S10⟩,q10,hc6⟩:=bnd hc6;refine .inr ⟨hj,_,λσ' H' h=>h,λz H'' ⟨hz1,hz2⟩=>?_⟩;subst hz1;rw [hz2];refine ⟨ρ6,l7,S8,_,l9,S9,s6,ro6,.int _,q9,λρ7 H7 σ7 e7 s7 ro7=>⟨ρ7,l9,S9,b9,S10,s7,ro7,q10,λρ8 H8 e8 s8=>?_⟩⟩;obtain ⟨hD7,hn7⟩:=e7.out D _ hD6 hn6;obtain ⟨hD8,hn8⟩:=e8.out D _ hD7 hn7;cases b9 with
        |false=>exact zda ⟨m2,Nat.lt_succ_self m2,ρ8,l9,S10,ds6,vs6,rest6,e6.trans (e7.trans e8),s8,ro7.mono e8,hD8,hn8,rd6.mono (e7.trans e8),hc6,hall6⟩
        |true=>have hc6:((e l9 S10).bind λr=>(zck (zal lo n) g2 t2 e m2 (j+1) l9 r.2).bind λz=>some (r.1::z.1,z.2))=some (rest6,l6,S6):=hc6;obtain ⟨⟨y5,S11⟩,q11,hc6⟩:=bnd hc6;obtain ⟨⟨rest7,l12,S12⟩,q12,hc6⟩:=bnd hc6;cases hc6;refine zdb ⟨ρ8,l9,S10,y5,S11,s8,ro7.mono e8,q11,λρ9 H9 v9 e9 s9 r9=>?_⟩;obtain ⟨hD9,hn9⟩:=e9.out D _ hD8 hn8;have e69:=e6.trans (e7.trans (e8.trans e9));have rd9:=rd6.mono (e7.trans (e8.trans e9));have hlen:vs6.length<sizeLine:=(by have h1:=rd9.length;have h2:=congrArg List.length hall6;rw [qla,qla,List.length_cons] at h2;lia);refine ⟨vs6,hD9,hlen,m2,Nat.lt_succ_self m2,ρ9,l9,S11,ds6++[y5],vs6++[v9],rest7,e69.beside hD hD9,s9.beside hD9 hn9,?_,zbo,hn9,((rd9.append (.cons r9 .nil)).mono0 (zff hD9)),q12,by rw [<-hall6];simp⟩;have r0:=(ro7.mono e8).mono e9;exact ⟨r0.len,λi d h=>let ⟨w,h1,h2⟩:=r0.get i d h;⟨w,h1,h2.mono0 (zff hD9)⟩⟩
theorem yez {X:Cx}{N':List Str}{elt iter tgt iter2 tgt2:Expr}{ifs ifs2:List Expr}{scope:Scope}{pos:Pos}{im:IM}{ixs:List (Option Nat)}{g g2:GM}{t t2:TM}{r:RM}{e:EM}(hcalm:X.calm=true) (sc:CompSd X N' scope (zas ixs))
  (hi:PI3 X tgt iter im) (hg:∀C s H fp pins,PG3 ')' tgt g) (ht:∀C s H fp pins,PTs ')' ifs (tt X.K t))
  (hi2:∀C s H fp pins,PR3 ')' tgt2 iter2 r) (hg2:∀C s H fp pins,PG3 ')' tgt2 g2) (ht2:∀C s H fp pins,PTs ')' ifs2 (tt X.K t2))
  (he:∀C s H fp pins,PE3 ')' elt e)
  (hs:∀x,foldedSetIterable iter X.env x=pure x:=by intro _;rfl) (hs2:∀C s H fp pins x,foldedSetIterable iter2 (cxD X N' scope C s H fp pins).env x=pure x:=by intro _ _ _ _ _ _;rfl) :
  PE3 X (.ListComp elt [⟨tgt,iter,ifs,0⟩,⟨tgt2,iter2,ifs2,0⟩] scope pos) (zja im ixs g t r g2 t2 e) :=
 PE.imp (yew (g:=tg X.K g) (g2:=tg X.K g2) (tts:=tt X.K t) (tts2:=tt X.K t2) (t:=te X.K e) hcalm sc hi hg ht he (wi2:=tr X.K r) hi2 hg2 ht2 hs hs2) yey
theorem Inv.turnedL {X:Cx}{pins:'('}{σ:L2.St}{H:Hp}{s:Shared}{h':Heap}{t':Nat}{ch:List Addr}(I:'%') (hf:∀b∈ch,zb5 X pins H b) (k:∀b o,b∉ch->s.heap.get? b=some o->h'.get? b=some o):Inv X pins σ H {s with heap:=h',toks:=t'}:=by
 have nf:∀b u,H b=some u->b∉ch:=λb u e z=>by rw [(hf b z).1] at e;cases e
 refine I.step (g':=s.gens) (d':=s.drawn) (ch:=ch) (λb hb=>?_) (λb o _ _ hc e _=>k b o hc e) (λb o _ _ hc e _=>⟨o.slots,k b o hc e⟩) (λ_ _ _ _ n=>n) (λb o hc e=>⟨o,k b o hc e⟩) (λ_ _ e=>e) (λ_ _ _ e=>e) (λb ps e=>⟨#[],by rw [e];simp⟩) (λm hm=>?_) (λb u e=>?_) I.bare
 ·obtain ⟨_,q1,_,q3,q4,q5⟩:=hf b hb;exact ⟨q3,q1,q4,q5⟩
 ·obtain ⟨o,es,ep,ho,q⟩:=hm;exact ⟨o,es,ep,k _ o (λz=>(hf _ z).2.1 rfl) ho,q⟩
 ·refine (I.hok b u e).stay (λc v hc q=>k c v ?_ q) (λ_ q=>q) λ_ _ q=>q;rcases hc with z|z
  ·rw [z];exact nf b u e
  ·exact nf c _ z
section
variable {prog:Program}{w:World}{A:Around}{E:Value->Shared->Prop}{s:Shared}
variable {z TI TO i1 i2 c1 c2:Addr}{n1 n2 k:Nat}{P1 P2:Nat->Value->Prop}{T1 T2:Nat->Heap->Prop}{a b:Value}
theorem fr1 (D1:Draws prog w A i1 [i1,c1] n1 P1 T1) (st:T1 k h) (sb:Heap.ExtBut x h h') (n1':i1≠x) (n2':c1≠x):T1 k h':=D1.frame k h h' st λb hb o e=>by
 have hb:b=i1\/b=c1:=by simpa using hb
 rcases hb with rfl|rfl
 ·exact sb _ _ n1' e
 ·exact sb _ _ n2' e
theorem ye0 {Q:Value->Shared->Prop}(D1:Draws prog w A i1 [i1,c1] n1 P1 T1) (D2:Draws prog w A i2 [i2,c2] n2 P2 T2) (G:ZipApart z TI TO i1 i2 c1 c2) (hz:IsZip s.heap z TI TO .none) (hI:IsPair s.heap TI (.ref i1) (.ref i2)) (hO:IsPair s.heap TO a b)
  (h1:T1 k s.heap) (h2:T2 k s.heap) (k1:k<n1) (k2:k<n2)
  (hQ:∀x y h' tk,P1 k x->P2 k y->IsZip h' z TI TO (rawInt s.heap.objs.size)->IsPair h' TO x y->T1 (k+1) h'->T2 (k+1) h'->IsPair h' s.heap.objs.size x y ->
   (∀c o,c≠z->c≠TO->c≠i1->c≠i2->s.heap.get? c=some o->h'.get? c=some o)->Q (.ref s.heap.objs.size) {s with heap:=h',toks:=tk}) :
  wpAny '&' A (Builtin.«zip.__next__» ⟨[.ref z],[]⟩) (λfin s'=>∃v,fin=.done (.ret v)/\Q v s') E s:=by
 show wpAny _ _ (field (.ref z) 2>>=_) _ _ _;refine qwb (wpAny_field hz rfl (x:=.bool false) rfl ?_);show wpAny _ _ (field (.ref z) 3>>=_) _ _ _;refine qwb (wpAny_field hz rfl (x:=.ref TI) rfl (qwb (wpAny_seqItems hI rfl ?_)));show wpAny _ _ (Builtin.SmallTypes.ownedTupleIsFree (.ref z)>>=_) _ _ _;refine qwb ?_;unfold Builtin.SmallTypes.ownedTupleIsFree;refine qwb (wpAny_field hz rfl (x:=.none) rfl (qwp ?_));simp only [if_true];refine qwb (wpAny_rule (qwb (wpAny_field hz rfl (x:=.ref TO) rfl (qwb (wpAny_setField_rec hz '*' λg1 z1 s1=>?_)))));replace z1:IsZip g1 z TI TO .ellipsis:=z1;refine qwb ?_;simp only [List.zipIdx_cons,List.zipIdx_nil,List.forIn_cons,List.forIn_nil];refine qwb (qwb (wpAny_onRaise ?_));show wpAny _ _ (Builtin.SmallTypes.nextOf (.ref i1)>>=_) _ _ _;refine qwb (D1.item k _ _ _ k1 (fr1 D1 h1 s1.extBut G.i1z G.l1z) λx g2 tk2 px t1 s2=>qwp ?_);have o2:IsPair g2 TO a b:=s2.extBut _ _ G.TOi1 (s1.extBut _ _ G.TOz hO);refine qwb (wpAny_seqItems o2 rfl (qwb (wpAny_updateSeq_pair o2 λg3 o3 s3=>?_)));replace o3:IsPair g3 TO x b:=o3;refine qwb (wpAny_letGo (qwp (qwb (qwb (wpAny_onRaise ?_)))));show wpAny _ _ (Builtin.SmallTypes.nextOf (.ref i2)>>=_) _ _ _;have t2:T2 k g3:=fr1 D2 (fr1 D2 (fr1 D2 h2 s1.extBut G.i2z G.l2z) s2.extBut G.i12.symm G.l2i1) s3.extBut G.TOi2.symm G.l2TO;refine qwb (D2.item k _ _ _ k2 t2 λy g4 tk4 py u2 s4=>qwp ?_);have o4:IsPair g4 TO x b:=s4.extBut _ _ G.TOi2 o3;refine qwb (wpAny_seqItems o4 rfl (qwb (wpAny_updateSeq_pair o4 λg5 o5 s5=>?_)));replace o5:IsPair g5 TO x y:=o5;refine qwb (wpAny_letGo (qwp (qwp (qwb (wpAny_seqItems o5 rfl (qwb (wpAny_newTuple ?_)))))));have sz:g5.objs.size=s.heap.objs.size:=by rw [s5.1,s4.1,s3.1,s2.1,s1.1]
 have z5:IsZip g5 z TI TO .ellipsis:=s5.extBut _ _ G.TOz.symm (s4.extBut _ _ G.i2z.symm (s3.extBut _ _ G.TOz.symm (s2.extBut _ _ G.i1z.symm z1)));have old5:∀c o,c≠z->c≠TO->c≠i1->c≠i2->s.heap.get? c=some o->g5.get? c=some o:=λc o q1 q2 q3 q4 e=>s5.extBut _ _ q2 (s4.extBut _ _ q4 (s3.extBut _ _ q2 (s2.extBut _ _ q3 (s1.extBut _ _ q1 e))));have v1:T1 (k+1) g5:=fr1 D1 (fr1 D1 (fr1 D1 t1 s3.extBut G.TOi1.symm G.l1TO) s4.extBut G.i12 G.l1i2) s5.extBut G.TOi1.symm G.l1TO;have v2:T2 (k+1) g5:=fr1 D2 u2 s5.extBut G.TOi2.symm G.l2TO;have zl:z<g5.objs.size:=Heap.lt_size z5;show wpAny _ _ (Builtin.SmallTypes.ownedTupleHandOut (.ref z) (.ref g5.objs.size)>>=_) _ _ _;refine qwb ?_;unfold Builtin.SmallTypes.ownedTupleHandOut;have z6:IsZip (g5.push {cls:=.type "tuple",data:=.seq #[x,y]}) z TI TO .ellipsis:=qps _ z5;refine qwb (wpAny_setField_rec z6 '*' λg7 z7 s7=>?_);replace z7:IsZip g7 z TI TO (rawInt g5.objs.size):=z7;refine wpAny_setField_rec z7 '*' λg8 z8 s8=>?_;replace z8:IsZip g8 z TI TO (rawInt g5.objs.size):=z8;have rise:∀c o,c≠z->g5.get? c=some o->g8.get? c=some o:=λc o q e=>s8.extBut _ _ q (s7.extBut _ _ q (qps _ e));have pr8:IsPair g8 g5.objs.size x y:=s8.extBut _ _ (Nat.ne_of_gt zl) (s7.extBut _ _ (Nat.ne_of_gt zl) (Heap.get?_push_size _ rfl));rw [sz] at z8 pr8;refine qwp ⟨_,rfl,?_⟩;show Q (.ref g5.objs.size) _;rw [sz];exact hQ x y g8 _ px py z8 (rise _ _ G.TOz o5) (fr1 D1 v1 (x:=z) (λc o q e=>rise c o q e) G.i1z G.l1z) (fr1 D2 v2 (x:=z) (λc o q e=>rise c o q e) G.i2z G.l2z) pr8 λc o q1 q2 q3 q4 e=>rise c o q1 (old5 c o q1 q2 q3 q4 e)
theorem ye1 (D1:Draws prog w A i1 [i1,c1] n1 P1 T1) (G:ZipApart z TI TO i1 i2 c1 c2) (hz:IsZip s.heap z TI TO .none) (hI:IsPair s.heap TI (.ref i1) (.ref i2)) (hO:IsPair s.heap TO a b)
  (h1:T1 k s.heap) (hend:k=n1\/k<n1/\∃P2 T2,Draws prog w A i2 [i2,c2] k P2 T2/\T2 k s.heap)
  (hE:∀h' e tk,(∀c o,c≠z->c≠TO->c≠i1->c≠i2->s.heap.get? c=some o->h'.get? c=some o)->(∃o,h'.get? e=some o/\o.cls=.type "StopIteration")->E (.ref e) {s with heap:=h',toks:=tk}) :
  wpAny '&' A (Builtin.«zip.__next__» ⟨[.ref z],[]⟩) Q E s:=by
 show wpAny _ _ (field (.ref z) 2>>=_) _ _ _;refine qwb (wpAny_field hz rfl (x:=.bool false) rfl ?_);show wpAny _ _ (field (.ref z) 3>>=_) _ _ _;refine qwb (wpAny_field hz rfl (x:=.ref TI) rfl (qwb (wpAny_seqItems hI rfl ?_)));show wpAny _ _ (Builtin.SmallTypes.ownedTupleIsFree (.ref z)>>=_) _ _ _;refine qwb ?_;unfold Builtin.SmallTypes.ownedTupleIsFree;refine qwb (wpAny_field hz rfl (x:=.none) rfl (qwp ?_));simp only [if_true];refine qwb (wpAny_rule (qwb (wpAny_field hz rfl (x:=.ref TO) rfl (qwb (wpAny_setField_rec hz '*' λg1 z1 s1=>?_)))));replace z1:IsZip g1 z TI TO .ellipsis:=z1;refine qwb ?_;simp only [List.zipIdx_cons,List.zipIdx_nil,List.forIn_cons,List.forIn_nil];refine qwb (qwb (wpAny_onRaise ?_));show wpAny _ _ (Builtin.SmallTypes.nextOf (.ref i1)>>=_) _ _ _;have q1:=fr1 D1 h1 s1.extBut G.i1z G.l1z;rcases hend with rfl|⟨k1,P2,T2,D2,h2⟩
 ·refine qwb (D1.done _ _ _ q1 λg2 e s2 he=>?_);obtain ⟨oe,hoe,hce⟩:=he;have z2:IsZip g2 z TI TO .ellipsis:=s2 _ _ G.i1z.symm z1;have ez:e≠z:=λx=>by subst x;rw [z2] at hoe;cases hoe;simp at hce
  refine wpAny_setField_rec z2 '*' λg3 _ s3=>hE g3 e _ (λc o c1 _ c3 _ x=>s3.extBut _ _ c1 (s2 _ _ c3 (s1.extBut _ _ c1 x))) ⟨oe,s3.extBut _ _ ez hoe,hce⟩
 ·refine qwb (D1.item k _ _ _ k1 q1 λx g2 tk2 px t1 s2=>qwp ?_);have o2:IsPair g2 TO a b:=s2.extBut _ _ G.TOi1 (s1.extBut _ _ G.TOz hO);refine qwb (wpAny_seqItems o2 rfl (qwb (wpAny_updateSeq_pair o2 λg3 o3 s3=>?_)));refine qwb (wpAny_letGo (qwp (qwb (qwb (wpAny_onRaise ?_)))));show wpAny _ _ (Builtin.SmallTypes.nextOf (.ref i2)>>=_) _ _ _;have t2:T2 k g3:=fr1 D2 (fr1 D2 (fr1 D2 h2 s1.extBut G.i2z G.l2z) s2.extBut G.i12.symm G.l2i1) s3.extBut G.TOi2.symm G.l2TO;refine qwb (D2.done _ _ _ t2 λg4 e s4 he=>?_);obtain ⟨oe,hoe,hce⟩:=he;have z4:IsZip g4 z TI TO .ellipsis:=s4 _ _ G.i2z.symm (s3.extBut _ _ G.TOz.symm (s2.extBut _ _ G.i1z.symm z1));have ez:e≠z:=λx=>by subst x;rw [z4] at hoe;cases hoe;simp at hce
  refine wpAny_setField_rec z4 '*' λg5 _ s5=>hE g5 e _ (λc o q1 q2 q3 q4 x=>s5.extBut _ _ q1 (s4 _ _ q4 (s3.extBut _ _ q2 (s2.extBut _ _ q3 (s1.extBut _ _ q1 x))))) ⟨oe,s5.extBut _ _ ez hoe,hce⟩
end
section
variable {prog:Program}{w:World}{A:Around}{E:Value->Shared->Prop}{s:Shared}
variable {z TI TO i1 i2 c1 c2:Addr}{n1 n2 k:Nat}{P1 P2:Nat->Value->Prop}{T1 T2:Nat->Heap->Prop}{a b:Value}
theorem ye2 (D1:Draws prog w A.in1 i1 [i1,c1] n1 P1 T1) (D2:Draws prog w A.in1 i2 [i2,c2] n2 P2 T2) (G:ZipApart z TI TO i1 i2 c1 c2) (hz:IsZip s.heap z TI TO .none) (hI:IsPair s.heap TI (.ref i1) (.ref i2)) (hO:IsPair s.heap TO a b)
  (h1:T1 k s.heap) (h2:T2 k s.heap) (k1:k<n1) (k2:k<n2)
  (hQ:∀x y h' tk,P1 k x->P2 k y->IsZip h' z TI TO (rawInt s.heap.objs.size)->IsPair h' TO x y->T1 (k+1) h'->T2 (k+1) h'->IsPair h' s.heap.objs.size x y ->
   (∀c o,c≠z->c≠TO->c≠i1->c≠i2->s.heap.get? c=some o->h'.get? c=some o)->Q (some (.ref s.heap.objs.size)) {s with heap:=h',toks:=tk}) :
  wpAny '&' A (pyNext (.ref z)) Q E s:=by
 have hT:s.TypeIs (.ref z) "zip":=⟨_,hz,rfl⟩;unfold pyNext;exact qwb (wpAny_attempt (wpAny_callSpecial?_slot (name:=Str.ofString "__next__") hT F.slot_zip_next (wpAny_call_entry F.slot_zip_next hT F.entry_zip_next (ye0 D1 D2 G hz hI hO h1 h2 k1 k2 λx y h' tk p1 p2 p3 p4 p5 p6 p7 p8=>qwp (hQ x y h' tk p1 p2 p3 p4 p5 p6 p7 p8)) (F.args_zip_next_1 _))))
theorem zqr (D1:Draws prog w A.in1 i1 [i1,c1] n1 P1 T1) (G:ZipApart z TI TO i1 i2 c1 c2) (hz:IsZip s.heap z TI TO .none) (hI:IsPair s.heap TI (.ref i1) (.ref i2)) (hO:IsPair s.heap TO a b)
  (h1:T1 k s.heap) (hend:k=n1\/k<n1/\∃P2 T2,Draws prog w A.in1 i2 [i2,c2] k P2 T2/\T2 k s.heap)
  (hQ:∀h' tk,(∀c o,c≠z->c≠TO->c≠i1->c≠i2->s.heap.get? c=some o->h'.get? c=some o)->Q none {s with heap:=h',toks:=tk}):wpAny '&' A (pyNext (.ref z)) Q E s:=by
 have hT:s.TypeIs (.ref z) "zip":=⟨_,hz,rfl⟩;unfold pyNext;refine qwb (wpAny_attempt (wpAny_callSpecial?_slot (name:=Str.ofString "__next__") hT F.slot_zip_next (wpAny_call_entry F.slot_zip_next hT F.entry_zip_next (ye1 D1 G hz hI hO h1 hend λh' e tk hk he=>?_) (F.args_zip_next_1 _))));obtain ⟨o,ho,hc⟩:=he;exact qwb (wpAny_isInstance (T:="StopIteration") (b:=true) ⟨o,ho,hc⟩ isSubtype_stop (qwp (hQ _ _ hk)))
end
structure Zs (P:Program) (w:World) (K:QFg) (J:It) (b a:Addr) (tn:Nat->Heap->Prop):Prop where
 obj:∀i h,tn i h->∃o,h.get? b=some o/\∀v,o.data≠.cell v
 keep:∀i h h',tn i h->(∀o,h.get? b=some o->h'.get? b=some o)->tn i h'
 go:∀(X:Cx),X.prog=P->X.w=w->X.K=K->X.calm=true->∀(i:Nat) (pins:'(') (s:Shared) (σ:L2.St) (H:Hp),Inv X pins σ H s->tn i s.heap->J.go i H ->
  ∃n Pv St,Draws P w X.A.in1 b [b,a] n Pv St/\St i s.heap/\i<n/\(∀h',St (i+1) h'->tn (i+1) h')/\∀u,Pv i u->∃x,RelV x u/\J.yld i H x H
 stop:∀(X:Cx),X.prog=P->X.w=w->X.K=K->X.calm=true->∀(i:Nat) (pins:'(') (s:Shared) (σ:L2.St) (H:Hp),Inv X pins σ H s->tn i s.heap->J.stop i H ->
  ∃Pv St,Draws P w X.A.in1 b [b,a] i Pv St/\St i s.heap
theorem ye3 {P:Program}{w:World}{K:QFg}(b a:Addr) (nab:a≠b):Zs P w K (Itl K a) b a (λi h=>h.IsListIter b a i) where
 obj:=λi h st=>by obtain ⟨o,q,c,d⟩:=st;exact ⟨o,q,λv z=>by rw [d] at z;cases z⟩
 keep:=λi h h1 st k=>st.at λo q=>k o q
 go:=by
  intro X hP hw hK hc i pins s σ H I st hg;subst hP hw hK;obtain ⟨xs,x,hq,hx⟩:=hg;obtain ⟨its,rv,p,hz⟩:=I.list hq;obtain ⟨u,hu,ru⟩:=rv.get hx;have hlt:i<its.toArray.size:=by simpa using (qme hu).1
  refine ⟨_,_,_,Draws.list (A:=X.A.in1) (I.ok.hd hc) b a nab its.toArray,⟨st,p.isList⟩,hlt,λh' q=>q.1,λv hv=>⟨x,?_,rfl,λys hy=>by rw [I.list_inj hy hq];exact hx⟩⟩;have:its.toArray[i]?=some u:=by simpa using hu
  rw [this] at hv;exact (qoi hv)▸ru
 stop:=by
  intro X hP hw hK hc i pins s σ H I st hg;subst hP hw hK;obtain ⟨xs,hq,hx⟩:=hg;obtain ⟨its,rv,p,hz⟩:=I.list hq;have hl:=rv.length;refine ⟨λ_ _=>False,λj h=>j=i/\h.IsListIter b a i/\h.IsList a its.toArray,?_,rfl,st,p.isList⟩;refine ⟨λj h q=>?_,λj h h' q k=>⟨q.1,q.2.1.at λo e=>k b '*' o e,q.2.2.at λo e=>k a '*' o e⟩,λj s' Q E hj q=>absurd hj (by rw [q.1];exact Nat.lt_irrefl _),λs' Q E q hE=>?_⟩
  ·obtain ⟨_,⟨o,e,_⟩,_⟩:=q;exact ⟨o,e⟩
  ·exact wpAny_nextOf_list_end (I.ok.hd hc) q.2.1 q.2.2 (by simp;omega) hE
theorem ye4 {P:Program}{w:World}{K:QFg}(b a:Addr) (nab:a≠b):Zs P w K (Itt K a) b a (λi h=>h.IsTupleIter b a i) where
 obj:=λi h st=>by obtain ⟨o,q,c,d⟩:=st;exact ⟨o,q,λv z=>by rw [d] at z;cases z⟩
 keep:=λi h h1 st k=>by obtain ⟨o,q,r⟩:=st;exact ⟨o,k o q,r⟩
 go:=by
  intro X hP hw hK hc i pins s σ H I st hg;subst hP hw hK;obtain ⟨xs,x,hq,hx⟩:=hg;obtain ⟨its,rv,p,hz⟩:=I.tuple hq;obtain ⟨u,hu,ru⟩:=rv.get hx;have p:s.heap.IsTuple a its.toArray:=p;have hlt:i<its.toArray.size:=by simpa using (qme hu).1
  refine ⟨_,_,_,zpq (A:=X.A.in1) (I.ok.hd hc) b a nab its.toArray,⟨st,p⟩,hlt,λh' q=>q.1,λv hv=>⟨x,?_,rfl,λys hy=>by rw [I.tuple_inj hy hq];exact hx⟩⟩;have:its.toArray[i]?=some u:=by simpa using hu
  rw [this] at hv;exact (qoi hv)▸ru
 stop:=by
  intro X hP hw hK hc i pins s σ H I st hg;subst hP hw hK;obtain ⟨xs,hq,hx⟩:=hg;obtain ⟨its,rv,p,hz⟩:=I.tuple hq;have p:s.heap.IsTuple a its.toArray:=p;have hl:=rv.length;refine ⟨λ_ _=>False,λj h=>j=i/\h.IsTupleIter b a i/\h.IsTuple a its.toArray,?_,rfl,st,p⟩;refine ⟨λj h q=>?_,λj h h' q k=>⟨q.1,?_,?_⟩,λj s' Q E hj q=>absurd hj (by rw [q.1];exact Nat.lt_irrefl _),λs' Q E q hE=>?_⟩
  ·obtain ⟨_,⟨o,e,_⟩,_⟩:=q;exact ⟨o,e⟩
  ·obtain ⟨o,e,r⟩:=q.2.1;exact ⟨o,k b '*' o e,r⟩
  ·obtain ⟨o,e,r⟩:=q.2.2;exact ⟨o,k a '*' o e,r⟩
  ·exact zk6 (I.ok.hd hc) q.2.1 q.2.2 (by simp;omega) hE
noncomputable def Itz (J1 J2:It):It:=⟨λi H=>J1.go i H/\J2.go i H,λi H x H1=>∃y1 y2 p,J1.yld i H y1 H/\J2.yld i H y2 H/\H p=none/\x=.ref p/\H1=upd H p (.tup [y1,y2]),λi H=>J1.stop i H\/(J1.go i H/\J2.stop i H)⟩
theorem ye5 {P:Program}{w:World}{K:QFg}{elts:List Expr}{x0:Nat}{tp:Pos}{J1 J2:It}{z TI TO i1 i2 c1 c2:Addr}{t1 t2:Nat->Heap->Prop}(Z1:Zs P w K J1 i1 c1 t1) (Z2:Zs P w K J2 i2 c2 t2) (G:ZipApart z TI TO i1 i2 c1 c2) :
  Turn P w K (.Tuple elts x0 tp) (Itz J1 J2) [z,TI,TO,i1,i2] z (λi h=>IsZip h z TI TO .none/\IsPair h TI (.ref i1) (.ref i2)/\(∃a b,IsPair h TO a b)/\t1 i h/\t2 i h) where
 mem:=by simp
 obj:=by
  rintro i h ⟨hz,hI,⟨a,b,hO⟩,q1,q2⟩ c hc;simp only [List.mem_cons,List.not_mem_nil,or_false] at hc;rcases hc with rfl|rfl|rfl|rfl|rfl
  ·exact ⟨_,hz,λv e=>by have e:Data.fields _=Data.cell v:=e
                        cases e⟩
  ·exact ⟨_,hI,λv e=>by have e:Data.seq _ _=Data.cell v:=e
                        cases e⟩
  ·exact ⟨_,hO,λv e=>by have e:Data.seq _ _=Data.cell v:=e
                        cases e⟩
  ·exact Z1.obj i h q1
  ·exact Z2.obj i h q2
 keep:=by rintro i h h' ⟨hz,hI,⟨a,b,hO⟩,q1,q2⟩ k;exact ⟨k z '*' _ hz,k TI '*' _ hI,⟨a,b,k TO '*' _ hO⟩,Z1.keep i h h' q1 (k i1 '*'),Z2.keep i h h' q2 (k i2 '*')⟩
 item:=by
  intro X hP hw hK hc i pins s σ H E I hf st hg;obtain ⟨hz,hI,⟨a,b,hO⟩,q1,q2⟩:=st;obtain ⟨n1,P1,T1,D1,u1,k1,v1,r1⟩:=Z1.go X hP hw hK hc i pins s σ H I q1 hg.1;obtain ⟨n2,P2,T2,D2,u2,k2,v2,r2⟩:=Z2.go X hP hw hK hc i pins s σ H I q2 hg.2;subst hP hw hK;have hn:H s.heap.objs.size=none:=I.hok.fresh (qlr _);have lt:∀{c:Addr} {o:Obj},s.heap.get? c=some o->c≠s.heap.objs.size:=λe=>Nat.ne_of_lt (Heap.lt_size e);have li1:i1≠s.heap.objs.size:=by obtain ⟨o,e,_⟩:=Z1.obj i _ q1;exact lt e
  have li2:i2≠s.heap.objs.size:=by obtain ⟨o,e,_⟩:=Z2.obj i _ q2;exact lt e
  refine ye2 D1 D2 G hz hI hO u1 u2 k1 k2 λx y h1 tk p1 p2 p3 p4 p5 p6 p7 p8=>⟨_,rfl,wpAny_letOwnedTupleGo_zip p3 λh2 z2 s2=>?_⟩;replace s2:Heap.SameBut z h1 h2:=s2;obtain ⟨dx,rx,yx⟩:=r1 x p1;obtain ⟨dy,ry,yy⟩:=r2 y p2;refine ⟨.ref s.heap.objs.size,upd H s.heap.objs.size (.tup [dx,dy]),?_,rfl,⟨dx,dy,s.heap.objs.size,yx,yy,hn,rfl,rfl⟩,⟨z2,s2.extBut _ _ G.TIz (p8 _ _ G.TIz G.TITO G.TIi1 G.TIi2 hI),⟨_,_,s2.extBut _ _ G.TOz p4⟩,Z1.keep _ _ _ (v1 _ p5) (λo e=>s2.extBut _ _ G.i1z e),Z2.keep _ _ _ (v2 _ p6) (λo e=>s2.extBut _ _ G.i2z e)⟩,λc hc=>?_⟩
  ·refine Inv.dealt (t1:=tk) (us:=[x,y]) (ch:=[z,TI,TO,i1,i2]) I hf (λc o hc q=>?_) ⟨_,s2.extBut _ _ (lt hz).symm p7,rfl,_,rfl,rfl⟩ (.cons rx (.cons ry .nil)) (by show 2<=sizeLine;decide);simp only [List.mem_cons,List.not_mem_nil,or_false,not_or] at hc;exact s2.extBut _ _ hc.1 (p8 c o hc.1 hc.2.2.1 hc.2.2.2.1 hc.2.2.2.2 q)
  ·have hne:c≠s.heap.objs.size:=by
    simp only [List.mem_cons,List.not_mem_nil,or_false] at hc;rcases hc with rfl|rfl|rfl|rfl|rfl
    ·exact lt hz
    ·exact lt hI
    ·exact lt hO
    ·exact li1
    ·exact li2
   rw [zaj hne];exact (hf c hc).1
 done:=by
  intro X hP hw hK hc i pins s σ H E I hf st hg;obtain ⟨hz,hI,⟨a,b,hO⟩,q1,q2⟩:=st;have fin:∀(h1:Heap) (tk:Nat),(∀c o,c≠z->c≠TO->c≠i1->c≠i2->s.heap.get? c=some o->h1.get? c=some o)->Inv X pins σ H {s with heap:=h1,toks:=tk}:=λh1 tk k=>
   Inv.turnedL (ch:=[z,TI,TO,i1,i2]) I hf λc o hc q=>by simp only [List.mem_cons,List.not_mem_nil,or_false,not_or] at hc;exact k c o hc.1 hc.2.2.1 hc.2.2.2.1 hc.2.2.2.2 q
  rcases hg with g1|⟨g1,g2⟩
  ·obtain ⟨P1,T1,D1,u1⟩:=Z1.stop X hP hw hK hc i pins s σ H I q1 g1;subst hP hw hK;exact zqr D1 G hz hI hO u1 (.inl rfl) λh1 tk k=>⟨rfl,fin h1 tk k⟩
  ·obtain ⟨n1,P1,T1,D1,u1,k1,_⟩:=Z1.go X hP hw hK hc i pins s σ H I q1 g1;obtain ⟨P2,T2,D2,u2⟩:=Z2.stop X hP hw hK hc i pins s σ H I q2 g2;subst hP hw hK;exact zqr D1 G hz hI hO u1 (.inr ⟨k1,P2,T2,D2,u2⟩) λh1 tk k=>⟨rfl,fin h1 tk k⟩
 self:=λA i s Q E st h=>wpAny_pyIter_zip st.1 h
noncomputable abbrev itO (t:Bool) (a:Addr):Obj:={cls:=.type (if t then "tuple_iterator" else "list_iterator"),data:=.fields #[.ref a,.int 0 0]}
def SqB (t:Bool) (h:Heap) (a:Addr) (vs:Array Value):Prop:=if t then h.IsTuple a vs else h.IsList a vs
theorem SqB.push (q:SqB t h a vs) (o:Obj):SqB t (h.push o) a vs:=by
 cases t with
 |true=>obtain ⟨x,e,r⟩:=(q:h.IsTuple a vs);exact (⟨x,qps _ e,r⟩:(h.push o).IsTuple a vs)
 |false=>exact Heap.IsList.push (q:h.IsList a vs) o
theorem zqs (q:SqB t s.heap a vs) (h:Q (.ref s.heap.objs.size) {s with heap:=s.heap.push (itO t a)}):wpAny '&' A (pyIter (.ref a)) Q E s:=by
 cases t with
 |true=>exact wpAny_pyIter_tuple (q:s.heap.IsTuple a vs) h
 |false=>exact wpAny_pyIter_list (q:s.heap.IsList a vs) h
noncomputable abbrev zp1 (t1:Bool) (h:Heap) (l1:Addr):Heap:=h.push (itO t1 l1)
noncomputable abbrev zp2 (t1 t2:Bool) (h:Heap) (l1 l2:Addr):Heap:=(zp1 t1 h l1).push (itO t2 l2)
noncomputable abbrev zp3 (t1 t2:Bool) (h:Heap) (l1 l2:Addr):Heap:=(zp2 t1 t2 h l1 l2).push {cls:=.type "tuple",data:=.seq #[.ref h.objs.size,.ref (zp1 t1 h l1).objs.size]}
noncomputable abbrev zp4 (t1 t2:Bool) (h:Heap) (l1 l2:Addr):Heap:=(zp3 t1 t2 h l1 l2).push {cls:=.type "tuple",data:=.seq #[.none,.none]}
noncomputable abbrev zp5 (t1 t2:Bool) (h:Heap) (l1 l2:Addr):Heap:=(zp4 t1 t2 h l1 l2).push {cls:=.type "zip",data:=.fields #[.none,.bool false,.bool false,.ref (zp2 t1 t2 h l1 l2).objs.size,.ref (zp3 t1 t2 h l1 l2).objs.size]}
theorem ye6 (t1 t2:Bool) (l1 l2:Addr) (xs ys:Array Value) :
  Meets (Builtin.«zip.__new__» ⟨[.type "zip",.ref l1,.ref l2],[]⟩) (λ_ R s=>SqB t1 s.heap l1 xs/\SqB t2 s.heap l2 ys/\R (.ok (.ret (.ref (zp4 t1 t2 s.heap l1 l2).objs.size))) {s with heap:=zp5 t1 t2 s.heap l1 l2}) :=
 .of_wp λprog w A R s h=>by
  obtain ⟨hp,g,d,tk,os⟩:=s;obtain ⟨q1,q2,h⟩:=h;have hsub:=sub_zip;have b1:SqB t1 (Shared.heap ⟨hp,g,d,tk,os⟩) l1 xs:=q1;have b2:SqB t2 (Shared.heap ⟨hp.push (itO t1 l1),g,d,tk,os⟩) l2 ys:=SqB.push q2 _
  wp_walk using zqs b1,zqs b2
  exact ⟨_,rfl,h⟩
section
theorem ye7 (q1:SqB t1 s.heap l1 xs) (q2:SqB t2 s.heap l2 ys)
  (h:∀h',IsZip h' (s.heap.objs.size+4) (s.heap.objs.size+2) (s.heap.objs.size+3) .none->IsPair h' (s.heap.objs.size+2) (.ref s.heap.objs.size) (.ref (s.heap.objs.size+1))->IsPair h' (s.heap.objs.size+3) .none .none ->
   h'.get? s.heap.objs.size=some (itO t1 l1)->h'.get? (s.heap.objs.size+1)=some (itO t2 l2)->(∀c o,s.heap.get? c=some o->h'.get? c=some o)->Q (.ref (s.heap.objs.size+4)) {s with heap:=h'}) :
  wpAny '&' A (call (.type "zip") [.ref l1,.ref l2]) Q E s:=by
 refine callType_new F.called_zip '$' (F.typeCall_zip_2 _ _) (F.newCall_zip_2 _ _) (λobj=>F.args_object_init_3 obj _ _) F.entry_zip_new (ye6 t1 t2 l1 l2 xs ys) ⟨q1,q2,?_⟩;have e1:(zp1 t1 s.heap l1).objs.size=s.heap.objs.size+1:=Heap.size_push ..;have e2:(zp2 t1 t2 s.heap l1 l2).objs.size=s.heap.objs.size+2:=by rw [Heap.size_push,e1]
 have e3:(zp3 t1 t2 s.heap l1 l2).objs.size=s.heap.objs.size+3:=by rw [Heap.size_push,e2]
 have e4:(zp4 t1 t2 s.heap l1 l2).objs.size=s.heap.objs.size+4:=by rw [Heap.size_push,e3]
 have g5:(zp5 t1 t2 s.heap l1 l2).get? (zp4 t1 t2 s.heap l1 l2).objs.size=some _:=Heap.get?_push_size _ rfl;have g4:(zp5 t1 t2 s.heap l1 l2).get? (zp3 t1 t2 s.heap l1 l2).objs.size=some _:=qps _ (Heap.get?_push_size _ rfl);have g3:(zp5 t1 t2 s.heap l1 l2).get? (zp2 t1 t2 s.heap l1 l2).objs.size=some _:=qps _ (qps _ (Heap.get?_push_size _ rfl));have g2:(zp5 t1 t2 s.heap l1 l2).get? (zp1 t1 s.heap l1).objs.size=some _:=qps _ (qps _ (qps _ (Heap.get?_push_size _ rfl)));have g1:(zp5 t1 t2 s.heap l1 l2).get? s.heap.objs.size=some _:=qps _ (qps _ (qps _ (qps _ (Heap.get?_push_size _ rfl))));show _/\_;rw [e2,e3,e4] at g5;rw [e1,e2] at g3;rw [e3] at g4;rw [e1] at g2;rw [e4];exact ⟨⟨_,g5,rfl⟩,h _ g5 g3 g4 g1 g2 λc o x=>qps _ (qps _ (qps _ (qps _ (qps _ x))))⟩
end
theorem ye8:bootBuiltins "zip" = some (.type "zip"):=by decide +kernel
noncomputable def ItB (K:QFg) (t:Bool) (a:Addr):It:=if t then Itt K a else Itl K a
def SqK (K:QFg) (t:Bool) (H:Hp) (a:Addr):Prop:=if t then ∃xs,SqT K H a xs else ∃xs,SqL K H a xs
def iZp (K:QFg) (ta:TA):TI:=λσ H R=>ta σ H λvs H1=>∃(t1 t2:Bool) (a b:Addr),vs=[.ref a,.ref b]/\SqK K t1 H1 a/\SqK K t2 H1 b/\R (Itz (ItB K t1 a) (ItB K t2 b)) H1
theorem SqK.at (I:'%') (q:SqK X.K t H a):∃vs,SqB t s.heap a vs/\a<s.heap.objs.size:=by
 cases t with
 |true=>obtain ⟨xs,hq⟩:=(q:∃xs,SqT X.K H a xs);obtain ⟨its,rv,pl,hz⟩:=I.tuple hq;have pl:s.heap.IsTuple a its.toArray:=pl;obtain ⟨o,e,_⟩:=id pl;exact ⟨_,pl,Heap.lt_size e⟩
 |false=>obtain ⟨xs,hq⟩:=(q:∃xs,SqL X.K H a xs);obtain ⟨its,rv,pl,hz⟩:=I.list hq;obtain ⟨o,e,_⟩:=id pl.isList;exact ⟨_,pl.isList,Heap.lt_size e⟩
theorem zqt {P:Program}{w:World}{K:QFg}(t:Bool) (b a:Addr) (nab:a≠b):Zs P w K (ItB K t a) b a (λi h=>if t then h.IsTupleIter b a i else h.IsListIter b a i):=by
 cases t with
 |true=>exact ye4 b a nab
 |false=>exact ye3 b a nab
theorem ye9 {x0:Nat}{ta:TA}(hg:Gl X "zip") (hm:X.mg "zip" = none) (ha:PA X [a,a2] ta) (hs:starEach [a,a2] X.env=(false,eval a X.env)::starEach [a2] X.env:=by rfl) (hs2:(backTo pos (starEach [a2] X.env)).any (·.1)=false:=by rfl) :
  PI X (.Tuple elts x0 tp) (.Call (.Name "zip" p) [a,a2] [] pos) (iZp X.K ta):=by
 intro pins s σ H R I h;refine Call_ (zdm I hg hm ye8 (PyProof.Rows.callWith_type1 (thn (ha pos pins s σ H _ I h) λus s1 hx_=>?_) hs hs2));obtain ⟨vs,H1,I1,r1,q1⟩:=hx_;obtain ⟨t1,t2,b,c,rfl,k1,k2,q⟩:=q1;obtain ⟨u,v,rfl,ru,rv⟩:=Vals.two r1;cases ru;cases rv;obtain ⟨xs,b1,l1⟩:=k1.at I1;obtain ⟨ys,b2,l2⟩:=k2.at I1;refine ye7 b1 b2 λh' hz hI hO w1 w2 hk=>?_;have m1:@LT.lt Nat _ b s1.heap.objs.size:=l1;have m2:@LT.lt Nat _ c s1.heap.objs.size:=l2;generalize hn:s1.heap.objs.size=n at *
 have G:ZipApart (n+4) (n+2) (n+3) n (n+1) b c:=by constructor<;>(show (_:Nat)≠_)<;>omega
 refine wpAny_pyIter_zip (s:={s1 with heap:=h'}) hz ⟨_,_,_,_,H1,rfl,I1.kept (t':=s1.toks) hk,ye5 (zqt t1 n b (Nat.ne_of_lt m1)) (zqt t2 (n+1) c (Nat.ne_of_lt (Nat.lt_succ_of_lt m2))) G,⟨hz,hI,⟨_,_,hO⟩,?_,?_⟩,λc hc=>?_,q⟩
 ·cases t1 with
  |true=>exact ⟨_,w1,rfl,rfl⟩
  |false=>exact ⟨_,w1,rfl,rfl⟩
 ·cases t2 with
  |true=>exact ⟨_,w2,rfl,rfl⟩
  |false=>exact ⟨_,w2,rfl,rfl⟩
 ·have:s1.heap.objs.size<=c:=by simp only [List.mem_cons,List.not_mem_nil,or_false] at hc;rcases hc with rfl|rfl|rfl|rfl|rfl<;>omega
  exact I1.fpOk this (I1.hok.fresh this)
noncomputable def itZ (i1 i2:ItM):ItM:=λi S=>(i1 i S).bind λo=>match o with
 |none=>some none
 |some x=>(i2 i S).bind λp=>match p with
  |none=>some none
  |some y=>some (some (.tup [x,y]))
noncomputable def sqI (S:Sto):D->Option (ItM×Nat)
 | .tup xs=>some (itX xs,xs.length)
 | .ref n=>(lstOf S n).bind λxs=>some (itL n,xs.length)
 |_=>none
noncomputable def zjb (m:AM):IM:=λl S=>(m l S).bind λp=>match p.1 with
 |[x,y]=>(sqI p.2 x).bind λa=>(sqI p.2 y).bind λb=>some (itZ a.1 b.1,min a.2 b.2+1,p.2)
 |_=>none
theorem yfa {K:QFg}{ρ:List Addr}{H:Hp}{i1 i2:ItM}{J1 J2:It}(h1:zds K ρ H i1 J1) (h2:zds K ρ H i2 J2):ziz K ρ H (itZ i1 i2) (Itz J1 J2):=by
 intro i ρ1 S1 H1 e s;obtain ⟨a1,a2⟩:=h1 i ρ1 S1 H1 e s;obtain ⟨b1,b2⟩:=h2 i ρ1 S1 H1 e s;unfold itZ;refine ⟨λq=>?_,λx q=>?_⟩
 ·obtain ⟨o,ho,q⟩:=bnd q;cases o with
  |none=>exact .inl (a1 ho)
  |some x=>
   obtain ⟨p,hp,q⟩:=bnd q;cases p with
   |none=>exact .inr ⟨(a2 x ho).1,b1 hp⟩
   |some y=>cases q
 ·obtain ⟨o,ho,q⟩:=bnd q;cases o with
  |none=>cases q
  |some x1=>
   obtain ⟨p,hp,q⟩:=bnd q;cases p with
   |none=>cases q
   |some y1=>cases q;obtain ⟨g1,r1⟩:=a2 x1 ho;obtain ⟨g2,r2⟩:=b2 y1 hp;refine ⟨⟨g1,g2⟩,λv H2 hx_=>?_⟩;obtain ⟨y,y',p,hy1,hy2,hp,e1,e2⟩:=hx_;subst e1 e2;obtain ⟨_,s1⟩:=r1 y H1 hy1;obtain ⟨_,s2⟩:=r2 y' H1 hy2;exact ⟨zbq hp,s.laid hp,.tup zbo (.cons (s1.mono (zbq hp)) (.cons (s2.mono (zbq hp)) .nil))⟩
theorem zqu {K:QFg}{ρ:List Addr}{S:Sto}{H:Hp}{x:D}{v:V}{a:ItM×Nat}(h:sqI S x=some a) (sim:Sim K ρ S H) (r:RD ρ H x v):∃t c,v=.ref c/\SqK K t H c/\zds K ρ H a.1 (ItB K t c):=by
 unfold sqI at h;split at h
 ·cases h;cases r with
  | @tup _ c us hc' rr=>exact ⟨true,c,rfl,⟨us,SqT.of hc'⟩,zkv hc' rr⟩
 ·obtain ⟨ys,hx,h⟩:=bnd h;cases h;obtain ⟨c,us,hc',sq,rv'⟩:=sim.lstOf hx;cases r with
  |ref hn=>rw [hc'] at hn;cases hn;exact ⟨false,c,rfl,⟨us,sq⟩,zkw hc'⟩
 ·cases h
theorem yfb {x0:Nat}(hgl:Gl X "zip") (hmg:X.mg "zip" = none) (ha:PA3 X [a,a2] mA) (hst:starEach [a,a2] X.env=(false,eval a X.env)::starEach [a2] X.env:=by rfl) (hst2:(backTo pos' (starEach [a2] X.env)).any (·.1)=false:=by rfl):zg0 X (.Tuple elts x0 tp) (.Call (.Name "zip" p0) [a,a2] [] pos') (zjb mA) :=
 PI.imp (ye9 hgl hmg ha hst hst2) λσ H R hx_=>by
  obtain ⟨ρ,l,S,it,k,S',sim,ro,hm,p⟩:=hx_;obtain ⟨⟨xs,S2⟩,q2,q1⟩:=bnd hm;dsimp only at q1;split at q1
  ·rename_i x y;obtain ⟨u1,e1,q1⟩:=bnd q1;obtain ⟨u2,e2,q1⟩:=bnd q1;cases q1;refine ⟨ρ,l,S,[x,y],_,sim,ro,q2,λρ1 H1 vs ex s1 r1=>?_⟩;obtain ⟨v,u,rfl,rv,ru⟩:=r1.two;obtain ⟨t1,c1,rfl,k1,o1⟩:=zqu e1 s1 rv;obtain ⟨t2,c2,rfl,k2,o2⟩:=zqu e2 s1 ru;exact ⟨t1,t2,c1,c2,rfl,k1,k2,p ρ1 H1 _ ex s1 (yfa o1 o2)⟩
  ·cases q1
section
variable {P:Program}{w:World}{K:QFg}{tg:Expr}
end
section
variable {X:Cx}{tg l:Expr}{tl:TE}{m:EM}
end
section
end
open PySem.Builtin PySem.Builtin.Str
section
variable {id:String}{f:D->List D->Sto->Option (D×Sto)}{r:V->List V->Hp->VK->Prop}
end
section
end
inductive tq (K:QFg) (m:EM) (σ:St) (H:Hp) (R:It->Hp->Prop):Prop
 |mk (ρ:_) (l:_) (S:_) (xs:_) (S':_) (_:Sim K ρ S H) (_:RO ρ H l σ) (_:m l S=some (.tup xs,S')) (_:∀ρ' H' a vs,Ext ρ H ρ' H'->Sim K ρ' S' H'->H' a=some (.tup vs)->RDs ρ' H' xs vs->R (Itt K a) H')
section
end
section
end
section
noncomputable abbrev dis (ns:List Int) (n:Nat):List Int:=firstMet (λi=>ns.getD i 0) n
end
section
variable {X:Cx}{K:QFg}{a:Expr}{es:List Expr}{mA:AM}{pos p:Pos}{k:Nat}
end
end L3
namespace SP
open PySem PySem.W PyProof.Rows PySem.Calls
section
end
end SP
namespace L3
open PySem PySem.Spec PyProof.Rows L2
section
variable {X:Cx}{K:QFg}{a:Expr}{es:List Expr}{mA:AM}{pos p:Pos}
end
section
end
open PySem.W
section
end
section
variable {X:Cx}{E:XK}{CA:Str->Addr}{tgt iter:Expr}{body:List Stmt}{g:GM}{b:SM}{rb:ZM}{m:EM}{pos:Pos}
end
def rSetL:List V->Hp->VK->Prop:=λxs H Q=>∃(a:Addr) (ns:List Int),xs=[.ref a]/\H a=some (.lst (ns.map V.int))/\ns.length+1<scanBound/\∀l,H l=none->Q (.ref l) (upd H l (.set (λk=>(dis ns ns.length).any (· == k)) (dis ns ns.length).length))
section
variable {X:Cx}{K:QFg}{a:Expr}{es:List Expr}{mA:AM}{pos p:Pos}{k:Nat}
end
section
variable {X:Cx}{K:QFg}{a:Expr}{es:List Expr}{mA:AM}{pos p:Pos}
end
section
variable {M:Model}{E:Value->Shared->Prop}{env:Env}{outer:List Env}{Q:Unit->Shared->Prop}
end
section
variable {P:Program}{w:World}{K:QFg}{mg:Str->Option Value}{base:Heap}{N:List Str}{qual:Str}{scope:Scope}{f:Addr}{cd:Value}{A:Around}{outer:List Env}{s:Shared}{H:Hp}{E:XK}
end
section
variable {X:Cx}{E:XK}{CA:Str->Addr}{N':List Str}{elt iter tgt:Expr}{ifs:List Expr}{scope:Scope}{pos:Pos}
end
section
end
def TZ (X:Cx) (E:XK) (CA:Str->Addr) (sts:List Stmt) (r:ZM):Prop:=∀(pins:'(') (s:Shared) (σ:L2.St) (H:Hp),Inv X pins σ H s->Rz X.K E CA r σ H ->
 wpAny '#' X.A (execs sts X.env) (λ_ _=>False) (λe s'=>∃H1 s1,Inv X pins σ H1 s1/\CX1 X.prog X.w X.stack H1 s1 E e s') s
section
theorem yfc (i:Nat) (hN:X.N.Nodup) (hxe:∀e s,X.xe e s->False) (hstk:X.stack=X.env::X.outer) (hfm:X.env.frame=some X.env.locals) (hex:X.ex=[]) (hmh:X.mg hx=some (.ref Dh)) (qD:excIn X.K Dh zdx "ValueError.__new__" = true)
  (hok:∀c,ok c=true->PySem.W.nsIn X.K mainGlobals c=some (some (.ref (CA c)))/\excIn X.K (CA c) zdx "ValueError.__new__" = true/\(Value.ref (CA c)::zei X.K (CA c)).contains (.ref Dh)=true)
  (hS:∀e,PSs3 (mk1 X e) (b0::suite) mS) (hz:∀E,TZ X E CA body r) (hNorm:PSs3 X body mN)
  (hi:X.N[i]?=some nm:=by rfl) (hln:X.env.scope.names.lookup nm=some .local:=by rfl) (hgh:Gl X hx:=by rfl) (hd:(hx==("__debug__":Str))=false:=by decide) :
  PS3 X (.Try body [.ExceptHandler (some (.Name hx np)) (some nm) (b0::suite) hpos] [] [] tpos) (zg2 i ok mN r mS):=by
 have main:PS X (.Try body [.ExceptHandler (some (.Name hx np)) (some nm) (b0::suite) hpos] [] [] tpos) (λD σ H=>ts X.K mN D σ H\/Rz X.K (EH X Dh (ts X.K mS) i D σ) CA r σ H):=by
  intro pins s σ H D I h;rcases h with h|h
  ·refine wpAny_Try_except (wpAny_mono (hNorm pins s σ H D I h) (λf s1 q=>?_) λe s1 z=>(hxe _ _ z).elim);cases f with
   |next=>exact wpAny_execs_nil q
   |_=>exact q
  ·exact wpAny_Try_except (wpAny_mono (hz _ pins s σ H I h) (λ_ _ z=>z.elim) λe s2 ⟨H1,s1,I1,cx⟩=>ydj (tS:=ts X.K mS) hstk hfm hex hgh hmh qD hS hN hi hln hd I1 cx)
 refine PS.imp main λD σ H hx1_=>?_;obtain ⟨ρ,l,S,f,l',S',sim,ro,hm,pz⟩:=hx1_;unfold zg2 at hm;cases e1:mN l S with
 |some q=>rw [e1] at hm;cases hm;exact .inl ⟨ρ,l,S,f,l',S',sim,ro,e1,pz⟩
 | none =>
  rw [e1] at hm;cases e2:r l S with
  |none=>rw [e2] at hm;cases hm
  |some q=>
   obtain ⟨c,S1⟩:=q;rw [e2] at hm;obtain ⟨hc,hm⟩:=zpr hm;obtain ⟨⟨g,l2,S2⟩,q2,hm⟩:=bnd hm;obtain ⟨k1,k2,k3⟩:=hok c hc;refine .inr ⟨ρ,l,S,c,S1,sim,ro,e2,λρ1 H1 ex1 s1=>⟨CA c,rfl,k2,k3,λe he'=>?_⟩⟩;have ex2:=zoo (ρ:=ρ1) (u:=.ext (phi e (CA c))) he';have sim2:Sim X.K (ρ1++[e]) (S1++[.exc c]) (upd H1 e (.ext (phi e (CA c)))):=s1.pushG he' ⟨CA c,k1,zbo⟩;have ro2:=((ro.mono ex1).mono ex2).set i (d:=.ref S1.length) (v:=.ref e) (.ref (by rw [<-s1.len];exact zd6 ρ1 e));cases g with
   |nx=>cases hm;exact ⟨ρ1++[e],_,_,.nx,l2,S2,sim2,ro2,q2,λρ' H' σ' e' s' r'=>pz ρ' H' (σ'.set i none) (ex1.trans (ex2.trans e')) s' (RO.unset r' i)⟩
   |_=>cases hm
end
section
variable {X:Cx}{K:QFg}{a b:Expr}{ma mb:EM}{pos:Pos}
end
theorem CompSc.toSd {N':List Str}{scope:Scope}{src:St->St}(h:CompSc X N' scope src):CompSd X N' scope src :=
 ⟨h.kind,h.names,h.free,λy z=>.inl (h.rel y z),λy _ z=>h.nocell _ z rfl,h.len,h.src⟩
section
end
section
variable {K:QFg}{ρ:List Addr}{H H':Hp}{S:Sto}
end
end L3
namespace SK
open PySem PySem.W PyProof.Rows PySem.Calls
section
end
end SK
namespace L3
open PySem PySem.Spec PyProof.Rows L2
section
end
section
end
section
end
section
variable {P:Program}{w:World}{K:QFg}{mg:Str->Option Value}{base:Heap}
end
section
end
section
end
noncomputable def sm (i:Int):Bool:=decide (i.natAbs.log2<1920)
section
end
section
end
open PySem.W
section
end
section
end
section
end
section
variable {K:QFg}{ρ:List Addr}{H H':Hp}{S:Sto}
end
section
end
section
end
section
end
section
end
section
end
section
end
section
variable {P:Program}{w:World}{K:QFg}{mg:Str->Option Value}{base:Heap}{CA:Str->Addr}{j k n:Nat}{f0:Str}{rx:ZF}{tb:List (Str×Nat×ZF)}
end
section
end
section
end
section
end
section
end
section
variable {E:XK}{CA:Str->Addr}{a d:List Stmt}{st:Stmt}{r q:ZM}
end
section
end
section
variable {P:Program}{w:World}{K:QFg}{mg:Str->Option Value}{base:Heap}
end
end L3
namespace TS
open PySem PySem.SetTable
section
end
section
variable {prog:Program}{w:World}{A:Around}{E:Value->Shared->Prop}{s:Shared}{a I:Addr}{es:Array (Int×Value)}{ep i:Nat}{t:SetTable}
end
section
end
open PyProof.Rows
section
end
section
variable {R:Result->Shared->Prop}{n:Nat}{P:Nat->Value->Prop}{St:Nat->Heap->Prop}
end
open L3
section
end
open SP PySem.W PySem.Calls
section
variable {prog:Program}{w:World}{A:Around}{E:Value->Shared->Prop}{s:Shared}{d:Addr}{es:Array (Int×Value)}{ep:Nat}{t:SetTable}
end
end TS
namespace L3
open PySem PySem.Spec PyProof.Rows L2
section
end
section
theorem yfd (F:zg1 X.prog X.w X.K X.mg X.base CA x k n rx) (hxe:∀e s,X.xe e s->False) (hr:Room j X.A) (hkj:k<=j) (hg:Gl X x)
  (ha:PA3 X (a::es) mA) (hl:∀l S v S',mA l S=some (v,S')->v.length=n) (hdb:(x==("__debug__":Str))=false) (he:starEach (a::es) X.env=(false,eval a X.env)::starEach es X.env) (hpl:(backTo cpos (starEach es X.env)).any (·.1)=false)
  (hs:swapsWith (.Call (.Name x p) (a::es) [] cpos) none apos.line X.env=pure false)
  {pins:'('} {s:Shared} {σ:L2.St} {H:Hp} {Q:Flow->Shared->Prop} (I:'%') (h:Rz X.K E CA (zlh rx mA) σ H) :
  wpAny '#' X.A (execs [.Expr (.Call (.Name x p) (a::es) [] cpos) apos] X.env) Q (λe s'=>∃H1 s1,Inv X pins σ H1 s1/\CX1 X.prog X.w X.stack H1 s1 E e s') s:=by
 obtain ⟨f,fd,ps,F,hm,hk,hb⟩:=F;obtain ⟨ρ,l,S,C,S',sim,ro,hz,pz⟩:=h;obtain ⟨⟨ds,S1⟩,q1,hz⟩:=bnd hz;refine wpAny_execs_cons (wpAny_mono (Q:=λ_ _=>False) ?_ (λ_ _ z=>z.elim) λ_ _ z=>z);refine wpAny_Expr_any (wpAny_mono (Q:=λ_ _=>False) ?_ (λ_ _ z=>z.elim) λ_ _ z=>z) I.quiet hs;refine wpAny_Call_Name_kw (zgd I hg hm ?_ hdb);refine PySem.W.callWith_K (h₀:=X.base) I.ok.mod.kin hk (wpAny_mono (ha cpos pins s σ H (λvs H1=>spZ X.K CA n rx vs H1 (λ_ _=>False) E) I ⟨ρ,l,S,ds,S1,sim,ro,q1,λρ1 H1 vs e1 s1 r1=>⟨by rw [<-r1.length];exact hl _ _ _ _ q1,ρ1,ds,S1,C,S',s1,r1,hz,λρ2 H2 e2 s2=>pz ρ2 H2 (e1.trans e2) s2⟩⟩) (λus s1 ⟨vs,H1,I1,r,q⟩=>⟨I1.kIn,?_⟩) λ_ _ z=>(hxe _ _ z).elim) he hpl;have r2:Vals (vs++[]) (us++[]):=by rw [List.append_nil,List.append_nil];exact r
 have hlen:(us++[]).length=ps.length:=by rw [List.append_nil,<-r.length];exact F.len _ _ _ _ q
 refine wpAny_call (codeAny_mono (F.run X.A X.stack s1 H1 ⟨us,[]⟩ (us++[]) (vs++[]) (λ_ _=>False) E (hr.mono hkj) I1.env0 (hb s1 us I1.kIn hlen) r2 (by rw [List.append_nil];exact q)) λres s' hq=>?_);cases res with
 |error e=>exact ⟨H1,s1,I1,hq⟩
 |ok fl=>
  cases fl with
  |ret u=>obtain ⟨_,_,_,_,_,_,_,z⟩:=hq;exact z.elim
  |next=>exact False.elim hq
  |brk=>exact False.elim hq
  |cont=>exact False.elim hq
theorem yfe (F:zg1 X.prog X.w X.K X.mg X.base CA x k n rx) (hxe:∀e s,X.xe e s->False) (hr:Room j X.A) (hkj:k<=j) (ha:PA3 X (a::es) mA) (hl:∀l S v S',mA l S=some (v,S')->v.length=n) (hg:Gl X x:=by rfl) (hdb:(x==("__debug__":Str))=false:=by decide) (he:starEach (a::es) X.env=(false,eval a X.env)::starEach es X.env:=by rfl) (hpl:(backTo cpos (starEach es X.env)).any (·.1)=false:=by rfl)
  (hs:swapsWith (.Call (.Name x p) (a::es) [] cpos) none apos.line X.env=pure false:=by rfl):TZ X E CA [.Expr (.Call (.Name x p) (a::es) [] cpos) apos] (zlh rx mA) :=
 λ_ _ _ _ I h=>yfd F hxe hr hkj hg ha hl hdb he hpl hs I h
end
end L3
namespace HT
open PySem PyProof.Rows
section
end
end HT
namespace L3
open PySem PySem.Spec PyProof.Rows L2
section
variable {te:TE}{j:Nat}
end
section
end
end L3
namespace TS
open PySem PySem.SetTable PyProof.Rows L3
section
end
end TS
namespace L3
open PySem PySem.Spec PyProof.Rows L2
section
end
noncomputable def pU (p:SP.Tu):D:=.tup (p.map .int)
noncomputable def usD:List D->Option (List SP.Tu)
 |[]=>some []
 | .tup (x::xs)::ds=>(zdw (x::xs)).bind λp=>(usD ds).bind λps=>some (p::ps)
 |_=>none
theorem zqv:∀{ps:List SP.Tu},(∀p∈ps,p≠[])->usD (ps.map pU)=some ps
 |[],_=>rfl
 |[]::_,h=>absurd rfl (h _ '*')
 |(i::p)::ps,h=>by show (zdw ((i::p).map D.int)).bind _=_;rw [zqd];show (usD (ps.map pU)).bind _=_;rw [zqv λq hq=>h q (by simp [hq])];rfl
theorem yff:∀{p:SP.Tu}{ds:List D}{ρ:List Addr}{H:Hp}{vs:List V},zdw ds=some p->RDs ρ H ds vs->vs=p.map V.int:=λh r=>zle h r
def VU (H:Hp):List V->List SP.Tu->Prop:=Paired λv p=>∃b,v=.ref b/\H b=some (.tup (p.map V.int))/\p≠[]
theorem zqw:∀{ds:List D}{ps:List SP.Tu}{vs:List V},usD ds=some ps->RDs ρ H ds vs->VU H vs ps
 |[],ps,vs,h,r=>by cases h;cases r;exact .nil
 | .tup (x :: xs) :: ds,ps,vs,h,r=>by
  obtain ⟨p,h1,h⟩:=bnd h;obtain ⟨qs,h2,h⟩:=bnd h;cases h;cases r with
  |cons r1 r2=>
   refine .cons ?_ (zqw h2 r2);cases r1 with
   |tup hb rs=>have e:=yff h1 rs;subst e;refine ⟨_,rfl,hb,λz=>?_⟩;subst z;cases rs
 | .tup []::_,_,_,h,_ | .non::_,_,_,h,_ | .bl _::_,_,_,h,_ | .int _::_,_,_,h,_ | .str _::_,_,_,h,_ | .ref _::_,_,_,h,_ | .fn _::_,_,_,h,_=>by cases h
theorem zqx:∀p:SP.Tu,RDs ρ H (p.map .int) (p.map V.int)
 |[]=>.nil
 |i::p=>.cons (.int i) (zqx p)
theorem yfg (h:VU H vs ps):RDs ρ H (ps.map pU) vs:=by
 induction h with
 |nil=>exact .nil
 |cons q _ ih=>obtain ⟨b,rfl,hb,_⟩:=q;exact .cons (.tup hb (zqx _)) ih
def RU (H:Hp) (v:Value) (p:SP.Tu):Prop:=∃b,v=.ref b/\H b=some (.tup (p.map V.int))/\p≠[]
theorem zqy:∀{p:SP.Tu}{us:List Value},Vals (p.map V.int) us->SP.IL us p
 |[],_,r=>by cases r;exact .nil
 |i::p,_,r=>by
  cases r with
  |cons r1 r2=>obtain ⟨k,rfl⟩:=r1;exact .cons i k (zqy r2)
theorem yfh (ok:HOk P w H h) (x:RU H v p):SP.IsU h v p:=by obtain ⟨b,rfl,hb,ne⟩:=x;obtain ⟨_,its,rv,o,h1,h2,n,h3,_⟩:=(show ObjOk P w H h b (.tup _) from ok b _ hb);exact ⟨b,o,_,n,rfl,h1,h2,h3,zqy rv,ne⟩
theorem yfi (x:VU H vs ps):∀{us:List Value},Vals vs us->SP.TU (RU H) us ps:=by
 induction x with
 |nil=>intro us r;cases r;exact .nil
 |cons q _ ih=>
  intro us r;cases r with
  |cons r1 r2=>obtain ⟨b,rfl,hb⟩:=q;cases r1;exact .cons ⟨b,rfl,hb⟩ (ih r2)
theorem yfj (t:SP.TU (RU H) us ps):∃ws,Vals ws us/\VU H ws ps:=by
 induction t with
 |nil=>exact ⟨[],.nil,.nil⟩
 |cons q _ ih=>obtain ⟨ws,w1,w2⟩:=ih;obtain ⟨b,rfl,hb⟩:=q;exact ⟨.ref b::ws,.cons rfl w1,.cons ⟨b,rfl,hb⟩ w2⟩
theorem VU.length (x:VU H vs ps):vs.length=ps.length:=Paired.length x
def zqz (K:QFg):List V->Hp->VK->Prop:=λxs H Q=>∃(p:Addr) (vs:List V) (ps:List SP.Tu),xs=[.ref p]/\SqL K H p vs/\VU H vs ps/\ps.Nodup/\ps.length<=5000/\∀l ws,H l=none->VU H ws (SP.sortU ps)->Q (.ref l) (upd H l (.lst ws))
section
theorem yfk:CallR X (.builtin "sorted") (zqz X.K):=by
 intro pins s σ H xs us Q I r h;obtain ⟨p,vs,ps,rfl,sq,vp,nd,h64,q⟩:=h;obtain ⟨u,rfl,ru⟩:=zd4 r;cases ru;obtain ⟨its,rv,pl,hz⟩:=I.list sq;refine SP.sorted_us_list (R0:=RU H) (λv p x=>yfh I.hok x) pl.isList (yfi vp rv) nd h64 λh' tk D e out keep sz hD t=>?_;obtain ⟨ws,w1,w2⟩:=yfj t;have hl:ws.length<=sizeLine:=by rw [w2.length,(SP.sortU_perm ps).length_eq,sizeLine_eq];lia
 exact ⟨.ref D,_,I.laid (t':=tk) keep sz (show ObjOk X.prog X.w _ _ _ (.lst ws) from ⟨hl,out,e,w1,hD⟩),rfl,q D ws (I.hok.fresh sz) w2⟩
end
noncomputable def ze1:FM
 |[.ref n],S=>(lstOf S n).bind λxs=>(usD xs).bind λps=>if ps.Nodup/\ps.length<=5000 then some (.ref S.length,S++[.lst ((SP.sortU ps).map pU)]) else none
 |_,_=>none
theorem yfl {K:QFg}:Fn3 K ze1 (zqz K):=by
 intro ρ S H xs vs v S' Q sim r h p;unfold ze1 at h;split at h
 ·obtain ⟨ys,h1,h⟩:=bnd h;obtain ⟨ps,h2,h⟩:=bnd h;obtain ⟨hz,e⟩:=zbb h;cases e;obtain ⟨w,rfl,rw'⟩:=r.one;obtain ⟨a,us,ha,sq,rv⟩:=sim.lstOf h1;cases rw' with
  |ref hn=>rw [ha] at hn;cases hn;exact ⟨a,us,ps,rfl,sq,zqw h2 rv,hz.1,hz.2,λl ws hl hw=>zgj sim (yfg hw) p l hl⟩
 ·cases h
section
theorem yfm (hg:Gl X "sorted") (hm:X.mg "sorted" = none) (ha:PA3 X (a::es) mA) (he:starEach (a::es) X.env=(false,eval a X.env)::starEach es X.env:=by rfl) (hpl:(backTo pos (starEach es X.env)).any (·.1)=false:=by rfl):PE3 X (.Call (.Name "sorted" p) (a::es) [] pos) (zad ze1 mA) :=
 zdq yfk yfl hg hm yc4 ha '$' '$' he hpl
end
theorem yfn {M:Model}{E:Value->Shared->Prop}{T id:String}{Q:Value->Shared->Prop}(ha:s.TypeIs a T) (hb:s.TypeIs b T)
  (sl:Slot T (dunderI "add") id) (sq:isSeqSlot (some (.builtin id))=true) (hfill:fillsNumberSlot (.type T) "add" = pure false)
  (hc:wpAny M A (call (.builtin id) [a,b]) Q E s):wpAny M A (inplaceOp .Add a b) Q E s:=by
 unfold inplaceOp;refine wpAny_holding ?_;have hfi:fillsInplaceSlot (.type T) "add" (Operator.Add == .Add)=pure false:=by unfold fillsInplaceSlot;show (typeLookup (.type T) (dunderI "add")>>=λfi=>pure (fi.isSome && !isSeqSlot fi))=pure false;rw [sl.lookup];show (pure (true && !isSeqSlot (some (.builtin id))):Sem Bool)=pure false;rw [sq];rfl
 refine qwb (wpAny_typeOf ha (qwb (wpAny_of_eq hfi ?_)));show wpAny M A (if false=true then _ else _) Q E s;rw [if_neg Bool.false_ne_true];refine qwb (wpAny_binaryOp1_none (nm:="add") ha hb hfill ?_);refine qwb (wpAny_of_eq (PySem.seqSlot_of sl.lookup sq) ?_);exact qwb (wpAny_rule hc)
section
def ipL:TIp:=λx y H Q=>∃(l b:Addr) (xs zs:List V),x=.ref l/\y=.ref b/\H l=some (.lst xs)/\H b=some (.lst zs)/\xs.length+zs.length<=sizeLine/\Q (.ref l) (upd H l (.lst (xs++zs)))
theorem yfo:PIp X .Add ipL:=by
 intro pins s σ H x y v u Q I rx ry h;obtain ⟨l,b,xs,zs,rfl,rfl,hH,hB,hz,q⟩:=h;cases rx;cases ry;obtain ⟨z,its,n,r,hl,e⟩:=I.lstM hH;obtain ⟨z2,its2,n2,r2,hl2,e2⟩:=I.lstM hB;have hsz:its.toArray.size+its2.toArray.size<=sizeLine:=by rw [List.size_toArray,List.size_toArray];lia
 have hlong:¬(!its.toArray.isEmpty&&Builtin.List.listTooLong (its.toArray.size+its2.toArray.size))=true:=by rw [zx2 hsz,Bool.and_false];exact Bool.false_ne_true
 refine yfn ⟨_,e,rfl⟩ ⟨_,e2,rfl⟩ F.slot_list_iadd (by decide +kernel) noFill_list_add (call_meets F.slot_list_iadd ⟨_,e,rfl⟩ F.entry_list_iadd (F.args_list_iadd_2 _ _)
  (AutoSeq1.list___iadd___list_list_0 l its.toArray n b its2.toArray n2 hlong (by rw [List.size_toArray];lia) '!') ⟨e,e2,?_⟩)
 refine ⟨.ref l,_,I.lset (its':=its++its2) hH e '*' (r.append r2) ?_,rfl,q⟩;rw [qla];lia
noncomputable def zfu:D->D->Sto->Option (D×Sto)
 | .ref n,.ref m,S=>match S[n]?,S[m]? with
  |some (.lst xs),some (.lst ys)=>if xs.length+ys.length<=sizeLine then some (.ref n,S.set n (.lst (xs++ys))) else none
  |_,_=>none
 |_,_,_=>none
theorem yfp (j:Nat) (hN:X.N.Nodup) (he:PE3 X e me) (hi:X.N[j]?=some x:=by rfl) (hx:Loc X.env.scope x:=by first|exact Or.inl rfl|exact Or.inr rfl) (hf:X.fn x=true\/X.env.scope.names.lookup x=some .local:=by first|exact .inl rfl|exact .inr rfl|assumption) :
  PS3 X (.AugAssign (.Name x pos') .Add e pos) (zai (eOp zfu (zaa j) me) (zae j)):=PS.imp (zv0 hN hi hx he yfo hf) λE σ H hx2_=>by
 obtain ⟨ρ,l,S,f,l',S',sim,ro,hm,p⟩:=hx2_;obtain ⟨⟨y,S1⟩,q1,hm⟩:=bnd hm;obtain ⟨⟨x1,S2⟩,q2,q1⟩:=bnd q1;obtain ⟨⟨x2,S3⟩,q3,q1⟩:=bnd q1;cases hm;unfold zaa at q2;split at q2
 ·rename_i d ed;cases q2;obtain ⟨w,h1,h2⟩:=ro.get j _ ed;refine ⟨w,h1,ρ,l,_,x2,S3,sim,ro,q3,λρ1 H1 x' e1 s1 r1=>?_⟩;dsimp only at q1;have h2:=h2.mono e1;unfold zfu at q1;split at q1
  ·split at q1
   ·rename_i n m S4 xs ys g1 g2;obtain ⟨hz,e2⟩:=zbb q1;cases e2;obtain ⟨a,us,ha,hH,r2⟩:=s1.lst g1;obtain ⟨b,ws,hb,hH2,r3⟩:=s1.lst g2;cases r1 with
    |ref hm=>
     rw [hb] at hm;cases hm;cases h2 with
     |ref hn=>have hn':=hn;rw [ha] at hn;cases hn;refine ⟨a,b,us,ws,rfl,rfl,hH,hH2,by rw [<-r2.length,<-r3.length];exact hz,?_⟩;have ex:=zfg (o:=.lst (us++ws)) ha hH;exact p ρ1 _ _ (e1.trans ex) (s1.set ha g1 hH (r2.append r3)) (((ro.mono e1).mono ex).set j (.ref hn'))
   ·cases q1
  ·cases q1
 ·cases q2
end
theorem zak {α:Type}{x:α}{p:α->Prop}:(∃d,(some (some x):Option (Option α))=some (some d)/\p d)=p x:=by
 apply propext;constructor
 ·rintro ⟨d,h,q⟩;cases h;exact q
 ·exact λq=>⟨x,rfl,q⟩
theorem zb0 {α:Type}{x:α}{p:α->Prop}:(∃d,(some x:Option α)=some d/\p d)=p x:=by
 apply propext;constructor
 ·rintro ⟨d,h,q⟩;cases h;exact q
 ·exact λq=>⟨x,rfl,q⟩
theorem zbn {b:Bool}{p:Bool->Prop}:(∃k,D.bl b=D.bl k/\p k)=p b:=by
 apply propext;constructor
 ·rintro ⟨d,h,q⟩;cases h;exact q
 ·exact λq=>⟨b,rfl,q⟩
theorem zlw {α:Type}{x y:α}:L2.atI [x,y] 0=some x:=rfl
theorem zlx {α:Type}{x y:α}:L2.atI [x,y] 1=some y:=rfl
theorem zq0 {α:Type}{x y z:α}:L2.atI [x,y,z] 0=some x:=rfl
theorem zq1 {α:Type}{x y z:α}:L2.atI [x,y,z] 1=some y:=rfl
theorem zq2 {α:Type}{x y z:α}:L2.atI [x,y,z] 2=some z:=rfl
theorem zdz:lstOf (S++[.lst xs]) S.length=some xs:=by unfold lstOf;rw [zd6]
theorem yfq {α:Type}(xs:List α) (i:Int) (h0:0<=i) (h1:i<xs.length):∃x,L2.atI xs i=some x/\x∈xs:=by
 have hl:i.toNat<xs.length:=by omega
 refine ⟨xs[i.toNat],?_,qem hl⟩;unfold L2.atI L2.ixN;rw [if_pos h0,if_pos h1];simp [hl]
theorem atI_get {α:Type}{xs:List α}{i:Nat}{x:α}(h:xs[i]?=some x):L2.atI xs (i:Int)=some x:=by have hl:=(qme h).1;unfold L2.atI L2.ixN;rw [if_pos (by omega),if_pos (by omega)];simpa using h
section
theorem zq3:Wo (zdu (.int i) (.int j) S) Q=(((-(2^64)<i/\i<2^64)\/(-(2^64)<j/\j<2^64))/\Q (.int (i*j)) S):=zec
theorem zdi:Wo (zag (.tup xs) (.int i) S) Q=∃v,L2.atI xs i=some v/\Q v S:=by
 have e:zag (.tup xs) (.int i) S=dIx (.tup xs) (.int i) S:=by
  unfold zag;cases h:dIx (.tup xs) (.int i) S with
  |some v=>rfl
  |none=>rfl
 rw [e,zk0]
theorem zd0:Wo (zag (.ref k) (.int i) S) Q=∃xs,lstOf S k=some xs/\∃v,L2.atI xs i=some v/\Q v S:=by
 have e:zag (.ref k) (.int i) S=dIx (.ref k) (.int i) S:=by
  unfold zag;cases h:dIx (.ref k) (.int i) S with
  |some v=>rfl
  |none=>rfl
 rw [e,zk1]
theorem zly:Wo (zb3 [.ref k] S) Q=∃xs,lstOf S k=some xs/\Q (.int xs.length) S:=zk3
theorem zg9:Wo (zb3 [.tup xs] S) Q=Q (.int xs.length) S:=zk2
theorem zlz:Wo (dNe (.int i) (.int j) S) Q=Q (.bl (!decide (i=j))) S:=zbd
theorem yfr:Wo (zfp [.ref n] S) Q=∃xs,lstOf S n=some xs/\xs.all zgv=true/\Q (.bl (xs.any isT)) S:=by show Wo ((lstOf S n).bind λxs=>if xs.all zgv=true then some (.bl (xs.any isT),S) else none) Q=_;rw [zev];simp only [zec]
theorem zl0:Wo (zde U (.int b) S) Q=Q (.bl (isI "int" U)) S:=zbd
theorem zl1:Wo (zde U (.tup b) S) Q=Q (.bl (isI "tuple" U)) S:=zbd
theorem zha:isI U U=true:=by unfold isI;simp
theorem yfs (h1:S[n]?=some (.lst xs)) (h2:S[m]?=some (.lst [])):Wo (zgw (.ref n) (.ref m) S) Q=Q (.bl (!xs.isEmpty)) S:=by show Wo (match S[n]?,S[m]? with|some (.lst xs),some (.lst [])=>some (.bl (!xs.isEmpty),S)|_,_=>none) Q=_;rw [h1,h2];exact zbd
end
def Gr (S0 S:Sto):Prop:=∃ex,S=S0++ex
theorem Gr.refl (S:Sto):Gr S S:=⟨[],by rw [List.append_nil]⟩
theorem Gr.trans (h:Gr A B) (g:Gr B C):Gr A C:=by obtain ⟨x,rfl⟩:=h;obtain ⟨y,rfl⟩:=g;exact ⟨x++y,by rw [qaa]⟩
theorem Gr.push (h:Gr A B) (o:Ob):Gr A (B++[o]):=h.trans ⟨[o],rfl⟩
theorem Gr.get {n:Nat}{o:Ob}(h:Gr A B) (e:A[n]?=some o):B[n]?=some o:=by obtain ⟨x,rfl⟩:=h;rw [List.getElem?_append_left (qme e).1];exact e
theorem Gr.lst (h:Gr A B) (e:lstOf A n=some xs):lstOf B n=some xs:=by
 unfold lstOf at e ⊢;cases q:A[n]? with
 |none=>rw [q] at e;cases e
 |some o=>rw [h.get q];rw [q] at e;exact e
section
theorem zjc (xs:List D) (R:Nat->List D->Lo->Sto->Prop) (hit:∀i acc l S,R i acc l S->it i S=some xs[i]?)
  (step:∀(i:Nat) x acc l S,xs[i]?=some x->R i acc l S->Wg (g x l S) λl1 S1=>Wt t l1 S1 λb S2=>if b=true then We e l1 S2 λv S3=>R (i+1) (acc++[v]) l1 S3 else R (i+1) acc l1 S2) :
  ∀(n i:Nat) (acc:List D) (l:Lo) (S:Sto),n+i=xs.length->R i acc l S->∃rest S' l',zb2 it g t e (n+1) i l S=some (rest,S')/\R xs.length (acc++rest) l' S'
 |0,i,acc,l,S,hn,h=>by
  have hi:i=xs.length:=by omega
  have e0:=hit i acc l S h;rw [List.getElem?_eq_none_iff.mpr (by omega)] at e0;refine ⟨[],S,l,?_,by rw [List.append_nil,<-hi];exact h⟩;unfold zb2;rw [e0];rfl
 |n+1,i,acc,l,S,hn,h=>by
  have hi:i<xs.length:=by omega
  have e0:=hit i acc l S h;rw [qge hi] at e0;obtain ⟨l1,S1,e1,b,S2,e2,q⟩:=step i _ acc l S (qge hi) h;cases b with
  |true=>obtain ⟨v,S3,e3,q⟩:=q;obtain ⟨rest,S',l',e4,q⟩:=zjc xs R hit step n (i+1) (acc++[v]) l1 S3 (by omega) q;refine ⟨v::rest,S',l',?_,by rw [qaa] at q;exact q⟩;unfold zb2;rw [e0];show (g _ l S).bind _=_;rw [e1];show (t l1 S1).bind _=_;rw [e2];show (e l1 S2).bind _=_;rw [e3];show (zb2 it g t e (n+1) (i+1) l1 S3).bind _=_;rw [e4];rfl
  |false=>obtain ⟨rest,S',l',e4,q⟩:=zjc xs R hit step n (i+1) acc l1 S2 (by omega) q;refine ⟨rest,S',l',?_,q⟩;unfold zb2;rw [e0];show (g _ l S).bind _=_;rw [e1];show (t l1 S1).bind _=_;rw [e2];exact e4
theorem zhb (xs:List D) (R:Nat->List D->Lo->Sto->Prop) (him:im l S=some (it,xs.length+1,S1)) (h0:R 0 [] (zas ixs l) S1) (hit:∀i acc l S,R i acc l S->it i S=some xs[i]?)
  (step:∀(i:Nat) x acc l S,xs[i]?=some x->R i acc l S->Wg (g x l S) λl1 S1=>Wt t l1 S1 λb S2=>if b=true then We e l1 S2 λv S3=>R (i+1) (acc++[v]) l1 S3 else R (i+1) acc l1 S2)
  (fin:∀acc l' S',R xs.length acc l' S'->acc.length<=sizeLine/\Q (.ref S'.length) (S'++[.lst acc])):We (zbv im ixs g t e) l S Q:=by
 obtain ⟨rest,S',l',h1,h2⟩:=zjc (it:=it) (g:=g) (t:=t) (e:=e) xs R hit step xs.length 0 [] (zas ixs l) S1 rfl h0;obtain ⟨hz,q⟩:=fin rest l' S' h2;refine ⟨_,_,?_,q⟩;unfold zbv;rw [him];show (zb2 it g t e (xs.length+1) 0 (zas ixs l) S1).bind _=_;rw [h1];show (if _ then _ else _)=_;rw [if_pos hz]
theorem yft (xs:List D) (F:D->D) (P:Sto->Prop) (L:Lo->Prop) (him:im l S=some (it,xs.length+1,S1)) (h0:P S1) (l0:L (zas ixs l)) (hit:∀i S,P S->it i S=some xs[i]?) (hz:xs.length<=sizeLine)
  (step:∀x l S,x∈xs->L l->P S->Wg (g x l S) λl1 S2=>P S2/\L l1/\We e l1 S2 λv S3=>v=F x/\P S3)
  (fin:∀S',P S'->Q (.ref S'.length) (S'++[.lst (xs.map F)])):We (zbv im ixs g za6 e) l S Q:=by
 refine zhb xs (λi acc l S=>acc=(xs.take i).map F/\L l/\P S) him ⟨rfl,l0,h0⟩ (λi acc l S h=>hit i S h.2.2) ?_ ?_
 ·rintro i x acc l S hx ⟨rfl,hl,hp⟩;obtain ⟨l1,S2,e1,p1,q1,v,S3,e2,rfl,p3⟩:=step x l S (qmg hx) hl hp;refine ⟨l1,S2,e1,?_⟩;dsimp only;rw [zgt,if_pos rfl];refine ⟨_,S3,e2,?_,q1,p3⟩;rw [List.take_add_one,hx];simp
 ·rintro acc l' S' ⟨rfl,hl,hp⟩;rw [List.take_length];exact ⟨by rw [qlm];exact hz,fin S' hp⟩
theorem zhc (xs:List D) (F:D->Option D) (P:Sto->Prop) (L:Lo->Prop) (him:im l S=some (it,xs.length+1,S1)) (h0:P S1) (l0:L (zas ixs l)) (hit:∀i S,P S->it i S=some xs[i]?) (hz:xs.length<=sizeLine)
  (step:∀x l S,x∈xs->L l->P S->Wg (g x l S) λl1 S2=>L l1/\Wt t l1 S2 λb S3=>P S3/\(b=false->F x=none)/\(b=true->We e l1 S3 λv S4=>F x=some v/\P S4))
  (fin:∀S',P S'->Q (.ref S'.length) (S'++[.lst (xs.filterMap F)])):We (zbv im ixs g t e) l S Q:=by
 refine zhb xs (λi acc l S=>acc=(xs.take i).filterMap F/\L l/\P S) him ⟨rfl,l0,h0⟩ (λi acc l S h=>hit i S h.2.2) ?_ ?_
 ·rintro i x acc l S hx ⟨rfl,hl,hp⟩;obtain ⟨l1,S2,e1,q1,b,S3,e2,p3,hf,ht⟩:=step x l S (qmg hx) hl hp;refine ⟨l1,S2,e1,b,S3,e2,?_⟩;have et:xs.take (i+1)=xs.take i++[x]:=by rw [List.take_add_one,hx];rfl
  cases b with
  |true=>obtain ⟨v,S4,e4,hv,p4⟩:=ht rfl;dsimp only;rw [if_pos rfl];refine ⟨v,S4,e4,?_,q1,p4⟩;rw [et,List.filterMap_append];simp [hv]
  |false=>dsimp only;rw [if_neg Bool.false_ne_true];refine ⟨?_,q1,p3⟩;rw [et,List.filterMap_append];simp [hf rfl]
 ·rintro acc l' S' ⟨rfl,hl,hp⟩;rw [List.take_length];exact ⟨Nat.le_trans (List.length_filterMap_le _ _) hz,fin S' hp⟩
theorem yfu (xs:List D) (V:D->Prop) (P:Nat->Sto->Prop) (L:Lo->Prop) (him:im l S=some (it,xs.length+1,S1)) (h0:P 0 S1) (l0:L (zas ixs l)) (hit:∀i S,P i S->it i S=some xs[i]?) (hz:xs.length<=sizeLine)
  (step:∀(i:Nat) x l S,xs[i]?=some x->L l->P i S->Wg (g x l S) λl1 S2=>L l1/\We e l1 S2 λv S3=>V v/\P (i+1) S3)
  (fin:∀vs S',vs.length=xs.length->(∀v∈vs,V v)->P xs.length S'->Q (.ref S'.length) (S'++[.lst vs])):We (zbv im ixs g za6 e) l S Q:=by
 refine zhb xs (λi acc l S=>acc.length=i/\(∀v∈acc,V v)/\L l/\P i S) him ⟨rfl,(λv hv=>by cases hv),l0,h0⟩ (λi acc l S h=>hit i S h.2.2.2) ?_ ?_
 ·rintro i x acc l S hx ⟨hl,hv,hL,hp⟩;obtain ⟨l1,S2,e1,q1,v,S3,e2,hv2,p3⟩:=step i x l S hx hL hp;refine ⟨l1,S2,e1,?_⟩;dsimp only;rw [zgt,if_pos rfl];refine ⟨v,S3,e2,by simp [hl],λu hu=>?_,q1,p3⟩;rcases List.mem_append.mp hu with hu|hu
  ·exact hv u hu
  ·rw [List.mem_singleton.mp hu];exact hv2
 ·rintro acc l' S' ⟨hl,hv,hL,hp⟩;exact ⟨by rw [hl];exact hz,fin acc S' hl hv hp⟩
end
theorem yfv (h:as l S=some ([.int j],S1)) (hz:-(2^62)<=j/\j<2^62):za5 as l S=some ((0,j.toNat),S1):=by unfold za5;rw [h];simp only [Option.bind_some];rw [if_pos hz]
theorem zhd (h:as l S=some ([.int (n:Int)],S1)) (hn:n<1000000000):zc2 (za5 as) l S=some (itX (zal 0 n),(zal 0 n).length+1,S1):=by have:=yfv h ⟨by omega,by omega⟩;unfold zc2;rw [this];simp only [Option.bind_some,Int.toNat_natCast,zdt]
noncomputable def enl (xs:List D):List D:=xs.mapIdx λi x=>.tup [.int i,x]
theorem zq4 (xs:List D):(enl xs).length=xs.length:=by simp [enl]
theorem zq5 (xs:List D) (i:Nat):(enl xs)[i]?=(xs[i]?).map λx=>.tup [.int i,x]:=by simp [enl,List.getElem?_mapIdx]
theorem zl2 (h:e l S=some (.tup xs,S1)):zcm e l S=some (itX xs,xs.length+1,S1):=by unfold zcm;rw [h];rfl
theorem zl3 (h:e l S=some (.ref n,S1)) (hn:lstOf S1 n=some xs):zcm e l S=some (itL n,xs.length+1,S1):=by unfold zcm;rw [h];show (lstOf S1 n).bind _=_;rw [hn];rfl
theorem zjd (hn:lstOf S n=some xs):itL n i S=some xs[i]?:=by unfold itL;rw [hn];rfl
section
theorem zl4 (P:Nat->Lo->Sto->Prop) (O:D->Sto->Prop):∀(xs:List D) (k:Nat) (l:Lo) (S:Sto),P k l S ->
  (∀(i:Nat) x l S,xs[i]?=some x->P (k+i) l S->Wg (g x l S) λl1 S1=>Ws b l1 S1 λf l2 S2=>((f=.nx\/f=.ct)/\P (k+i+1) l2 S2)\/∃d,f=.rt d/\O d S2) ->
  Wr (zcx g b xs l S) λf l' S'=>(f=.nx/\P (k+xs.length) l' S')\/∃d,f=.rt d/\O d S'
 |[],k,l,S,h0,_=>⟨_,_,_,rfl,.inl ⟨rfl,h0⟩⟩
 |x::xs,k,l,S,h0,hs=>by
  obtain ⟨l1,S1,e1,f,l2,S2,e2,q⟩:=hs 0 x l S rfl h0;rcases q with ⟨hf,h1⟩|⟨d,rfl,hd⟩
  ·have ih:=zl4 P O xs (k+1) l2 S2 h1 λi y l S hy hp=>(by have:=hs (i+1) y l S (by simpa using hy) (by rw [show k+(i+1)=k+1+i by omega];exact hp);rw [show k+(i+1)+1=k+1+i+1 by omega] at this;exact this);obtain ⟨f',l',S',e3,q1⟩:=ih;refine ⟨f',l',S',?_,by rw [List.length_cons,show k+(xs.length+1)=k+1+xs.length by omega];exact q1⟩;unfold zcx;rw [e1];show (b l1 S1).bind _=_;rw [e2];rcases hf with rfl|rfl<;>exact e3
  ·refine ⟨_,l2,S2,?_,.inr ⟨d,rfl,hd⟩⟩;unfold zcx;rw [e1];show (b l1 S1).bind _=_;rw [e2];rfl
theorem zfv (P:Nat->Lo->Sto->Prop) (O:D->Sto->Prop) (h:as l S=some ([.int (n:Int)],S1)) (hn:n<1000000000) (h0:P 0 l S1)
  (step:∀(i:Nat) l S,i<n->P i l S->Wg (g (.int i) l S) λl1 S1=>Ws b l1 S1 λf l2 S2=>((f=.nx\/f=.ct)/\P (i+1) l2 S2)\/∃d,f=.rt d/\O d S2)
  (fin:∀l' S',P n l' S'->QS .nx l' S') (out:∀d l' S',O d S'->QS (.rt d) l' S'):Ws (zca (za5 as) g b) l S QS:=by
 rw [ya8];refine ⟨_,_,h,(n:Int),rfl,⟨by omega,by omega⟩,?_⟩;rw [Int.toNat_natCast];refine (zl4 P O (zal 0 n) 0 l S1 h0 ?_).mono ?_
 ·intro i x l S hx hp;obtain ⟨hi,rfl⟩:=zis hx;rw [Nat.zero_add] at hp;have:=step i l S hi hp;rw [Int.zero_add,Nat.zero_add];exact this
 ·rintro f l' S' (⟨rfl,hp⟩|⟨d,rfl,hd⟩)
  ·rw [zdt,Nat.zero_add] at hp;exact fin l' S' hp
  ·exact out d l' S' hd
end
section
theorem ze2:Wo (za8 (.int i) (.int j) S) Q=Q (.int (i+j)) S:=zbd
theorem zje:Wo (za8 (.tup xs) (.tup ys) S) Q=(xs.length+ys.length<=sizeLine/\Q (.tup (xs++ys)) S):=zec
theorem yfw (h1:S[n]?=some (.lst xs)) (h2:S[m]?=some (.lst ys)):Wo (za8 (.ref n) (.ref m) S) Q=(xs.length+ys.length<=sizeLine/\Q (.ref S.length) (S++[.lst (xs++ys)])):=by show Wo (match S[n]?,S[m]? with|some (.lst xs),some (.lst ys)=>if xs.length+ys.length<=sizeLine then some (.ref S.length,S++[.lst (xs++ys)]) else none|_,_=>none) Q=_;rw [h1,h2];exact zec
def Wp (o:OM) (l:Lo) (S:Sto) (Q:Option Int->Sto->Prop):Prop:=∃v S',o l S=some (v,S')/\Q v S'
theorem zhe {Q:Option Int->Sto->Prop}:Wp zdr l S Q=Q none S:=by apply propext;exact ⟨λhx1_=>by obtain ⟨v,S',h,q⟩:=hx1_;cases h;exact q,λq=>⟨_,_,rfl,q⟩⟩
theorem zhf {Q:Option Int->Sto->Prop}:Wp (zdd e) l S Q=We e l S λx S1=>∃i,x=.int i/\Q (some i) S1:=by
 apply propext;constructor
 ·rintro ⟨v,S',h,q⟩;obtain ⟨⟨x,S1⟩,h1,h⟩:=bnd h;refine ⟨x,S1,h1,?_⟩;cases x with
  |int i=>cases h;exact ⟨i,rfl,q⟩
  |_=>cases h
 ·rintro ⟨x,S1,h1,i,rfl,q⟩;exact ⟨_,S1,by unfold zdd;rw [h1];rfl,q⟩
theorem zhg {b:Int}{p:Int->Prop}:(∃k,D.int b=D.int k/\p k)=p b:=by
 apply propext;constructor
 ·rintro ⟨d,h,q⟩;cases h;exact q
 ·exact λq=>⟨b,rfl,q⟩
noncomputable def slA (x:D) (a b:Option Int) (S:Sto):Option (D×Sto):=match x with
 | .tup xs=>some (.tup (zbj xs a b),S)
 | .ref n=>(lstOf S n).bind λxs=>some (.ref S.length,S++[.lst (zbj xs a b)])
 | .str z=>if z.length<=sizeLine then some (.str (Txt.slice z a b),S) else none
 |_=>none
theorem zhh {m:EM}{lo hi:OM}:We (zdh m lo hi) l S Q=We m l S λx S1=>Wp lo l S1 λa S2=>Wp hi l S2 λb S3=>Wo (slA x a b S3) Q:=by
 apply propext;constructor
 ·rintro ⟨v,S',h,q⟩;obtain ⟨⟨x,S1⟩,h1,h⟩:=bnd h;obtain ⟨⟨a,S2⟩,h2,h⟩:=bnd h;obtain ⟨⟨b,S3⟩,h3,h⟩:=bnd h;exact ⟨x,S1,h1,a,S2,h2,b,S3,h3,v,S',h,q⟩
 ·rintro ⟨x,S1,h1,a,S2,h2,b,S3,h3,v,S',h,q⟩;refine ⟨v,S',?_,q⟩;unfold zdh;rw [h1];show (lo l S1).bind _=_;rw [h2];show (hi l S2).bind _=_;rw [h3];exact h
theorem zl5:Wo (slA (.tup xs) a b S) Q=Q (.tup (zbj xs a b)) S:=zbd
theorem zl6 (h:lstOf S n=some xs):Wo (slA (.ref n) a b S) Q=Q (.ref S.length) (S++[.lst (zbj xs a b)]):=by show Wo ((lstOf S n).bind λxs=>some (.ref S.length,S++[.lst (zbj xs a b)])) Q=_;rw [h];exact zbd
theorem yfx (xs:List D) (k:Nat):zbj xs none (some (k:Int))=xs.take k:=by
 unfold zbj;rw [HT.sIx_none,HT.sIx_nat,List.drop_zero,Nat.sub_zero];by_cases h:k<=xs.length
 ·rw [Nat.min_eq_left h]
 ·rw [Nat.min_eq_right (by omega),List.take_length,List.take_of_length_le (by omega)]
theorem yfy (xs:List D) (k:Nat):zbj xs (some (k:Int)) none=xs.drop k:=by
 unfold zbj;rw [HT.sIx_none,HT.sIx_nat];by_cases h:k<=xs.length
 ·rw [Nat.min_eq_left h,List.take_of_length_le (by rw [List.length_drop];exact qlr _)]
 ·rw [Nat.min_eq_right (by omega),Nat.sub_self,List.take_zero,List.drop_eq_nil_of_le (by omega)]
end
section
theorem zq6 (xs:List D) (P:Nat->Lo->Sto->Prop) (O:D->Sto->Prop) (hit:∀i l S,P i l S->it i S=some xs[i]?)
  (step:∀(i:Nat) x l S,xs[i]?=some x->P i l S->Wg (g x l S) λl1 S1=>Ws b l1 S1 λf l2 S2=>((f=.nx\/f=.ct)/\P (i+1) l2 S2)\/∃d,f=.rt d/\O d S2) :
  ∀(n i:Nat) (l:Lo) (S:Sto),n+i=xs.length->P i l S->Wr (zc4 it g b (n+1) i l S) λf l' S'=>(f=.nx/\P xs.length l' S')\/∃d,f=.rt d/\O d S'
 |0,i,l,S,hn,h=>by
  have hi:i=xs.length:=by omega
  have e0:=hit i l S h;rw [List.getElem?_eq_none_iff.mpr (by omega)] at e0;refine ⟨.nx,l,S,?_,.inl ⟨rfl,by rw [<-hi];exact h⟩⟩;unfold zc4;rw [e0];rfl
 |n+1,i,l,S,hn,h=>by
  have hi:i<xs.length:=by omega
  have e0:=hit i l S h;rw [qge hi] at e0;obtain ⟨l1,S1,e1,f,l2,S2,e2,q⟩:=step i _ l S (qge hi) h;rcases q with ⟨hf,h1⟩|⟨d,rfl,hd⟩
  ·obtain ⟨f',l',S',e3,q1⟩:=zq6 xs P O hit step n (i+1) l2 S2 (by omega) h1;refine ⟨f',l',S',?_,q1⟩;unfold zc4;rw [e0];show (g _ l S).bind _=_;rw [e1];show (b l1 S1).bind _=_;rw [e2];rcases hf with rfl|rfl<;>exact e3
  ·refine ⟨_,l2,S2,?_,.inr ⟨d,rfl,hd⟩⟩;unfold zc4;rw [e0];show (g _ l S).bind _=_;rw [e1];show (b l1 S1).bind _=_;rw [e2];rfl
theorem zq7 (xs:List D) (P:Nat->Lo->Sto->Prop) (O:D->Sto->Prop) (him:im l S=some (it,xs.length+1,S1)) (h0:P 0 l S1) (hit:∀i l S,P i l S->it i S=some xs[i]?)
  (step:∀(i:Nat) x l S,xs[i]?=some x->P i l S->Wg (g x l S) λl1 S1=>Ws b l1 S1 λf l2 S2=>((f=.nx\/f=.ct)/\P (i+1) l2 S2)\/∃d,f=.rt d/\O d S2)
  (fin:∀l' S',P xs.length l' S'->QS .nx l' S') (out:∀d l' S',O d S'->QS (.rt d) l' S'):Ws (zgx im g b) l S QS:=by
 obtain ⟨f,l',S',e,q⟩:=zq6 (it:=it) (g:=g) (b:=b) xs P O hit step xs.length 0 l S1 rfl h0;refine ⟨f,l',S',by unfold zgx;rw [him];exact e,?_⟩;rcases q with ⟨rfl,h⟩|⟨d,rfl,h⟩
 ·exact fin l' S' h
 ·exact out d l' S' h
theorem zq8 (xs:List D) (P:Nat->Lo->Sto->Prop) (O:D->Sto->Prop) (hit:∀i l S,P i l S->lstOf S n=some xs)
  (step:∀(i:Nat) x l S,xs[i]?=some x->P i l S->Wg (g x l S) λl1 S1=>Ws b l1 S1 λf l2 S2=>((f=.nx\/f=.ct)/\P (i+1) l2 S2)\/∃d,f=.rt d/\O d S2) :
  ∀(k i:Nat) (l:Lo) (S:Sto),k+i=xs.length->P i l S->Wr (zcy g b n (k+1) i l S) λf l' S'=>(f=.nx/\P xs.length l' S')\/∃d,f=.rt d/\O d S'
 |0,i,l,S,hn,h=>by
  have hi:i=xs.length:=by omega
  refine ⟨.nx,l,S,?_,.inl ⟨rfl,by rw [<-hi];exact h⟩⟩;unfold zcy;rw [hit i l S h];simp only [Option.bind_some];rw [List.getElem?_eq_none_iff.mpr (by omega)]
 |k+1,i,l,S,hn,h=>by
  have hi:i<xs.length:=by omega
  obtain ⟨l1,S1,e1,f,l2,S2,e2,q⟩:=step i _ l S (qge hi) h;rcases q with ⟨hf,h1⟩|⟨d,rfl,hd⟩
  ·obtain ⟨f',l',S',e3,q1⟩:=zq8 xs P O hit step k (i+1) l2 S2 (by omega) h1;refine ⟨f',l',S',?_,q1⟩;unfold zcy;rw [hit i l S h];simp only [Option.bind_some];rw [qge hi];show (g _ l S).bind _=_;rw [e1];show (b l1 S1).bind _=_;rw [e2];rcases hf with rfl|rfl<;>exact e3
  ·refine ⟨_,l2,S2,?_,.inr ⟨d,rfl,hd⟩⟩;unfold zcy;rw [hit i l S h];simp only [Option.bind_some];rw [qge hi];show (g _ l S).bind _=_;rw [e1];show (b l1 S1).bind _=_;rw [e2];rfl
theorem zl7 (xs:List D) (P:Nat->Lo->Sto->Prop) (O:D->Sto->Prop) (he:e l S=some (.ref n,S1)) (h0:P 0 l S1) (hit:∀i l S,P i l S->lstOf S n=some xs)
  (step:∀(i:Nat) x l S,xs[i]?=some x->P i l S->Wg (g x l S) λl1 S1=>Ws b l1 S1 λf l2 S2=>((f=.nx\/f=.ct)/\P (i+1) l2 S2)\/∃d,f=.rt d/\O d S2)
  (fin:∀l' S',P xs.length l' S'->QS .nx l' S') (out:∀d l' S',O d S'->QS (.rt d) l' S'):Ws (zea e g b) l S QS:=by
 rw [ya9];refine ⟨_,_,he,?_⟩;simp only;rw [hit 0 l S1 h0];simp only [Option.bind_some];refine (zq8 xs P O hit step xs.length 0 l S1 rfl h0).mono ?_;rintro f l' S' (⟨rfl,hp⟩|⟨d,rfl,hd⟩)
 ·exact fin l' S' hp
 ·exact out d l' S' hd
end
theorem yfz (h:n<1000000):((n:Nat):Int).natAbs.log2<1920:=by
 by_cases hz:n=0
 ·subst hz;decide
 ·have h1:((n:Nat):Int).natAbs=n:=by omega
  rw [h1];have h2:n.log2<20:=(Nat.log2_lt hz).mpr (Nat.lt_of_lt_of_le h '$');omega
section
theorem zq9:We zll l S Q=Q (.ref S.length) (S++[.tdct []]):=by apply propext;exact ⟨λhx2_=>by obtain ⟨v,S',h,q⟩:=hx2_;cases h;exact q,λq=>⟨_,_,rfl,q⟩⟩
theorem zra:Wo (zex neg y x S) Q=∃o,dRd S x y=some o/\Q (.bl (if neg then !o.isSome else o.isSome)) S:=by unfold zex;rw [zev];simp only [zbd]
theorem zl8:Wg (zg5 o i v l S) QG=We o l S λx S1=>We i l S1 λy S2=>∃S',zey x y v S2=some S'/\QG l S':=by
 apply propext;constructor
 ·rintro ⟨l',S',h,q⟩;obtain ⟨⟨x,S1⟩,h1,h⟩:=bnd h;obtain ⟨⟨y,S2⟩,h2,h⟩:=bnd h;obtain ⟨S3,h3,h⟩:=bnd h;cases h;exact ⟨x,S1,h1,y,S2,h2,_,h3,q⟩
 ·rintro ⟨x,S1,h1,y,S2,h2,S3,h3,q⟩;refine ⟨l,S3,?_,q⟩;unfold zg5;rw [h1];show (i l S1).bind _=_;rw [h2];show (zey x y v S2).bind _=_;rw [h3];rfl
theorem yf0 (h:S[n]?=some (.tdct kvs)) (hk:zcp y=some k) (hz:kvs.length<sizeLine):zey (.ref n) y v S=some (S.set n (.tdct (zbz kvs k v))):=by unfold zey;dsimp only;rw [h];dsimp only;rw [hk];show (if _ then _ else _)=_;rw [if_pos hz]
theorem zl9 (h:S[n]?=some (.tdct kvs)) (hk:zcp y=some k):dRd S (.ref n) y=some (zat kvs k):=by unfold dRd;dsimp only;rw [h];dsimp only;rw [hk];rfl
theorem zma (h:S[n]?=some (.tdct kvs)):isDc S (.ref n)=some ():=by unfold isDc;dsimp only;rw [h]
end
theorem zrb (I:Nat->Lo->Sto->Prop) (O:D->Sto->Prop) (Q:Lo->Sto->Prop)
  (step:∀m l S,I m l S->Wt c l S λk S1=>if k=true then Ws b l S1 λf l2 S2=>((f=.nx\/f=.ct)/\∃m',m'<m/\I m' l2 S2)\/∃d,f=.rt d/\O d S2 else Q l S1) :
  ∀(fuel m:Nat),m<fuel->∀l S,I m l S->Wr (whl c b fuel l S) λf l' S'=>(f=.nx/\Q l' S')\/∃d,f=.rt d/\O d S'
 |0,m,h,_,_,_=>absurd h (Nat.not_lt_zero _)
 | fuel+1,m,h,l,S,hi=>by
  obtain ⟨k,S1,e1,h1⟩:=step m l S hi;cases k with
  |false=>exact ⟨.nx,l,S1,by unfold whl;rw [e1];rfl,.inl ⟨rfl,h1⟩⟩
  |true=>
   have h1:Ws b l S1 λf l2 S2=>((f=.nx\/f=.ct)/\∃m',m'<m/\I m' l2 S2)\/∃d,f=.rt d/\O d S2:=h1;obtain ⟨f,l2,S2,e2,q⟩:=h1;rcases q with ⟨hf,m',hm,hi2⟩|⟨d,rfl,hd⟩
   ·obtain ⟨f',l',S',e3,q⟩:=zrb I O Q step fuel m' (by omega) l2 S2 hi2;refine ⟨f',l',S',?_,q⟩;unfold whl;rw [e1];show (b l S1).bind _=_;rw [e2];rcases hf with rfl|rfl<;>exact e3
   ·refine ⟨_,l2,S2,?_,.inr ⟨d,rfl,hd⟩⟩;unfold whl;rw [e1];show (b l S1).bind _=_;rw [e2];rfl
theorem zmb (I:Nat->Lo->Sto->Prop) (O:D->Sto->Prop) (Q:Lo->Sto->Prop) (m:Nat) (hm:m<1000000) (h0:I m l S)
  (step:∀m l S,I m l S->Wt c l S λk S1=>if k=true then Ws b l S1 λf l2 S2=>((f=.nx\/f=.ct)/\∃m',m'<m/\I m' l2 S2)\/∃d,f=.rt d/\O d S2 else Q l S1)
  (fin:∀l' S',Q l' S'->QS .nx l' S') (out:∀d l' S',O d S'->QS (.rt d) l' S'):Ws (whl c b zef) l S QS:=by
 refine Wr.mono (zrb I O Q step zef m hm l S h0) ?_;rintro f l' S' (⟨rfl,h⟩|⟨d,rfl,h⟩)
 ·exact fin l' S' h
 ·exact out d l' S' h
theorem zav (h1:Ws m l S λf l1 S1=>f=.nx/\l1=l'/\S1=S') (h2:Ws n l' S' QS):Ws (zaf m n) l S QS:=by rw [zio];obtain ⟨f,l1,S1,e,rfl,rfl,rfl⟩:=h1;exact ⟨_,_,_,e,h2⟩
theorem zc6 (R:Lo->Sto->Prop) (O:D->Sto->Prop) (h1:Ws m l S λf l1 S1=>(f=.nx/\R l1 S1)\/∃d,f=.rt d/\O d S1) (h2:∀l1 S1,R l1 S1->Ws n l1 S1 QS) (h3:∀d l1 S1,O d S1->QS (.rt d) l1 S1):Ws (zaf m n) l S QS:=by
 rw [zio];obtain ⟨f,l1,S1,e,q⟩:=h1;rcases q with ⟨rfl,r⟩|⟨d,rfl,o⟩
 ·exact ⟨_,_,_,e,h2 l1 S1 r⟩
 ·exact ⟨_,_,_,e,h3 d l1 S1 o⟩
theorem Gr.len (h:Gr A B):A.length<=B.length:=by obtain ⟨x,rfl⟩:=h;rw [qla];omega
theorem Gr.set (h:Gr A B) (hr:A.length<=r) (o:Ob):Gr A (B.set r o):=by obtain ⟨x,rfl⟩:=h;exact ⟨x.set (r-A.length) o,by rw [List.set_append_right _ _ hr]⟩
theorem zhi (h:S[n]?=some (.lst xs)):lstOf S n=some xs:=by unfold lstOf;rw [h]
theorem zbe {S:Sto}{o:Ob}:(S++[o])[S.length]?=some o:=zd6 S o
theorem za2 {n:Nat}{o o':Ob}(h:S[n]?=some o):(S++[o'])[n]?=some o:=by rw [List.getElem?_append_left (qme h).1];exact h
theorem zfw {S:Sto}{n:Nat}{o o':Ob}(h:S[n]?=some o):(S.set n o')[n]?=some o':=List.getElem?_set_self (qme h).1
theorem zb4 {S:Sto}{n m:Nat}{o o':Ob}(h:S[m]?=some o) (hn:n≠m):(S.set n o')[m]?=some o:=by rw [List.getElem?_set_ne hn];exact h
theorem zhj (h:S[n]?=some (.lst xs)) (hz:xs.length<sizeLine):Wo (zb6 (.ref n) [x] S) Q=Q .non (S.set n (.lst (xs++[x]))):=by
 rw [ya7,h];apply propext;constructor
 ·rintro ⟨ys,e,_,q⟩;cases e;exact q
 ·exact λq=>⟨xs,rfl,hz,q⟩
theorem zfx (h:S[n]?=some (.lst xs)):zfj (.ref n) S=some xs:=zhi h
section
theorem yf1 {α:Type}{im:IM}{it:ItM}{ixs:List (Option Nat)}{g:GM}{e:EM}(ys:List α) (f h:α->D) (P:Sto->Prop) (L:Lo->Prop) (him:im l S=some (it,(ys.map f).length+1,S1)) (h0:P S1) (l0:L (zas ixs l)) (hit:∀i S,P S->it i S=some (ys.map f)[i]?) (hz:ys.length<=sizeLine)
  (step:∀y l S,y∈ys->L l->P S->Wg (g (f y) l S) λl1 S2=>L l1/\We e l1 S2 λv S3=>v=h y/\P S3)
  (fin:∀S',P S'->Q (.ref S'.length) (S'++[.lst (ys.map h)])):We (zbv im ixs g za6 e) l S Q:=by
 refine zhb (ys.map f) (λi acc l S=>acc=(ys.take i).map h/\L l/\P S) him ⟨rfl,l0,h0⟩ (λi acc l S h=>hit i S h.2.2) ?_ ?_
 ·rintro i x acc l S hx ⟨rfl,hl,hp⟩;rw [qgm] at hx;obtain ⟨y,hy,rfl⟩:=Option.map_eq_some_iff.mp hx;obtain ⟨l1,S2,e1,q1,v,S3,e2,rfl,p3⟩:=step y l S (qmg hy) hl hp;refine ⟨l1,S2,e1,?_⟩;dsimp only;rw [zgt,if_pos rfl];refine ⟨_,S3,e2,?_,q1,p3⟩;rw [List.take_add_one,hy];simp
 ·rintro acc l' S' ⟨rfl,hl,hp⟩;have e:ys.take (ys.map f).length=ys:=by rw [qlm,List.take_length]
  rw [e];exact ⟨by rw [qlm];exact hz,fin S' hp⟩
end
end L3
section
namespace G
open PySem PySem.Spec PyProof.Rows L2 L3
noncomputable abbrev bd:List Stmt:=PySem.Challenge.pw_opencells_k11_greatest_lots.main.body
noncomputable def zrc:SM:=zaf (sIf (zd7 (zcf (tE (eUn (zde "list") (zaa 0)))) (tE (eOp zfn (zaa 0) (zaa 1)))) (zaw (eC (.bl false))) (zbh)) (zaf (zea (zaa 0) (zae 2) (sIf (zd7 (zcf (tE (eUn (zde "tuple") (zaa 2)))) (tE (eOp zgw (zbv (zcm (zaa 2)) [none] (zae 0) (zd7 (zcf (tE (eUn (zde "int") (zaa 0)))) (tE (eUn (zde "bool") (zaa 0)))) (eC (.int 1))) (zad zbr (zac))))) (zaw (eC (.bl false))) (zbh))) (zaw (eC (.bl true))))
noncomputable def zhk:FM:=zbc 3 zrc
noncomputable def zrd:SM:=zaw (zbv (zcm (zaa 2)) [none,some 1,some 0] (zae 0) (tE (eOp (zex true) (zad zba (zab (zad zgo (zab (zaa 1) (zab (zaa 0) (zac)))) (zab (zad zgp (zab (zaa 1) (zab (zaa 0) (zac)))) (zac)))) (zaa 2))) (zaa 0))
noncomputable def zhl:FM:=zbc 3 zrd
noncomputable def zmc (rec:FM):SM:=zaf (sIf (zb9 (zcf (tL (zaa 2))) (zcf (tL (zaa 3)))) (zaw (zad zbr (zab (zaa 1) (zac)))) (zbh)) (zaf (zai (zad zbr (zac)) (zae 4)) (zaf (zgx (zi3 (zab (zaa 2) (zac))) (zd9 2 (zci (zae 5) (zci (zae 6) (zd8)))) (zaf (zai (zad zhl (zab (zaa 0) (zab (zaa 6) (zab (zdh (zaa 2) (zdd (eOp za8 (zaa 5) (eC (.int 1)))) (zdr)) (zac))))) (zae 7)) (zaf (zai (zad zhl (zab (zaa 0) (zab (zaa 6) (zab (eOp za8 (zaa 3) (zdh (zaa 2) (zdr) (zdd (zaa 5)))) (zac))))) (zae 8)) (zai (eOp zfu (zaa 4) (zad rec (zab (zaa 0) (zab (eOp za8 (zaa 1) (zad zba (zab (zaa 6) (zac)))) (zab (zaa 7) (zab (zaa 8) (zac))))))) (zae 4))))) (zaw (zaa 4))))
noncomputable def zhm (n:Nat):FM:=Nat.rec (motive:=λ_=>FM) (zbc 9 zgq) (λ_ r=>zbc 9 (zmc r)) n
noncomputable def zre:SM:=zaf (zai (zad zb3 (zab (eOp zag (zaa 0) (eC (.int 1))) (zac))) (zae 1)) (zaw (zja (zc2 (za5 (zab (zaa 1) (zac)))) [none,none,some 1] (zae 0) (za6) (zc1 (zab (eOp za8 (zaa 0) (eC (.int 1))) (zab (zaa 2) (zac)))) (zae 1) (za6) (zad zba (zab (zaa 0) (zab (zaa 1) (zac))))))
noncomputable def zd1:FM:=zbc 2 zre
noncomputable def zrf:SM:=zaf (zai (zaa 0) (zd9 2 (zci (zae 1) (zci (zae 2) (zd8))))) (zaf (zai (zll) (zae 3)) (zaf (zea (zad zd1 (zab (zaa 0) (zac))) (zd9 2 (zci (zae 4) (zci (zae 5) (zd8)))) (zca (za5 (zab (zaa 1) (zac))) (zae 6) (zaf (zai (zad zba (zab (eOp zag (eOp zag (eOp zag (zaa 2) (zaa 4)) (zaa 6)) (eC (.int 0))) (zab (eOp zag (eOp zag (eOp zag (zaa 2) (zaa 5)) (zaa 6)) (eC (.int 0))) (zac)))) (zae 7)) (sIf (tE (eOp (dIn true) (eC .non) (zaa 7))) (zaf (zai (zad zba (zab (zad zg7 (zab (zaa 7) (zac))) (zab (zad zg8 (zab (zaa 7) (zac))) (zac)))) (zae 8)) (zch (zbu zb6 (ze0 (zaa 3) (zaa 8) (zad zbr (zac))) (zab (zad zba (zab (zaa 4) (zab (zaa 5) (zac)))) zac)))) (zbh))))) (zaw (zaa 3))))
noncomputable def zjf:FM:=zbc 9 zrf
noncomputable def zrg:SM:=zaw (zeq (eOp zfh (zaa 0) (eC .non)) (zeq (eOp zfh (zaa 1) (eC .non)) (eOp dNe (zaa 0) (zaa 1))))
noncomputable def zhn:FM:=zbc 2 zrg
noncomputable def zrh:SM:=zaw (zad zhn (zab (eOp zag (zaa 0) (eC (.int 1))) (zab (eOp zag (zaa 1) (eC (.int 1))) (zac))))
noncomputable def zfy:FM:=zbc 2 zrh
noncomputable def zri:SM:=zaf (zai (zaa 0) (zd9 2 (zci (zae 1) (zci (zae 2) (zd8))))) (zaw (zbv (zcm (zad zd1 (zab (zaa 0) (zac)))) [none,none,some 1,some 2] (zd9 2 (zci (zae 0) (zci (zae 1) (zd8)))) (tE (zad zfp (zab (zbv (zc2 (za5 (zab (zaa 2) (zac)))) [none,some 3,some 0,some 1] (zae 0) (za6) (zad zfy (zab (eOp zag (eOp zag (zaa 1) (zaa 2)) (zaa 0)) (zab (eOp zag (eOp zag (zaa 1) (zaa 3)) (zaa 0)) (zac))))) (zac)))) (zad zba (zab (zaa 0) (zab (zaa 1) (zac))))))
noncomputable def zjg:FM:=zbc 3 zri
noncomputable def zrj:SM:=zaf (zai (zad zjg (zab (zaa 0) (zac))) (zae 1)) (zaf (zai (zad zjf (zab (zaa 0) (zac))) (zae 2)) (zaf (zai (zg6 (zcm (zaa 1)) [none] (zae 0) (za6) (zaa 0) (eC (.bl true))) (zae 3)) (zaf (whl (tL (zaa 1)) (zaf (zai (zbu zet (zaa 1) zac) (zae 4)) (zea (zfs (zaa 2) (zaa 4) (zad zbr (zac))) (zae 5) (sIf (tE (eOp (zex true) (zaa 5) (zaa 3))) (zaf (zai (eC (.bl true)) (zg5 (zaa 3) (zaa 5))) (zch (zbu zb6 (zaa 1) (zab (zaa 5) zac)))) (zbh)))) zef) (zaw (zaa 3)))))
noncomputable def zjh:FM:=zbc 6 zrj
noncomputable def zmd:SM:=zaf (zai (zad zb3 (zab (eOp zag (zaa 0) (eC (.int 1))) (zac))) (zae 1)) (zaf (sIf (tE (eOp dGt (zaa 1) (eC (.int 12)))) (zgq) (zbh)) (zaw (zad ze1 (zab (zad (zhm 14) (zab (zad zjh (zab (zaa 0) (zac))) (zab (zad zba (zac)) (zab (ziv (za5 (zab (zaa 1) (zac)))) (zab (zad zbr (zac)) (zac)))))) (zac)))))
noncomputable def zd2:FM:=zbc 2 zmd
noncomputable def zrk:ZM:=zi4 (zai (zad zb3 (zab (eOp zag (zaa 0) (eC (.int 1))) (zac))) (zae 1)) (zIf (tE (eOp dGt (zaa 1) (eC (.int 12)))) (λ_ S=>some ("TooMany",S)) (zlg))
noncomputable def zho:ZF:=zi6 2 zrk
noncomputable def zrl:SM:=zaf (zai (zad zb3 (zab (zaa 0) (zac))) (zae 1)) (zaf (zai (zad zbr (zac)) (zae 2)) (zaf (zca (za5 (zab (zaa 1) (zac))) (zae 3) (zch (zbu zb6 (zaa 2) (zab (zad zfr (zab (zbv (zc2 (za5 (zab (zaa 1) (zac)))) [none,some 0,some 3] (zae 0) (zcf (tE (eOp zag (eOp zag (zaa 1) (zaa 2)) (zaa 0)))) (eOp zeg (eC (.int 1)) (zaa 0))) (zac))) zac)))) (zaf (zai (zad zbr (zab (eOp zkn (eOp zeg (eC (.int 1)) (zaa 1)) (eC (.int 1))) (zac))) (zae 4)) (zaf (zai (zad zbr (zac)) (zae 5)) (zaf (zca (zc1 (zab (eC (.int 1)) (zab (eOp zeg (eC (.int 1)) (zaa 1)) (zac)))) (zae 6) (zaf (zai (eC (.int 0)) (zae 7)) (zaf (whl (tE (eOp dEq (eOp zgy (eOp zi0 (zaa 6) (zaa 7)) (eC (.int 1))) (eC (.int 0)))) (zai (eOp za8 (zaa 7) (eC (.int 1))) (zae 7)) zef) (zaf (zch (zbu zb6 (zaa 4) (zab (eOp zgy (eOp zag (zaa 4) (eOp zkn (zaa 6) (eOp zeg (eC (.int 1)) (zaa 7)))) (eOp zag (zaa 2) (zaa 7))) zac))) (sIf (tE (eOp dEq (eOp zag (zaa 4) (zaa 6)) (zaa 6))) (zch (zbu zb6 (zaa 5) (zab (zad zes (zab (zbv (zc2 (za5 (zab (zaa 1) (zac)))) [none,some 6] (zae 0) (tE (eOp dEq (eOp zgy (eOp zi0 (zaa 1) (zaa 0)) (eC (.int 1))) (eC (.int 1)))) (zaa 0)) (zac))) zac))) (zbh)))))) (zaw (zad ze1 (zab (zaa 5) (zac)))))))))
noncomputable def zji:FM:=zbc 8 zrl
noncomputable def zrm:SM:=zaf (zgx (zjb (zab (zaa 0) (zab (zaa 1) (zac)))) (zd9 2 (zci (zae 3) (zci (zae 4) (zd8)))) (zaf (sIf (zb9 (tE (eOp (dIn true) (eC .non) (zad zba (zab (eOp zag (zaa 3) (eC (.int 1))) (zab (eOp zag (zaa 4) (eC (.int 1))) (zac)))))) (tE (eOp dNe (eOp zag (zaa 3) (eC (.int 1))) (eOp zag (zaa 4) (eC (.int 1)))))) (zaw (eC (.bl true))) (zbh)) (sIf (zb9 (tE (eOp (dIn true) (eC .non) (zad zba (zab (eOp zag (zaa 3) (eC (.int 0))) (zab (eOp zag (zaa 4) (eC (.int 0))) (zac)))))) (tE (eOp zag (eOp zag (zaa 2) (eOp zag (zaa 3) (eC (.int 0)))) (eOp zag (zaa 4) (eC (.int 0)))))) (zaw (eC (.bl true))) (zbh)))) (zaw (eC (.bl false)))
noncomputable def zfz:FM:=zbc 5 zrm
noncomputable def zrn:SM:=zaf (zai (eOp zag (zaa 0) (eC (.int 1))) (zae 1)) (zaf (zai (zbv (zcm (zaa 1)) [none,some 1] (zae 0) (za6) (zbv (zcm (zaa 1)) [none] (zae 0) (za6) (eC (.bl false)))) (zae 2)) (zaf (zai (eC (.bl true)) (zae 3)) (zaf (whl (tE (zaa 3)) (zaf (zai (eC (.bl false)) (zae 3)) (zca (za5 (zab (zad zb3 (zab (zaa 1) (zac))) (zac))) (zae 4) (zca (za5 (zab (zaa 4) (zac))) (zae 5) (sIf (zb9 (zcf (tE (eOp zag (eOp zag (zaa 2) (zaa 4)) (zaa 5)))) (tE (zad zfz (zab (eOp zag (zaa 1) (zaa 4)) (zab (eOp zag (zaa 1) (zaa 5)) (zab (zaa 2) (zac))))))) (zaf (zai (eC (.bl true)) (zcw (eOp zag (zaa 2) (zaa 4)) (zaa 5))) (zaf (zai (eC (.bl true)) (zcw (eOp zag (zaa 2) (zaa 5)) (zaa 4))) (zai (eC (.bl true)) (zae 3)))) (zbh))))) zef) (zaw (zaa 2)))))
noncomputable def zjj:FM:=zbc 6 zrn
noncomputable def zro:SM:=zaf (sIf (tE (eOp dGt (eOp zag (zaa 0) (eC (.int 2))) (eC (.int 0)))) (zaf (zai (eOp zcv (eOp zag (zaa 0) (eC (.int 2))) (zaa 1)) (zae 2)) (zaf (zai (eOp zik (eOp zag (zaa 0) (eC (.int 2))) (zaa 1)) (zcw (zaa 0) (eC (.int 2)))) (zaw (zaa 2)))) (zbh)) (zaf (zai (eOp zag (zaa 0) (eC (.int 1))) (zae 3)) (zaf (zai (eOp za8 (zaa 3) (eC (.int 1))) (zcw (zaa 0) (eC (.int 1)))) (zaf (zai (eOp za8 (eOp zdu (eC (.int 7919)) (zaa 3)) (eC (.int 11))) (zae 4)) (zaf (sIf (tE (eOp dGt (zad zb3 (zab (eOp zag (zaa 0) (eC (.int 0))) (zac))) (eC (.int 0)))) (zai (eOp zag (eOp zag (zaa 0) (eC (.int 0))) (eOp zcv (zaa 3) (zad zb3 (zab (eOp zag (zaa 0) (eC (.int 0))) (zac))))) (zae 4)) (zbh)) (zaf (sIf (zb9 (tE (eOp dLt (zaa 3) (zad zb3 (zab (eOp zag (zaa 0) (eC (.int 0))) (zac))))) (tE (eOp dGe (zad zer (zab (zaa 4) (zac))) (eOp zko (eC (.int 10)) (eC (.int 18)))))) (zaf (zai (eOp zik (zad zer (zab (zaa 4) (zac))) (zaa 1)) (zcw (zaa 0) (eC (.int 2)))) (zaw (eOp zcv (zad zer (zab (zaa 4) (zac))) (zaa 1)))) (zbh)) (zaf (zai (eOp zag (zad zba (zab (eC (.int 2147483647)) (zab (eC (.int 2147483629)) (zab (eC (.int 2147483587)) (zab (eC (.int 2147483579)) (zab (eC (.int 2147483563)) (zac))))))) (eOp zcv (zaa 3) (eC (.int 5)))) (zae 5)) (zaf (zai (eOp zcv (eOp zdu (eOp za8 (eOp zcv (zaa 4) (eC (.int 2147483549))) (eC (.int 1))) (eOp za8 (eOp zdu (zaa 3) (zaa 3)) (eC (.int 48271)))) (zaa 5)) (zae 6)) (zaf (zai (eOp zcv (eOp za8 (eOp za8 (eOp zko (zaa 6) (eC (.int 3))) (eOp zdu (eC (.int 69621)) (zaa 3))) (eC (.int 3))) (eC (.int 2147483543))) (zae 6)) (zaw (eOp zcv (eOp zik (eOp zcv (eOp zdu (zaa 6) (eOp za8 (eOp za8 (eOp zcv (zaa 6) (eC (.int 65521))) (zaa 3)) (eC (.int 5)))) (eC (.int 2147483497))) (eC (.int 64))) (zaa 1)))))))))))
noncomputable def zb1:FM:=zbc 7 zro
noncomputable def zrp:SM:=zaf (zai (eC .non) (zae 5)) (zaf (zai (eC .non) (zae 6)) (zaf (sIf (tE (eOp dGe (zad zb1 (zab (zaa 0) (zab (eC (.int 8)) (zac)))) (zaa 1))) (zai (zad zb1 (zab (zaa 0) (zab (zaa 4) (zac)))) (zae 5)) (zbh)) (zaf (sIf (tE (eOp dGe (zad zb1 (zab (zaa 0) (zab (eC (.int 8)) (zac)))) (zaa 1))) (zai (eOp zcv (eOp za8 (zad zb1 (zab (zaa 0) (zab (zaa 2) (zac)))) (zaa 3)) (eC (.int 8))) (zae 6)) (zbh)) (zaw (zad zba (zab (zaa 5) (zab (zaa 6) (zac))))))))
noncomputable def zjk:FM:=zbc 7 zrp
noncomputable def zrq:SM:=zaf (zai (eOp zag (zad zba (zab (eC (.int 0)) (zab (eC (.int 1)) (zab (eC (.int 3)) (zab (eC (.int 6)) (zac)))))) (zad zb1 (zab (zaa 0) (zab (eC (.int 4)) (zac))))) (zae 3)) (zaf (zai (eOp zag (zad zba (zab (eC (.int 1)) (zab (eC (.int 2)) (zab (eC (.int 2)) (zab (eC (.int 8)) (zac)))))) (zad zb1 (zab (zaa 0) (zab (eC (.int 4)) (zac))))) (zae 4)) (zaf (zai (eOp dEq (zad zb1 (zab (zaa 0) (zab (eC (.int 3)) (zac)))) (eC (.int 0))) (zae 5)) (zaf (zai (zad zb1 (zab (zaa 0) (zab (eC (.int 8)) (zac)))) (zae 6)) (zaf (zai (zad zbr (zac)) (zae 7)) (zaf (zca (za5 (zab (zaa 2) (zac))) (zae 8) (sIf (zb9 (tE (zaa 5)) (zb9 (tE (eOp dGt (zaa 8) (eC (.int 0)))) (tE (eOp dEq (zad zb1 (zab (zaa 0) (zab (eC (.int 2)) (zac)))) (eC (.int 0)))))) (zaf (zai (eOp zag (zaa 7) (zad zb1 (zab (zaa 0) (zab (zaa 8) (zac))))) (zae 9)) (zaf (zai (zad zb1 (zab (zaa 0) (zab (zaa 1) (zac)))) (zae 10)) (zch (zbu zb6 (zaa 7) (zab (eOp za8 (eOp za8 (zdh (zaa 9) (zdr) (zdd (zaa 10))) (zad zba (zab (zad zba (zab (eOp zag (eOp zag (zaa 9) (zaa 10)) (eC (.int 0))) (zab (eC .non) (zac)))) (zac)))) (zdh (zaa 9) (zdd (eOp za8 (zaa 10) (eC (.int 1)))) (zdr))) zac))))) (zch (zbu zb6 (zaa 7) (zab (zad zes (zab (zbv (zc2 (za5 (zab (zaa 1) (zac)))) [none,some 0,some 3,some 4,some 6,some 2] (zae 0) (za6) (zad zjk (zab (zaa 1) (zab (zaa 2) (zab (zaa 3) (zab (zaa 4) (zab (zaa 5) (zac)))))))) (zac))) zac))))) (zaw (zad zba (zab (zaa 1) (zab (zad zes (zab (zaa 7) (zac))) (zac))))))))))
noncomputable def zhp:FM:=zbc 11 zrq
noncomputable def zrr:SM:=zaf (zai (eC .non) (zae 1)) (zaf (zg2 2 (λc=>c == "TooMany") (zch (zad zd2 (zab (zaa 0) (zac)))) (zlh zho (zab (zaa 0) (zac))) (zai (zaa 2) (zae 1))) (zaf (sIf (tE (eUn (zco [("TooMany",false)]) (zaa 1))) (zaw (eC (.bl false))) (zbh)) (zaf (sIf (tE (eUn (zco [("TooMany",false)]) (zaa 1))) (zaw (eC (.bl false))) (zbh)) (zaw (zeq (eUn (zco [("TooMany",true)]) (zaa 1)) (eUn (zco [("TooMany",true)]) (zaa 1)))))))
noncomputable def zjl:FM:=zbc 3 zrr
noncomputable def zrs:SM:=zaw (zad zbr (zab (zdh (zaa 0) (zdr) (zdd (eC (.int 63)))) (zab (eC (.int 0)) (zab (eC (.int 0)) (zac)))))
noncomputable def zme:FM:=zbc 1 zrs
noncomputable def zrt:SM:=zaf (zai (zad zme (zab (zaa 0) (zac))) (zae 1)) (zaf (zai (eOp dEq (zad zb1 (zab (zaa 1) (zab (eC (.int 8)) (zac)))) (eC (.int 5))) (zae 2)) (zaf (zai (eOp za8 (eC (.int 1)) (zad zb1 (zab (zaa 1) (zab (eC (.int 4)) (zac))))) (zae 3)) (zaf (sIf (tE (zaa 2)) (zaw (zad zjl (zab (zad zhp (zab (zaa 1) (zab (zaa 3) (zab (eOp za8 (eC (.int 13)) (zad zb1 (zab (zaa 1) (zab (eC (.int 12)) (zac))))) (zac))))) (zac)))) (zbh)) (zaf (zca (za5 (zab (eC (.int 2)) (zac))) (zae 4) (zaf (zai (zad zhp (zab (zaa 1) (zab (zaa 3) (zab (eOp za8 (eC (.int 1)) (zad zb1 (zab (zaa 1) (zab (eOp zag (zad zbr (zab (eC (.int 6)) (zab (eC (.int 9)) (zab (eC (.int 12)) (zac))))) (zad zb1 (zab (zaa 1) (zab (eC (.int 3)) (zac))))) (zac))))) (zac))))) (zae 5)) (zaf (zai (zad zji (zab (zad zjj (zab (zaa 5) (zac))) (zac))) (zae 6)) (zaf (zai (zad zd2 (zab (zaa 5) (zac))) (zae 7)) (zaf (sIf (zcf (tE (zad zhk (zab (zaa 7) (zab (zaa 6) (zac)))))) (zaw (eC (.bl false))) (zbh)) (zaf (zch (zbu zfi (zaa 7) zac)) (zaf (zch (zbu zb6 (zaa 7) (zab (zad zba (zac)) zac))) (sIf (zcf (tE (zad zhk (zab (zad zd2 (zab (zaa 5) (zac))) (zab (zaa 6) (zac)))))) (zaw (eC (.bl false))) (zbh))))))))) (zaw (eC (.bl true)))))))
noncomputable def ze3:FM:=zbc 8 zrt
theorem bl0 {C:List PySem.Value->Prop}(h:C []):∀us:List PySem.Value,us.length=0->C us:=by intro us hl;rw [List.eq_nil_of_length_eq_zero hl];exact h
theorem blS {n:Nat}{C:List PySem.Value->Prop}(h:∀a (us:List PySem.Value),us.length=n->C (a::us)):∀us:List PySem.Value,us.length=n+1->C us:=by
 intro us hl;cases us with
 |nil=>cases hl
 |cons a us=>exact h a us (Nat.succ.inj hl)
theorem bl1 {C:List PySem.Value->Prop}(h:∀a0,C [a0]):∀us:List PySem.Value,us.length=1->C us:=blS λa0=>bl0 (C:=λus=>C (a0::us)) (h a0)
theorem bl2 {C:List PySem.Value->Prop}(h:∀a0 a1,C [a0,a1]):∀us:List PySem.Value,us.length=2->C us:=blS λa0=>blS λa1=>bl0 (C:=λus=>C (a0::a1::us)) (h a0 a1)
theorem bl3 {C:List PySem.Value->Prop}(h:∀a0 a1 a2,C [a0,a1,a2]):∀us:List PySem.Value,us.length=3->C us:=blS λa0=>blS λa1=>blS λa2=>bl0 (C:=λus=>C (a0::a1::a2::us)) (h a0 a1 a2)
theorem bl4 {C:List PySem.Value->Prop}(h:∀a0 a1 a2 a3,C [a0,a1,a2,a3]):∀us:List PySem.Value,us.length=4->C us:=blS λa0=>blS λa1=>blS λa2=>blS λa3=>bl0 (C:=λus=>C (a0::a1::a2::a3::us)) (h a0 a1 a2 a3)
theorem bl5 {C:List PySem.Value->Prop}(h:∀a0 a1 a2 a3 a4,C [a0,a1,a2,a3,a4]):∀us:List PySem.Value,us.length=5->C us:=blS λa0=>blS λa1=>blS λa2=>blS λa3=>blS λa4=>bl0 (C:=λus=>C (a0::a1::a2::a3::a4::us)) (h a0 a1 a2 a3 a4)
inductive FI (K:QFg) (x:Str) (st:Stmt):Prop
 |mk {f:Addr} {oc kV dc pm cd ct:Value} {od an:Option Addr} {sl:Array (Option Value)} (a:PySem.W.nsIn K mainGlobals x=some (some (.ref f))) (l:K.lookup f=some ⟨oc,od,.func (PySem.W.fnOf x x (zep st) (zcu st) (zaq st) .none kV dc pm an cd ct),sl⟩) (c:PySem.W.codeIn K cd x=true) (k:PySem.W.keepIn K (.ref f)=true)
inductive FJ (K:QFg) (mg:Str->Option Value) (x:Str) (st:Stmt):Prop
 |mk {f:Addr} {fd:FuncData} (F:Fun K x x st f fd) (m:mg x=some (.ref f)) (n:Fnc K mg x)
theorem FI.ok {K:QFg}{x:Str}{st:Stmt}{h:Heap}{mg:Str->Option Value}(i:FI K x st) (X:K.In h) (G:h.Ns mainGlobals mg):FJ K mg x st:=by obtain ⟨a,l,c,k⟩:=i;exact ⟨zyb l c k,PySem.W.mg_of X G a,_,_,a,l,PySem.W.mg_of X G a⟩
noncomputable def nB:List Str->Bool
 |[]=>true
 |x::l=>!l.contains x&&nB l
theorem ndB:∀{N:List Str},nB N=true->N.Nodup
 |[],_=>.nil
 |x::l,h=>by have h:=Bool.and_eq_true_iff.mp h;exact List.nodup_cons.mpr ⟨λm=>by have e:=h.1;rw [List.contains_iff_mem.mpr m] at e;exact absurd e '$',ndB h.2⟩
theorem yf2 {X:Cx}{st:List Stmt}:PSs3 X st zgq:=by
 delta PSs3
 intro pins s σ H Q I h;obtain ⟨_,_,_,_,_,_,_,_,hm,_⟩:=h;cases hm
section
variable {P:Program}{w:World}{K:QFg}{mg:Str->Option Value}{base:Heap}{CA:Str->Addr}
theorem yf3 {x:Str}{st:Stmt}{N ps:List Str}{n k:Nat}{b:SM}{bm:FM}(F:FJ K mg x st) (S:FnScope N ps (zaq st)) (hn:ps.length=n)
  (hb:∀us:List Value,us.length=ps.length->∀(kV doc pm:Value) (an:Option Addr) (cdv ct:Value),bindArgs (PySem.W.fnOf x x (zep st) (zcu st) (zaq st) .none kV doc pm an cdv ct) ⟨us,[]⟩=pure (ps.zip us))
  (hbody:N.Nodup->∀(f:Addr) (cdv:Value),PySem.W.codeIn K cdv x=true->∀(A:Around) (outer:List Env) (s:Shared) (H:Hp) (E:XK),Room k (A.deeper (envOfC x (zaq st) s.heap.objs.size f cdv)) ->
   PSs3 (zbp CX0 P w K mg base N x (zaq st) f cdv A outer s H E).nox (zcu st) b) (e:bm=zbc N.length b):Has P w K mg base x (k+1) n bm:=by
 subst e;obtain ⟨F,m,_⟩:=F;exact ya4 F m S hn (F.binds λ_ _ _ _ _ _ us hl=>hb us hl _ _ _ _ _ _) (hbody S.nd _)
theorem yf4 {x:Str}{st:Stmt}{N ps:List Str}{n k:Nat}{r:ZM}{rm:ZF}(F:FJ K mg x st) (S:FnScope N ps (zaq st)) (hn:ps.length=n)
  (hb:∀us:List Value,us.length=ps.length->∀(kV doc pm:Value) (an:Option Addr) (cdv ct:Value),bindArgs (PySem.W.fnOf x x (zep st) (zcu st) (zaq st) .none kV doc pm an cdv ct) ⟨us,[]⟩=pure (ps.zip us))
  (hbody:N.Nodup->∀(f:Addr) (cdv:Value),PySem.W.codeIn K cdv x=true->∀(A:Around) (outer:List Env) (s:Shared) (H:Hp) (E:XK),Room k (A.deeper (envOfC x (zaq st) s.heap.objs.size f cdv)) ->
   zeh (zbp (CX1 P w) P w K mg base N x (zaq st) f cdv A outer s H E) E CA (zcu st) r) (e:rm=zi6 N.length r):zg1 P w K mg base CA x (k+1) n rm:=by
 subst e;obtain ⟨F,m,_⟩:=F;exact ydk F m S hn (F.binds λ_ _ _ _ _ _ us hl=>hb us hl _ _ _ _ _ _) (hbody S.nd _)
end
theorem all_mk {l:PySem.W.OpenLaw}{w:World}{K:QFg}{h:Heap}{mg:Str->Option Value}{fa:Addr}(X:K.In h) (G:h.Ns mainGlobals mg) (hfa:mg "law" = some (.ref fa)) {g_TooMany g_Unlike g_Unreached g_Clash g_NoBack g_NoLine g_NoName g_NoText g_NotClosed g_NotFull g_NotOpen g_NoWords g_CellError:Addr}
  (a0:FI K "_law_is_list" (top bd 34))
  (a1:FI K "fitting" (top bd 25))
  (a2:FI K "greatest_with" (top bd 24))
  (a3:FI K "all_pairs" (top bd 18))
  (a4:FI K "pairs_ahead" (top bd 20))
  (a5:FI K "answers_unlike" (top bd 15))
  (a6:FI K "say_unlike" (top bd 16))
  (a7:FI K "pairs_at_once" (top bd 19))
  (a8:FI K "parted_pairs" (top bd 17))
  (a9:FI K "greatest_lots" (top bd 23))
  (a10:FI K "_law_due" (top bd 33))
  (a11:FI K "_law_parts" (top bd 31))
  (a12:FI K "_law_table" (top bd 32))
  (a13:FI K "_law_take" (top bd 28))
  (a14:FI K "_law_cell" (top bd 30))
  (a15:FI K "_law_machine" (top bd 29))
  (a16:FI K "_law_too_many" (top bd 35))
  (a17:FI K "_law_pen" (top bd 27))
  (a18:FI K "law" (top bd 36))
  (z_isinstance:PySem.W.nsIn K mainGlobals "isinstance" = some none)
  (z_tuple:PySem.W.nsIn K mainGlobals "tuple" = some none)
  (z_int:PySem.W.nsIn K mainGlobals "int" = some none)
  (z_bool:PySem.W.nsIn K mainGlobals "bool" = some none)
  (z_list:PySem.W.nsIn K mainGlobals "list" = some none)
  (z_max:PySem.W.nsIn K mainGlobals "max" = some none)
  (z_min:PySem.W.nsIn K mainGlobals "min" = some none)
  (z_enumerate:PySem.W.nsIn K mainGlobals "enumerate" = some none)
  (z_range:PySem.W.nsIn K mainGlobals "range" = some none)
  (z_len:PySem.W.nsIn K mainGlobals "len" = some none)
  (z_any:PySem.W.nsIn K mainGlobals "any" = some none)
  (z_sorted:PySem.W.nsIn K mainGlobals "sorted" = some none)
  (z_sum:PySem.W.nsIn K mainGlobals "sum" = some none)
  (z_zip:PySem.W.nsIn K mainGlobals "zip" = some none)
  (z_abs:PySem.W.nsIn K mainGlobals "abs" = some none)
  (z_ValueError:PySem.W.nsIn K mainGlobals "ValueError" = some none)
  {t_MOST_FOR_GREATEST:Tok} (c_MOST_FOR_GREATEST:PySem.W.nsIn K mainGlobals "MOST_FOR_GREATEST" = some (some (.int 12 t_MOST_FOR_GREATEST)))
  (a_TooMany:PySem.W.nsIn K mainGlobals "TooMany" = some (some (.ref g_TooMany)))
  (a_Unlike:PySem.W.nsIn K mainGlobals "Unlike" = some (some (.ref g_Unlike)))
  (a_Unreached:PySem.W.nsIn K mainGlobals "Unreached" = some (some (.ref g_Unreached)))
  (a_Clash:PySem.W.nsIn K mainGlobals "Clash" = some (some (.ref g_Clash)))
  (a_NoBack:PySem.W.nsIn K mainGlobals "NoBack" = some (some (.ref g_NoBack)))
  (a_NoLine:PySem.W.nsIn K mainGlobals "NoLine" = some (some (.ref g_NoLine)))
  (a_NoName:PySem.W.nsIn K mainGlobals "NoName" = some (some (.ref g_NoName)))
  (a_NoText:PySem.W.nsIn K mainGlobals "NoText" = some (some (.ref g_NoText)))
  (a_NotClosed:PySem.W.nsIn K mainGlobals "NotClosed" = some (some (.ref g_NotClosed)))
  (a_NotFull:PySem.W.nsIn K mainGlobals "NotFull" = some (some (.ref g_NotFull)))
  (a_NotOpen:PySem.W.nsIn K mainGlobals "NotOpen" = some (some (.ref g_NotOpen)))
  (a_NoWords:PySem.W.nsIn K mainGlobals "NoWords" = some (some (.ref g_NoWords)))
  (a_CellError:PySem.W.nsIn K mainGlobals "CellError" = some (some (.ref g_CellError)))
  (x_TooMany:PySem.W.excIn K g_TooMany zdx "ValueError.__new__" = true)
  (x_CellError:PySem.W.excIn K g_CellError zdx "ValueError.__new__" = true)
  (s_TooMany_CellError:(Value.ref g_TooMany::zei K g_TooMany).contains (.ref g_CellError)=true)
  (o_TooMany:PySem.W.mroIn K g_TooMany (.type "object")=some true) (d_TooMany:PySem.W.findIn K (.ref g_TooMany) "__class__" = some (some (.builtin "object.__class__"))) (ga_TooMany:PySem.W.findIn K (.ref g_TooMany) "__getattribute__" = some (some (.builtin "BaseException.__getattribute__"))) (gr_TooMany:PySem.W.findIn K (.ref g_TooMany) "__getattr__" = some none) (is_TooMany:(PySem.W.clsIn K g_TooMany).isSome=true)
  (i_0:PySem.W.kitOne K (.ref g_TooMany) (.ref g_TooMany)=some true)
  (i_1:PySem.W.kitOne K (.ref g_TooMany) (.type "ValueError")=some true)
  (i_2:PySem.W.kitAny K (.ref g_TooMany) [.ref g_Unlike,.ref g_Unreached]=some false)
  (i_3:PySem.W.kitAny K (.ref g_TooMany) [.ref g_Clash,.ref g_NoBack,.ref g_NoLine,.ref g_NoName,.ref g_NoText,.ref g_NotClosed,.ref g_NotFull,.ref g_NotOpen,.ref g_NoWords]=some false) :
  ∃fd:FuncData,(∀(s:Shared) (v:Value),BindsTo s fd ⟨[v],[]⟩ [("_law_script",v)])/\∀base:Heap,K.In base->base.Ns mainGlobals mg->FnOk l.prog w K mg base CX0 19 fa fd ["_law_script"] (sp3 K 1 ze3):=by
 have y_isinstance:=PySem.W.mg_none_of X G z_isinstance;have y_tuple:=PySem.W.mg_none_of X G z_tuple;have y_int:=PySem.W.mg_none_of X G z_int;have y_bool:=PySem.W.mg_none_of X G z_bool;have y_list:=PySem.W.mg_none_of X G z_list;have y_max:=PySem.W.mg_none_of X G z_max;have y_min:=PySem.W.mg_none_of X G z_min;have y_enumerate:=PySem.W.mg_none_of X G z_enumerate;have y_range:=PySem.W.mg_none_of X G z_range;have y_len:=PySem.W.mg_none_of X G z_len;have y_any:=PySem.W.mg_none_of X G z_any;have y_sorted:=PySem.W.mg_none_of X G z_sorted;have y_sum:=PySem.W.mg_none_of X G z_sum;have y_zip:=PySem.W.mg_none_of X G z_zip;have y_abs:=PySem.W.mg_none_of X G z_abs;have y_ValueError:=PySem.W.mg_none_of X G z_ValueError;have y_MOST_FOR_GREATEST:=PySem.W.mg_of X G c_MOST_FOR_GREATEST;obtain ⟨CA,ca_TooMany,ca_Unlike,ca_Unreached,ca_Clash,ca_NoBack,ca_NoLine,ca_NoName,ca_NoText,ca_NotClosed,ca_NotFull,ca_NotOpen,ca_NoWords,ca_CellError⟩:∃CA:Str->Addr,CA "TooMany" = g_TooMany/\CA "Unlike" = g_Unlike/\CA "Unreached" = g_Unreached/\CA "Clash" = g_Clash/\CA "NoBack" = g_NoBack/\CA "NoLine" = g_NoLine/\CA "NoName" = g_NoName/\CA "NoText" = g_NoText/\CA "NotClosed" = g_NotClosed/\CA "NotFull" = g_NotFull/\CA "NotOpen" = g_NotOpen/\CA "NoWords" = g_NoWords/\CA "CellError" = g_CellError:=⟨λy=>if y = "TooMany" then g_TooMany else if y = "Unlike" then g_Unlike else if y = "Unreached" then g_Unreached else if y = "Clash" then g_Clash else if y = "NoBack" then g_NoBack else if y = "NoLine" then g_NoLine else if y = "NoName" then g_NoName else if y = "NoText" then g_NoText else if y = "NotClosed" then g_NotClosed else if y = "NotFull" then g_NotFull else if y = "NotOpen" then g_NotOpen else if y = "NoWords" then g_NoWords else if y = "CellError" then g_CellError else 0,by dsimp only;rw [if_pos rfl],by dsimp only;rw [if_neg (by decide +kernel),if_pos rfl],by dsimp only;rw [if_neg (by decide +kernel),if_neg (by decide +kernel),if_pos rfl],by dsimp only;(repeat rw [if_neg (by decide +kernel)]);rw [if_pos rfl],by dsimp only;(repeat rw [if_neg (by decide +kernel)]);rw [if_pos rfl],by dsimp only;(repeat rw [if_neg (by decide +kernel)]);rw [if_pos rfl],by dsimp only;(repeat rw [if_neg (by decide +kernel)]);rw [if_pos rfl],by dsimp only;(repeat rw [if_neg (by decide +kernel)]);rw [if_pos rfl],by dsimp only;(repeat rw [if_neg (by decide +kernel)]);rw [if_pos rfl],by dsimp only;(repeat rw [if_neg (by decide +kernel)]);rw [if_pos rfl],by dsimp only;(repeat rw [if_neg (by decide +kernel)]);rw [if_pos rfl],by dsimp only;(repeat rw [if_neg (by decide +kernel)]);rw [if_pos rfl],by dsimp only;(repeat rw [if_neg (by decide +kernel)]);rw [if_pos rfl]⟩;subst ca_TooMany;subst ca_Unlike;subst ca_Unreached;subst ca_Clash;subst ca_NoBack;subst ca_NoLine;subst ca_NoName;subst ca_NoText;subst ca_NotClosed;subst ca_NotFull;subst ca_NotOpen;subst ca_NoWords;subst ca_CellError;have q_TooMany:=PySem.W.mg_of X G a_TooMany;have q_Unlike:=PySem.W.mg_of X G a_Unlike;have q_Unreached:=PySem.W.mg_of X G a_Unreached;have q_Clash:=PySem.W.mg_of X G a_Clash;have q_NoBack:=PySem.W.mg_of X G a_NoBack;have q_NoLine:=PySem.W.mg_of X G a_NoLine;have q_NoName:=PySem.W.mg_of X G a_NoName;have q_NoText:=PySem.W.mg_of X G a_NoText;have q_NotClosed:=PySem.W.mg_of X G a_NotClosed;have q_NotFull:=PySem.W.mg_of X G a_NotFull;have q_NotOpen:=PySem.W.mg_of X G a_NotOpen;have q_NoWords:=PySem.W.mg_of X G a_NoWords;have q_CellError:=PySem.W.mg_of X G a_CellError;have e_TooMany:ExcQ K (CA "TooMany"):=⟨x_TooMany,o_TooMany,d_TooMany,ga_TooMany,gr_TooMany,is_TooMany⟩;have F0:=a0.ok X G;have F1:=a1.ok X G;have F2:=a2.ok X G;have F3:=a3.ok X G;have F4:=a4.ok X G;have F5:=a5.ok X G;have F6:=a6.ok X G;have F7:=a7.ok X G;have F8:=a8.ok X G;have F9:=a9.ok X G;have F10:=a10.ok X G;have F11:=a11.ok X G;have F12:=a12.ok X G;have F13:=a13.ok X G;have F14:=a14.ok X G;have F15:=a15.ok X G;have F16:=a16.ok X G;have F17:=a17.ok X G;have F18:=a18.ok X G;obtain @⟨fL,fdL,FL,mL,_⟩:=F18;have e:=hfa.symm.trans mL;cases e;refine ⟨fdL,λs v=>by obtain ⟨_,_,_,_,_,_,_,_,_,rfl,_⟩:=FL.ex;exact .of_eq rfl,λbase _ _=>?_⟩;have s0:FnScope ["_law_found","_law_due_here","_law_lot"] ["_law_found","_law_due_here"] (zaq (top bd 34)):=⟨rfl,rfl,rfl,by decide +kernel,rfl,by decide +kernel,by decide +kernel⟩;have s1:FnScope ["pairs","room","others"] ["pairs","room","others"] (zaq (top bd 25)):=⟨rfl,rfl,rfl,by decide +kernel,rfl,by decide +kernel,by decide +kernel⟩;have s2:FnScope ["pairs","lot","more","past","found","at","room","rest","left"] ["pairs","lot","more","past"] (zaq (top bd 24)):=⟨rfl,rfl,rfl,by decide +kernel,rfl,by decide +kernel,by decide +kernel⟩;have s3:FnScope ["machine","many"] ["machine"] (zaq (top bd 18)):=⟨rfl,rfl,rfl,by decide +kernel,rfl,by decide +kernel,by decide +kernel⟩;have s4:FnScope ["machine","asks","rooms","sources","one","other","ask","behind","pair"] ["machine"] (zaq (top bd 20)):=⟨rfl,rfl,rfl,by decide +kernel,rfl,by decide +kernel,by decide +kernel⟩;have s5:FnScope ["one","other"] ["one","other"] (zaq (top bd 15)):=⟨rfl,rfl,rfl,by decide +kernel,rfl,by decide +kernel,by decide +kernel⟩;have s6:FnScope ["cell","beside"] ["cell","beside"] (zaq (top bd 16)):=⟨rfl,rfl,rfl,by decide +kernel,rfl,by decide +kernel,by decide +kernel⟩;have s7:FnScope ["machine","asks","rooms"] ["machine"] (zaq (top bd 19)):=⟨rfl,rfl,rfl,by decide +kernel,rfl,by decide +kernel,by decide +kernel⟩;have s8:FnScope ["machine","waiting","sources","found","pair","source"] ["machine"] (zaq (top bd 17)):=⟨rfl,rfl,rfl,by decide +kernel,rfl,by decide +kernel,by decide +kernel⟩;have s9:FnScope ["machine","many"] ["machine"] (zaq (top bd 23)):=⟨rfl,rfl,rfl,by decide +kernel,rfl,by decide +kernel,by decide +kernel⟩;have s10:FnScope ["_law_table_here","_law_many","_law_near","_law_one","_law_common","_law_found","_law_bits","_law_room"] ["_law_table_here"] (zaq (top bd 33)):=⟨rfl,rfl,rfl,by decide +kernel,rfl,by decide +kernel,by decide +kernel⟩;have s11:FnScope ["_law_room","_law_beside","_law_table_here","_law_cell_here","_law_other"] ["_law_room","_law_beside","_law_table_here"] (zaq (top bd 31)):=⟨rfl,rfl,rfl,by decide +kernel,rfl,by decide +kernel,by decide +kernel⟩;have s12:FnScope ["_law_machine_here","_law_rooms","_law_table_here","_law_more","_law_one","_law_other"] ["_law_machine_here"] (zaq (top bd 32)):=⟨rfl,rfl,rfl,by decide +kernel,rfl,by decide +kernel,by decide +kernel⟩;have s13:FnScope ["_law_pen_here","_law_many","_law_digit","_law_at","_law_cell_here","_law_prime","_law_number"] ["_law_pen_here","_law_many"] (zaq (top bd 28)):=⟨rfl,rfl,rfl,by decide +kernel,rfl,by decide +kernel,by decide +kernel⟩;have s14:FnScope ["_law_pen_here","_law_share","_law_wide","_law_shift","_law_many","_law_goes","_law_answer"] ["_law_pen_here","_law_share","_law_wide","_law_shift","_law_many"] (zaq (top bd 30)):=⟨rfl,rfl,rfl,by decide +kernel,rfl,by decide +kernel,by decide +kernel⟩;have s15:FnScope ["_law_pen_here","_law_asks","_law_many","_law_share","_law_wide","_law_alike","_law_shift","_law_rooms","_law_room","_law_cells","_law_at"] ["_law_pen_here","_law_asks","_law_many"] (zaq (top bd 29)):=⟨rfl,rfl,rfl,by decide +kernel,rfl,by decide +kernel,by decide +kernel⟩;have s16:FnScope ["_law_machine_here","_law_caught","e"] ["_law_machine_here"] (zaq (top bd 35)):=⟨rfl,rfl,rfl,by decide +kernel,rfl,by decide +kernel,by decide +kernel⟩;have s17:FnScope ["_law_script"] ["_law_script"] (zaq (top bd 27)):=⟨rfl,rfl,rfl,by decide +kernel,rfl,by decide +kernel,by decide +kernel⟩;have s18:FnScope ["_law_script","_law_pen_here","_law_great","_law_asks","_law_turn","_law_machine_here","_law_due_here","_law_found"] ["_law_script"] (zaq (top bd 36)):=⟨rfl,rfl,rfl,by decide +kernel,rfl,by decide +kernel,by decide +kernel⟩;have g0:Has l.prog w K mg base "_law_is_list" 1 2 zhk:=?_;have g1:Has l.prog w K mg base "fitting" 1 3 zhl:=?_;have g2:∀n,Has l.prog w K mg base "greatest_with" (n+2) 4 (zhm n):=λn=>Nat.rec (motive:=λn=>Has l.prog w K mg base "greatest_with" (n+2) 4 (zhm n)) ?_ (λn ih=>?_) n;have q2:=g2 14;have g3:Has l.prog w K mg base "all_pairs" 1 1 zd1:=?_;have g4:Has l.prog w K mg base "pairs_ahead" 2 1 zjf:=?_;have g5:Has l.prog w K mg base "answers_unlike" 1 2 zhn:=?_;have g6:Has l.prog w K mg base "say_unlike" 2 2 zfy:=?_;have g7:Has l.prog w K mg base "pairs_at_once" 3 1 zjg:=?_;have g8:Has l.prog w K mg base "parted_pairs" 4 1 zjh:=?_;have g9:Has l.prog w K mg base "greatest_lots" 17 1 zd2:=?_;have z9:zg1 l.prog w K mg base CA "greatest_lots" 17 1 zho:=?_;have g10:Has l.prog w K mg base "_law_due" 1 1 zji:=?_;have g11:Has l.prog w K mg base "_law_parts" 1 3 zfz:=?_;have g12:Has l.prog w K mg base "_law_table" 2 1 zjj:=?_;have g13:Has l.prog w K mg base "_law_take" 1 2 zb1:=?_;have g14:Has l.prog w K mg base "_law_cell" 2 5 zjk:=?_;have g15:Has l.prog w K mg base "_law_machine" 3 3 zhp:=?_;have g16:Has l.prog w K mg base "_law_too_many" 18 1 zjl:=?_;have g17:Has l.prog w K mg base "_law_pen" 1 1 zme:=?_
 all_goals first
  |refine yf3 ‹_› ‹_› rfl (by first|exact bl1 λ_=>λ_ _ _ _ _ _=>rfl|exact bl2 λ_ _=>λ_ _ _ _ _ _=>rfl|exact bl3 λ_ _ _=>λ_ _ _ _ _ _=>rfl|exact bl4 λ_ _ _ _=>λ_ _ _ _ _ _=>rfl|exact bl5 λ_ _ _ _ _=>λ_ _ _ _ _ _=>rfl) (λnd f cdv hcd A outer s H E hr=>?_) (by rfl)
  |refine yf4 ‹_› ‹_› rfl (by first|exact bl1 λ_=>λ_ _ _ _ _ _=>rfl|exact bl2 λ_ _=>λ_ _ _ _ _ _=>rfl|exact bl3 λ_ _ _=>λ_ _ _ _ _ _=>rfl|exact bl4 λ_ _ _ _=>λ_ _ _ _ _ _=>rfl|exact bl5 λ_ _ _ _ _=>λ_ _ _ _ _ _=>rfl) (λnd f cdv hcd A outer s H E hr=>?_) (by rfl)
  |(have nd:=s18.nd;refine zo2 FL s18 rfl λcdv hcd A outer s H E hr=>?_)
 all_goals repeat' first
  |((with_reducible show L3.PE3 _ _ _);first
   |exact zyn _
   |exact zyo
   |refine ycm ?_ ?_
   |refine yaw ‹_› hr (by first|decide|omega) rfl ?_ ?_
   |refine ycz ?_ ?_
   |exact zyp
   |refine zy3 ?_
   |refine zy4 ?_
   |refine zy8 ?_ ?_
   |exact zyq
   |refine yco rfl ‹_› ?_
   |refine zz1 ?_ ?_
   |refine ycy ?_ ?_ ?_
   |refine ybi ?_ ?_
   |refine ych ?_ ?_
   |refine zy2 ?_ ?_
   |refine ycj ?_ ?_
   |refine ya1 rfl ‹_› ?_
   |refine zy7 ?_ ?_
   |refine ya0 rfl ‹_› ?_
   |refine zzh ?_ ?_
   |refine zy1 ?_
   |exact zyr rfl ‹_›
   |refine yfm rfl ‹_› ?_
   |refine zy6 ?_ ?_
   |refine yci ?_ ?_
   |refine zy9 ?_ ?_
   |refine zzf ?_ ?_
   |refine zil (U:="list") rfl ‹_› rfl ‹_› zo7 '$' ?_
   |refine zil (U:="tuple") rfl ‹_› rfl ‹_› zo6 '$' ?_
   |refine zek (N':=["_law_one"]) (ixs:=[none]) rfl (zdy rfl rfl (by kernel_rfl)) ?_ (λ_ _ _ _ _=>zcj _ (ndB (by kernel_rfl))) (λ_ _ _ _ _=>?_) (λ_ _ _ _ _=>?_)
   |refine zil (U:="int") rfl ‹_› rfl ‹_› yay '$' ?_
   |refine zil (U:="bool") rfl ‹_› rfl ‹_› yaz '$' ?_
   |refine zek (N':=["other","room","pairs"]) (ixs:=[none,some 1,some 0]) rfl (zdy rfl rfl (by kernel_rfl)) ?_ (λ_ _ _ _ _=>zcj _ (ndB (by kernel_rfl))) (λ_ _ _ _ _=>?_) (λ_ _ _ _ _=>?_)
   |refine ya2 rfl rfl ‹_› ?_
   |refine ya3 rfl rfl ‹_› ?_
   |refine yez (N':=["one","other","many"]) (ixs:=[none,none,some 1]) rfl (zdy rfl rfl (by kernel_rfl)) ?_ (λ_ _ _ _ _=>zcj _ (ndB (by kernel_rfl))) (λ_ _ _ _ _=>?_) (λ_ _ _ _ _=>?_) (λ_ _ _ _ _=>zcj _ (ndB (by kernel_rfl))) (λ_ _ _ _ _=>?_) (λ_ _ _ _ _=>?_)
   |exact yd0
   |refine yem rfl rfl ‹_› ?_
   |refine yen rfl rfl ‹_› ?_
   |refine yer hr ?_ ?_ ?_
   |refine zzg ?_ ?_
   |refine zek (N':=["one","other","asks","rooms"]) (ixs:=[none,none,some 1,some 2]) rfl (zdy rfl rfl (by kernel_rfl)) ?_ (λ_ _ _ _ _=>zo0 rfl (zkr (zcj _ (ndB (by kernel_rfl))) (zkr (zcj _ (ndB (by kernel_rfl))) (zoz)))) (λ_ _ _ _ _=>?_) (λ_ _ _ _ _=>?_)
   |refine yb2 rfl rfl ‹_› ?_
   |refine zek (N':=["ask","rooms","one","other"]) (ixs:=[none,some 3,some 0,some 1]) rfl (CompSc.toSd (zqj rfl (by kernel_rfl))) ?_ (λ_ _ _ _ _=>zcj _ (ndB (by kernel_rfl))) (λ_ _ _ _ _=>?_) (λ_ _ _ _ _=>?_)
   |refine zz3 ?_
   |refine ydz hr ?_ ?_ ?_
   |refine ybv rfl rfl ‹_› rfl ‹_› ?_
   |refine yc3 rfl rfl ‹_› ?_
   |refine zek (N':=["_law_other","_law_table_here","_law_one"]) (ixs:=[none,some 0,some 3]) rfl (zdy rfl rfl (by kernel_rfl)) ?_ (λ_ _ _ _ _=>zcj _ (ndB (by kernel_rfl))) (λ_ _ _ _ _=>?_) (λ_ _ _ _ _=>?_)
   |refine zek (N':=["_law_one","_law_bits"]) (ixs:=[none,some 6]) rfl (zdy rfl rfl (by kernel_rfl)) ?_ (λ_ _ _ _ _=>zcj _ (ndB (by kernel_rfl))) (λ_ _ _ _ _=>?_) (λ_ _ _ _ _=>?_)
   |refine zek (N':=["_law_other"]) (ixs:=[none]) rfl (CompSc.toSd (zqj rfl (by kernel_rfl))) ?_ (λ_ _ _ _ _=>zcj _ (ndB (by kernel_rfl))) (λ_ _ _ _ _=>?_) (λ_ _ _ _ _=>?_)
   |refine zek (N':=["_law_ask","_law_pen_here","_law_share","_law_wide","_law_shift","_law_many"]) (ixs:=[none,some 0,some 3,some 4,some 6,some 2]) rfl (zdy rfl rfl (by kernel_rfl)) ?_ (λ_ _ _ _ _=>zcj _ (ndB (by kernel_rfl))) (λ_ _ _ _ _=>?_) (λ_ _ _ _ _=>?_)
   |refine zqc rfl ‹_› ?_ (zc5 rfl q_Clash (zc5 rfl q_NoBack (zc5 rfl q_NoLine (zc5 rfl q_NoName (zc5 rfl q_NoText (zc5 rfl q_NotClosed (zc5 rfl q_NotFull (zc5 rfl q_NotOpen (zc5 rfl q_NoWords (zp9)))))))))) (by simp only [List.length_cons,List.length_nil];decide) (zi7 (R:=λC b=>ExcQ _ C/\PySem.W.kitAny _ (.ref C) _=some b) a_TooMany ⟨e_TooMany,i_3⟩)
   |refine zqc rfl ‹_› ?_ (zc5 rfl q_Unlike (zc5 rfl q_Unreached (zp9))) (by simp only [List.length_cons,List.length_nil];decide) (zi7 (R:=λC b=>ExcQ _ C/\PySem.W.kitAny _ (.ref C) _=some b) a_TooMany ⟨e_TooMany,i_2⟩)
   |refine ydu rfl ‹_› ?_ rfl ‹_› (zi7 (R:=λC b=>ExcQ _ C/\PySem.W.kitOne _ (.ref C) _=some b) a_TooMany ⟨e_TooMany,i_0⟩)
   |refine ydv (U:="ValueError") rfl ‹_› ?_ rfl ‹_› (by decide +kernel) (zi7 (R:=λC b=>ExcQ _ C/\PySem.W.kitOne _ (.ref C) _=some b) a_TooMany ⟨e_TooMany,i_1⟩)
   |refine zz2 ?_)
  |refine zor ?_ ?_
  |exact zoq
  |((with_reducible show L3.PSs3 _ _ _);first
   |refine zz9 ?_ ?_
   |refine yaa ?_
   |exact zz8
   |exact yf2)
  |((with_reducible show L3.PS3 _ _ _);first
   |refine yai _ nd ?_
   |refine yac ?_
   |refine yad ?_ ?_ ?_
   |refine yab ?_
   |refine yal PassesOwn.never rfl rfl ‹_› ?_ ?_ ?_
   |refine yak PassesOwn.never rfl ?_ ?_ ?_
   |refine ybj zef PassesOwn.never ?_ ?_
   |refine ycv PassesOwn.never rfl ?_ ?_ ?_
   |refine yfp _ nd ?_
   |refine yed _ nd hr (N':=["pair"]) (ixs:=[none]) rfl (zdy rfl rfl (by kernel_rfl)) ?_ (λ_ _ _ _ _=>zcj _ (ndB (by kernel_rfl))) (λ_ _ _ _ _=>?_) (λ_ _ _ _ _=>?_) (λ_ _ _ _ _=>?_)
   |refine yd2 hr ?_ ?_ ?_
   |exact yae
   |refine yam PassesOwn.never rfl rfl ‹_› ?_ ?_ ?_
   |refine yd8 _ nd (N':=["_law_one","_law_rooms"]) (ixs:=[none,some 1]) rfl (zdy rfl rfl (by kernel_rfl)) ?_ (λ_ _ _ _ _=>zcj _ (ndB (by kernel_rfl))) (λ_ _ _ _ _=>?_) (λ_ _ _ _ _=>?_)
   |refine yfc (CA:=CA) _ nd (λ_ _ h=>h) rfl rfl rfl ‹_› ‹_› (ydw ⟨a_TooMany,x_TooMany,s_TooMany_CellError⟩) (λ_=>?_) (λ_=>?_) ?_
   |refine yah ?_ ?_)
  |refine zz7 ?_
  |exact zz6
  |((with_reducible show L3.PT3 _ _ _);first
   |refine zy0 ?_
   |refine zzb ?_ ?_
   |refine zzi ?_ ?_
   |refine yef ?_
   |refine ybq ?_ ?_
   |refine zzc ?_ ?_
   |refine ydy hr ?_ ?_
   |refine ybm hr ?_ ?_
   |refine yb5 hr ?_ ?_
   |refine zzj ?_ ?_
   |refine zza ?_ ?_
   |refine zys ?_
   |refine zyz ?_)
  |((with_reducible show L3.PG3 _ _ _);first
   |exact zcj _ nd
   |refine zo0 rfl ?_
   |refine yag ?_ ?_)
  |((with_reducible show L3.PW3 _ _ _);first
   |refine zyx ?_ ?_
   |refine zyv ?_
   |refine zyy ?_ ?_
   |refine zyw ?_)
  |refine zkr ?_ ?_
  |exact zoz
  |refine yar ?_
  |refine yas rfl ‹_› ?_
  |refine ycu rfl ‹_› ?_
  |refine yfb rfl ‹_› ?_
  |exact yat
  |refine yau ?_
  |refine zzm ?_
  |exact zzl
  |refine ydd ?_ ?_
  |refine yde ?_ ?_ ?_
  |exact ydf rfl ‹_› ‹_›
  |exact yda
  |refine ydc ?_
  |refine yex rfl ‹_› ?_
  |refine yec ?_
  |refine yfe ‹_› (λ_ _ h=>h) hr '$' ?_ ?_
theorem walk {l:PySem.W.OpenLaw}{q:Program}{loose:List Str}{XP:(Str->Option Value)->Heap->Prop}{YP:World->Heap->Prop}{d:DefRec}{K:Params->QFg}(hn:l.most=some 63) (hdf:d.params.defaults=[])
  (hY:∀(w:World) (h:Heap),YP w h->(K w.params).In h)
  (F:∀(w:World) (mg:Str->Option Value) (fa:Addr) (h:Heap),(K w.params).In h->h.Ns mainGlobals mg->mg d.name=some (.ref fa) ->
   ∃fd:FuncData,(∀(s:Shared) (u:Value),BindsTo s fd ⟨[u],[]⟩ [("_law_script",u)])/\∀base:Heap,(K w.params).In base->base.Ns mainGlobals mg->FnOk l.prog w (K w.params) mg base CX0 19 fa fd ["_law_script"] (sp3 (K w.params) 1 ze3))
  (hlaw:∀ns:List Int,ns.length<=63->∃S',ze3 [.ref 0] [.flst (ns.map D.int)]=some (.bl true,S')) :
  PySem.W.WalkO q loose XP YP l.row.toRowW d [] (λf vs=>PySem.call f vs) :=
 L2.walk_of (n:=63) (k:=19) (x:="_law_script") (CX:=λ_=>CX0) (sp:=λw=>sp3 (K w.params) 1 ze3) hn '$' hdf ⟨rfl,by decide,by decide,rfl⟩ hY F (λ_ _ a ns hl hO hS=>ya6 hO hS (hlaw ns hl)) λ_ _ _ _ _ z=>z
end G
end
theorem qg0 {α:Type}{a:α}{l:List α}:(a::l)[0]?=some a:=rfl
theorem qg1 {α:Type}{a:α}{i:Nat}{l:List α}:(a::l)[i+1]?=l[i]?:=rfl
theorem qs0 {α:Type}{a b:α}{l:List α}:(a::l).set 0 b=b::l:=rfl
theorem qs1 {α:Type}{a b:α}{n:Nat}{l:List α}:(a::l).set (n+1) b=a::l.set n b:=rfl
theorem qlt {α:Type}{l:List α}{i:Nat}{a:α}(h:l[i]?=some a):i<l.length:=(List.getElem?_eq_some_iff.mp h).1
namespace M
open PySem L3 G
local macro_rules
 | `(term| nofun)=>`(by first|rfl|trivial)
local macro_rules
 | `(term| ‹$x›)=>`(some (.int ($x : Int)))
local macro_rules
 | `(term| ~~~$x)=>`(some (.ref $x))
local macro_rules
 | `(tactic| dsimp! only [$xs,*])=>`(tactic| simp only [$xs,*,List.map_cons,List.map_nil,List.length_cons,List.length_nil,Nat.reduceAdd,Nat.reduceSub,List.replicate,List.cons_append,List.nil_append])
theorem za3 (h:S[n]?=some (.lst xs)):lstOf S n=some xs:=by unfold lstOf;rw [h]
inductive PQ (ns:List Int) (c:Nat) (S:Sto):Prop
 |mk (at' r:Int) (e:S[2]?=some (.lst [.ref 1,.int at',.int r])) (s:lstOf S 1=some (ns.map D.int)) (a0:0<=at') (a1:at'<=c) (r0:0<=r)
def Fn (S S':Sto):Prop:=∀(j:Nat) (o:Ob),j≠2->S[j]?=some o->S'[j]?=some o
theorem Fn.trans (h:Fn A B) (g:Fn B C):Fn A C:=λj o hj e=>g j o hj (h j o hj e)
theorem Fn.gr (h:Gr A B):Fn A B:=λ_ _ _ e=>h.get e
theorem Fn.set:Fn A (A.set 2 o):=λj o' hj e=>by rw [List.getElem?_set_ne (Ne.symm hj)];exact e
theorem Fn.lst (h:Fn A B) (hm:m≠2) (e:lstOf A m=some xs):lstOf B m=some xs:=by
 unfold lstOf at e ⊢;cases q:A[m]? with
 |none=>rw [q] at e;cases e
 |some o=>rw [h m o hm q];rw [q] at e;exact e
theorem PQ.gr (h:PQ ns c A) (g:Gr A B):PQ ns c B:=by obtain ⟨x,y,e,f,r1,r2,r3⟩:=h;exact ⟨x,y,g.get e,g.lst f,r1,r2,r3⟩
theorem PQ.mono (h:PQ ns c A) (g:c<=d):PQ ns d A:=by obtain ⟨x,y,e,f,r1,r2,r3⟩:=h;exact ⟨x,y,e,f,r1,by lia,r3⟩
theorem PQ.lt (h:PQ ns c A):3<=A.length:=by obtain ⟨x,y,e,_⟩:=h;have:=(qme e).1;lia
theorem PQ.setN (h:PQ ns c A) (hn:3<=n):PQ ns c (A.set n o):=by obtain ⟨x,y,e,f,r1,r2,r3⟩:=h;refine ⟨x,y,by rw [List.getElem?_set_ne '!'];exact e,?_,r1,r2,r3⟩;unfold lstOf at f ⊢;rw [List.getElem?_set_ne '!'];exact f
theorem Fn.setN (h:Fn A B) (hn:A.length<=n):Fn A (B.set n o):=λj o' hj e=>by have:j<A.length:=(qme e).1;rw [List.getElem?_set_ne '!'];exact h j o' hj e
theorem Fn.len (h:Fn A B) (hB:3<=B.length):A.length<=B.length:=by
 rcases Nat.lt_or_ge B.length A.length with z|z
 ·have hj:A.length-1<A.length:=by lia
  have e:=qge hj;have:=(qme (h (A.length-1) _ '!' e)).1;lia
 ·exact z
theorem set_1 (h:S[2]?=some (.lst [a,b,c])):zcl (.ref 2) (.int 1) v S=some (S.set 2 (.lst [a,v,c])):=by unfold zcl;simp only [h];rfl
theorem zru (h:S[2]?=some (.lst [a,b,c])):zcl (.ref 2) (.int 2) v S=some (S.set 2 (.lst [a,b,v])):=by unfold zcl;simp only [h];rfl
theorem zhq {S:Sto}{n:Nat}{o o':Ob}(h:S[n]?=some o'):(S.set n o)[n]?=some o:=List.getElem?_set_self (qme h).1
theorem yf5 (i:Int) (h0:0<=i) (h1:i<5):∃p,L2.atI [D.int 2147483647,.int 2147483629,.int 2147483587,.int 2147483579,.int 2147483563] i=some (.int p)/\0<p/\p<2147483648:=by
 have:i=0\/i=1\/i=2\/i=3\/i=4:=by lia
 rcases this with rfl|rfl|rfl|rfl|rfl<;>exact ⟨_,rfl,by decide,by decide⟩
inductive TkP (ns:List Int) (c:Nat) (m:Int) (S:Sto) (v:D) (S':Sto):Prop
 |mk (d:Nat) (e:v=.int (d:Int)) (h:(d:Int)<m) (p:PQ ns (c+1) S') (f:Fn S S')
local macro_rules
 | `(tactic| simp! only [$xs,*])=>`(tactic| simp only [zbw,zio,zpa,zbl,zaz,zeb,zah,zau,za7,zcc,zdf,zcb,zao,ziq,zfk,zfl,zfm,zap,zcz,zan,zam,zeu,zgs,zc3,zkz,zed,zee,ze2,zje,zhh,zhe,zhf,zhg,zl5,zq3,zk0,zk1,zdi,zd0,zk2,zk3,zg9,zly,zpb,zcn,zdg,zir,zgu,zlz,zpc,zl0,zl1,zha,List.map_cons,List.map_nil,List.length_cons,List.length_nil,Nat.reduceAdd,Nat.reduceSub,List.replicate,List.cons_append,List.nil_append,qg0,qg1,qs0,qs1,zak,zb0,zbn,zq0,zq1,zq2,zlw,zlx,zdz,decide_eq_true_eq,zq9,zl8,$xs,*])
theorem zcd {ns:List Int}{c:Nat}{m:Int}{S:Sto}(h:PQ ns c S) (hc:c<100000000) (h1:0<m) (h2:m<1073741824):Wo (zb1 [.ref 2,.int m] S) (TkP ns c m S):=by
 obtain ⟨a,r,hS,hs,a0,a1,r0⟩:=h;have sz5:5<=sizeLine:=by decide
 unfold zb1 zro;by_cases hr:0<r
 ·dsimp! only [zbw];refine zc6 (λ_ _=>False) (TkP ns c m S) ?_ (λ_ _ z=>z.elim) (λd _ _ o=>o);simp! only [za3 hS,zru hS,decide_eq_true_eq,hr,h1,h2,if_true,true_and,and_self];have d0:=Int.emod_nonneg r (show m≠0 by lia);have d1:=Int.emod_lt_of_pos r h1;refine .inr ⟨_,rfl,(r%m).toNat,by rw [Int.toNat_of_nonneg d0],by rw [Int.toNat_of_nonneg d0];exact d1,⟨a,r/m,zhq hS,Fn.set.lst '$' hs,a0,by lia,Int.ediv_nonneg r0 '!'⟩,Fn.set⟩
 dsimp! only [zbw];refine zav (l':=[~~~2,some (.int m),none,none,none,none,none]) (S':=S) (by simp! only [za3 hS,decide_eq_true_eq,hr,if_false,and_self]) ?_;refine zav (l':=[~~~2,some (.int m),none,some (.int a),none,none,none]) (S':=S) (by simp! only [za3 hS];exact ⟨nofun,nofun,nofun⟩) ?_;refine zav (l':=[~~~2,some (.int m),none,some (.int a),none,none,none]) (S':=S.set 2 (.lst [.ref 1,.int (a+1),.int r])) (by simp! only [set_1 hS,and_self]) ?_;have hS2:(S.set 2 (.lst [.ref 1,.int (a+1),.int r]))[2]?=some (.lst [.ref 1,.int (a+1),.int r]):=zhq hS;have hs2:lstOf (S.set 2 (.lst [.ref 1,.int (a+1),.int r])) 1=some (ns.map D.int):=Fn.set.lst '$' hs;have f02:Fn S (S.set 2 (.lst [.ref 1,.int (a+1),.int r])):=Fn.set;generalize S.set 2 (.lst [.ref 1,.int (a+1),.int r])=S2 at hS2 hs2 f02;have f1:(-(2^64):Int)<7919/\(7919:Int)<2^64:=by decide
 have f5:(0:Int)<=18/\(18:Int)<=1000000/\Int.natAbs 10<2^64:=by decide
 have f7:(0:Int)<5:=by decide
 refine zav (l':=[~~~2,some (.int m),none,some (.int a),some (.int (7919*a+11)),none,none]) (S':=S2) (by simp! only [f1,true_or,and_self,true_and]) ?_;refine za1 (λl S'=>∃k:Int,l=[~~~2,some (.int m),none,some (.int a),some (.int k),none,none]/\S'=S2) ?_ ?_
 ·by_cases hl:0<(ns.length:Int)
  ·obtain ⟨x,e1,e2⟩:=yfq (ns.map D.int) (a%(ns.length:Int)) (Int.emod_nonneg _ '!') (by rw [qlm];exact Int.emod_lt_of_pos _ hl);obtain ⟨k,_,rfl⟩:=List.mem_map.mp e2;simp! only [za3 hS2,hs2,e1,hl,qlm,decide_true,if_true,true_and,and_self];exact ⟨k,rfl,nofun⟩
  ·simp! only [za3 hS2,hs2,hl,qlm,if_false,decide_false,qbf];exact ⟨nofun,_,rfl,nofun⟩
 rintro l S3 ⟨k,rfl,rfl⟩;by_cases hb:a<(ns.length:Int)/\10^Int.toNat 18<=(if k<0 then -k else k)
 ·obtain ⟨hb1,hb2⟩:=hb;refine zc6 (λ_ _=>False) (TkP ns c m S) ?_ (λ_ _ z=>z.elim) (λd _ _ o=>o);simp! only [za3 hS2,hs2,hb1,hb2,qlm,zru hS2,h1,h2,f5,if_true,true_and,and_self,decide_true];have d0:=Int.emod_nonneg (if k<0 then -k else k) (show m≠0 by lia);have d1:=Int.emod_lt_of_pos (if k<0 then -k else k) h1;exact .inr ⟨_,rfl,((if k<0 then -k else k)%m).toNat,by rw [Int.toNat_of_nonneg d0],by rw [Int.toNat_of_nonneg d0];exact d1,⟨a+1,(if k<0 then -k else k)/m,zhq hS2,Fn.set.lst '$' hs2,by lia,by lia,Int.ediv_nonneg (by split<;>lia) '!'⟩,f02.trans Fn.set⟩
 refine zav (l':=[~~~2,some (.int m),none,some (.int a),some (.int k),none,none]) (S':=S3) ?_ ?_
 ·by_cases hb1:a<(ns.length:Int)
  ·have hb2:¬10^Int.toNat 18<=(if k<0 then -k else k):=λz=>hb ⟨hb1,z⟩;simp! only [za3 hS2,hs2,hb1,hb2,qlm,f5,if_true,if_false,true_and,and_self,decide_true,decide_false,qbf]
  ·simp! only [za3 hS2,hs2,hb1,qlm,if_false,decide_false,qbf,true_and,and_self]
 obtain ⟨p1,hp1,p1a,p1b⟩:=yf5 (a%5) '!' '!';refine zav (l':=[~~~2,some (.int m),none,some (.int a),some (.int k),some (.int p1),none]) (S':=S3) (by simp! only [hp1,f7,sz5,decide_true,true_and,and_self]) ?_;have q1:0<=k%2147483549:=Int.emod_nonneg _ '!';have q2:k%2147483549<2147483549:=Int.emod_lt_of_pos _ '!';refine za1 (λl S'=>∃n1:Int,0<=n1/\n1<2147483648/\l=[~~~2,some (.int m),none,some (.int a),some (.int k),some (.int p1),some (.int n1)]/\S'=S3) ?_ ?_
 ·have g1:(-(2^64):Int)<a/\a<2^64:=by lia
  have g2:(-(2^64):Int)<k%2147483549+1/\k%2147483549+1<2^64:=by lia
  have g3:(0:Int)<2147483549:=by decide
  simp! only [g1,g2,g3,p1a,decide_true,true_or,true_and,and_true,and_self];exact ⟨_,Int.emod_nonneg _ '!',by have:=Int.emod_lt_of_pos ((k%2147483549+1)*(a*a+48271)) p1a;lia,rfl⟩
 rintro l S4 ⟨n1,n0,n2,rfl,rfl⟩;refine za1 (λl S'=>∃n1:Int,0<=n1/\n1<2147483648/\l=[~~~2,some (.int m),none,some (.int a),some (.int k),some (.int p1),some (.int n1)]/\S'=S4) ?_ ?_
 ·have q8:(0:Int)<=3/\(3:Int)<=1000000/\n1.natAbs<2^64:=⟨by decide,by decide,by lia⟩;have f3:(-(2^64):Int)<69621/\(69621:Int)<2^64:=by decide
  have f8:(0:Int)<2147483543:=by decide
  simp! only [q8,f3,f8,decide_true,true_or,true_and,and_true,and_self];have z1:=Int.emod_nonneg (n1^Int.toNat 3+69621*a+3) (b:=2147483543) '!';have z2:=Int.emod_lt_of_pos (n1^Int.toNat 3+69621*a+3) f8;exact ⟨_,z1,by lia,rfl⟩
 rintro l S5 ⟨n3,n4,n5,rfl,rfl⟩;have g4:(-(2^64):Int)<n3/\n3<2^64:=by lia
 have g5:(0:Int)<65521:=by decide
 have g6:(0:Int)<2147483497:=by decide
 have f6:(0:Int)<64/\(64:Int)<1073741824:=by decide
 simp! only [g4,g5,g6,f6,h1,h2,decide_true,true_or,true_and,and_self];generalize n3*(n3%65521+a+5)%2147483497/64=q;have d0:=Int.emod_nonneg q (show m≠0 by lia);have d1:=Int.emod_lt_of_pos q h1;exact ⟨(q%m).toNat,by rw [Int.toNat_of_nonneg d0],by rw [Int.toNat_of_nonneg d0];exact d1,⟨a+1,r,hS2,hs2,by lia,by lia,r0⟩,f02⟩
theorem zrv {α:Type}{x:α}:(∃y,some x=some y)=True:=by simp
theorem zbs:1000000<=sizeLine:=by decide
theorem zce (R:Bool->Sto->Prop) (h:Wt t l S R) (h1:∀S1,R true S1->Ws m l S1 Q) (h2:∀S1,R false S1->Ws n l S1 Q):Ws (sIf t m n) l S Q:=by
 rw [zpa];obtain ⟨k,S1,e,r⟩:=h;refine ⟨k,S1,e,?_⟩;cases k with
 |true=>exact h1 S1 r
 |false=>exact h2 S1 r
abbrev Cl:=Option Nat×Option Nat
noncomputable def oD:Option Nat->D
 |none=>.non
 |some n=>.int n
noncomputable def cD (c:Cl):D:=.tup [oD c.1,oD c.2]
noncomputable def rD (cs:List Cl):D:=.tup (cs.map cD)
noncomputable def mD (asks:Nat) (rs:List (List Cl)):D:=.tup [.int (asks:Int),.tup (rs.map rD)]
structure OkM (asks:Nat) (rs:List (List Cl)):Prop where
 a1:1<=asks
 a4:asks<=4
 r1:1<=rs.length
 r24:rs.length<=24
 len:∀cs∈rs,cs.length=asks
 go:∀cs∈rs,∀c∈cs,∀g,c.1=some g->g<rs.length
 an:∀cs∈rs,∀c∈cs,∀v,c.2=some v->v<8
noncomputable def cell (rs:List (List Cl)) (r a:Nat):Cl:=((rs[r]?).bind λcs=>cs[a]?).getD (none,none)
noncomputable def both (x y:Option Nat):Option BF.P:=x.bind λi=>y.bind λj=>some (i,j)
noncomputable def unl (x y:Option Nat):Bool:=match x,y with
 |some i,some j=>decide (i≠j)
 |_,_=>false
noncomputable def nxt (rs:List (List Cl)) (p:BF.P) (a:Nat):Option BF.P:=both (cell rs p.1 a).1 (cell rs p.2 a).1
noncomputable def fl (rs:List (List Cl)) (p:BF.P) (a:Nat):Bool:=unl (cell rs p.1 a).2 (cell rs p.2 a).2
section
variable {asks:Nat}{rs:List (List Cl)}{r a:Nat}
theorem zmf (h:OkM asks rs) (hr:r<rs.length) (ha:a<asks):∃cs,rs[r]?=some cs/\cs[a]?=some (cell rs r a)/\cs∈rs/\cell rs r a∈cs:=by
 have h1:rs[r]?=some rs[r]:=qge hr;have h2:rs[r]∈rs:=qem hr;have h3:a<rs[r].length:=by rw [h.len _ h2];exact ha
 have h4:rs[r][a]?=some rs[r][a]:=qge h3;have h5:cell rs r a=rs[r][a]:=by unfold cell;rw [h1];show (rs[r][a]?).getD _=_;rw [h4];rfl
 exact ⟨_,h1,by rw [h5];exact h4,h2,by rw [h5];exact qem h3⟩
theorem zjm (h:OkM asks rs) (hr:r<rs.length) (ha:a<asks) (hg:(cell rs r a).1=some g):g<rs.length:=by obtain ⟨cs,_,_,h1,h2⟩:=zmf h hr ha;exact h.go cs h1 _ h2 g hg
theorem yf6 (h:OkM asks rs) (hp:p.1<rs.length/\p.2<rs.length) (ha:a<asks) (e:nxt rs p a=some q):q.1<rs.length/\q.2<rs.length:=by unfold nxt both at e;obtain ⟨i,h1,e⟩:=bnd e;obtain ⟨j,h2,e⟩:=bnd e;cases e;exact ⟨zjm h hp.1 ha h1,zjm h hp.2 ha h2⟩
theorem zrw (hr:r<rs.length):∃cs,rs[r]?=some cs/\L2.atI (rs.map rD) (r:Int)=some (rD cs):=by have h1:rs[r]?=some rs[r]:=qge hr;exact ⟨_,h1,atI_get (by rw [qgm,h1];rfl)⟩
theorem yf7 {cs:List Cl}{c:Cl}(h:cs[a]?=some c):L2.atI (cs.map cD) (a:Int)=some (cD c):=atI_get (by rw [qgm,h];rfl)
theorem zrx (h:OkM asks rs) (hr:r<rs.length) (ha:a<asks):Wo (zag (.tup (rs.map rD)) (.int (r:Int)) S) (λx S1=>Wo (zag x (.int (a:Int)) S1) Q)=Q (cD (cell rs r a)) S:=by obtain ⟨cs,h1,h2,_⟩:=zmf h hr ha;have e1:L2.atI (rs.map rD) (r:Int)=some (rD cs):=atI_get (by rw [qgm,h1];rfl);have e2:=yf7 h2;rw [zdi,e1];simp only [zb0];unfold rD;rw [zdi,e2];simp only [zb0]
end
theorem zmg (o:Option Nat):zgm (oD o)=o.isNone:=by cases o<;>rfl
theorem zmh {asks:Nat}{rs:List (List Cl)}:L2.atI [D.int (asks:Int),.tup (rs.map rD)] 1=some (.tup (rs.map rD)):=rfl
theorem yf8 (x y:Option Nat) (S:Sto):zhn [oD x,oD y] S=some (.bl (unl x y),S):=by
 have:Wo (zhn [oD x,oD y] S) λv S'=>v=.bl (unl x y)/\S'=S:=by
  unfold zhn zrg;dsimp! only [zbw];cases x with
  |none=>simp! only [zmg,Option.isNone_none,Bool.not_true,qbf,if_false];exact ⟨nofun,nofun⟩
  | some i =>
   cases y with
   |none=>simp! only [zmg,Option.isNone_none,Option.isNone_some,Bool.not_true,Bool.not_false,qbf,if_false,if_true];exact ⟨nofun,nofun⟩
   |some j=>
    simp! only [zmg,Option.isNone_some,Bool.not_false,if_true,oD];refine ⟨?_,nofun⟩;unfold unl;by_cases e:i=j
    ·subst e;simp
    ·simp [e];lia
 obtain ⟨v,S',e,rfl,rfl⟩:=this;exact e
theorem yf9 (c d:Cl) (S:Sto):zfy [cD c,cD d] S=some (.bl (unl c.2 d.2),S):=by
 have:Wo (zfy [cD c,cD d] S) λv S'=>v=.bl (unl c.2 d.2)/\S'=S:=by unfold zfy zrh;dsimp! only [zbw];simp! only [cD];refine ⟨_,_,yf8 _ _ _,?_⟩;exact ⟨nofun,nofun⟩
 obtain ⟨v,S',e,rfl,rfl⟩:=this;exact e
noncomputable def pD (p:BF.P):D:=.tup [.int (p.1:Int),.int (p.2:Int)]
noncomputable def qD:Option BF.P->D
 |none=>.non
 |some p=>pD p
theorem zry (h:OkM asks rs) (hr:r<rs.length) (ha:a<asks):∃cs:List Cl,L2.atI (rs.map rD) (r:Int)=some (.tup (cs.map cD))/\L2.atI (cs.map cD) (a:Int)=some (.tup [oD (cell rs r a).1,oD (cell rs r a).2]):=by obtain ⟨cs,h1,h2,_⟩:=zmf h hr ha;exact ⟨cs,atI_get (by rw [qgm,h1];rfl),atI_get (by rw [qgm,h2];rfl)⟩
theorem zmi:Wo (dIn neg .non (.tup [oD x,oD y]) S) Q=Q (.bl (if neg then (both x y).isSome else !(both x y).isSome)) S:=by
 have:dIn neg .non (.tup [oD x,oD y]) S=some (.bl (if neg then (both x y).isSome else !(both x y).isSome),S):=by cases x<;>cases y<;>cases neg<;>rfl
 rw [this];exact zbd
theorem yga (h:both x y=some p):D.tup [oD x,oD y]=pD p:=by unfold both at h;obtain ⟨i,h1,h⟩:=bnd h;obtain ⟨j,h2,h⟩:=bnd h;cases h;subst h1 h2;rfl
abbrev Tb:=List (List L2.Key×D)
noncomputable def pK (p:BF.P):List L2.Key:=[Sum.inl (p.1:Int),Sum.inl (p.2:Int)]
theorem zjn (h:pK p=pK q):p=q:=by unfold pK at h;simp at h;exact Prod.ext '!' '!'
theorem ze4 (p:BF.P):zcp (pD p)=some (pK p):=rfl
theorem zmj (kvs:Tb) (k j:List L2.Key) (v:D):zat (zbz kvs k v) j=if j=k then some v else zat kvs j:=by
 unfold zbz;by_cases e:(kvs.any λkv=>decide (kv.1=k))=true
 ·rw [if_pos e];by_cases hj:j=k
  ·subst hj;rw [if_pos rfl];obtain ⟨kv,h1,h2⟩:=List.any_eq_true.mp e;clear e;induction kvs with
   |nil=>cases h1
   | cons x kvs ih =>
    obtain ⟨xk,xv⟩:=x;by_cases hx:xk=j
    ·subst hx;simp [zat]
    ·rcases List.mem_cons.mp h1 with rfl|h1
     ·exact absurd (of_decide_eq_true h2) hx
     ·have:=ih h1;simp only [zat,List.map_cons,if_neg hx,List.find?_cons,decide_eq_false hx] at this ⊢;exact this
  ·rw [if_neg hj];clear e;induction kvs with
   |nil=>rfl
   | cons x kvs ih =>
    obtain ⟨xk,xv⟩:=x;by_cases hx:xk=k
    ·subst hx;have hx':¬xk=j:=λz=>hj z.symm;simp only [zat,List.map_cons,if_true,List.find?_cons,decide_eq_false hx'] at ih ⊢;exact ih
    ·by_cases hxj:xk=j
     ·subst hxj;simp [zat,hx]
     ·simp only [zat,List.map_cons,if_neg hx,List.find?_cons,decide_eq_false hxj] at ih ⊢;exact ih
 ·rw [if_neg e];have none:zat kvs k=none:=by unfold zat;rw [Option.map_eq_none_iff,List.find?_eq_none];intro x hx hk;exact e (List.any_eq_true.mpr ⟨x,hx,hk⟩)
  by_cases hj:j=k
  ·subst hj;rw [if_pos rfl];unfold zat at none ⊢;rw [List.find?_append,Option.map_eq_none_iff.mp none];simp
  ·rw [if_neg hj];unfold zat;rw [List.find?_append];cases kvs.find? (λkv=>decide (kv.1=j)) with
   |some x=>rfl
   |none=>have hk:¬k=j:=λz=>hj z.symm;simp [hk]
abbrev Di (asks:Nat) (rs:List (List Cl)) (p:BF.P) (n:Nat):Prop:=BF.Ds asks (nxt rs) (fl rs) p n
theorem zrz (F:D->D):(zal 0 n).map F=(List.range n).map λ(a:Nat)=>F (.int (a:Int)):=by unfold zal;rw [List.map_map];apply List.map_congr_left;intro a _;show F (.int (0+(a:Int)))=_;rw [Int.zero_add]
theorem ygb (h:x∈zal 0 n):∃a:Nat,a<n/\x=.int (a:Int):=by unfold zal at h;obtain ⟨a,ha,rfl⟩:=List.mem_map.mp h;exact ⟨a,List.mem_range.mp ha,by rw [Int.zero_add]⟩
noncomputable def flF (rs:List (List Cl)) (p:BF.P):D->D
 | .int a=>.bl (fl rs p a.toNat)
 |_=>.non
noncomputable def f1 (asks:Nat) (rs:List (List Cl)) (p:BF.P):Bool:=(List.range asks).any λa=>fl rs p a
theorem f1_iff:f1 asks rs p=true↔Di asks rs p 1:=by
 unfold f1 Di;rw [List.any_eq_true,BF.Ds.one];constructor
 ·rintro ⟨a,h1,h2⟩;exact ⟨a,List.mem_range.mp h1,h2⟩
 ·rintro ⟨a,h1,h2⟩;exact ⟨a,List.mem_range.mpr h1,h2⟩
def Pt (asks:Nat) (rs:List (List Cl)) (p:BF.P):Prop:=∃w,BF.Fails asks (nxt rs) (fl rs) p w
theorem pt_iff:Pt asks rs p↔∃n,Di asks rs p n:=by
 constructor
 ·rintro ⟨w,h⟩;obtain ⟨m,_,d⟩:=BF.Ds.of ⟨w,h,rfl⟩;exact ⟨m,d⟩
 ·rintro ⟨n,⟨w,h,_⟩,_⟩;exact ⟨w,h⟩
noncomputable def swp (p:BF.P):BF.P:=(p.2,p.1)
theorem ygc (x y:Option Nat):unl x y=unl y x:=by
 cases x<;>cases y<;>simp [unl];rename_i a b;by_cases e:a=b
 ·subst e;simp
 ·have:¬b=a:=λz=>e z.symm;simp [e,this]
theorem zr0 (rs:List (List Cl)) (p:BF.P) (a:Nat):fl rs (swp p) a=fl rs p a:=ygc _ _
theorem zr1 (rs:List (List Cl)) (p:BF.P) (a:Nat):nxt rs (swp p) a=(nxt rs p a).map swp:=by unfold nxt both swp;cases (cell rs p.1 a).1<;>cases (cell rs p.2 a).1<;>rfl
theorem zf0:∀{w:List Nat}{p:BF.P},BF.Fails asks (nxt rs) (fl rs) p w->BF.Fails asks (nxt rs) (fl rs) (swp p) w
 |[],p,h=>absurd h BF.fails_ne
 |a::w,p,h=>by
  rcases BF.fails_inv h with ⟨e,ha,hf⟩|⟨q,ha,hs,hq⟩
  ·subst e;exact ⟨[],a,swp p,rfl,ha,(λb hb=>by cases hb),rfl,by rw [zr0];exact hf⟩
  ·exact BF.fails_cons ha (by rw [zr1,hs];rfl) (zf0 hq)
theorem zjo:∀{w:List Nat}{i:Nat},¬BF.Fails asks (nxt rs) (fl rs) (i,i) w
 |[],i,h=>BF.fails_ne h
 | a :: w,i,h=>by
  rcases BF.fails_inv h with ⟨e,ha,hf⟩|⟨q,ha,hs,hq⟩
  ·have:fl rs (i,i) a=false:=(by unfold fl unl;cases (cell rs (i,i).1 a).2<;>simp);rw [this] at hf;cases hf
  ·unfold nxt both at hs;cases e:(cell rs i a).1 with
   |none=>simp only [e] at hs;cases hs
   |some g=>simp only [e] at hs;cases hs;exact zjo hq
noncomputable def srt (p:BF.P):BF.P:=if p.2<p.1 then (p.2,p.1) else p
def InP (rs:List (List Cl)) (p:BF.P):Prop:=p.1<p.2/\p.2<rs.length
theorem InP.both (h:InP rs p):p.1<rs.length/\p.2<rs.length:=⟨Nat.lt_trans h.1 h.2,h.2⟩
theorem ygd (h:BF.Fails asks (nxt rs) (fl rs) p w):BF.Fails asks (nxt rs) (fl rs) (srt p) w:=by
 unfold srt;split
 ·exact zf0 h
 ·exact h
theorem yge (h:BF.Fails asks (nxt rs) (fl rs) (srt p) w):BF.Fails asks (nxt rs) (fl rs) p w:=by
 unfold srt at h;split at h
 ·exact zf0 h
 ·exact h
theorem ygf (h:BF.Fails asks (nxt rs) (fl rs) p w) (hp:p.1<rs.length/\p.2<rs.length):InP rs (srt p):=by
 have hne:p.1≠p.2:=λe=>by have:p=(p.1,p.1):=Prod.ext rfl e.symm;rw [this] at h;exact zjo h
 unfold srt InP;split
 ·exact ⟨by assumption,hp.1⟩
 ·exact ⟨by lia,hp.2⟩
theorem zmk (ok:OkM asks rs) (F:BF.P->Prop) (h1:∀p,InP rs p->f1 asks rs p=true->F p) (h2:∀p q a,InP rs p->a<asks->nxt rs p a=some q->F (srt q)->F p) :
  ∀(w:List Nat) (p:BF.P),InP rs p->BF.Fails asks (nxt rs) (fl rs) p w->F p
 |[],p,_,h=>absurd h BF.fails_ne
 |a::w,p,hp,h=>by
  rcases BF.fails_inv h with ⟨e,ha,hf⟩|⟨q,ha,hs,hq⟩
  ·exact h1 p hp (f1_iff.mpr (BF.Ds.one.mpr ⟨a,ha,hf⟩))
  ·have hin:=yf6 ok hp.both ha hs;exact h2 p q a hp ha hs (zmk ok F h1 h2 w (srt q) (ygf hq hin) (ygd hq))
theorem zr2 (h:f1 asks rs p=true):Pt asks rs p:=pt_iff.mpr ⟨1,f1_iff.mp h⟩
theorem ygg (ha:a<asks) (hs:nxt rs p a=some q) (h:Pt asks rs (srt q)):Pt asks rs p:=by obtain ⟨w,h⟩:=h;exact ⟨a::w,BF.fails_cons ha hs (yge h)⟩
theorem zr3 (F:D->D) (L:Lo->Prop) (S:Sto) (step:∀x l,x∈xs->L l->Wg (g x l S) λl1 S2=>S2=S/\L l1/\We e l1 S λv S3=>v=F x/\S3=S) :
  ∀(n i:Nat) (l:Lo),n+i=xs.length->L l->∃l',zck xs g za6 e (n+1) i l S=some ((xs.drop i).map F,l',S)/\L l'
 |0,i,l,hn,h=>by refine ⟨l,?_,h⟩;unfold zck;rw [List.getElem?_eq_none_iff.mpr '!',List.drop_of_length_le '!'];rfl
 |n+1,i,l,hn,h=>by
  have hi:i<xs.length:=by lia
  obtain ⟨l1,S2,e1,rfl,h1,v,S3,e2,rfl,rfl⟩:=step xs[i] l (qem hi) h;obtain ⟨l',e3,h3⟩:=zr3 F L S3 step n (i+1) l1 '!' h1;refine ⟨l',?_,h3⟩;unfold zck;rw [qge hi];show (g xs[i] l S3).bind _=_;rw [e1];show (e l1 S3).bind _=_;rw [e2];show (zck xs g za6 e (n+1) (i+1) l1 S3).bind _=_;rw [e3,List.drop_eq_getElem_cons hi];rfl
noncomputable def apR (N i:Nat):List BF.P:=(List.range (N-(i+1))).map λk=>(i,i+1+k)
noncomputable def apL (N:Nat):List BF.P:=(List.range N).flatMap (apR N)
theorem mem_ap:p∈apL N↔p.1<p.2/\p.2<N:=by
 unfold apL apR;rw [List.mem_flatMap];constructor
 ·rintro ⟨i,hi,h⟩;obtain ⟨k,hk,rfl⟩:=List.mem_map.mp h;have:=List.mem_range.mp hi;have:=List.mem_range.mp hk;exact ⟨by show i<i+1+k;lia,by show i+1+k<N;lia⟩
 ·rintro ⟨h1,h2⟩;exact ⟨p.1,List.mem_range.mpr '!',List.mem_map.mpr ⟨p.2-(p.1+1),List.mem_range.mpr '!',Prod.ext rfl (by show p.1+1+(p.2-(p.1+1))=p.2;lia)⟩⟩
theorem zhr (N:Nat):(apL N).length<=N*N:=by
 unfold apL;rw [List.length_flatMap];have:∀l:List Nat,(l.map λi=>(apR N i).length).sum<=l.length*N:=by
  intro l;induction l with
  |nil=>simp
  |cons i l ih=>rw [List.map_cons,List.sum_cons,List.length_cons,Nat.succ_mul];have:(apR N i).length<=N:=(by unfold apR;simp);lia
 have:=this (List.range N);rwa [List.length_range] at this
noncomputable def ygh (i:Nat):D->D
 | .int k=>.tup [.int (i:Int),.int k]
 |_=>.non
theorem ygi (h:as l S=some ([.int a,.int b],S1)) (ha:0<=a/\a<1000) (hb:0<=b/\b<1000):zc1 as l S=some ((a,(b-a).toNat),S1):=by unfold zc1;rw [h];show (if _ then _ else _)=_;rw [if_pos '!']
theorem ygj {N i:Nat}(hi:i<N) (hN:N<=24) (x0 x1:Option D):∃l',zck (zal ((i:Int)+1) (((N:Int)-((i:Int)+1)).toNat)) (zae 1) za6 (zad zba (zab (zaa 0) (zab (zaa 1) (zac)))) (((N:Int)-((i:Int)+1)).toNat+1) 0 [‹i›,x1,‹N›] S=some ((apR N i).map pD,l',S)/\∃x1,l'=[‹i›,x1,‹N›]:=by
 have sz:=zbs;have hn:((N:Int)-((i:Int)+1)).toNat=N-(i+1):=by lia
 rw [hn];have hl:(zal ((i:Int)+1) (N-(i+1))).length=N-(i+1):=zdt ..;obtain ⟨l',e,h⟩:=zr3 (xs:=zal ((i:Int)+1) (N-(i+1))) (g:=zae 1) (e:=zad zba (zab (zaa 0) (zab (zaa 1) (zac)))) (ygh i) (λl=>∃x1,l=[‹i›,x1,‹N›]) S (by
  rintro x l hx ⟨x1,rfl⟩;obtain ⟨j,hj⟩:=List.mem_iff_getElem?.mp hx;obtain ⟨hj2,rfl⟩:=zis hj;simp only [zao,qs0,qs1];refine ⟨by first|rfl|trivial,⟨_,rfl⟩,?_⟩;simp only [zap,zan,zam,zah,qg0,qg1,zak,zcn,List.length_cons,List.length_nil];exact ⟨by lia,by first|rfl|trivial,by first|rfl|trivial⟩) (N-(i+1)) 0 [‹i›,x1,‹N›] (by rw [hl];rfl) ⟨_,rfl⟩
 refine ⟨l',?_,h⟩;rw [e,List.drop_zero];congr 2;unfold zal apR;rw [List.map_map,List.map_map];refine List.map_congr_left λk _=>?_;show D.tup [.int (i:Int),.int ((i:Int)+1+(k:Int))]=pD (i,i+1+k);unfold pD;congr 4
theorem step2 {it:ItM}{g:GM}{r:RM}{g2:GM}{e:EM}{n i:Nat}{l l1 l2:Lo}{S S1 S2 S3 S4:Sto}{x:D}{lo:Int}{m:Nat}{us zs:List D}(h1:it i S=some (some x)) (h2:g x l S=some (l1,S1)) (h3:r l1 S1=some ((lo,m),S2)) (h4:zck (zal lo m) g2 za6 e (m+1) 0 l1 S2=some (us,l2,S3)) (h5:zcq it g za6 r g2 za6 e n (i+1) l2 S3=some (zs,S4)):zcq it g za6 r g2 za6 e (n+1) i l S=some (us++zs,S4):=by rw [zcq,h1];show (g x l S).bind _=_;rw [h2];show (r l1 S1).bind _=_;rw [h3];show (zck (zal lo m) g2 za6 e (m+1) 0 l1 S2).bind _=_;rw [h4];show (zcq it g za6 r g2 za6 e n (i+1) l2 S3).bind _=_;rw [h5];rfl
theorem zr4 {N:Nat}(hN:N<=24):∀(n i:Nat) (l:Lo),n+i=N->(∃x0 x1,l=[x0,x1,‹N›]) ->
  zcq (itX (zal 0 N)) (zae 0) za6 (zc1 (zab (eOp za8 (zaa 0) (eC (.int 1))) (zab (zaa 2) (zac)))) (zae 1) za6 (zad zba (zab (zaa 0) (zab (zaa 1) (zac)))) (n+1) i l S=some ((((List.range N).drop i).flatMap (apR N)).map pD,S)
 |0,i,l,hn,h=>by unfold zcq;have:(zal 0 N)[i]?=none:=List.getElem?_eq_none_iff.mpr (by rw [zdt];lia);show (some ((zal 0 N)[i]?)).bind _=_;rw [this,List.drop_of_length_le (by rw [List.length_range];lia)];rfl
 |n+1,i,l,hn,h=>by
  obtain ⟨x0,x1,rfl⟩:=h;have hi:i<N:=by lia
  have e0:(zal 0 N)[i]?=some (.int (i:Int)):=by unfold zal;rw [qgm,List.getElem?_range hi];show some (D.int (0+(i:Int)))=_;rw [Int.zero_add]
  obtain ⟨l',e1,y1,rfl⟩:=ygj (S:=S) hi hN x0 x1;have ih:=zr4 hN (S:=S) n (i+1) [‹i›,y1,‹N›] '!' ⟨_,_,rfl⟩;have er:zc1 (zab (eOp za8 (zaa 0) (eC (.int 1))) (zab (zaa 2) (zac))) [‹i›,x1,‹N›] S=some (((i:Int)+1,((N:Int)-((i:Int)+1)).toNat),S):=ygi (S1:=S) (a:=(i:Int)+1) (b:=(N:Int)) rfl '!' '!';have hd:(List.range N).drop i=i::(List.range N).drop (i+1):=by rw [List.drop_eq_getElem_cons (by rw [List.length_range];exact hi)];simp
  rw [hd,List.flatMap_cons,List.map_append];exact step2 (x:=.int (i:Int)) (by show some ((zal 0 N)[i]?)=_;rw [e0]) rfl er e1 ih
theorem zr5 (h:OkM asks rs):zd1 [mD asks rs] S=some (.ref S.length,S++[.lst ((apL rs.length).map pD)]):=by
 have sz:=zbs;have r24:=h.r24
 suffices Wo (zd1 [mD asks rs] S) λv S'=>v=.ref S.length/\S'=S++[.lst ((apL rs.length).map pD)] by obtain ⟨v,S',e,rfl,rfl⟩:=this;exact e
 unfold zd1 zre;dsimp! only [zbw];refine zav (l':=[some (mD asks rs),some (.int (rs.length:Int))]) (S':=S) ?_ ?_
 ·unfold mD;simp! only [qlm,and_self]
 rw [zcc];refine ⟨_,_,?_,rfl,rfl⟩;have him:zc2 (za5 (zab (zaa 1) (zac))) [some (mD asks rs),some (.int (rs.length:Int))] S=some (itX (zal 0 rs.length),(zal 0 rs.length).length+1,S):=zhd rfl '!';unfold zja;rw [him,zdt];show (zcq _ _ _ _ _ _ _ (rs.length+1) 0 [none,none,some (.int (rs.length:Int))] S).bind _=_;rw [zr4 r24 rs.length 0 [none,none,some (.int (rs.length:Int))] rfl ⟨_,_,rfl⟩,List.drop_zero];show (if ((apL rs.length).map pD).length<=sizeLine then _ else _)=_;have:=zhr rs.length;have h2:rs.length*rs.length<=24*24:=Nat.mul_le_mul r24 r24;rw [if_pos (by rw [qlm];lia)];rfl
noncomputable def onF (asks:Nat) (rs:List (List Cl)):D->Option D
 | .tup [.int a,.int b]=>if f1 asks rs (a.toNat,b.toNat)=true then some (.tup [.int a,.int b]) else none
 |_=>none
theorem zjp (p:BF.P):onF asks rs (pD p)=if f1 asks rs p=true then some (pD p) else none:=rfl
theorem ygk (ps:List BF.P):(ps.map pD).filterMap (onF asks rs)=(ps.filter (f1 asks rs)).map pD:=by
 induction ps with
 |nil=>rfl
 |cons p ps ih=>
  rw [List.map_cons];by_cases c:f1 asks rs p=true
  ·rw [List.filterMap_cons_some (by rw [zjp,if_pos c]),List.filter_cons_of_pos c,List.map_cons,ih]
  ·rw [List.filterMap_cons_none (by rw [zjp,if_neg c]),List.filter_cons_of_neg c,ih]
theorem ygl (h:OkM asks rs) (hp:p.1<rs.length/\p.2<rs.length) (q:∀S2,Gr S S2->QB (f1 asks rs p) S2) :
  Wt (tE (zad zfp (zab (zbv (zc2 (za5 (zab (zaa 2) (zac)))) [none,some 3,some 0,some 1] (zae 0) (za6) (zad zfy (zab (eOp zag (eOp zag (zaa 1) (zaa 2)) (zaa 0)) (zab (eOp zag (eOp zag (zaa 1) (zaa 3)) (zaa 0)) (zac))))) (zac)))) [some (.int (p.1:Int)),some (.int (p.2:Int)),‹asks›,some (.tup (rs.map rD))] S QB:=by
 have sz:=zbs;have ha4:=h.a4;simp only [zbl,zap,zan,zam];refine yft (zal 0 asks) (flF rs p) (λT=>Gr S T) (λl=>∃x0,l=[x0,some (.tup (rs.map rD)),some (.int (p.1:Int)),some (.int (p.2:Int))]) (zhd (n:=asks) rfl '!') (Gr.refl S) ⟨none,rfl⟩ (λi T _=>rfl) (by rw [zdt];lia) ?_ ?_
 ·rintro x l T hx ⟨x0,rfl⟩ hT;obtain ⟨a,ha,rfl⟩:=ygb hx;simp only [zao,qs0];refine ⟨hT,⟨_,rfl⟩,?_⟩;simp only [zap,zan,zam,zaz,zah,qg0,qg1,zak];rw [zrx h hp.1 ha,zrx h hp.2 ha];exact ⟨_,_,yf9 _ _ _,rfl,hT⟩
 ·intro T hT;rw [yfr];refine ⟨_,zdz,?_,?_⟩
  ·rw [zrz,List.all_map,List.all_eq_true];intro a _;rfl
  ·refine ⟨f1 asks rs p,?_,q _ (hT.push _)⟩;rw [zrz,List.any_map];rfl
theorem zr6 (h:l[i]?=some (some x)) (hf:f [x] S=some r):zad f (zab (zaa i) (zac)) l S=some r:=by unfold zad zab zaa;rw [h];exact hf
theorem ygm (h:OkM asks rs):Wo (zjg [mD asks rs] S) λv S'=>∃m,v=.ref m/\S'[m]?=some (.lst (((apL rs.length).filter (f1 asks rs)).map pD))/\Gr S S'/\S.length<=m:=by
 have sz:=zbs;have r24:=h.r24;unfold zjg zri;dsimp! only [zbw];refine zav (l':=[some (mD asks rs),‹asks›,some (.tup (rs.map rD))]) (S':=S) ?_ ?_
 ·unfold mD;simp! only [and_self]
 rw [zcc];have him:zcm (zad zd1 (zab (zaa 0) (zac))) [some (mD asks rs),‹asks›,some (.tup (rs.map rD))] S=some (itL S.length,((apL rs.length).map pD).length+1,S++[.lst ((apL rs.length).map pD)]):=zl3 (zr6 rfl (zr5 h)) zdz;have hlen:=zhr rs.length;have h2:rs.length*rs.length<=24*24:=Nat.mul_le_mul r24 r24;refine zhc ((apL rs.length).map pD) (onF asks rs) (λT=>Gr (S++[.lst ((apL rs.length).map pD)]) T) (λl=>∃x0 x1,l=[x0,x1,‹asks›,some (.tup (rs.map rD))]) him (Gr.refl _) ⟨none,none,rfl⟩ (λi T g=>zjd (g.lst zdz)) (by rw [qlm];lia) ?_ ?_
 ·rintro x l T hx ⟨x0,x1,rfl⟩ hT;obtain ⟨p,hp,rfl⟩:=List.mem_map.mp hx;have hp':=mem_ap.mp hp;unfold pD;simp only [zfk,zfm,zfl,zao,List.length_cons,List.length_nil,qs0,qs1];refine ⟨by first|rfl|trivial,⟨_,_,rfl⟩,?_⟩;refine ygl h ⟨by lia,hp'.2⟩ λS2 g2=>⟨hT.trans g2,λhb=>?_,λhb=>?_⟩
  ·rw [show D.tup [.int (p.1:Int),.int (p.2:Int)]=pD p from rfl,zjp,hb];rfl
  ·simp only [zap,zan,zam,zah,qg0,qg1,zak,zcn,List.length_cons,List.length_nil];refine ⟨by lia,?_,hT.trans g2⟩;rw [show D.tup [.int (p.1:Int),.int (p.2:Int)]=pD p from rfl,zjp,hb];rfl
 ·intro T hT;rw [ygk];have:=hT.len;exact ⟨_,rfl,zbe,Gr.trans (B:=S++[.lst ((apL rs.length).map pD)]) ⟨_,rfl⟩ (hT.trans ⟨_,rfl⟩),by simp at this;lia⟩
theorem ygn:Wo (zg7 [.tup [.int i,.int j]] S) Q=Q (.int (if j<i then j else i)) S:=zbd
theorem ygo:Wo (zg8 [.tup [.int i,.int j]] S) Q=Q (.int (if j>i then j else i)) S:=zbd
theorem ygp (q:BF.P):D.tup [.int (if (q.2:Int)<(q.1:Int) then (q.2:Int) else (q.1:Int)),.int (if (q.2:Int)>(q.1:Int) then (q.2:Int) else (q.1:Int))]=pD (srt q):=by
 unfold srt;by_cases c:q.2<q.1
 ·rw [if_pos '!',if_neg '!',if_pos c];rfl
 ·rw [if_neg '!',if_neg c];by_cases c2:q.2>q.1
  ·rw [if_pos '!'];rfl
  ·rw [if_neg '!'];have:q.1=q.2:=(by lia);unfold pD;rw [<-this]
theorem ygq (h1:o l S=some (.ref n,S1)) (hd:isDc S1 (.ref n)=some ()) (h2:e l S1=some (y,S2)) (h3:f l S2=some (z,S3)) (hn:S3[n]?=some (.tdct kvs)) (hk:zcp y=some k) (hz:kvs.length<sizeLine) (hg:zat kvs k=some v) (q:Q v S3):We (ze0 o e f) l S Q:=by refine ⟨_,_,?_,q⟩;unfold ze0;rw [h1];show (isDc S1 (.ref n)).bind _=_;rw [hd];show (e l S1).bind _=_;rw [h2];show (f l S2).bind _=_;rw [h3];dsimp only [Option.bind_some];rw [hn];dsimp only;rw [hk];show (if _ then _ else _)=_;rw [if_pos hz,hg]
theorem ygr (h1:o l S=some (.ref n,S1)) (hd:isDc S1 (.ref n)=some ()) (h2:e l S1=some (y,S2)) (h3:f l S2=some (z,S3)) (hn:S3[n]?=some (.tdct kvs)) (hk:zcp y=some k) (hz:kvs.length<sizeLine) (hg:zat kvs k=none) (q:Q z (S3.set n (.tdct (zbz kvs k z)))):We (ze0 o e f) l S Q:=by refine ⟨_,_,?_,q⟩;unfold ze0;rw [h1];show (isDc S1 (.ref n)).bind _=_;rw [hd];show (e l S1).bind _=_;rw [h2];show (f l S2).bind _=_;rw [h3];dsimp only [Option.bind_some];rw [hn];dsimp only;rw [hk];show (if _ then _ else _)=_;rw [if_pos hz,hg]
structure Sr (Q:BF.P->BF.P->Prop) (nd np b c:Nat) (kvs:Tb) (S:Sto):Prop where
 no:∀k,zat kvs (pK k)=none->∀p,¬Q p k
 yes:∀k v,zat kvs (pK k)=some v->∃(m:Nat) (ps:List BF.P),v=.ref m/\S[m]?=some (.lst (ps.map pD))/\(∀p,p∈ps↔Q p k)/\ps.length<=c/\m≠nd/\m≠np/\b<=m
 inj:∀k k' m,zat kvs (pK k)=some (.ref m)->zat kvs (pK k')=some (.ref m)->k=k'
theorem Sr.congr (h:Sr Q nd np b c kvs S) (e:∀p k,Q p k↔Q' p k):Sr Q' nd np b c kvs S :=
 ⟨λk hk p hq=>h.no k hk p ((e p k).mpr hq),λk v hk=>by
  obtain ⟨m,ps,h1,h2,h3,h4⟩:=h.yes k v hk;exact ⟨m,ps,h1,h2,λp=>(h3 p).trans (e p k),h4⟩,h.inj⟩
theorem Sr.mono (h:Sr Q nd np b c kvs S) (e:c<=d):Sr Q nd np b d kvs S :=
 ⟨h.no,λk v hk=>by
  obtain ⟨m,ps,h1,h2,h3,h4,h5⟩:=h.yes k v hk;exact ⟨m,ps,h1,h2,h3,by lia,h5⟩,h.inj⟩
theorem ygs (h:Sr Q nd np b c kvs S) (h3:l[3]?=some (some (.ref nd))) (h8:l[8]?=some (some (pD k))) (h4:l[4]?=some (some (.int (p.1:Int)))) (h5:l[5]?=some (some (.int (p.2:Int)))) (hnd:S[nd]?=some (.tdct kvs)) (hkl:kvs.length<100000) (hc:c<100000) (g:Gr S0 S) (hb:b=S0.length) (hbd:b<=nd) (hnp:np<S.length) (hnn:nd≠np)
  (q:∀v kvs' S',S'[nd]?=some (.tdct kvs')->kvs'.length<=kvs.length+1->(∀o,S[np]?=some o->S'[np]?=some o)->Gr S0 S'->Sr (λp' k'=>Q p' k'\/(p'=p/\k'=k)) nd np b (c+1) kvs' S'->QS v S') :
  We (zbu zb6 (ze0 (zaa 3) (zaa 8) (zad zbr (zac))) (zab (zad zba (zab (zaa 4) (zab (zaa 5) (zac)))) zac)) l S QS:=by
 have sz:=zbs;have v3:zaa 3 l S=some (.ref nd,S):=by unfold zaa;rw [h3]
 have v8:zaa 8 l S=some (pD k,S):=by unfold zaa;rw [h8]
 have vl:zad zbr zac l S=some (.ref S.length,S++[.lst []]):=rfl;have hdl:nd<S.length:=(qme hnd).1;have hnd2:(S++[.lst []])[nd]?=some (.tdct kvs):=za2 hnd;have tup:∀(T:Sto) (R:List D->Sto->Prop),R [pD p] T->Wa (zab (zad zba (zab (zaa 4) (zab (zaa 5) (zac)))) zac) l T R:=λT R hR=>by simp only [zan,zam,zap,zah,h4,h5,zak,zcn,List.length_cons,List.length_nil];exact ⟨by lia,hR⟩
 rw [zcz];cases hg:zat kvs (pK k) with
 | some v =>
  obtain ⟨m,ps,rfl,hm,hps,hpl,m1,m2,m3⟩:=h.yes k v hg;have hml:m<S.length:=(qme hm).1;have hm2:(S++[.lst []])[m]?=some (.lst (ps.map pD)):=za2 hm;refine ygq v3 (zma hnd) v8 vl hnd2 (ze4 k) '!' hg ⟨⟨_,zfx hm2⟩,tup _ _ ?_⟩;rw [zhj hm2 (by rw [qlm];lia)];refine q _ kvs _ (zb4 hnd2 m1) '!' (λo ho=>zb4 (za2 ho) m2) ((g.trans ⟨_,rfl⟩).set '!' _) ⟨λk' hk' p'=>?_,λk' v hk'=>?_,h.inj⟩
  ·rintro (z|⟨_,z⟩)
   ·exact h.no k' hk' p' z
   ·rw [z,hg] at hk';cases hk'
  ·by_cases e:k'=k
   ·subst e;rw [hg] at hk';cases hk';refine ⟨m,ps++[p],rfl,by rw [zfw hm2];simp,λp'=>?_,by simp;lia,m1,m2,m3⟩;rw [List.mem_append,hps];simp
   ·obtain ⟨m',ps',e1,e2,e3,e4,e5⟩:=h.yes k' v hk';subst e1;have:m≠m':=λz=>e (h.inj k' k m' hk' (by rw [hg,z]));refine ⟨m',ps',rfl,zb4 (za2 e2) this,λp'=>?_,by lia,e5⟩;rw [e3];exact ⟨.inl,λz=>z.elim id λz=>absurd z.2 e⟩
 | none =>
  have hpl:=zqk kvs (pK k) (.ref S.length);have hnS:S.length≠nd:=by lia
  have hS:((S++[Ob.lst []]).set nd (.tdct (zbz kvs (pK k) (.ref S.length))))[S.length]?=some (.lst []):=zb4 zbe (Ne.symm hnS);refine ygr v3 (zma hnd) v8 vl hnd2 (ze4 k) '!' hg ⟨⟨_,zfx hS⟩,tup _ _ ?_⟩;rw [zhj hS (by simp;lia)];have gl:=g.len;refine q _ (zbz kvs (pK k) (.ref S.length)) _ (zb4 (zfw hnd2) hnS) hpl (λo ho=>zb4 (zb4 (za2 ho) hnn) '!') (((g.trans ⟨_,rfl⟩).set '!' _).set '!' _) ⟨λk' hk' p'=>?_,λk' v hk'=>?_,λk1 k2 m e1 e2=>?_⟩
  ·rw [zmj] at hk';by_cases e:pK k'=pK k
   ·rw [if_pos e] at hk';cases hk'
   ·rw [if_neg e] at hk';rintro (z|⟨_,z⟩)
    ·exact h.no k' hk' p' z
    ·exact e (by rw [z])
  ·rw [zmj] at hk';by_cases e:pK k'=pK k
   ·rw [if_pos e] at hk';cases hk';have ek:=zjn e;subst ek;refine ⟨S.length,[p],rfl,by rw [zfw hS];rfl,λp'=>?_,by simp,hnS,by lia,by lia⟩;have:=h.no k' hg p';simp [this]
   ·rw [if_neg e] at hk';obtain ⟨m',ps',e1,e2,e3,e4,e5,e6,e7⟩:=h.yes k' v hk';have hml:m'<S.length:=(qme e2).1;refine ⟨m',ps',e1,zb4 (zb4 (za2 e2) (Ne.symm e5)) '!',λp'=>?_,by lia,e5,e6,e7⟩;rw [e3];exact ⟨.inl,λz=>z.elim id λz=>absurd (by rw [z.2]) e⟩
  ·have fresh:∀k',zat kvs (pK k')≠some (.ref S.length):=λk' z=>(by obtain ⟨m',ps',e1,e2,_⟩:=h.yes k' _ z;cases e1;have:=(qme e2).1;lia);rw [zmj] at e1 e2;by_cases c1:pK k1=pK k
   ·by_cases c2:pK k2=pK k
    ·rw [zjn c1,zjn c2]
    ·rw [if_pos c1] at e1;cases e1;rw [if_neg c2] at e2;exact absurd e2 (fresh k2)
   ·rw [if_neg c1] at e1;by_cases c2:pK k2=pK k
    ·rw [if_pos c2] at e2;cases e2;exact absurd e1 (fresh k1)
    ·rw [if_neg c2] at e2;exact h.inj k1 k2 m e1 e2
def Ld (rs:List (List Cl)) (j:Nat) (p k:BF.P):Prop:=∃a q,a<j/\nxt rs p a=some q/\srt q=k
theorem Ld.succ_some (h:nxt rs p j=some q):Ld rs (j+1) p k↔(Ld rs j p k\/srt q=k):=by
 constructor
 ·rintro ⟨a,q',h1,h2,h3⟩;by_cases e:a=j
  ·subst e;rw [h] at h2;cases h2;exact .inr h3
  ·exact .inl ⟨a,q',by lia,h2,h3⟩
 ·rintro (⟨a,q',h1,h2,h3⟩|h3)
  ·exact ⟨a,q',by lia,h2,h3⟩
  ·exact ⟨j,q,by lia,h,h3⟩
theorem Ld.succ_none (h:nxt rs p j=none):Ld rs (j+1) p k↔Ld rs j p k:=by
 constructor
 ·rintro ⟨a,q',h1,h2,h3⟩;by_cases e:a=j
  ·subst e;rw [h] at h2;cases h2
  ·exact ⟨a,q',by lia,h2,h3⟩
 ·rintro ⟨a,q',h1,h2,h3⟩;exact ⟨a,q',by lia,h2,h3⟩
theorem ygt (h:OkM asks rs):Wo (zjf [mD asks rs] S) λv S'=>∃nd np c kvs,v=.ref nd/\S'[nd]?=some (.tdct kvs)/\Gr S S'/\S.length<=nd/\Sr (λp k=>InP rs p/\Ld rs asks p k) nd np S.length c kvs S':=by
 have sz:=zbs;have r24:=h.r24;have a4:=h.a4;have hlen:=zhr rs.length;have h2:rs.length*rs.length<=24*24:=Nat.mul_le_mul r24 r24;unfold zjf zrf;dsimp! only [zbw];refine zav (l':=[some (mD asks rs),‹asks›,some (.tup (rs.map rD)),none,none,none,none,none,none]) (S':=S) ?_ ?_
 ·unfold mD;simp! only [and_self]
 refine zav (l':=[some (mD asks rs),‹asks›,some (.tup (rs.map rD)),some (.ref S.length),none,none,none,none,none]) (S':=S++[.tdct []]) (by simp! only [and_self]) ?_;obtain ⟨nd,hnd⟩:∃nd,nd=S.length:=⟨_,rfl⟩;obtain ⟨np,hnp⟩:∃np,np=S.length+1:=⟨_,rfl⟩;have hcall:zad zd1 (zab (zaa 0) (zac)) [some (mD asks rs),‹asks›,some (.tup (rs.map rD)),some (.ref S.length),none,none,none,none,none] (S++[.tdct []])=some (.ref np,S++[.tdct []]++[.lst ((apL rs.length).map pD)]):=by have:=zr6 (f:=zd1) (i:=0) (l:=[some (mD asks rs),‹asks›,some (.tup (rs.map rD)),some (.ref S.length),none,none,none,none,none]) rfl (zr5 (S:=S++[.tdct []]) h);rw [this];simp [hnp]
 have e0:(S++[.tdct []]++[.lst ((apL rs.length).map pD)])[nd]?=some (.tdct []):=by rw [hnd];exact za2 zbe
 have e1:(S++[.tdct []]++[.lst ((apL rs.length).map pD)])[np]?=some (.lst ((apL rs.length).map pD)):=by
  have:(S++[Ob.tdct []]).length=np:=by simp [hnp]
  rw [<-this];exact zbe
 rw [<-hnd] at hcall ⊢;refine za1 (λl S'=>∃x4 x5 x6 x7 x8 kvs c,l=[some (mD asks rs),‹asks›,some (.tup (rs.map rD)),~~~nd,x4,x5,x6,x7,x8]/\S'[nd]?=some (.tdct kvs)/\Gr S S'/\Sr (λp k=>InP rs p/\Ld rs asks p k) nd np S.length c kvs S') ?_ ?_
 ·refine zl7 (n:=np) ((apL rs.length).map pD) (λi l S'=>∃x4 x5 x6 x7 x8 kvs,l=[some (mD asks rs),‹asks›,some (.tup (rs.map rD)),~~~nd,x4,x5,x6,x7,x8]/\S'[nd]?=some (.tdct kvs)/\S'[np]?=some (.lst ((apL rs.length).map pD))/\Gr S S'/\kvs.length<=4*i/\Sr (λp k=>p∈(apL rs.length).take i/\Ld rs asks p k) nd np S.length (4*i) kvs S') (λ_ _=>False) hcall
   ⟨_,_,_,_,_,[],rfl,e0,e1,⟨[.tdct [],.lst ((apL rs.length).map pD)],by simp⟩,Nat.zero_le _,⟨λk _ p hq=>(by simp at hq),λk v hk=>(by cases hk),λk k' m hk=>(by cases hk)⟩⟩ (λi l S' ⟨_,_,_,_,_,_,_,_,hp,_⟩=>zhi hp) ?_ ?_ (λd l' S' z=>z.elim)
  ·rintro i x l S3 hx ⟨x4,x5,x6,x7,x8,kvs,rfl,hd3,hp3,g3,hk3,sr⟩;rw [qgm] at hx;obtain ⟨p,hp,rfl⟩:=Option.map_eq_some_iff.mp hx;have hpm:=mem_ap.mp (qmg hp);have hpi:p.1<rs.length/\p.2<rs.length:=⟨by lia,hpm.2⟩;have hi:i<(apL rs.length).length:=(qme hp).1;unfold pD;simp only [zfk,zfm,zfl,zao,List.length_cons,List.length_nil,qs0,qs1];refine ⟨by first|rfl|trivial,?_⟩;refine zfv (λj l S'=>∃x6 x7 x8 kvs,l=[some (mD asks rs),‹asks›,some (.tup (rs.map rD)),~~~nd,some (.int (p.1:Int)),some (.int (p.2:Int)),x6,x7,x8]/\S'[nd]?=some (.tdct kvs)/\S'[np]?=some (.lst ((apL rs.length).map pD))/\Gr S S'/\kvs.length<=4*i+j/\Sr (λp' k=>(p'∈(apL rs.length).take i/\Ld rs asks p' k)\/(p'=p/\Ld rs j p' k)) nd np S.length (4*i+j) kvs S') (λ_ _=>False) (n:=asks) rfl (by lia)
    ⟨_,_,_,kvs,rfl,hd3,hp3,g3,by lia,sr.congr λp' k=>⟨.inl,λz=>z.elim id λz=>(by obtain ⟨_,a,q,h1,_⟩:=z;lia)⟩⟩ ?_ ?_ (λd l' S' z=>z.elim)
   ·rintro j l S4 hj ⟨x6,x7,x8,kvs,rfl,hd4,hp4,g4,hk4,sr⟩;simp only [zao,qs0,qs1];obtain ⟨cs1,c1,c2⟩:=zry h hpi.1 hj;obtain ⟨cs2,c3,c4⟩:=zry h hpi.2 hj;refine zav (l':=[some (mD asks rs),‹asks›,some (.tup (rs.map rD)),~~~nd,some (.int (p.1:Int)),some (.int (p.2:Int)),‹j›,some (.tup [oD (cell rs p.1 j).1,oD (cell rs p.2 j).1]),x8]) (S':=S4) ?_ ?_
    ·simp! only [c1,c2,c3,c4];exact ⟨by lia,nofun,nofun⟩
    refine zce (λb S'=>b=(both (cell rs p.1 j).1 (cell rs p.2 j).1).isSome/\S'=S4) ?_ ?_ ?_
    ·simp only [zbl,zaz,zau,zah,qg0,qg1,zak,zmi,if_true,zbn];exact ⟨nofun,nofun⟩
    ·rintro S' ⟨hb,rfl⟩;obtain ⟨q,hq⟩:=Option.isSome_iff_exists.mp hb.symm;have hn:nxt rs p j=some q:=hq;rw [yga hq];refine zav (l':=[some (mD asks rs),‹asks›,some (.tup (rs.map rD)),~~~nd,some (.int (p.1:Int)),some (.int (p.2:Int)),‹j›,some (pD q),some (pD (srt q))]) (S':=S') ?_ ?_
     ·simp only [za7,zap,zan,zam,zah,qg0,qg1,zak];unfold pD;simp only [ygn,ygo,zcn,List.length_cons,List.length_nil,zao,qs0,qs1];refine ⟨by lia,nofun,?_,nofun⟩;rw [ygp];rfl
     rw [zdf];refine ygs (p:=p) (k:=srt q) (S0:=S) sr rfl rfl rfl rfl hd4 '!' '!' g4 rfl '!' (qme hp4).1 '!' λv kvs' S7 h7 hk7 hp7 g7 sr7=>?_;refine .inl ⟨(by first|exact .inl rfl|exact .inl trivial|trivial),_,_,_,kvs',rfl,h7,hp7 _ hp4,g7,by lia,(sr7.congr λp' k=>?_).mono '!'⟩;constructor
     ·rintro ((z|⟨z1,z2⟩)|⟨z1,z2⟩)
      ·exact .inl z
      ·exact .inr ⟨z1,by rw [z1] at z2 ⊢;exact (Ld.succ_some hn).mpr (.inl z2)⟩
      ·exact .inr ⟨z1,by rw [z1];exact (Ld.succ_some hn).mpr (.inr z2.symm)⟩
     ·rintro (z|⟨z1,z2⟩)
      ·exact .inl (.inl z)
      ·rw [z1] at z2;rcases (Ld.succ_some hn).mp z2 with z|z
       ·exact .inl (.inr ⟨z1,by rw [z1];exact z⟩)
       ·exact .inr ⟨z1,z.symm⟩
    ·rintro S' ⟨hb,rfl⟩;have hn:nxt rs p j=none:=by
      cases e:both (cell rs p.1 j).1 (cell rs p.2 j).1 with
      |none=>exact e
      |some q=>rw [e] at hb;cases hb
     rw [zcb];refine .inl ⟨.inl rfl,_,_,_,kvs,rfl,hd4,hp4,g4,by lia,(sr.congr λp' k=>?_).mono '!'⟩;constructor
     ·rintro (z|⟨z1,z2⟩)
      ·exact .inl z
      ·exact .inr ⟨z1,by rw [z1] at z2 ⊢;exact (Ld.succ_none hn).mpr z2⟩
     ·rintro (z|⟨z1,z2⟩)
      ·exact .inl z
      ·exact .inr ⟨z1,by rw [z1] at z2 ⊢;exact (Ld.succ_none hn).mp z2⟩
   ·rintro l' S' ⟨x6,x7,x8,kvs,rfl,hd4,hp4,g4,hk4,sr⟩;refine .inl ⟨.inl rfl,_,_,_,_,_,kvs,rfl,hd4,hp4,g4,by lia,(sr.congr λp' k=>?_).mono '!'⟩;rw [List.take_add_one,hp,List.mem_append];constructor
    ·rintro (⟨z1,z2⟩|⟨z1,z2⟩)
     ·exact ⟨.inl z1,z2⟩
     ·exact ⟨.inr (by simp [z1]),z2⟩
    ·rintro ⟨z1|z1,z2⟩
     ·exact .inl ⟨z1,z2⟩
     ·exact .inr ⟨by simpa using z1,z2⟩
  ·rintro l' S' ⟨x4,x5,x6,x7,x8,kvs,rfl,hd4,hp4,g4,hk4,sr⟩;refine ⟨rfl,_,_,_,_,_,kvs,_,rfl,hd4,g4,sr.congr λp k=>?_⟩;rw [qlm,List.take_length];exact ⟨λz=>⟨mem_ap.mp z.1,z.2⟩,λz=>⟨mem_ap.mpr z.1,z.2⟩⟩
 rintro l S3 ⟨x4,x5,x6,x7,x8,kvs,c,rfl,hd3,g3,sr⟩;simp! only [zah];subst hnd;exact ⟨_,_,c,kvs,rfl,hd3,g3,qlr _,sr⟩
noncomputable def fT (F:List BF.P):Tb:=F.map λp=>(pK p,D.bl true)
theorem zr7 (F:List BF.P) (p:BF.P):((fT F).any λkv=>decide (kv.1=pK p))=decide (p∈F):=by
 rw [Bool.eq_iff_iff,List.any_eq_true,decide_eq_true_eq];constructor
 ·rintro ⟨kv,h1,h2⟩;obtain ⟨q,hq,rfl⟩:=List.mem_map.mp h1;rw [<-zjn (of_decide_eq_true h2)];exact hq
 ·exact λh=>⟨_,List.mem_map.mpr ⟨p,h,rfl⟩,decide_eq_true rfl⟩
theorem zr8 (F:List BF.P) (p:BF.P):(zat (fT F) (pK p)).isSome=decide (p∈F):=by rw [<-zr7];unfold zat;rw [Option.isSome_map,Bool.eq_iff_iff,List.find?_isSome,List.any_eq_true]
theorem zr9 (h:p∉F):zbz (fT F) (pK p) (.bl true)=fT (F++[p]):=by unfold zbz;rw [zr7,if_neg (by simpa using h)];unfold fT;rw [List.map_append];rfl
theorem ygu (F:List BF.P):(fT F).length=F.length:=qlm _
noncomputable def prT (p:BF.P):D:=.tup [pD p,.bl true]
theorem zsa:∀(W F:List BF.P),(F++W).Nodup->zft (W.map prT) (fT F)=some (fT (F++W))
 |[],F,_=>by rw [List.append_nil];rfl
 |p::W,F,nd=>by
  have hn:p∉F:=λh=>by have:=(List.nodup_append.mp nd).2.2 p h p (List.mem_cons_self ..);exact this rfl
  show (zcp (pD p)).bind _=_;rw [ze4];show zft (W.map prT) (zbz (fT F) (pK p) (.bl true))=_;rw [zr9 hn,zsa W (F++[p]) (by simpa using nd)];simp
theorem ygv (h:l[1]?=some (some (.ref n))) (hn:S[n]?=some (.lst (W.map pD))) (nd:W.Nodup) (hl:W.length<=1000) (q:Q (.ref S.length) (S++[.tdct (fT W)])) :
  We (zg6 (zcm (zaa 1)) [none] (zae 0) (za6) (zaa 0) (eC (.bl true))) l S Q:=by
 have sz:=zbs;have hv:zaa 1 l S=some (.ref n,S):=by unfold zaa;rw [h]
 have hls:=zhi hn;obtain ⟨ys,S',e,q1,q2⟩:∃ys S',zb2 (itL n) (zae 0) za6 (zew (zaa 0) (eC (.bl true))) ((W.map pD).length+1) 0 [none] S=some (ys,S')/\ys=W.map prT/\S'=S:=by
  obtain ⟨ys,S',l',e,h1,h2,_⟩:=zjc (it:=itL n) (g:=zae 0) (t:=za6) (e:=zew (zaa 0) (eC (.bl true))) (W.map pD) (λi acc l S'=>acc=(W.map prT).take i/\S'=S/\∃x,l=[x]) (λi acc l S' hx1_=>by obtain ⟨_,h,_⟩:=hx1_;subst h;exact zjd hls) (by
   rintro i x acc l S' hx ⟨rfl,rfl,u,rfl⟩;rw [qgm] at hx;obtain ⟨p,hp,rfl⟩:=Option.map_eq_some_iff.mp hx;simp only [zao,qs0];rw [zgt,if_pos rfl];refine ⟨prT p,S',rfl,?_,rfl,_,rfl⟩;rw [List.take_add_one,qgm,hp];rfl) (W.map pD).length 0 [] [none] S rfl ⟨rfl,rfl,_,rfl⟩
  rw [List.nil_append] at h1;have:(W.map prT).take (W.map pD).length=W.map prT:=List.take_of_length_le '*';rw [this] at h1;exact ⟨ys,S',e,h1,h2⟩
 subst q1 q2;refine ⟨_,_,?_,q⟩;unfold zg6;rw [zl3 hv hls];show (zb2 (itL n) _ za6 (zew (zaa 0) (eC (.bl true))) ((W.map pD).length+1) 0 [none] S').bind _=_;rw [e];show (if (W.map prT).length<=sizeLine then _ else _)=_;have hf:=zsa W [] (by simpa using nd);rw [List.nil_append] at hf;rw [if_pos (by rw [qlm];lia),show ([]:Tb)=fT [] from rfl,hf];rfl
theorem zml (h:l[i]?=some (some (.ref n))) (hn:S[n]?=some (.lst xs)) (q:QB (!xs.isEmpty) S):Wt (tL (zaa i)) l S QB:=by refine ⟨_,_,?_,q⟩;unfold tL zaa;rw [h];show (lstOf S n).bind _=_;rw [zhi hn];rfl
theorem ygw (hn:S[n]?=some (.lst (xs++[x]))) (q:Q x (S.set n (.lst xs))):Wo (zet (.ref n) [] S) Q:=by refine ⟨_,_,?_,q⟩;unfold zet;dsimp only;rw [hn];simp
theorem zsb (N:Nat):(apL N).Nodup:=by
 unfold apL;have:∀(l:List Nat),l.Nodup->(l.flatMap (apR N)).Nodup:=by
  intro l;induction l with
  |nil=>intro _;exact List.nodup_nil
  |cons i l ih=>
   intro nd;have nd':=List.nodup_cons.mp nd;rw [List.flatMap_cons,List.nodup_append];refine ⟨?_,ih nd'.2,?_⟩
   ·unfold apR;refine List.Pairwise.map _ ?_ (List.nodup_range (n:=N-(i+1)));intro a b hab e;exact hab (by have:=congrArg Prod.snd e;simp at this;lia)
   ·intro a ha b hb e;subst e;obtain ⟨j,hj,h2⟩:=List.mem_flatMap.mp hb;have e1:a.1=i:=(by obtain ⟨k,_,rfl⟩:=List.mem_map.mp ha;rfl);have e2:a.1=j:=(by obtain ⟨k,_,rfl⟩:=List.mem_map.mp h2;rfl);exact nd'.1 (by rw [<-e1,e2];exact hj)
 exact this _ List.nodup_range
structure Pd (asks:Nat) (rs:List (List Cl)) (E:BF.P->Prop) (W F:List BF.P):Prop where
 nd:F.Nodup
 pt:∀p∈F,InP rs p/\Pt asks rs p
 once:∀p,InP rs p->f1 asks rs p=true->p∈F
 w:∀p∈W,p∈F
 cl:∀k∈F,k∉W->E k\/∀p,InP rs p->Ld rs asks p k->p∈F
theorem Pd.add (h:Pd asks rs E W F) (hn:p∉F) (h1:InP rs p) (h2:Pt asks rs p):Pd asks rs E (W++[p]) (F++[p]):=by
 refine ⟨?_,?_,λq a b=>List.mem_append_left _ (h.once q a b),?_,?_⟩
 ·rw [List.nodup_append];refine ⟨h.nd,by simp,λa ha b hb e=>?_⟩;rw [List.mem_singleton] at hb;subst hb;subst e;exact hn ha
 ·intro q hq;rcases List.mem_append.mp hq with z|z
  ·exact h.pt q z
  ·rw [List.mem_singleton.mp z];exact ⟨h1,h2⟩
 ·intro q hq;rcases List.mem_append.mp hq with z|z
  ·exact List.mem_append_left _ (h.w q z)
  ·exact List.mem_append_right _ z
 ·intro k hk hw;rcases List.mem_append.mp hk with z|z
  ·rcases h.cl k z (λz=>hw (List.mem_append_left _ z)) with e|e
   ·exact .inl e
   ·exact .inr λp a b=>List.mem_append_left _ (e p a b)
  ·exact absurd (List.mem_append_right _ z) hw
theorem Pd.pop (h:Pd asks rs (λ_=>False) (W++[k]) F):Pd asks rs (λj=>j=k) W F :=
 ⟨h.nd,h.pt,h.once,λp hp=>h.w p (List.mem_append_left _ hp),λj hj hw=>by
  by_cases e:j=k
  ·exact .inl e
  ·rcases h.cl j hj (λz=>by
    rcases List.mem_append.mp z with z|z
    ·exact hw z
    ·exact e (List.mem_singleton.mp z)) with z|z
   ·exact z.elim
   ·exact .inr z⟩
theorem Pd.done (h:Pd asks rs (λj=>j=k) W F) (hk:∀p,InP rs p->Ld rs asks p k->p∈F):Pd asks rs (λ_=>False) W F :=
 ⟨h.nd,h.pt,h.once,h.w,λj hj hw=>.inr (by
  rcases h.cl j hj hw with z|z
  ·rw [z];exact hk
  ·exact z)⟩
theorem Pd.len (h:Pd asks rs E W F) (ok:OkM asks rs):F.length<=576 :=
 Nat.le_trans (BF.few2 F h.nd λp hp=>(h.pt p hp).1.both) (Nat.mul_le_mul ok.r24 ok.r24)
theorem Pd.all (h:Pd asks rs (λ_=>False) [] F) (ok:OkM asks rs) (p:BF.P):p∈F↔InP rs p/\Pt asks rs p:=by
 refine ⟨h.pt p,λ⟨h1,w,h2⟩=>zmk ok (λp=>p∈F) h.once (λp q a hp ha hs hq=>?_) w p h1 h2⟩;rcases h.cl (srt q) hq '*' with z|z
 ·exact z.elim
 ·exact z p hp ⟨a,q,ha,hs,rfl⟩
def Kp (m1 m3:Nat) (A T:Sto):Prop:=∀n o,n≠m1->n≠m3->A[n]?=some o->T[n]?=some o
theorem Kp.push (h:Kp m1 m3 A T) (o:Ob):Kp m1 m3 A (T++[o]):=λn x h1 h3 hx=>za2 (h n x h1 h3 hx)
theorem Kp.set1 (h:Kp m1 m3 A T) (o:Ob):Kp m1 m3 A (T.set m1 o):=λn x h1 h3 hx=>zb4 (h n x h1 h3 hx) (Ne.symm h1)
theorem Kp.set3 (h:Kp m1 m3 A T) (o:Ob):Kp m1 m3 A (T.set m3 o):=λn x h1 h3 hx=>zb4 (h n x h1 h3 hx) (Ne.symm h3)
theorem ygx (sr:Sr (λp k=>InP rs p/\Ld rs asks p k) nd np b c kvs A) (hnd:A[nd]?=some (.tdct kvs)) (hb:m1<b) (d1:nd≠m1) (hA:A.length=m3) (h1:m1<T.length) (h3:m3<T.length) (kp:Kp m1 m3 A T) (l2:l[2]?=some (some (.ref nd))) (l4:l[4]?=some (some (pD k))) :
  ∃(m:Nat) (ps:List BF.P),zfs (zaa 2) (zaa 4) (zad zbr (zac)) l T=some (.ref m,T++[.lst []])/\(T++[.lst []])[m]?=some (.lst (ps.map pD))/\(∀p,p∈ps↔InP rs p/\Ld rs asks p k)/\m≠m1/\m≠m3:=by
 have ndl:nd<A.length:=(qme hnd).1;have hT:T[nd]?=some (.tdct kvs):=kp nd _ d1 '!' hnd;have v2:zaa 2 l T=some (.ref nd,T):=by unfold zaa;rw [l2]
 have v4:zaa 4 l T=some (pD k,T):=by unfold zaa;rw [l4]
 have vl:zad zbr zac l T=some (.ref T.length,T++[.lst []]):=rfl;have e:zfs (zaa 2) (zaa 4) (zad zbr (zac)) l T=some ((zat kvs (pK k)).getD (.ref T.length),T++[.lst []]):=by unfold zfs;rw [v2];dsimp only [Option.bind_some];rw [zma hT];dsimp only [Option.bind_some];rw [v4];dsimp only [Option.bind_some];rw [vl];dsimp only [Option.bind_some];rw [zl9 (za2 hT) (ze4 k)];rfl
 cases hg:zat kvs (pK k) with
 |none=>rw [hg] at e;exact ⟨_,[],e,zbe,λp=>⟨λz=>(by cases z),λz=>absurd z (sr.no k hg p)⟩,by lia,by lia⟩
 |some v=>rw [hg] at e;obtain ⟨m,ps,rfl,s1,s2,_,s4,s5,s6⟩:=sr.yes k v hg;have ml:m<A.length:=(qme s1).1;exact ⟨m,ps,e,za2 (kp m _ '!' '!' s1),s2,by lia,by lia⟩
theorem ygy (ok:OkM asks rs) (sr:Sr (λp k=>InP rs p/\Ld rs asks p k) nd np b c kvs A) (hnd:A[nd]?=some (.tdct kvs)) (hb:m1<b) (d1:nd≠m1) (hA:A.length=m3) (d13:m1<m3) (hS:S.length<=m1)
  (h1:T[m1]?=some (.lst (W.map pD))) (h3:T[m3]?=some (.tdct (fT F))) (kp:Kp m1 m3 A T) (g:Gr S T) (pd:Pd asks rs (λ_=>False) W F) (hW:W.length<=1000)
  (q:∀x4 x5 F T',T'[m3]?=some (.tdct (fT F))->Gr S T'->Pd asks rs (λ_=>False) [] F->QS .nx [some (mD asks rs),~~~m1,~~~nd,~~~m3,x4,x5] T') :
  Ws (whl (tL (zaa 1)) (zaf (zai (zbu zet (zaa 1) zac) (zae 4)) (zea (zfs (zaa 2) (zaa 4) (zad zbr (zac))) (zae 5) (sIf (tE (eOp (zex true) (zaa 5) (zaa 3))) (zaf (zai (eC (.bl true)) (zg5 (zaa 3) (zaa 5))) (zch (zbu zb6 (zaa 1) (zab (zaa 5) zac)))) (zbh)))) zef) [some (mD asks rs),~~~m1,~~~nd,~~~m3,x4,x5] T QS:=by
 have sz:=zbs;refine zmb (λn l T=>∃x4 x5 W F,l=[some (mD asks rs),~~~m1,~~~nd,~~~m3,x4,x5]/\T[m1]?=some (.lst (W.map pD))/\T[m3]?=some (.tdct (fT F))/\Kp m1 m3 A T/\Gr S T/\Pd asks rs (λ_=>False) W F/\2*(1000-F.length)+W.length<=n/\n<=3000) (λ_ _=>False) (λl T=>∃x4 x5 F,l=[some (mD asks rs),~~~m1,~~~nd,~~~m3,x4,x5]/\T[m3]?=some (.tdct (fT F))/\Gr S T/\Pd asks rs (λ_=>False) [] F) 3000 (by lia)
  ⟨x4,x5,W,F,rfl,h1,h3,kp,g,pd,by lia,by lia⟩ ?_ ?_ (λd l' S' z=>z.elim)
 ·rintro n l T ⟨x4,x5,W,F,rfl,h1,h3,kp,g,pd,hm,hn⟩;refine zml rfl h1 ?_;have hWc:=List.eq_nil_or_concat W;simp only [List.concat_eq_append] at hWc;rcases hWc with rfl|⟨W',k,rfl⟩
  ·exact ⟨_,_,F,rfl,h3,g,pd⟩
  ·have hlen:=pd.len ok;rw [qla] at hm;have hm':2*(1000-F.length)+(W'.length+1)<=n:=hm;rw [if_pos '*'];have h1l:m1<T.length:=(qme h1).1;have h3l:m3<T.length:=(qme h3).1;refine zav (l':=[some (mD asks rs),~~~m1,~~~nd,~~~m3,some (pD k),x5]) (S':=T.set m1 (.lst (W'.map pD))) ?_ ?_
   ·simp only [za7,zcz,zam,zah,qg0,qg1,zak];refine ⟨⟨_,zfx h1⟩,ygw (x:=pD k) (by rw [h1,List.map_append];rfl) ?_⟩;simp only [zao,qs0,qs1];exact ⟨nofun,nofun,nofun⟩
   obtain ⟨m,ps,he,hms,hps,hm1,hm3⟩:=ygx (l:=[some (mD asks rs),~~~m1,~~~nd,~~~m3,some (pD k),x5]) (T:=T.set m1 (.lst (W'.map pD))) sr hnd hb d1 hA (by rw [List.length_set];exact h1l) (by rw [List.length_set];exact h3l) (kp.set1 _) rfl rfl;refine zl7 (n:=m) (ps.map pD) (λi l T'=>∃x5 W2 F2,l=[some (mD asks rs),~~~m1,~~~nd,~~~m3,some (pD k),x5]/\T'[m1]?=some (.lst (W2.map pD))/\T'[m3]?=some (.tdct (fT F2))/\T'[m]?=some (.lst (ps.map pD))/\Kp m1 m3 A T'/\Gr S T'/\Pd asks rs (λj=>j=k) W2 F2/\(∀p∈ps.take i,p∈F2)/\(∀p∈F,p∈F2)/\2*(1000-F2.length)+W2.length<=2*(1000-F.length)+W'.length) (λ_ _=>False) he
    ⟨_,W',F,rfl,za2 (zfw h1),za2 (zb4 h3 '!'),hms,(kp.set1 _).push _,(g.set hS _).trans ⟨_,rfl⟩,pd.pop,(λp hp=>by simp at hp),(λp hp=>hp),qlr _⟩ (λi l S' ⟨_,_,_,_,_,_,hp,_⟩=>zhi hp) ?_ ?_ (λd l' S' z=>z.elim)
   ·rintro i x l T2 hx ⟨x5,W2,F2,rfl,g1,g3,gm,kp2,gr2,pd2,ht,hF,hm2⟩;rw [qgm] at hx;obtain ⟨p,hp,rfl⟩:=Option.map_eq_some_iff.mp hx;obtain ⟨hpi,hld⟩:=(hps p).mp (qmg hp);have hkF:k∈F:=pd.w k '*';have hptp:Pt asks rs p:=(by obtain ⟨a,r,ha,hs,hr⟩:=hld;exact ygg ha hs (by rw [hr];exact (pd.pt k hkF).2));have hlen2:=pd2.len ok;simp only [zao,qs0,qs1]
    try refine ⟨by first|rfl|trivial,?_⟩
    refine zce (λb S'=>b = !decide (p∈F2)/\S'=T2) ?_ ?_ ?_
    ·simp only [zbl,zaz,zah,qg0,qg1,zak,zra];exact ⟨_,zl9 g3 (ze4 p),_,rfl,by rw [zr8];rfl,nofun⟩
    ·rintro S' ⟨hc,rfl⟩;have hpF:p∉F2:=λz=>(by rw [decide_eq_true z] at hc;cases hc);refine zav (l':=[some (mD asks rs),~~~m1,~~~nd,~~~m3,some (pD k),some (pD p)]) (S':=S'.set m3 (.tdct (fT (F2++[p])))) ?_ ?_
     ·simp only [za7,zau,zl8,zah,qg0,qg1,zak];exact ⟨_,yf0 g3 (ze4 p) (by rw [ygu];lia),nofun,nofun,by rw [zr9 hpF]⟩
     have g1':(S'.set m3 (.tdct (fT (F2++[p]))))[m1]?=some (.lst (W2.map pD)):=zb4 g1 '!';simp only [zdf,zcz,zan,zam,zah,qg0,qg1,zak];refine ⟨⟨_,zfx g1'⟩,?_⟩;rw [zhj g1' (by rw [qlm];lia)];refine .inl ⟨(by first|exact .inl rfl|exact .inl trivial|trivial),_,W2++[p],F2++[p],rfl,?_,zb4 (zfw g3) '!',zb4 (zb4 gm (Ne.symm hm3)) (Ne.symm hm1),(kp2.set3 _).set1 _,(gr2.set '!' _).set hS _,pd2.add hpF hpi hptp,?_,λp hp=>List.mem_append_left _ (hF p hp),?_⟩
     ·rw [zfw g1',List.map_append];rfl
     ·intro r hr;rw [List.take_add_one,hp] at hr;rcases List.mem_append.mp hr with z|z
      ·exact List.mem_append_left _ (ht r z)
      ·exact List.mem_append_right _ (by simpa using z)
     ·rw [qla,qla];show 2*(1000-(F2.length+1))+(W2.length+1)<=_;lia
    ·rintro S' ⟨hc,rfl⟩;have hpF:p∈F2:=by
      by_cases z:p∈F2
      ·exact z
      ·rw [decide_eq_false z] at hc;cases hc
     rw [zcb];refine .inl ⟨.inl rfl,_,W2,F2,rfl,g1,g3,gm,kp2,gr2,pd2,?_,hF,hm2⟩;intro r hr;rw [List.take_add_one,hp] at hr;rcases List.mem_append.mp hr with z|z
     ·exact ht r z
     ·have:r=p:=(by simpa using z);rw [this];exact hpF
   ·rintro l' T2 ⟨x5,W2,F2,rfl,g1,g3,gm,kp2,gr2,pd2,ht,hF,hm2⟩;refine .inl ⟨.inl rfl,_,by lia,_,_,W2,F2,rfl,g1,g3,kp2,gr2,pd2.done λp a b=>ht p ?_,qlr _,by lia⟩;rw [qlm,List.take_length];exact (hps p).mpr ⟨a,b⟩
 ·rintro l' T' ⟨x4,x5,F,rfl,a,b,d⟩;exact q x4 x5 F T' a b d
theorem ygz (h:OkM asks rs):Wo (zjh [mD asks rs] S) λv S'=>∃m F,v=.ref m/\S'[m]?=some (.tdct (fT F))/\Gr S S'/\S.length<=m/\F.Nodup/\∀p,p∈F↔InP rs p/\Pt asks rs p:=by
 have sz:=zbs;have hlen:=zhr rs.length;have h2:rs.length*rs.length<=24*24:=Nat.mul_le_mul h.r24 h.r24;have hfl:((apL rs.length).filter (f1 asks rs)).length<=(apL rs.length).length:=List.length_filter_le _ _;unfold zjh zrj;dsimp! only [zbw];refine za1 (λl S'=>∃m1,l=[some (mD asks rs),~~~m1,none,none,none,none]/\S'[m1]?=some (.lst (((apL rs.length).filter (f1 asks rs)).map pD))/\Gr S S'/\S.length<=m1) ?_ ?_
 ·simp only [za7,zap,zan,zam,zah,qg0,qg1,zak];refine Wo.mono (ygm h) ?_;rintro v S' ⟨m,rfl,a,b,c⟩;simp only [zao,qs0,qs1];exact ⟨nofun,m,rfl,a,b,c⟩
 rintro l S1 ⟨m1,rfl,s1,g1,b1⟩;have m1l:m1<S1.length:=(qme s1).1;refine za1 (λl S'=>∃nd np c kvs,l=[some (mD asks rs),~~~m1,~~~nd,none,none,none]/\S'[nd]?=some (.tdct kvs)/\Gr S1 S'/\S1.length<=nd/\Sr (λp k=>InP rs p/\Ld rs asks p k) nd np S1.length c kvs S') ?_ ?_
 ·simp only [za7,zap,zan,zam,zah,qg0,qg1,zak];refine Wo.mono (ygt h) ?_;rintro v S' ⟨nd,np,c,kvs,rfl,a,b,d,e⟩;simp only [zao,qs0,qs1];exact ⟨nofun,nd,np,c,kvs,rfl,a,b,d,e⟩
 rintro l S2 ⟨nd,np,c,kvs,rfl,s2,g2,b2,sr⟩;have s1':=g2.get s1;have m1l2:m1<S2.length:=(qme s1').1;refine zav (l':=[some (mD asks rs),~~~m1,~~~nd,some (.ref S2.length),none,none]) (S':=S2++[.tdct (fT ((apL rs.length).filter (f1 asks rs)))]) ?_ ?_
 ·rw [za7];refine ygv rfl s1' ((zsb _).filter _) '!' ?_;simp only [zao,qs0,qs1];exact ⟨nofun,nofun,nofun⟩
 refine za1 (λl S'=>∃x4 x5 F,l=[some (mD asks rs),~~~m1,~~~nd,some (.ref S2.length),x4,x5]/\S'[S2.length]?=some (.tdct (fT F))/\Gr S S'/\Pd asks rs (λ_=>False) [] F) ?_ ?_
 ·refine ygy (S:=S) (W:=(apL rs.length).filter (f1 asks rs)) (F:=(apL rs.length).filter (f1 asks rs)) h sr s2 m1l '!' rfl m1l2 b1 (za2 s1') zbe (λn o _ _ z=>za2 z) ((g1.trans g2).trans ⟨_,rfl⟩) ⟨(zsb _).filter _,?_,?_,λp hp=>hp,λk hk hw=>absurd hk hw⟩ '!' λx4 x5 F T' a b d=>⟨rfl,x4,x5,F,rfl,a,b,d⟩
  ·intro p hp;have:=List.mem_filter.mp hp;exact ⟨mem_ap.mp this.1,zr2 this.2⟩
  ·exact λp hp hf=>List.mem_filter.mpr ⟨mem_ap.mpr hp,hf⟩
 rintro l S4 ⟨x4,x5,F,rfl,a,b,d⟩;simp! only [zah];have:=g2.len;have:=g1.len;exact ⟨S2.length,F,rfl,a,b,by lia,d.nd,d.all h⟩
theorem yg0 (k:Nat):oD (some k)=.int (k:Int):=rfl
theorem yg1 (xs:List D) (c:Nat) (h:c<=xs.length):zbj xs none (some (c:Int))=xs.take c:=by
 unfold zbj;rw [HT.sIx_none,HT.sIx_nat];simp
 try lia
theorem yg2 (xs:List D) (c:Nat) (h:c<=xs.length):zbj xs (some (c:Int)) none=xs.drop c:=by
 unfold zbj;rw [HT.sIx_none,HT.sIx_nat];have:min c xs.length=c:=by lia
 simp only [this];rw [List.take_of_length_le (by rw [List.length_drop];lia)]
theorem yg3 {i:Nat}(ha:∀Q',We ea l S Q'=Q' (.tup xs) S) (hk:∀Q',We ek l S Q'=Q' (.int (i:Int)) S) (hn:∀Q',We ey l S Q'=Q' y S) (hi:i<xs.length) (hx:xs.length<=100) (q:Q (.tup (xs.set i y)) S) :
  We (eOp za8 (eOp za8 (zdh ea (zdr) (zdd ek)) (zad zba (zab ey (zac)))) (zdh ea (zdd (eOp za8 ek (eC (.int 1)))) (zdr))) l S Q:=by
 have big:=zbs;have e:(i:Int)+1=((i+1:Nat):Int):=by push_cast;rfl
 simp only [zaz,zhh,zah,ha,hk,hn,zak,zhe,zhf,zhg,zl5,zap,zan,zam,zcn,zje,zau,ze2,e,yg1 xs i '!',yg2 xs (i+1) '!',List.length_cons,List.length_nil,qla,List.length_take,List.length_drop];have e2:xs.take i++[y]++xs.drop (i+1)=xs.set i y:=by rw [List.set_eq_take_append_cons_drop,if_pos hi,qaa];rfl
 rw [e2];exact ⟨by lia,by lia,by lia,q⟩
theorem zsc {n i:Nat}(h:S[n]?=some (.lst xs)) (hi:i<xs.length):zcl (.ref n) (.int (i:Int)) v S=some (S.set n (.lst (xs.set i v))):=by unfold zcl;simp only [h];unfold L2.ixN;rw [if_pos '!',if_pos '!'];rfl
theorem zsd (i:Nat) (h1:(i:Int)<4):∃x,L2.atI [D.int a,D.int b,D.int c,D.int d] (i:Int)=some (.int x)/\(x=a\/x=b\/x=c\/x=d):=by
 have:i=0\/i=1\/i=2\/i=3:=by lia
 rcases this with rfl|rfl|rfl|rfl
 ·exact ⟨a,rfl,by simp⟩
 ·exact ⟨b,rfl,by simp⟩
 ·exact ⟨c,rfl,by simp⟩
 ·exact ⟨d,rfl,by simp⟩
structure Ck (many:Nat) (q:Cl):Prop where
 go:∀x,q.1=some x->x<many
 an:∀v,q.2=some v->v<8
inductive CeP (ns:List Int) (c many:Nat) (S:Sto) (v:D) (S':Sto):Prop
 |mk (q:Cl) (e:v=cD q) (h:Ck many q) (p:PQ ns (c+4) S') (f:Fn S S')
theorem yg4 {ns:List Int}{c many wd:Nat}{sh sf:Int}(h:PQ ns c S) (hc:c<90000000) (hm:1<=many) (hm2:many<=100) (hw:1<=wd) (hw2:wd<=8):Wo (zjk [.ref 2,.int sh,.int (wd:Int),.int sf,.int (many:Int)] S) (CeP ns c many S):=by
 have sz:=zbs;unfold zjk zrp;dsimp! only [zbw];refine zav (l':=[~~~2,some (.int sh),‹wd›,some (.int sf),‹many›,some .non,none]) (S':=S) ⟨_,_,_,rfl,rfl,rfl,rfl⟩ ?_;refine zav (l':=[~~~2,some (.int sh),‹wd›,some (.int sf),‹many›,some .non,some .non]) (S':=S) ⟨_,_,_,rfl,rfl,rfl,rfl⟩ ?_;refine za1 (λl S'=>∃o:Option Nat,(∀x,o=some x->x<many)/\PQ ns (c+2) S'/\Fn S S'/\l=[~~~2,some (.int sh),‹wd›,some (.int sf),‹many›,some (oD o),some .non]) ?_ ?_
 ·simp! only [zah];refine (zcd h '!' '$' '$').mono ?_;rintro v S1 ⟨d,rfl,hd,p1,f1⟩;simp! only [zah];split
  ·refine (zcd p1 '!' '!' '!').mono ?_;rintro v S2 ⟨e,rfl,he,p2,f2⟩;exact ⟨nofun,some e,λx hx=>by cases hx;lia,p2,f1.trans f2,rfl⟩
  ·exact ⟨nofun,none,λx hx=>(by cases hx),p1.mono '!',f1,rfl⟩
 rintro l S1 ⟨o,ho,p1,f1,rfl⟩;refine za1 (λl S'=>∃q:Option Nat,(∀v,q=some v->v<8)/\PQ ns (c+4) S'/\Fn S S'/\l=[~~~2,some (.int sh),‹wd›,some (.int sf),‹many›,some (oD o),some (oD q)]) ?_ ?_
 ·simp! only [zah];refine (zcd p1 '!' '$' '$').mono ?_;rintro v S2 ⟨d,rfl,hd,p2,f2⟩;simp! only [zah];split
  ·refine (zcd p2 '!' '!' '!').mono ?_;rintro v S3 ⟨e,rfl,he,p3,f3⟩;have f8:(0:Int)<8:=(by decide);simp! only [f8,decide_true,true_and];have d0:=Int.emod_nonneg ((e:Int)+sf) (b:=8) '!';have d1:=Int.emod_lt_of_pos ((e:Int)+sf) f8;exact ⟨some (((e:Int)+sf)%8).toNat,λv hv=>(by cases hv;lia),p3,f1.trans (f2.trans f3),by rw [yg0,Int.toNat_of_nonneg d0]⟩
  ·exact ⟨nofun,none,λv hv=>(by cases hv),p2.mono '!',f1.trans f2,rfl⟩
 rintro l S2 ⟨q,hq8,p2,f2,rfl⟩;simp! only [zah];exact ⟨by lia,(o,q),rfl,⟨ho,hq8⟩,p2,f2⟩
def OkR (A many:Nat) (cs:List Cl):Prop:=cs.length=A/\∀c∈cs,Ck many c
theorem yg5 (a1:1<=A) (a4:A<=4) (h:∀cs∈g,OkR A many cs) (hl:g.length=many) (m1:1<=many) (m24:many<=24):OkM A g:=⟨a1,a4,by lia,by lia,λcs hcs=>(h cs hcs).1,λcs hcs c hc x hx=>(by rw [hl];exact ((h cs hcs).2 c hc).go x hx),λcs hcs c hc=>((h cs hcs).2 c hc).an⟩
theorem zse:∀{vs:List D},(∀v∈vs,∃q:Cl,v=cD q/\Ck many q)->∃cs:List Cl,vs=cs.map cD/\∀c∈cs,Ck many c
 |[],_=>⟨[],rfl,λc hc=>by cases hc⟩
 |v::vs,h=>by
  obtain ⟨c,e,hc⟩:=h v List.mem_cons_self;obtain ⟨r,e2,hr⟩:=zse (vs:=vs) λw hw=>h w (List.mem_cons_of_mem _ hw);refine ⟨c::r,by rw [e,e2];rfl,λd hd=>?_⟩;rcases List.mem_cons.mp hd with rfl|hd
  ·exact hc
  ·exact hr d hd
inductive MaP (ns:List Int) (c A many:Nat) (S:Sto) (v:D) (S':Sto):Prop
 |mk (g:List (List Cl)) (e:v=mD A g) (ok:OkM A g) (l:g.length=many) (p:PQ ns (c+600) S') (f:Fn S S')
local macro_rules
 | `(tactic| simp_all! only [$xs,*])=>`(tactic| simp only [zbl,zaz,zeb,zah,zau,zao,ziq,zfk,zfl,zfm,zap,zcz,zan,zam,zeu,zgs,zc3,zkz,zed,zee,ze2,zje,zhh,zhe,zhf,zhg,zl5,zq3,zk0,zk1,zdi,zd0,zk2,zk3,zg9,zly,zpb,zcn,zdg,zir,zgu,zlz,zpc,zl0,zl1,zha,List.map_cons,List.map_nil,List.length_cons,List.length_nil,Nat.reduceAdd,Nat.reduceSub,List.replicate,List.cons_append,List.nil_append,qg0,qg1,qs0,qs1,zak,zb0,zbn,zq0,zq1,zq2,zlw,zlx,zdz,decide_eq_true_eq,zq9,zl8,$xs,*])
theorem zsf {ns:List Int}{c A many:Nat}(h:PQ ns c S) (hc:c<80000000) (hm:1<=many) (hm2:many<=24) (a1:1<=A) (a4:A<=4):Wo (zhp [.ref 2,.int (A:Int),.int (many:Int)] S) (MaP ns c A many S):=by
 have sz:=zbs;have l3:=h.lt;unfold zhp zrq;dsimp! only [zbw];refine za1 (λl S'=>∃sh:Int,PQ ns (c+1) S'/\Fn S S'/\l=[~~~2,‹A›,‹many›,some (.int sh),none,none,none,none,none,none,none]) ?_ ?_
 ·simp! only [zah];refine ⟨by lia,?_⟩;refine (zcd h '!' '$' '$').mono ?_;rintro v S1 ⟨d,rfl,hd,p1,f1⟩;obtain ⟨x,hx,_⟩:=zsd (a:=0) (b:=1) (c:=3) (d:=6) d hd;simp! only [hx];exact ⟨nofun,x,p1,f1,rfl⟩
 rintro l S1 ⟨sh,p1,f1,rfl⟩;refine za1 (λl S'=>∃wd:Nat,1<=wd/\wd<=8/\PQ ns (c+2) S'/\Fn S S'/\l=[~~~2,‹A›,‹many›,some (.int sh),‹wd›,none,none,none,none,none,none]) ?_ ?_
 ·simp! only [zah];refine ⟨by lia,?_⟩;refine (zcd p1 '!' '$' '$').mono ?_;rintro v S2 ⟨d,rfl,hd,p2,f2⟩;obtain ⟨x,hx,hx2⟩:=zsd (a:=1) (b:=2) (c:=2) (d:=8) d hd;simp! only [hx];exact ⟨nofun,x.toNat,by lia,by lia,p2,f1.trans f2,by rw [Int.toNat_of_nonneg '!']⟩
 rintro l S2 ⟨wd,w1,w8,p2,f2,rfl⟩;refine za1 (λl S'=>∃al:Bool,PQ ns (c+3) S'/\Fn S S'/\l=[~~~2,‹A›,‹many›,some (.int sh),‹wd›,some (.bl al),none,none,none,none,none]) ?_ ?_
 ·simp! only [zah];refine (zcd p2 '!' '$' '$').mono ?_;rintro v S3 ⟨d,rfl,hd,p3,f3⟩;simp! only [zah];exact ⟨nofun,_,p3,f2.trans f3,rfl⟩
 rintro l S3 ⟨al,p3,f3,rfl⟩;refine za1 (λl S'=>∃sf:Int,PQ ns (c+4) S'/\Fn S S'/\l=[~~~2,‹A›,‹many›,some (.int sh),‹wd›,some (.bl al),some (.int sf),none,none,none,none]) ?_ ?_
 ·simp! only [zah];refine (zcd p3 '!' '$' '$').mono ?_;rintro v S4 ⟨d,rfl,hd,p4,f4⟩;exact ⟨nofun,_,p4,f3.trans f4,rfl⟩
 rintro l S4 ⟨sf,p4,f4,rfl⟩;have l4:=p4.lt;have fl4:=f4.len l4;refine zav (l':=[~~~2,‹A›,‹many›,some (.int sh),‹wd›,some (.bl al),some (.int sf),some (.ref S4.length),none,none,none]) (S':=S4++[.lst []]) (by simp! only [zah];exact ⟨by lia,nofun,nofun,nofun⟩) ?_;refine za1 (λl S'=>PQ ns (c+4+20*many) S'/\Fn S S'/\∃(g:List (List Cl)) (x8 x9 x10:Option D),(∀cs∈g,OkR A many cs)/\g.length=many/\S'[S4.length]?=some (.lst (g.map rD))/\l=[~~~2,‹A›,‹many›,some (.int sh),‹wd›,some (.bl al),some (.int sf),some (.ref S4.length),x8,x9,x10]) ?_ ?_
 ·refine zfv (λi l S'=>PQ ns (c+4+20*i) S'/\Fn S S'/\∃(g:List (List Cl)) (x8 x9 x10:Option D),(∀cs∈g,OkR A many cs)/\g.length=i/\S'[S4.length]?=some (.lst (g.map rD))/\l=[~~~2,‹A›,‹many›,some (.int sh),‹wd›,some (.bl al),some (.int sf),some (.ref S4.length),x8,x9,x10]) (λ_ _=>False) (n:=many) rfl '!' ⟨p4.gr ⟨_,rfl⟩,f4.trans (Fn.gr ⟨_,rfl⟩),[],_,_,_,λcs hcs=>(by cases hcs),rfl,zbe,rfl⟩ ?_ ?_ (λd l' S' z=>z.elim)
  ·rintro i l S5 hi ⟨p5,f5,g,x8,x9,x10,okg,hl,hs5,rfl⟩;simp only [zao,qs0,qs1];have app:∀(S9:Sto) (cs:List Cl) (x9 x10:Option D),PQ ns (c+4+20*i+20) S9->Fn S S9->S9[S4.length]?=some (.lst (g.map rD))->OkR A many cs->Wo (zb6 (.ref S4.length) [rD cs] S9) λ_ S'=>PQ ns (c+4+20*(i+1)) S'/\Fn S S'/\∃(g:List (List Cl)) (x8' x9' x10':Option D),(∀cs∈g,OkR A many cs)/\g.length=i+1/\S'[S4.length]?=some (.lst (g.map rD))/\([~~~2,‹A›,‹many›,some (.int sh),‹wd›,some (.bl al),some (.int sf),some (.ref S4.length),‹i›,x9,x10]:Lo)=[~~~2,‹A›,‹many›,some (.int sh),‹wd›,some (.bl al),some (.int sf),some (.ref S4.length),x8',x9',x10']:=by
    intro S9 cs y9 y10 p9 f9 hs9 okc;rw [zhj hs9 (by rw [qlm];lia)];refine ⟨(p9.setN l4).mono '!',f9.setN fl4,g++[cs],_,_,_,λds hd=>?_,by simp [hl],by rw [zhq hs9];simp,rfl⟩;rcases List.mem_append.mp hd with z|z
    ·exact okg ds z
    ·have:ds=cs:=(by simpa using z);subst this;exact okc
   refine zce (λb S'=>PQ ns (c+4+20*i+1) S'/\Fn S S'/\S'[S4.length]?=some (.lst (g.map rD))/\(b=true->0<i)) ?_ ?_ ?_
   ·simp! only [zeu];cases al with
    |false=>simp only [qbf,if_false];exact ⟨p5.mono '!',f5,hs5,λz=>by cases z⟩
    |true=>
     simp only [if_true];by_cases hi0:(0:Int)<(i:Int)
     ·simp only [hi0,decide_true,if_true];refine (zcd p5 '!' '$' '$').mono ?_;rintro v S6 ⟨d,rfl,hd,p6,f6⟩;simp! only [zah];exact ⟨p6,f5.trans f6,f6 _ _ '!' hs5,λ_=>by lia⟩
     ·simp only [hi0,decide_false,qbf,if_false];exact ⟨p5.mono '!',f5,hs5,λz=>by cases z⟩
   ·rintro S6 ⟨p6,f6,hs6,hi0⟩;have hi0:=hi0 rfl;refine za1 (λl S'=>PQ ns (c+4+20*i+2) S'/\Fn S S'/\S'[S4.length]?=some (.lst (g.map rD))/\∃cs,cs∈g/\l=[~~~2,‹A›,‹many›,some (.int sh),‹wd›,some (.bl al),some (.int sf),some (.ref S4.length),‹i›,some (rD cs),x10]) ?_ ?_
    ·simp! only [zah];refine (zcd p6 '!' '!' '!').mono ?_;rintro v S7 ⟨d,rfl,hd,p7,f7⟩;have hs7:=f7 _ _ '!' hs6;obtain ⟨cs,hcs⟩:∃cs,g[d]?=some cs:=⟨_,qge '!'⟩;have e1:L2.atI (g.map rD) (d:Int)=some (rD cs):=atI_get (by rw [qgm,hcs];rfl);simp! only [za3 hs7,e1];exact ⟨nofun,p7,f6.trans f7,hs7,cs,qmg hcs,rfl⟩
    rintro l S7 ⟨p7,f7,hs7,cs,hcs,rfl⟩;have okc:=okg cs hcs;refine za1 (λl S'=>PQ ns (c+4+20*i+3) S'/\Fn S S'/\S'[S4.length]?=some (.lst (g.map rD))/\∃a:Nat,a<A/\l=[~~~2,‹A›,‹many›,some (.int sh),‹wd›,some (.bl al),some (.int sf),some (.ref S4.length),‹i›,some (rD cs),‹a›]) ?_ ?_
    ·simp! only [zah];refine (zcd p7 '!' '!' '!').mono ?_;rintro v S8 ⟨d,rfl,hd,p8,f8⟩;exact ⟨nofun,p8,f7.trans f8,f8 _ _ '!' hs7,d,by lia,rfl⟩
    rintro l S8 ⟨p8,f8,hs8,a,ha,rfl⟩;obtain ⟨d,hd⟩:∃d,cs[a]?=some d:=⟨_,qge (by rw [okc.1];exact ha)⟩;have e2:L2.atI (cs.map cD) (a:Int)=some (.tup [oD d.1,oD d.2]):=atI_get (by rw [qgm,hd];rfl);rw [zdf,zcz];simp only [zah,qg0,qg1,zak,zfx hs8,zrv,true_and];rw [zan];refine yg3 (xs:=cs.map cD) (i:=a) (y:=cD (d.1,none)) (λQ'=>by unfold rD;simp_all! only [zah]) (λQ'=>by simp_all! only [zah]) (λQ'=>?_) (by rw [qlm,okc.1];exact ha) (by rw [qlm,okc.1];lia) ?_
    ·have s2:2<=sizeLine:=(by lia);unfold rD;simp_all! only [e2,s2,true_and];rfl
    rw [zam];have:=app S8 (cs.set a (d.1,none)) (some (rD cs)) (some (.int (a:Int))) (p8.mono '!') f8 hs8 ⟨by rw [List.length_set];exact okc.1,λq hq=>by
     rcases List.mem_or_eq_of_mem_set hq with z|rfl
     ·exact okc.2 q z
     ·exact ⟨(okc.2 d (qmg hd)).go,λv hv=>by cases hv⟩⟩
    unfold rD at this ⊢;rw [List.map_set] at this;refine this.mono ?_;rintro _ S9 q;exact .inl ⟨(by first|exact .inl rfl|exact .inl trivial|trivial),q⟩
   ·rintro S6 ⟨p6,f6,hs6,_⟩;rw [zdf,zcz];simp only [zah,qg0,qg1,zak,zfx hs6,zrv,true_and];rw [zan,zap,zan];refine yfu (zal 0 A) (λv=>∃q:Cl,v=cD q/\Ck many q) (λj S'=>PQ ns (c+4+20*i+1+4*j) S'/\Fn S S'/\S'[S4.length]?=some (.lst (g.map rD))) (λl=>∃x0,l=[x0,~~~2,some (.int sh),‹wd›,some (.int sf),‹many›]) (zhd (n:=A) rfl '!') ⟨p6,f6,hs6⟩ ⟨_,rfl⟩ (λj S' _=>rfl) (by rw [zdt];lia) ?_ ?_
    ·rintro j x l S7 hx ⟨x0,rfl⟩ ⟨p7,f7,hs7⟩;have hj:=(zis hx).1;simp only [zao,qs0];refine ⟨⟨_,rfl⟩,?_⟩;simp only [zap,zan,zam,zah,qg0,qg1,zak];refine (yg4 p7 '!' hm '!' w1 w8).mono ?_;rintro v S8 ⟨q,rfl,hq,p8,f8⟩;exact ⟨⟨q,rfl,hq⟩,p8.mono '!',f7.trans f8,f8 _ _ '!' hs7⟩
    ·rintro vs S7 hvl hv ⟨p7,f7,hs7⟩;obtain ⟨cs,rfl,hcs⟩:=zse hv;rw [zdt] at hvl p7;rw [qlm] at hvl;simp only [zam,zir,zdz,zb0];have:=app (S7++[.lst (cs.map cD)]) cs x9 x10 ((p7.gr ⟨_,rfl⟩).mono '!') (f7.trans (Fn.gr ⟨_,rfl⟩)) (za2 hs7) ⟨hvl,hcs⟩;unfold rD at this ⊢;refine this.mono ?_;rintro _ S9 q;exact .inl ⟨(by first|exact .inl rfl|exact .inl trivial|trivial),q⟩
  ·rintro l' S' ⟨p5,f5,rest⟩;exact ⟨rfl,p5,f5,rest⟩
 rintro l S5 ⟨p5,f5,g,x8,x9,x10,okg,hl,hs5,rfl⟩;simp! only [za3 hs5];exact ⟨by lia,g,rfl,yg5 a1 a4 okg hl hm hm2,hl,p5.mono '!',f5⟩
noncomputable def zl (xs ys:List D):List D:=List.zipWith (λx y=>D.tup [x,y]) xs ys
theorem zsg (xs ys:List D):(zl xs ys).length=min xs.length ys.length:=by simp [zl]
theorem zsh (xs ys:List D) (i:Nat):(zl xs ys)[i]?=(xs[i]?).bind λx=>(ys[i]?).map λy=>D.tup [x,y]:=by unfold zl;rw [List.getElem?_zipWith];cases xs[i]? <;> cases ys[i]? <;> rfl
theorem yg6 (h1:i1 i S=some xs[i]?) (h2:i2 i S=some ys[i]?):itZ i1 i2 i S=some (zl xs ys)[i]?:=by
 unfold itZ;rw [h1,zsh];cases hx:xs[i]? with
 |none=>rfl
 |some x=>show (i2 i S).bind _=_;rw [h2];cases hy:ys[i]? <;> rfl
theorem yg7 (h:as l S=some ([.tup xs,.tup ys],S1)):zjb as l S=some (itZ (itX xs) (itX ys),(zl xs ys).length+1,S1):=by unfold zjb;rw [h];show some _=_;rw [zsg]
structure Tab (b N:Nat) (f:Nat->Nat->Bool) (S:Sto):Prop where
 top:S[b+N]?=some (.lst ((List.range N).map λi=>D.ref (b+i)))
 row:∀i,i<N->S[b+i]?=some (.lst ((List.range N).map λj=>D.bl (f i j)))
theorem zhs (F:Nat->D) (h:i<N):L2.atI ((List.range N).map F) (i:Int)=some (F i):=atI_get (by rw [qgm,List.getElem?_range h];rfl)
theorem Tab.gr (h:Tab b N f S) (g:Gr S S'):Tab b N f S':=⟨g.get h.top,λi hi=>g.get (h.row i hi)⟩
theorem Tab.at (h:Tab b N f S) (hx:x<N) (hy:y<N):Wo (zag (.ref (b+N)) (.int (x:Int)) S) (λv S1=>Wo (zag v (.int (y:Int)) S1) Q)=Q (.bl (f x y)) S:=by rw [zd0,za3 h.top];simp only [zb0,zhs _ hx];rw [zd0,za3 (h.row x hx)];simp only [zb0,zhs _ hy]
noncomputable def ze5 (f:Nat->Nat->Bool) (i j:Nat):Nat->Nat->Bool:=λx y=>f x y||(x==i&&y==j)
theorem yg8 {N j:Nat}{r:Nat->Bool}:((List.range N).map λy=>D.bl (r y)).set j (.bl true)=(List.range N).map λy=>D.bl (r y||(y==j)):=by
 apply List.ext_getElem?;intro k;rw [qgm];by_cases e:j=k
 ·subst e;by_cases hj:j<N
  ·rw [List.getElem?_set_self (by simpa using hj),List.getElem?_range hj];simp
  ·rw [List.getElem?_eq_none (by simpa using hj),List.getElem?_eq_none (by simpa using hj)];rfl
 ·rw [List.getElem?_set_ne e,qgm];have:(k==j)=false:=by simpa using λz:k=j=>e z.symm
  cases h:(List.range N)[k]? with
  |none=>rfl
  |some m=>have:m=k:=(by have:=(qme h).2;simpa using this.symm);subst this;simp [*]
theorem Tab.set (h:Tab b N f S) (hi:i<N) (hj:j<N):Tab b N (ze5 f i j) (S.set (b+i) (.lst (((List.range N).map λy=>D.bl (f i y)).set j (.bl true)))):=by
 refine ⟨zb4 h.top '!',λx hx=>?_⟩;by_cases e:x=i
 ·subst e;rw [zhq (h.row x hx),yg8];congr 2;apply List.map_congr_left;intro y _;simp [ze5]
 ·rw [zb4 (h.row x hx) '!'];have:(x==i)=false:=by simpa using e
  simp [ze5,this]
noncomputable def stp (g:List (List Cl)) (f:Nat->Nat->Bool) (p:BF.P) (a:Nat):Bool:=fl g p a||(match nxt g p a with
 |some q=>f q.1 q.2
 |none=>false)
noncomputable def prt (A:Nat) (g:List (List Cl)) (f:Nat->Nat->Bool) (p:BF.P):Bool:=(List.range A).any (stp g f p)
theorem yg9 (h3:l[3]?=some (some (cD c))) (h4:l[4]?=some (some (cD d))) (q:QB (unl c.2 d.2) S) :
  Wt (zb9 (tE (eOp (dIn true) (eC .non) (zad zba (zab (eOp zag (zaa 3) (eC (.int 1))) (zab (eOp zag (zaa 4) (eC (.int 1))) (zac)))))) (tE (eOp dNe (eOp zag (zaa 3) (eC (.int 1))) (eOp zag (zaa 4) (eC (.int 1)))))) l S QB:=by
 have s2:2<=sizeLine:=by decide
 unfold cD at h3 h4;simp only [zeu,zbl,zaz,zau,zap,zan,zam,zah,h3,h4,zak,zdi,zlx,zb0,zcn,List.length_cons,List.length_nil,s2,true_and,zmi,zbn,if_true];obtain ⟨c1,c2⟩:=c;obtain ⟨d1,d2⟩:=d;cases c2 with
 |none=>exact q
 | some i =>
  cases d2 with
  |none=>exact q
  | some j =>
   have:both (some i) (some j)=some (i,j):=rfl;simp only [this,Option.isSome_some,if_true,oD,zlz,zbn];have e:(!decide ((i:Int)=(j:Int)))=unl (some i) (some j):=by
    unfold unl;by_cases z:i=j
    ·subst z;simp
    ·have:¬(i:Int)=(j:Int):=(by lia);simp [z,this]
   rw [e];exact q
theorem yha (h2:l[2]?=some (some (.ref (b+N)))) (h3:l[3]?=some (some (cD c))) (h4:l[4]?=some (some (cD d))) (ht:Tab b N f S) (hc:∀x,c.1=some x->x<N) (hd:∀x,d.1=some x->x<N)
  (q:QB (match both c.1 d.1 with|some q=>f q.1 q.2|none=>false) S) :
  Wt (zb9 (tE (eOp (dIn true) (eC .non) (zad zba (zab (eOp zag (zaa 3) (eC (.int 0))) (zab (eOp zag (zaa 4) (eC (.int 0))) (zac)))))) (tE (eOp zag (eOp zag (zaa 2) (eOp zag (zaa 3) (eC (.int 0)))) (eOp zag (zaa 4) (eC (.int 0)))))) l S QB:=by
 have s2:2<=sizeLine:=by decide
 unfold cD at h3 h4;simp only [zeu,zbl,zaz,zau,zap,zan,zam,zah,h2,h3,h4,zak,zdi,zlw,zb0,zcn,List.length_cons,List.length_nil,s2,true_and,zmi,zbn,if_true];obtain ⟨c1,c2⟩:=c;obtain ⟨d1,d2⟩:=d;cases c1 with
 |none=>exact q
 |some i=>
  cases d1 with
  |none=>exact q
  |some j=>have e:both (some i) (some j)=some (i,j):=rfl;rw [e] at q;simp only [e,Option.isSome_some,if_true,oD];rw [ht.at (hc i rfl) (hd j rfl)];exact ⟨_,rfl,q⟩
theorem yhb (ok:OkM A g) (hi:i<g.length) (hj:j<g.length) (hc:g[i]?=some cs) (hd:g[j]?=some ds) (ht:Tab b g.length f S):Wo (zfz [rD cs,rD ds,.ref (b+g.length)] S) λv S'=>v=.bl (prt A g f (i,j))/\S'=S:=by
 have lc:=ok.len cs (qmg hc);have ld:=ok.len ds (qmg hd);unfold zfz zrm;dsimp! only [zbw];refine zc6 (λl S'=>S'=S/\prt A g f (i,j)=false) (λd S'=>S'=S/\d=.bl true/\prt A g f (i,j)=true) ?_ ?_ ?_
 ·refine zq7 (zl (cs.map cD) (ds.map cD)) (λk l S'=>S'=S/\(∀a,a<k->stp g f (i,j) a=false)/\∃x3 x4,l=[some (rD cs),some (rD ds),~~~(b+g.length),x3,x4]) (λd S'=>S'=S/\d=.bl true/\prt A g f (i,j)=true) (yg7 rfl) ⟨rfl,λa ha=>absurd ha (Nat.not_lt_zero _),_,_,rfl⟩ (λk l S' h=>yg6 rfl rfl) ?_ ?_ (λd l' S' q=>.inr ⟨d,rfl,q⟩)
  ·rintro k x l S1 hx ⟨rfl,no,x3,x4,rfl⟩;rw [zsh,qgm,qgm] at hx;obtain ⟨u,hu,hx⟩:=bnd hx;obtain ⟨w,hw,rfl⟩:=Option.map_eq_some_iff.mp hx;obtain ⟨c,hcc,rfl⟩:=Option.map_eq_some_iff.mp hu;obtain ⟨d,hdd,rfl⟩:=Option.map_eq_some_iff.mp hw;have hk:k<A:=(by rw [<-lc];exact (qme hcc).1);have ec:cell g i k=c:=(by unfold cell;rw [hc];show (cs[k]?).getD _=_;rw [hcc];rfl);have ed:cell g j k=d:=(by unfold cell;rw [hd];show (ds[k]?).getD _=_;rw [hdd];rfl);have es:stp g f (i,j) k=(unl c.2 d.2||(match both c.1 d.1 with|some q=>f q.1 q.2|none=>false)):=(by unfold stp fl nxt;rw [ec,ed]);simp only [zfk,zfm,zfl,zao,List.length_cons,List.length_nil,qs0,qs1]
   try refine ⟨by first|rfl|trivial,?_⟩
   have yes:stp g f (i,j) k=true->prt A g f (i,j)=true:=λh=>List.any_eq_true.mpr ⟨k,List.mem_range.mpr hk,h⟩;refine zc6 (λl S'=>S'=S1/\unl c.2 d.2=false/\l=[some (rD cs),some (rD ds),~~~(b+g.length),some (cD c),some (cD d)]) (λd S'=>S'=S1/\d=.bl true/\prt A g f (i,j)=true) ?_ ?_ (λd l' S' q=>.inr ⟨d,rfl,q⟩)
   ·refine zce (λk S'=>k=unl c.2 d.2/\S'=S1) (yg9 rfl rfl ⟨rfl,rfl⟩) ?_ ?_
    ·rintro S' ⟨hu,rfl⟩;simp only [zcc,zau];exact .inr ⟨_,rfl,nofun,nofun,yes (by rw [es,<-hu];rfl)⟩
    ·rintro S' ⟨hu,rfl⟩;rw [zcb];exact .inl ⟨rfl,rfl,hu.symm,rfl⟩
   rintro l S' ⟨rfl,hn,rfl⟩;refine zce (λk S2=>k=(match both c.1 d.1 with|some q=>f q.1 q.2|none=>false)/\S2=S') (yha rfl rfl rfl ht (λx hx=>?_) (λx hx=>?_) ⟨rfl,rfl⟩) ?_ ?_
   ·exact zjm ok hi hk (by rw [ec];exact hx)
   ·exact zjm ok hj hk (by rw [ed];exact hx)
   ·rintro S2 ⟨hu2,rfl⟩;simp only [zcc,zau];exact .inr ⟨_,rfl,nofun,nofun,yes (by rw [es,<-hu2,Bool.or_true])⟩
   ·rintro S2 ⟨hu2,rfl⟩;rw [zcb];refine .inl ⟨.inl rfl,rfl,λa ha=>?_,_,_,rfl⟩;rcases Nat.lt_or_ge a k with z|z
    ·exact no a z
    ·have:a=k:=(by lia);subst this;rw [es,hn,<-hu2];rfl
  ·rintro l S1 ⟨rfl,no,x3,x4,rfl⟩;refine .inl ⟨rfl,rfl,?_⟩;rw [zsg,qlm,qlm,lc,ld,Nat.min_self] at no;unfold prt;rw [List.any_eq_false];intro a ha;rw [no a (List.mem_range.mp ha)];decide
 ·rintro l S1 ⟨rfl,h⟩;simp only [zcc,zau];exact ⟨by rw [h],nofun⟩
 ·rintro d l S1 ⟨rfl,rfl,h⟩;exact ⟨by rw [h],rfl⟩
abbrev TF:=Nat->Nat->Bool
noncomputable def up (f:TF) (i j:Nat):TF:=ze5 (ze5 f i j) j i
theorem up_iff:up f i j x y=true↔f x y=true\/(x=i/\y=j)\/(x=j/\y=i):=by unfold up ze5;simp only [Bool.or_eq_true,Bool.and_eq_true,beq_iff_eq,or_assoc]
noncomputable def zel (N:Nat) (f:TF):Nat:=((apL N).filter λp=>!f p.1 p.2).length
theorem zsi {α:Type}{p q:α->Bool}:∀{l:List α}{z:α},(∀x∈l,q x=true->p x=true)->z∈l->p z=true->q z=false->(l.filter q).length<(l.filter p).length
 |[],z,_,hz,_,_=>by cases hz
 | x :: l,z,h,hz,hp,hq=>by
  have le:(l.filter q).length<=(l.filter p).length:=by
   have hl:∀x∈l,q x=true->p x=true:=λx hx=>h x (List.mem_cons_of_mem _ hx);clear h hz hp hq;induction l with
   |nil=>exact qlr _
   | cons y l ih =>
    have:=ih λx hx=>hl x (List.mem_cons_of_mem _ hx);have hy:=hl y List.mem_cons_self;rw [List.filter_cons,List.filter_cons];split
    ·rename_i e;rw [if_pos (hy e)];simpa using this
    ·split
     ·rw [List.length_cons];lia
     ·exact this
  rw [List.filter_cons,List.filter_cons];rcases List.mem_cons.mp hz with rfl|hz
  ·rw [if_neg (by rw [hq];decide),if_pos hp,List.length_cons];lia
  ·have ih:=zsi (λx hx=>h x (List.mem_cons_of_mem _ hx)) hz hp hq;split
   ·rename_i e;rw [if_pos (h x List.mem_cons_self e)];simpa using ih
   ·split
    ·rw [List.length_cons];lia
    ·exact ih
theorem yhc {N i j:Nat}{f:TF}(hj:j<i) (hi:i<N) (h:f j i=false):zel N (up f i j)<zel N f:=by
 unfold zel;refine zsi (z:=(j,i)) (λp _ hp=>?_) (mem_ap.mpr ⟨hj,hi⟩) (by simp [h]) ?_
 ·cases e:f p.1 p.2 with
  |false=>rfl
  |true=>have:up f i j p.1 p.2=true:=up_iff.mpr (.inl e);rw [this] at hp;cases hp
 ·have:up f i j j i=true:=up_iff.mpr (.inr (.inr ⟨rfl,rfl⟩));rw [this];rfl
theorem yhd (N:Nat) (f:TF):zel N f<=N*N:=Nat.le_trans (List.length_filter_le _ _) (zhr N)
structure Snd (A:Nat) (g:List (List Cl)) (f:TF):Prop where
 pt:∀x y,f x y=true->Pt A g (x,y)
 sy:∀x y,f x y=f y x
theorem zsj (h:Snd A g f) (hp:prt A g f p=true):Pt A g p:=by
 obtain ⟨a,ha,hs⟩:=List.any_eq_true.mp hp;have ha:=List.mem_range.mp ha;unfold stp at hs;rcases (Bool.or_eq_true _ _).mp hs with z|z
 ·exact zr2 (List.any_eq_true.mpr ⟨a,List.mem_range.mpr ha,z⟩)
 ·cases hn:nxt g p a with
  |none=>rw [hn] at z;cases z
  |some q=>rw [hn] at z;obtain ⟨w,hw⟩:=h.pt q.1 q.2 z;exact ⟨_,BF.fails_cons ha hn hw⟩
theorem Snd.up (h:Snd A g f) (hp:prt A g f (i,j)=true):Snd A g (up f i j):=by
 refine ⟨λx y hxy=>?_,λx y=>?_⟩
 ·rcases up_iff.mp hxy with z|⟨rfl,rfl⟩|⟨rfl,rfl⟩
  ·exact h.pt x y z
  ·exact zsj h hp
  ·obtain ⟨w,hw⟩:=zsj h hp;exact ⟨w,zf0 hw⟩
 ·rw [Bool.eq_iff_iff,up_iff,up_iff,h.sy x y];constructor<;>rintro (z|⟨rfl,rfl⟩|⟨rfl,rfl⟩)<;>simp [*]
def Cls (A:Nat) (g:List (List Cl)) (f:TF):Prop:=∀x y,y<x->x<g.length->f x y=false->prt A g f (x,y)=false
theorem yhe (ok:OkM A g) (h:Snd A g f) (hc:Cls A g f) (hx:x<g.length) (hy:y<g.length):f x y=true↔Pt A g (x,y):=by
 refine ⟨h.pt x y,λhp=>?_⟩;have key:∀(w:List Nat) (p:BF.P),InP g p->BF.Fails A (nxt g) (fl g) p w->f p.2 p.1=true:=by
  refine zmk ok (λp=>f p.2 p.1=true) (λp hp h1=>?_) (λp q a hp ha hn hq=>?_)
  ·cases e:f p.2 p.1 with
   |true=>rfl
   |false=>have:=hc p.2 p.1 hp.1 hp.2 e;obtain ⟨a,ha,hf⟩:=List.any_eq_true.mp h1;unfold prt at this;rw [List.any_eq_false] at this;refine absurd ?_ (this a ha);unfold stp;have e2:fl g (p.2,p.1) a=fl g p a:=zr0 g p a;rw [e2,hf];rfl
  ·cases e:f p.2 p.1 with
   |true=>rfl
   | false =>
    have:=hc p.2 p.1 hp.1 hp.2 e;unfold prt at this;rw [List.any_eq_false] at this;refine absurd ?_ (this a (List.mem_range.mpr ha));unfold stp;have e2:nxt g (p.2,p.1) a=(nxt g p a).map swp:=zr1 g p a;rw [e2,hn];show (_||f q.2 q.1)=true;have:f q.2 q.1=true:=by
     unfold srt at hq;split at hq
     ·rw [h.sy];exact hq
     ·exact hq
    rw [this,Bool.or_true]
 obtain ⟨w,hw⟩:=hp;rcases Nat.lt_trichotomy x y with c|c|c
 ·rw [h.sy];exact key w (x,y) ⟨c,hy⟩ hw
 ·subst c;exact absurd hw zjo
 ·exact key w (y,x) ⟨c,hx⟩ (zf0 hw)
theorem Tab.up (h:Tab b N f S) (hi:i<N) (hj:j<N):∃o1 o2,zcl (.ref (b+i)) (.int (j:Int)) (.bl true) S=some (S.set (b+i) o1)/\zcl (.ref (b+j)) (.int (i:Int)) (.bl true) (S.set (b+i) o1)=some ((S.set (b+i) o1).set (b+j) o2)/\Tab b N (ze5 f i j) (S.set (b+i) o1)/\Tab b N (up f i j) ((S.set (b+i) o1).set (b+j) o2):=by have h1:=h.set hi hj;exact ⟨_,_,zsc (h.row i hi) (by simpa using hj),zsc (h1.row j hj) (by simpa using hi),h1,h1.set hj hi⟩
inductive Rd (A:Nat) (g:List (List Cl)) (f:TF) (S0:Sto) (b:Nat) (P:Nat->Nat->Prop) (mo:Bool) (S:Sto):Prop
 |mk (f':TF) (t:Tab b g.length f' S) (gr:Gr S0 S) (s:Snd A g f') (yes:mo=true->zel g.length f'<zel g.length f) (no:mo=false->f'=f/\∀x y,P x y->y<x->x<g.length->f x y=false->prt A g f (x,y)=false)
theorem Rd.weak (h:Rd A g f S0 b P mo S) (w:∀x y,P' x y->y<x->P x y):Rd A g f S0 b P' mo S:=by obtain ⟨f',t,gr,s,yes,no⟩:=h;exact ⟨f',t,gr,s,yes,λe=>⟨(no e).1,λx y hp hy=>(no e).2 x y (w x y hp hy) hy⟩⟩
noncomputable abbrev tLo (A:Nat) (g:List (List Cl)) (b:Nat) (mo:Bool) (x4 x5:Option D):Lo:=[some (mD A g),some (.tup (g.map rD)),~~~(b+g.length),some (.bl mo),x4,x5]
theorem yhf (ok:OkM A g) (hb:S0.length<=b) (hk:k<i) (hi:i<g.length) (h:Rd A g f S0 b P mo S) :
  Ws (sIf (zb9 (zcf (tE (eOp zag (eOp zag (zaa 2) (zaa 4)) (zaa 5)))) (tE (zad zfz (zab (eOp zag (zaa 1) (zaa 4)) (zab (eOp zag (zaa 1) (zaa 5)) (zab (zaa 2) (zac))))))) (zaf (zai (eC (.bl true)) (zcw (eOp zag (zaa 2) (zaa 4)) (zaa 5))) (zaf (zai (eC (.bl true)) (zcw (eOp zag (zaa 2) (zaa 5)) (zaa 4))) (zai (eC (.bl true)) (zae 3)))) (zbh))
   (tLo A g b mo (some (.int (i:Int))) (some (.int (k:Int)))) S λfl l' S'=>fl=.nx/\∃mo',l'=tLo A g b mo' (some (.int (i:Int))) (some (.int (k:Int)))/\Rd A g f S0 b (λx y=>P x y\/(x=i/\y=k)) mo' S':=by
 obtain ⟨f',t,gr,s,yes,no⟩:=h;have hk2:k<g.length:=by lia
 obtain ⟨cs,hcs,e1⟩:=zrw (rs:=g) hi;obtain ⟨ds,hds,e2⟩:=zrw (rs:=g) hk2;refine zce (λc S'=>S'=S/\c=(!f' i k&&prt A g f' (i,k))) ?_ ?_ ?_
 ·simp only [zeu,zc3,zbl,zaz,zah,zap,zan,zam,qg0,qg1,zak];rw [t.at hi hk2];simp only [zbn];cases hf:f' i k with
  |true=>exact ⟨nofun,rfl⟩
  |false=>simp only [Bool.not_false,if_true,zdi,e1,e2,zb0];refine (yhb ok hi hk2 hcs hds t).mono ?_;rintro v S1 ⟨rfl,rfl⟩;exact ⟨_,rfl,rfl,rfl⟩
 ·rintro S1 ⟨rfl,hc⟩;obtain ⟨hf,hp⟩:=(Bool.and_eq_true _ _).mp hc.symm;have hf:f' i k=false:=by simpa using hf
  obtain ⟨o1,o2,q1,q2,t1,t2⟩:=t.up hi hk2;refine zav (l':=tLo A g b mo (some (.int (i:Int))) (some (.int (k:Int)))) (S':=S1.set (b+i) o1) ?_ ?_
  ·simp only [za7,zau,ziq,zaz,zah,qg0,qg1,zak,zd0,za3 t.top,zb0,zhs _ hi];exact ⟨_,q1,nofun,nofun,rfl⟩
  refine zav (l':=tLo A g b mo (some (.int (i:Int))) (some (.int (k:Int)))) (S':=(S1.set (b+i) o1).set (b+k) o2) ?_ ?_
  ·simp only [za7,zau,ziq,zaz,zah,qg0,qg1,zak,zd0,za3 t1.top,zb0,zhs _ hk2];exact ⟨_,q2,nofun,nofun,rfl⟩
  simp only [za7,zau,zao,qs0,qs1];have hm:=yhc (f:=f') hk hi (by rw [s.sy];exact hf);refine ⟨nofun,true,rfl,up f' i k,t2,(gr.set '!' _).set '!' _,s.up hp,λ_=>?_,λz=>by cases z⟩;cases mo with
  |true=>exact Nat.lt_trans hm (yes rfl)
  |false=>rw [(no rfl).1] at hm ⊢;exact hm
 ·rintro S1 ⟨rfl,hc⟩;rw [zcb];refine ⟨rfl,mo,rfl,f',t,gr,s,yes,λe=>⟨(no e).1,λx y hp hy hx hf=>?_⟩⟩;obtain ⟨n1,n2⟩:=no e;rcases hp with hp|⟨rfl,rfl⟩
  ·exact n2 x y hp hy hx hf
  ·subst n1;rw [hf] at hc;simpa using hc.symm
theorem yhg (ok:OkM A g) (hb:S0.length<=b) (t:Tab b g.length f S) (gr:Gr S0 S) (s:Snd A g f) :
  Ws (zca (za5 (zab (zad zb3 (zab (zaa 1) (zac))) (zac))) (zae 4) (zca (za5 (zab (zaa 4) (zac))) (zae 5) (sIf (zb9 (zcf (tE (eOp zag (eOp zag (zaa 2) (zaa 4)) (zaa 5)))) (tE (zad zfz (zab (eOp zag (zaa 1) (zaa 4)) (zab (eOp zag (zaa 1) (zaa 5)) (zab (zaa 2) (zac))))))) (zaf (zai (eC (.bl true)) (zcw (eOp zag (zaa 2) (zaa 4)) (zaa 5))) (zaf (zai (eC (.bl true)) (zcw (eOp zag (zaa 2) (zaa 5)) (zaa 4))) (zai (eC (.bl true)) (zae 3)))) (zbh))))
   (tLo A g b false x4 x5) S λfl l' S'=>fl=.nx/\∃mo x4 x5,l'=tLo A g b mo x4 x5/\Rd A g f S0 b (λx y=>x<g.length) mo S':=by
 have r24:=ok.r24;refine zfv (λi l S'=>∃mo x4 x5,l=tLo A g b mo x4 x5/\Rd A g f S0 b (λx y=>x<i) mo S') (λ_ _=>False) (n:=g.length) (S1:=S) ?_ '!' ⟨false,_,_,rfl,f,t,gr,s,λz=>(by cases z),λ_=>⟨rfl,λx y h=>absurd h (Nat.not_lt_zero _)⟩⟩ ?_ ?_ (λd l' S' z=>z.elim)
 ·have:Wa (zab (zad zb3 (zab (zaa 1) (zac))) (zac)) (tLo A g b false x4 x5) S λv S'=>v=[.int (g.length:Int)]/\S'=S:=by simp only [zan,zam,zap,zah,qg0,qg1,zak,zg9,qlm];exact ⟨nofun,nofun⟩
  obtain ⟨v,S',e,rfl,rfl⟩:=this;exact e
 ·rintro i l S1 hi ⟨mo,x4,x5,rfl,r1⟩;simp only [zao,qs0,qs1];refine zfv (λk l S'=>∃mo x5,l=tLo A g b mo (some (.int (i:Int))) x5/\Rd A g f S0 b (λx y=>x<i\/(x=i/\y<k)) mo S') (λ_ _=>False) (n:=i) (S1:=S1) rfl '!' ⟨mo,_,rfl,r1.weak λx y h _=>h.elim id λz=>absurd z.2 (Nat.not_lt_zero _)⟩ ?_ ?_ (λd l' S' z=>z.elim)
  ·rintro k l S2 hk ⟨mo,x5,rfl,r2⟩;simp only [zao,qs0,qs1];refine Wr.mono (yhf ok hb hk hi r2) ?_;rintro fl l' S3 ⟨rfl,mo',rfl,r3⟩;refine .inl ⟨.inl rfl,mo',_,rfl,r3.weak λx y h hy=>?_⟩;rcases h with h|⟨h1,h2⟩
   ·exact .inl (.inl h)
   ·rcases Nat.lt_or_ge y k with c|c
    ·exact .inl (.inr ⟨h1,c⟩)
    ·exact .inr ⟨h1,by lia⟩
  ·rintro l S2 ⟨mo,x5,rfl,r2⟩;refine .inl ⟨.inl rfl,mo,_,_,rfl,r2.weak λx y h hy=>?_⟩;rcases Nat.lt_or_ge x i with c|c
   ·exact .inl c
   ·exact .inr ⟨by lia,by lia⟩
 ·rintro l S1 ⟨mo,x4,x5,rfl,r1⟩;exact ⟨rfl,mo,_,_,rfl,r1⟩
theorem yhh (g:List (List Cl)):(g.map λ_=>D.bl false)=(List.range g.length).map λ_=>D.bl false:=by
 apply List.ext_getElem?;intro i;rw [qgm,qgm];by_cases h:i<g.length
 ·rw [qge h,List.getElem?_range h];rfl
 ·rw [List.getElem?_eq_none '!',List.getElem?_eq_none (by simpa using h)];rfl
theorem yhi (ok:OkM A g):Wo (zjj [mD A g] S) λv S'=>∃b f,v=.ref (b+g.length)/\S.length<=b/\Gr S S'/\Tab b g.length f S'/\∀x y,x<g.length->y<g.length->(f x y=true↔Pt A g (x,y)):=by
 have sz:=zbs;have r24:=ok.r24;unfold zjj zrn;dsimp! only [zbw];refine zav (l':=[some (mD A g),some (.tup (g.map rD)),none,none,none,none]) (S':=S) ?_ ?_
 ·unfold mD;simp only [za7,zaz,zah,zau,qg0,zak,zdi,zmh,zb0,zao,qs0,qs1];exact ⟨nofun,nofun,nofun⟩
 refine za1 (λl S'=>Gr S S'/\Tab S.length g.length (λ_ _=>false) S'/\l=[some (mD A g),some (.tup (g.map rD)),~~~(S.length+g.length),none,none,none]) ?_ ?_
 ·rw [za7];refine zhb (g.map rD) (λi acc l S'=>S'.length=S.length+i/\Gr S S'/\(∀k,k<i->S'[S.length+k]?=some (.lst ((List.range g.length).map λ_=>D.bl false)))/\acc=(List.range i).map (λk=>D.ref (S.length+k))/\∃x0,l=[x0,some (.tup (g.map rD))]) (zl2 rfl) ⟨rfl,Gr.refl S,λk hk=>absurd hk (Nat.not_lt_zero _),rfl,_,rfl⟩ (λ_ _ _ _ _=>rfl) ?_ ?_
  ·rintro i x acc l S1 hx ⟨hl,g1,hk,rfl,x0,rfl⟩;simp only [zao,qs0,zgt,if_true];refine yf1 g rD (λ_=>D.bl false) (λS'=>S'=S1) (λl=>∃x0,l=[x0]) (zl2 rfl) rfl ⟨_,rfl⟩ (λi S' _=>rfl) '!' ?_ ?_
   ·rintro y l S2 _ ⟨x0,rfl⟩ rfl;simp only [zao,qs0,zau];exact ⟨⟨_,rfl⟩,nofun,nofun⟩
   ·rintro S2 rfl;rw [yhh];refine ⟨by rw [qla,hl];rfl,g1.trans ⟨_,rfl⟩,λk hk2=>?_,by rw [List.range_succ,List.map_append,hl];rfl,_,rfl⟩;rcases Nat.lt_or_ge k i with c|c
    ·exact za2 (hk k c)
    ·have:k=i:=(by lia);subst this;rw [<-hl];exact zbe
  ·rintro acc l S1 ⟨hl,g1,hk,rfl,x0,rfl⟩;rw [qlm] at hl hk ⊢;simp only [zao,qs0,qs1];refine ⟨by simp;lia,nofun,g1.trans ⟨_,rfl⟩,⟨by rw [<-hl,qlm];exact zbe,λi hi=>za2 (hk i hi)⟩,by rw [hl]⟩
 rintro l S1 ⟨g1,t1,rfl⟩;refine zav (l':=tLo A g S.length true none none) (S':=S1) (by simp only [za7,zau,zao,qs0,qs1];exact ⟨nofun,nofun,nofun⟩) ?_;have hN:g.length*g.length<=576:=Nat.le_trans (Nat.mul_le_mul r24 r24) '$';have hm:=yhd g.length λ_ _=>false;refine za1 (λl S'=>∃f x4 x5,l=tLo A g S.length false x4 x5/\Gr S S'/\Tab S.length g.length f S'/\Snd A g f/\Cls A g f) ?_ ?_
 ·refine zmb (λm l T=>∃mo f x4 x5,l=tLo A g S.length mo x4 x5/\Gr S T/\Tab S.length g.length f T/\Snd A g f/\(mo=false->Cls A g f)/\(if mo=true then zel g.length f+1 else 0)<=m) (λ_ _=>False) (λl S'=>∃f x4 x5,l=tLo A g S.length false x4 x5/\Gr S S'/\Tab S.length g.length f S'/\Snd A g f/\Cls A g f) 600 (by decide)
   ⟨true,_,_,_,rfl,g1,t1,⟨λx y h=>(by cases h),λx y=>rfl⟩,λz=>(by cases z),(by rw [if_pos rfl];lia)⟩ ?_ (λl' S' h=>⟨rfl,h⟩) (λd l' S' z=>z.elim)
  rintro m l T ⟨mo,f,x4,x5,rfl,g2,t2,s2,c2,hm2⟩;simp only [zbl,zah,qg0,qg1,zak,zbn];cases mo with
  |false=>exact ⟨f,_,_,rfl,g2,t2,s2,c2 rfl⟩
  | true =>
   rw [if_pos rfl] at hm2 ⊢;refine zav (l':=tLo A g S.length false x4 x5) (S':=T) (by simp only [za7,zau,zao,qs0,qs1];exact ⟨nofun,nofun,nofun⟩) ?_;refine Wr.mono (yhg ok (qlr _) t2 g2 s2) ?_;rintro fl l' T2 ⟨rfl,mo,x4,x5,rfl,f3,t3,g3,s3,yes,no⟩;refine .inl ⟨.inl rfl,if mo=true then zel g.length f3+1 else 0,?_,mo,f3,_,_,rfl,g3,t3,s3,λz=>?_,qlr _⟩
   ·cases mo with
    |true=>have:=yes rfl;rw [if_pos rfl];lia
    |false=>rw [if_neg '$'];lia
   ·obtain ⟨rfl,h⟩:=no z;exact λx y hy hx hf=>h x y hx hy hx hf
 rintro l S2 ⟨f,x4,x5,rfl,g2,t2,s2,c2⟩;simp only [zcc,zah,qg0,qg1,zak];exact ⟨_,f,rfl,qlr _,g2,t2,λx y hx hy=>yhe ok s2 c2 hx hy⟩
noncomputable def gw (p:Nat->Nat->Bool):Nat->List Nat->List Nat->List Nat->List (List Nat)
 |0,_,_,_=>[]
 | n+1,lot,more,past=>if more=[]/\past=[] then [lot] else
   ((List.range more.length).map λi=>match more[i]? with
     |some r=>gw p n (lot++[r]) ((more.drop (i+1)).filter λo=>!p r o) ((past++more.take i).filter λo=>!p r o)
     |none=>[]).flatten
noncomputable def zht (p:Nat->Nat->Bool) (n:Nat) (lot more past:List Nat) (i:Nat):List (List Nat):=match more[i]? with
 |some r=>gw p n (lot++[r]) ((more.drop (i+1)).filter λo=>!p r o) ((past++more.take i).filter λo=>!p r o)
 |none=>[]
noncomputable def gfl (p:Nat->Nat->Bool) (n:Nat) (lot more past:List Nat) (k:Nat):List (List Nat):=((List.range k).map (zht p n lot more past)).flatten
section
variable {p:Nat->Nat->Bool}{n:Nat}{lot more past:List Nat}
theorem zhu:gw p (n+1) lot more past=if more=[]/\past=[] then [lot] else gfl p n lot more past more.length:=rfl
theorem zf1 (h:more[i]?=some r):zht p n lot more past i=gw p n (lot++[r]) ((more.drop (i+1)).filter λo=>!p r o) ((past++more.take i).filter λo=>!p r o):=by unfold zht;rw [h]
theorem zjq (k:Nat):gfl p n lot more past (k+1)=gfl p n lot more past k++zht p n lot more past k:=by unfold gfl;rw [List.range_succ,List.map_append,List.flatten_append];simp
theorem zmm:∀(n:Nat) (lot more past:List Nat),(gw p n lot more past).length<=2^more.length
 |0,_,_,_=>Nat.zero_le _
 | n+1,lot,more,past=>by
  rw [zhu];split
  ·exact Nat.one_le_two_pow
  ·have key:∀k,k<=more.length->(gfl p n lot more past k).length+2^(more.length-k)<=2^more.length:=λk=>by
    induction k with
    |zero=>intro _;simp [gfl]
    |succ k ih=>intro hk;have h1:=ih '!';have hp:(zht p n lot more past k).length<=2^(more.length-(k+1)):=(by obtain ⟨r,hr⟩:∃r,more[k]?=some r:=⟨_,qge '!'⟩;rw [zf1 hr];refine Nat.le_trans (zmm n _ _ _) (Nat.pow_le_pow_right '$' ?_);refine Nat.le_trans (List.length_filter_le _ _) ?_;rw [List.length_drop];exact qlr _);rw [zjq,qla];have e:more.length-k=(more.length-(k+1))+1:=(by lia);rw [e,Nat.pow_succ] at h1;lia
   exact Nat.le_trans (Nat.le_add_right _ _) (key more.length (qlr _))
theorem yhj (k:Nat) (hk:k<=more.length):(gfl p n lot more past k).length<=2^more.length*more.length:=by
 have:∀k,k<=more.length->(gfl p n lot more past k).length<=2^more.length*k:=λk=>by
  induction k with
  |zero=>intro _;simp [gfl]
  |succ k ih=>intro hk;obtain ⟨r,hr⟩:∃r,more[k]?=some r:=⟨_,qge '!'⟩;rw [zjq,qla,zf1 hr,Nat.mul_succ];have h1:=zmm (p:=p) n (lot++[r]) ((more.drop (k+1)).filter λo=>!p r o) ((past++more.take k).filter λo=>!p r o);have h2:2^((more.drop (k+1)).filter λo=>!p r o).length<=2^more.length:=Nat.pow_le_pow_right '$' (Nat.le_trans (List.length_filter_le _ _) (by rw [List.length_drop];lia));have:=ih '!';lia
 exact Nat.le_trans (this k hk) (Nat.mul_le_mul_left _ hk)
structure Mx (p:Nat->Nat->Bool) (more past sub:List Nat):Prop where
 sl:sub.Sublist more
 cl:sub.Pairwise λx y=>p x y=false
 mx:∀x,x∈more\/x∈past->x∉sub->∃y∈sub,p y x=true
theorem zsk:∀{more:List Nat},(r::sub).Sublist more->∃i,more[i]?=some r/\sub.Sublist (more.drop (i+1))
 |[],h=>by cases h
 |x::more,h=>by
  cases h with
  |cons _ h=>obtain ⟨i,h1,h2⟩:=zsk h;exact ⟨i+1,by simpa using h1,by simpa using h2⟩
  |cons_cons _ h=>exact ⟨0,rfl,by simpa using h⟩
theorem zsl:∀{more:List Nat}{sub:List Nat}{i:Nat},more[i]?=some r->sub.Sublist (more.drop (i+1))->(r::sub).Sublist more
 |[],_,_,h,_=>by simp at h
 |x::more,sub,0,h,hs=>by simp at h;subst h;exact .cons_cons _ (by simpa using hs)
 |x::more,sub,i+1,h,hs=>.cons _ (zsl (i:=i) (by simpa using h) (by simpa using hs))
theorem zsm:∀{more:List Nat}{i:Nat},more[i]?=some r->(x∈more↔x=r\/x∈more.drop (i+1)\/x∈more.take i)
 |[],_,h=>by simp at h
 |y::more,0,h=>by simp at h;subst h;simp
 |y::more,i+1,h=>by
  have ih:=zsm (x:=x) (i:=i) (more:=more) (r:=r) (by simpa using h);simp only [List.mem_cons,List.drop_succ_cons,List.take_succ_cons,ih];constructor
  ·rintro (a|a|a|a)<;>simp [a]
  ·rintro (a|a|a|a)<;>simp [a]
theorem zmn:∀{more:List Nat}{i:Nat},more.Nodup->more[i]?=some r->r∉more.drop (i+1)/\r∉more.take i/\∀x∈more.drop (i+1),x∉more.take i
 |[],_,_,h=>by simp at h
 |y::more,0,nd,h=>by simp at h;subst h;exact ⟨by simpa using (List.nodup_cons.mp nd).1,by simp,λx _=>by simp⟩
 |y::more,i+1,nd,h=>by
  have hr:more[i]?=some r:=by simpa using h
  obtain ⟨h1,h2,h3⟩:=zmn (i:=i) (List.nodup_cons.mp nd).2 hr;have hy:=(List.nodup_cons.mp nd).1;refine ⟨by simpa using h1,?_,λx hx=>?_⟩
  ·simp only [List.take_succ_cons,List.mem_cons,not_or];exact ⟨λe=>hy (e▸qmg hr),h2⟩
  ·simp only [List.drop_succ_cons] at hx;simp only [List.take_succ_cons,List.mem_cons,not_or];exact ⟨λe=>hy (e▸List.mem_of_mem_drop hx),h3 x hx⟩
theorem zsn (sym:∀x y,p x y=p y x) (nd:more.Nodup) (dis:∀x∈more,x∉past) (hr:more[i]?=some r) :
  Mx p ((more.drop (i+1)).filter λo=>!p r o) ((past++more.take i).filter λo=>!p r o) sub↔Mx p more past (r::sub)/\sub.Sublist (more.drop (i+1)):=by
 obtain ⟨n1,n2,n3⟩:=zmn (i:=i) nd hr;constructor
 ·rintro ⟨sl,cl,mx⟩;have s1:sub.Sublist (more.drop (i+1)):=sl.trans List.filter_sublist;have hp:∀y∈sub,p r y=false:=λy hy=>by have:=(List.mem_filter.mp (sl.subset hy)).2;simpa using this
  refine ⟨⟨zsl (i:=i) hr s1,List.pairwise_cons.mpr ⟨hp,cl⟩,λx hx hn=>?_⟩,s1⟩;simp only [List.mem_cons,not_or] at hn;cases e:p r x with
  |true=>exact ⟨r,List.mem_cons_self,e⟩
  | false =>
   obtain ⟨y,hy,h⟩:=mx x (by
    simp only [List.mem_filter,List.mem_append,e,Bool.not_false,and_true];rcases hx with hx|hx
    ·rcases (zsm (i:=i) hr).mp hx with z|z|z
     ·exact absurd z hn.1
     ·exact .inl z
     ·exact .inr (.inr z)
    ·exact .inr (.inl hx)) hn.2
   exact ⟨y,List.mem_cons_of_mem _ hy,h⟩
 ·rintro ⟨⟨sl,cl,mx⟩,s1⟩;obtain ⟨hp,cl⟩:=List.pairwise_cons.mp cl;have e:sub.filter (λo=>!p r o)=sub:=List.filter_eq_self.mpr λy hy=>by simp [hp y hy]
  refine ⟨by rw [<-e];exact s1.filter _,cl,λx hx hn=>?_⟩;simp only [List.mem_filter,List.mem_append,Bool.not_eq_true'] at hx;have hrm:r∈more:=qmg hr;have hxr:x≠r:=by
   rintro rfl;rcases hx with ⟨z,_⟩|⟨z|z,_⟩
   ·exact n1 z
   ·exact dis _ hrm z
   ·exact n2 z
  have hx2:p r x=false:=by rcases hx with ⟨_,z⟩|⟨_,z⟩<;>exact z
  have hx1:x∈more\/x∈past:=by
   rcases hx with ⟨z,_⟩|⟨z|z,_⟩
   ·exact .inl (List.mem_of_mem_drop z)
   ·exact .inr z
   ·exact .inl (List.mem_of_mem_take z)
  obtain ⟨y,hy,h⟩:=mx x hx1 (by simp only [List.mem_cons,not_or];exact ⟨hxr,hn⟩);rcases List.mem_cons.mp hy with rfl|hy
  ·rw [hx2] at h;cases h
  ·exact ⟨y,hy,h⟩
theorem zjr (nd:more.Nodup) (dis:∀x∈more,x∉past) (hr:more[i]?=some r):((more.drop (i+1)).filter λo=>!p r o).Nodup/\∀x∈(more.drop (i+1)).filter λo=>!p r o,x∉(past++more.take i).filter λo=>!p r o:=by
 obtain ⟨n1,n2,n3⟩:=zmn (i:=i) nd hr;refine ⟨(nd.sublist (List.drop_sublist _ _)).filter _,λx hx=>?_⟩;have hx:=(List.mem_filter.mp hx).1;simp only [List.mem_filter,List.mem_append,not_and];rintro (z|z)
 ·exact absurd z (dis x (List.mem_of_mem_drop hx))
 ·exact absurd z (n3 x hx)
theorem zhv (hr:more[i]?=some r):((more.drop (i+1)).filter λo=>!p r o).length<more.length:=by have h1:=(qme hr).1;have:=List.length_filter_le (λo=>!p r o) (more.drop (i+1));rw [List.length_drop] at this;lia
theorem zso (hk:k<=more.length):L∈gfl p n lot more past k↔∃i r,i<k/\more[i]?=some r/\L∈gw p n (lot++[r]) ((more.drop (i+1)).filter λo=>!p r o) ((past++more.take i).filter λo=>!p r o):=by
 unfold gfl;rw [List.mem_flatten];constructor
 ·rintro ⟨l,hl,hL⟩;obtain ⟨i,hi,rfl⟩:=List.mem_map.mp hl;have hi:=List.mem_range.mp hi;obtain ⟨r,hr⟩:∃r,more[i]?=some r:=⟨_,qge '!'⟩;rw [zf1 hr] at hL;exact ⟨i,r,hi,hr,hL⟩
 ·rintro ⟨i,r,hi,hr,hL⟩;exact ⟨_,List.mem_map.mpr ⟨i,List.mem_range.mpr hi,rfl⟩,by rw [zf1 hr];exact hL⟩
theorem zhw (sym:∀x y,p x y=p y x):∀(n:Nat) (lot more past:List Nat),more.length<n->more.Nodup->(∀x∈more,x∉past)->∀L,L∈gw p n lot more past↔∃sub,L=lot++sub/\Mx p more past sub
 |0,_,_,_,h,_,_,_=>absurd h (Nat.not_lt_zero _)
 | n+1,lot,more,past,hl,nd,dis,L=>by
  rw [zhu];split
  ·rename_i h;obtain ⟨rfl,rfl⟩:=h;rw [List.mem_singleton];constructor
   ·rintro rfl;exact ⟨[],by simp,.slnil,.nil,λx hx=>by simp at hx⟩
   ·rintro ⟨sub,rfl,h⟩;have:=List.sublist_nil.mp h.sl;rw [this];simp
  ·rename_i hne;rw [zso (qlr _)];constructor
   ·rintro ⟨i,r,hi,hr,hL⟩;have rl:=zhv (p:=p) hr;obtain ⟨r1,r2⟩:=zjr (p:=p) nd dis hr;obtain ⟨sub,rfl,h⟩:=(zhw sym n _ _ _ '!' r1 r2 L).mp hL;exact ⟨r::sub,by simp,((zsn sym nd dis hr).mp h).1⟩
   ·rintro ⟨sub,rfl,h⟩;cases sub with
    | nil =>
     exfalso;have no:∀x,¬(x∈more\/x∈past):=λx hx=>(by obtain ⟨y,hy,_⟩:=h.mx x hx '*';cases hy);refine hne ⟨?_,?_⟩
     ·cases more with
      |nil=>rfl
      |cons a l=>exact absurd (.inl List.mem_cons_self) (no a)
     ·cases past with
      |nil=>rfl
      |cons a l=>exact absurd (.inr List.mem_cons_self) (no a)
    |cons r sub=>obtain ⟨i,hr,hs⟩:=zsk h.sl;have rl:=zhv (p:=p) hr;obtain ⟨r1,r2⟩:=zjr (p:=p) nd dis hr;exact ⟨i,r,(qme hr).1,hr,(zhw sym n _ _ _ '!' r1 r2 _).mpr ⟨sub,by simp,(zsn sym nd dis hr).mpr ⟨h,hs⟩⟩⟩
theorem zmo (sym:∀x y,p x y=p y x):∀(n:Nat) (lot more past:List Nat),more.length<n->more.Nodup->(∀x∈more,x∉past)->(gw p n lot more past).Nodup
 |0,_,_,_,h,_,_=>absurd h (Nat.not_lt_zero _)
 | n+1,lot,more,past,hl,nd,dis=>by
  rw [zhu];split
  ·simp
  ·have key:∀k,k<=more.length->(gfl p n lot more past k).Nodup:=λk=>by
    induction k with
    |zero=>intro _;simp [gfl]
    |succ k ih=>intro hk;obtain ⟨r,hr⟩:∃r,more[k]?=some r:=⟨_,qge '!'⟩;have rl:=zhv (p:=p) hr;obtain ⟨r1,r2⟩:=zjr (p:=p) nd dis hr;rw [zjq,zf1 hr,List.nodup_append];refine ⟨ih '!',zmo sym n _ _ _ '!' r1 r2,λa ha b hb e=>?_⟩;subst e;obtain ⟨i,r',hi,hr',hL⟩:=(zso '!').mp ha;have rl':=zhv (p:=p) hr';obtain ⟨r1',r2'⟩:=zjr (p:=p) nd dis hr';obtain ⟨s1,e1,_⟩:=(zhw sym n _ _ _ '!' r1' r2' a).mp hL;obtain ⟨s2,e2,_⟩:=(zhw sym n _ _ _ '!' r1 r2 a).mp hb;rw [e1,qaa,qaa] at e2;have e3:=List.append_cancel_left e2;simp at e3;obtain ⟨h1,g1⟩:=qme hr';obtain ⟨h2,g2⟩:=qme hr;have:i=k:=(List.getElem_inj nd).mp (by rw [g1,g2];exact e3.1);lia
   exact key _ (qlr _)
end
noncomputable def zcr (q:Nat->Bool):Nat->Nat
 |0=>0
 |k+1=>zcr q k+if q k then 2^k else 0
theorem zjs (q:Nat->Bool):∀k,zcr q k<2^k
 |0=>by simp [zcr]
 |k+1=>by have:=zjs q k;unfold zcr;rw [Nat.pow_succ];split<;>lia
theorem zjt (q:Nat->Bool) (x:Nat):∀k,(zcr q k).testBit x=(decide (x<k)&&q x)
 |0=>by simp [zcr]
 | k+1=>by
  have ih:=zjt q x k;have lt:=zjs q k;unfold zcr;by_cases hq:q k=true
  ·rw [if_pos hq,Nat.add_comm];rcases Nat.lt_trichotomy x k with h|h|h
   ·rw [Nat.testBit_two_pow_add_gt h,ih];simp [h,Nat.lt_succ_of_lt h]
   ·subst h;rw [Nat.testBit_two_pow_add_eq,Nat.testBit_lt_two_pow lt];simp [hq]
   ·have:2^k+zcr q k<2^x:=(by have h2:2^(k+1)<=2^x:=Nat.pow_le_pow_right '$' h;rw [Nat.pow_succ] at h2;lia);rw [Nat.testBit_lt_two_pow this];have:¬x<k+1:=(by lia);simp [this]
  ·rw [if_neg hq,Nat.add_zero,ih];rcases Nat.lt_trichotomy x k with h|h|h
   ·simp [h,Nat.lt_succ_of_lt h]
   ·subst h;simp [hq]
   ·have h1:¬x<k:=(by lia);have h2:¬x<k+1:=(by lia);simp [h1,h2]
theorem ze6 (ha:a<2^N) (hb:b<2^N) (h:∀x,x<N->a.testBit x=b.testBit x):a=b:=by
 apply Nat.eq_of_testBit_eq;intro x;by_cases hx:x<N
 ·exact h x hx
 ·have hp:2^N<=2^x:=Nat.pow_le_pow_right '$' '!';rw [Nat.testBit_lt_two_pow '!',Nat.testBit_lt_two_pow '!']
noncomputable def cm (p:Nat->Nat->Bool) (N b:Nat):Nat:=zcr (λx=>(List.range N).all λy=>!b.testBit y || !p y x) N
noncomputable def nr (p:Nat->Nat->Bool) (N y:Nat):Nat:=zcr (λx=>!p y x) N
noncomputable def lsb (N b:Nat):List Nat:=(List.range N).filter λx=>b.testBit x
section
theorem ze7 (b x:Nat):(cm p N b).testBit x=true↔x<N/\∀y,y<N->b.testBit y=true->p y x=false:=by
 unfold cm;rw [zjt];simp only [Bool.and_eq_true,decide_eq_true_eq,List.all_eq_true,List.mem_range,Bool.or_eq_true,Bool.not_eq_true'];constructor
 ·rintro ⟨h1,h2⟩;refine ⟨h1,λy hy hb=>?_⟩;rcases h2 y hy with z|z
  ·rw [hb] at z;cases z
  ·exact z
 ·rintro ⟨h1,h2⟩;refine ⟨h1,λy hy=>?_⟩;cases e:b.testBit y with
  |false=>exact .inl rfl
  |true=>exact .inr (h2 y hy e)
theorem zf2 (b:Nat):cm p N b<2^N:=zjs _ _
theorem yhk:cm p N 0=2^N-1:=by have h0:=Nat.two_pow_pos N;refine ze6 (zf2 0) '!' λx hx=>?_;rw [Nat.testBit_two_pow_sub_one];have:(cm p N 0).testBit x=true:=(ze7 0 x).mpr ⟨hx,λy _ h=>by simp at h⟩;rw [this];simp [hx]
theorem zsp (h1:b.testBit r=true) (h0:∀j,j<r->b.testBit j=false):2^r<=b/\∀j,(b-2^r).testBit j=(b.testBit j&&decide (j≠r)):=by
 have hm:b%2^r=0:=by
  apply Nat.eq_of_testBit_eq;intro j;rw [Nat.testBit_mod_two_pow,Nat.zero_testBit];by_cases hj:j<r
  ·simp [h0 j hj]
  ·simp [hj]
 have hb:b=2^r*(b/2^r):=by have:=Nat.div_add_mod b (2^r);lia
 have ho:b/2^r%2=1:=by have:=h1;rw [Nat.testBit_eq_decide_div_mod_eq] at this;simpa using this
 generalize hq:b/2^r=q at hb ho;have hq2:q=2*(q/2)+1:=by lia
 generalize hk:q/2=k at hq2;have hb2:b=2^(r+1)*k+2^r:=by rw [hb,hq2,Nat.pow_succ,Nat.mul_add,Nat.mul_one,Nat.mul_assoc]
 have hp:2^r<2^(r+1):=Nat.pow_lt_pow_right '$' (Nat.lt_succ_self r);refine ⟨by rw [hb2];exact Nat.le_add_left _ _,λj=>?_⟩;have e1:b-2^r=2^(r+1)*k+0:=by rw [hb2];lia
 rw [e1,Nat.testBit_two_pow_mul_add _ (Nat.two_pow_pos _)]
 conv=>rhs;rw [hb2]
 rw [Nat.testBit_two_pow_mul_add _ hp];by_cases hj:j<r+1
 ·rw [if_pos hj,if_pos hj,Nat.zero_testBit,Nat.testBit_two_pow];by_cases e:r=j
  ·simp [e]
  ·simp [e]
 ·rw [if_neg hj,if_neg hj];have:j≠r:=by lia
  simp [this]
theorem yhl (hb:b<2^N) (h1:b.testBit r=true) (h0:∀j,j<r->b.testBit j=false):r<N/\b-2^r<b/\cm p N b=cm p N (b-2^r) &&& nr p N r:=by
 have hr:r<N:=by refine Nat.lt_of_not_le λhle=>?_;have hp:2^N<=2^r:=Nat.pow_le_pow_right '$' hle;rw [Nat.testBit_lt_two_pow '!'] at h1;cases h1
 obtain ⟨hle,hbit⟩:=zsp h1 h0;have hpos:=Nat.two_pow_pos r;refine ⟨hr,by lia,?_⟩;refine ze6 (zf2 b) (Nat.lt_of_le_of_lt Nat.and_le_left (zf2 _)) λx hx=>?_;rw [Nat.testBit_and];have hn:(nr p N r).testBit x = !p r x:=by unfold nr;rw [zjt];simp [hx]
 rw [hn];apply Bool.eq_iff_iff.mpr;rw [Bool.and_eq_true,ze7,ze7];constructor
 ·rintro ⟨_,h⟩;refine ⟨⟨hx,λy hy hyb=>h y hy ?_⟩,by simpa using h r hr h1⟩;rw [hbit,Bool.and_eq_true] at hyb;exact hyb.1
 ·rintro ⟨⟨_,h⟩,h2⟩;refine ⟨hx,λy hy hyb=>?_⟩;by_cases e:y=r
  ·subst e;simpa using h2
  ·exact h y hy (by rw [hbit,hyb];simp [e])
theorem lsb_mem:x∈lsb N b↔x<N/\b.testBit x=true:=by unfold lsb;rw [List.mem_filter,List.mem_range]
theorem zsq (ha:a<2^N) (hb:b<2^N) (h:lsb N a=lsb N b):a=b:=by
 refine ze6 ha hb λx hx=>?_;have:x∈lsb N a↔x∈lsb N b:=by rw [h]
 rw [lsb_mem,lsb_mem] at this;apply Bool.eq_iff_iff.mpr;exact ⟨λz=>(this.mp ⟨hx,z⟩).2,λz=>(this.mpr ⟨hx,z⟩).2⟩
theorem zsr {α:Type} [DecidableEq α] {l s:List α}(nd:l.Nodup) (h:s.Sublist l):l.filter (λx=>decide (x∈s))=s:=by
 induction h with
 |slnil=>rfl
 | @cons s l a h ih=>obtain ⟨na,nl⟩:=List.nodup_cons.mp nd;rw [List.filter_cons,if_neg (by simpa using λz=>na (h.subset z))];exact ih nl
 | @cons_cons s l a h ih=>obtain ⟨na,nl⟩:=List.nodup_cons.mp nd;rw [List.filter_cons,if_pos '*'];congr 1;refine Eq.trans ?_ (ih nl);apply List.filter_congr;intro x hx;have:x≠a:=λe=>na (e▸hx);simp [this]
theorem zss (sym:∀x y,p x y=p y x) (irr:∀x,p x x=false) (hb:b<2^N):cm p N b=b↔Mx p (List.range N) [] (lsb N b):=by
 constructor
 ·intro h;have hx:∀x,x<N->(b.testBit x=true↔∀y,y<N->b.testBit y=true->p y x=false):=λx hx=>by have:=ze7 (p:=p) (N:=N) b x;rw [h] at this;exact this.trans ⟨λz=>z.2,λz=>⟨hx,z⟩⟩
  refine ⟨List.filter_sublist,?_,λx hm hn=>?_⟩
  ·rw [List.pairwise_iff_getElem];intro i j hi hj hij;have m1:=lsb_mem.mp (qem hi);have m2:=lsb_mem.mp (qem hj);exact (hx _ m2.1).mp m2.2 _ m1.1 m1.2
  ·have hxN:x<N:=(by simpa using hm);have hb':¬b.testBit x=true:=λz=>hn (lsb_mem.mpr ⟨hxN,z⟩);rw [hx x hxN] at hb';have:∃y,¬(y<N->b.testBit y=true->p y x=false):=Classical.not_forall.mp hb';obtain ⟨y,hy⟩:=this;have h1:y<N:=Classical.byContradiction λz=>hy λw=>absurd w z;have h2:b.testBit y=true:=Classical.byContradiction λz=>hy λ_ w=>absurd w z;refine ⟨y,lsb_mem.mpr ⟨h1,h2⟩,?_⟩;cases e:p y x with
   |true=>rfl
   |false=>exact absurd (λ_ _=>e) hy
 ·rintro ⟨sl,cl,mx⟩;refine ze6 (zf2 b) hb λx hx=>?_;apply Bool.eq_iff_iff.mpr;rw [ze7];have all:∀{a c},a∈lsb N b->c∈lsb N b->p a c=false:=λ{a c} ha hc=>by
   obtain ⟨i,hi,rfl⟩:=List.getElem_of_mem ha;obtain ⟨j,hj,rfl⟩:=List.getElem_of_mem hc;rcases Nat.lt_trichotomy i j with z|z|z
   ·exact List.pairwise_iff_getElem.mp cl i j hi hj z
   ·subst z;exact irr _
   ·rw [sym];exact List.pairwise_iff_getElem.mp cl j i hj hi z
  constructor
  ·rintro ⟨_,h⟩;refine Classical.byContradiction λhn=>?_;obtain ⟨y,hy,e⟩:=mx x (.inl (by simpa using hx)) (λz=>hn (lsb_mem.mp z).2);have:=lsb_mem.mp hy;rw [h y this.1 this.2] at e;cases e
  ·intro h;exact ⟨hx,λy hy hyb=>all (lsb_mem.mpr ⟨hy,hyb⟩) (lsb_mem.mpr ⟨hx,h⟩)⟩
noncomputable def zbf (p:Nat->Nat->Bool) (N k:Nat):List (List Nat):=((List.range k).filter λb=>decide (1<=b/\cm p N b=b)).map (lsb N)
theorem zmp (k:Nat):zbf p N (k+1)=zbf p N k++if 1<=k/\cm p N k=k then [lsb N k] else []:=by
 unfold zbf;rw [List.range_succ,List.filter_append,List.map_append];congr 1;by_cases h:1<=k/\cm p N k=k
 ·rw [if_pos h];simp [h]
 ·rw [if_neg h];simp [h]
theorem zju (k:Nat):(zbf p N k).length<=k:=by unfold zbf;rw [qlm];exact Nat.le_trans (List.length_filter_le _ _) '*'
theorem yhm (sym:∀x y,p x y=p y x) (irr:∀x,p x x=false) (hN:1<=N) {n:Nat}(hn:N<n):(gw p n [] (List.range N) []).Perm (zbf p N (2^N)):=by
 have n1:(gw p n [] (List.range N) []).Nodup:=zmo sym n _ _ _ (by simpa using hn) List.nodup_range (λx _=>by simp);have n2:(zbf p N (2^N)).Nodup:=by unfold zbf;rw [List.nodup_iff_pairwise_ne,List.pairwise_map];refine List.Pairwise.imp_of_mem (λ{a b} ha hb hab=>?_) ((List.nodup_range (n:=2^N)).filter _);have ha:=List.mem_range.mp (List.mem_filter.mp ha).1;have hb:=List.mem_range.mp (List.mem_filter.mp hb).1;exact λe=>hab (zsq ha hb e)
 refine (List.perm_ext_iff_of_nodup n1 n2).mpr λL=>?_;rw [zhw sym n _ _ _ (by simpa using hn) List.nodup_range (λx _=>by simp)];unfold zbf;rw [List.mem_map];constructor
 ·rintro ⟨sub,e0,h⟩;have e0:sub=L:=e0.symm;subst e0;have hb:=zjs (λx=>decide (x∈sub)) N;have e:lsb N (zcr (λx=>decide (x∈sub)) N)=sub:=by rw [<-zsr List.nodup_range h.sl];unfold lsb;apply List.filter_congr;intro x hx;rw [zjt];have hx:=List.mem_range.mp hx;rw [zsr List.nodup_range h.sl];simp [hx]
  have h':=h;rw [<-e] at h';refine ⟨_,List.mem_filter.mpr ⟨List.mem_range.mpr hb,decide_eq_true ⟨?_,(zss sym irr hb).mpr h'⟩⟩,e⟩;refine Nat.pos_of_ne_zero λz=>?_;have hs:sub=[]:=by rw [<-e,z];unfold lsb;exact List.filter_eq_nil_iff.mpr λx _=>by simp
  subst hs;obtain ⟨y,hy,_⟩:=h.mx 0 (.inl (by simp;lia)) '*';cases hy
 ·rintro ⟨b,hb,rfl⟩;obtain ⟨h1,h2⟩:=List.mem_filter.mp hb;have h1:=List.mem_range.mp h1;have h2:=of_decide_eq_true h2;exact ⟨_,by simp,(zss sym irr h1).mp h2.2⟩
end
theorem yhn (h:as l S=some ([.ref n],S1)) (hn:lstOf S1 n=some xs):zi3 as l S=some (itN (itL n),(enl xs).length+1,S1):=by unfold zi3;rw [h];show (lstOf S1 n).bind _=_;rw [hn,zq4];rfl
theorem yho (hn:lstOf S n=some xs):itN (itL n) i S=some (enl xs)[i]?:=by unfold itN;rw [zjd hn,zq5];rfl
noncomputable def nD (n:Nat):D:=.int (n:Int)
theorem yhp:Wo (zgo [.int i,.int j] S) Q=Q (.int (if j<i then j else i)) S:=zbd
theorem yhq:Wo (zgp [.int i,.int j] S) Q=Q (.int (if j>i then j else i)) S:=zbd
theorem yhr (r o:Nat):(if (o:Int)<(r:Int) then (o:Int) else (r:Int))=((min r o:Nat):Int):=by split<;>lia
theorem yhs (r o:Nat):(if (o:Int)>(r:Int) then (o:Int) else (r:Int))=((max r o:Nat):Int):=by split<;>lia
noncomputable def pr (F:List BF.P) (r o:Nat):Bool:=decide ((min r o,max r o)∈F)
theorem zst (F:List BF.P) (x y:Nat):pr F x y=pr F y x:=by unfold pr;rw [Nat.min_comm,Nat.max_comm]
noncomputable def zhx (F:List BF.P) (r:Nat):D->Option D
 | .int o=>if pr F r o.toNat then none else some (.int o)
 |_=>none
theorem zsu (F:List BF.P) (r:Nat):∀xs:List Nat,(xs.map nD).filterMap (zhx F r)=(xs.filter λo=>!pr F r o).map nD
 |[]=>rfl
 |x::xs=>by
  rw [List.map_cons,List.filterMap_cons,List.filter_cons,zsu F r xs];unfold nD zhx;simp only [Int.toNat_natCast];by_cases h:pr F r x=true
  ·rw [if_pos h,if_neg (by rw [h];decide)]
  ·rw [if_neg h,if_pos (by simpa using h)];rfl
theorem zsv {m n r:Nat}{F:List BF.P}{xs:List Nat}(hm:S[m]?=some (.tdct (fT F))) (hn:S[n]?=some (.lst (xs.map nD))) (hl:xs.length<=1000) :
  Wo (zhl [.ref m,nD r,.ref n] S) λv S'=>v=.ref S.length/\S'=S++[.lst ((xs.filter λo=>!pr F r o).map nD)]:=by
 have sz:=zbs;unfold zhl zrd;dsimp! only [zbw];simp only [zcc];refine zhc (xs.map nD) (zhx F r) (λS'=>S'=S) (λl=>∃x0,l=[x0,some (nD r),~~~m]) (zl3 (n:=n) rfl (za3 hn)) rfl ⟨_,rfl⟩ (λi S' e=>by subst e;exact zjd (za3 hn)) (by rw [qlm];lia) ?_ ?_
 ·rintro x l S1 hx ⟨x0,rfl⟩ rfl;obtain ⟨o,ho,rfl⟩:=List.mem_map.mp hx;simp only [zao,qs0];refine ⟨⟨_,rfl⟩,?_⟩;have s2:2<=sizeLine:=by decide
  unfold nD;simp only [zbl,zaz,zap,zan,zam,zah,qg0,qg1,zak,yhp,yhq,yhr,yhs,zcn,List.length_cons,List.length_nil,s2,true_and,zra,if_true];refine ⟨_,zl9 hm (ze4 (min r o,max r o)),?_⟩;rw [zr8];refine ⟨_,rfl,λh=>?_,λh=>?_⟩
  ·have:pr F r o=true:=(by unfold pr;by_cases e:(min r o,max r o)∈F<;>simp_all);unfold zhx;simp only [Int.toNat_natCast];rw [if_pos this]
  ·have:pr F r o=false:=(by unfold pr;by_cases e:(min r o,max r o)∈F<;>simp_all);refine ⟨?_,nofun⟩;unfold zhx;simp only [Int.toNat_natCast];rw [if_neg (by rw [this];decide)]
 ·rintro S1 rfl;rw [zsu];exact ⟨rfl,rfl⟩
theorem yht (h1:S[n]?=some (.lst xs)) (h2:S[k]?=some (.lst ys)) (hz:xs.length+ys.length<=sizeLine):Wo (zfu (.ref n) (.ref k) S) Q=Q (.ref n) (S.set n (.lst (xs++ys))):=by
 have:zfu (.ref n) (.ref k) S=some (.ref n,S.set n (.lst (xs++ys))):=by unfold zfu;dsimp only;rw [h1,h2];dsimp only;rw [if_pos hz]
 rw [this];exact zbd
noncomputable def tL_ (L:List Nat):D:=.tup (L.map nD)
noncomputable abbrev gLo (m a b:Nat) (lot:List Nat) (x4 x5 x6 x7 x8:Option D):Lo:=[~~~m,some (tL_ lot),~~~a,~~~b,x4,x5,x6,x7,x8]
theorem zsw:∀(n:Nat) {S:Sto}{a b:Nat}{lot more past:List Nat},S[m]?=some (.tdct (fT F))->S[a]?=some (.lst (more.map nD))->S[b]?=some (.lst (past.map nD))->more.length<n->more.length<=12->lot.length+more.length<=24->past.length+more.length<=24 ->
  Wo (zhm n [.ref m,tL_ lot,.ref a,.ref b] S) λv S'=>Gr S S'/\∃k,v=.ref k/\S.length<=k/\S'[k]?=some (.lst ((gw (pr F) n lot more past).map tL_))
 |0,_,_,_,_,_,_,_,_,_,h,_,_,_=>absurd h (Nat.not_lt_zero _)
 | n+1,S,a,b,lot,more,past,hm,ha,hb,hn,h12,hlt,hpt=>by
  have sz:=zbs;have hal:a<S.length:=(qme ha).1;have hbl:b<S.length:=(qme hb).1;show Wo (zbc 9 (zmc (zhm n)) _ S) _;unfold zmc;dsimp! only [zbw];refine zc6 (λl S'=>S'=S/\l=gLo m a b lot none none none none none/\¬(more=[]/\past=[])) (λd S'=>(more=[]/\past=[])/\Gr S S'/\∃k,d=.ref k/\S.length<=k/\S'[k]?=some (.lst [tL_ lot])) ?_ ?_ ?_
  ·refine zce (λc S'=>S'=S/\c=decide (more=[]/\past=[])) ?_ ?_ ?_
   ·have w2:Wt (tL (zaa 2)) (gLo m a b lot none none none none none) S λc S'=>S'=S/\c = !more.isEmpty:=zml rfl ha ⟨rfl,by cases more<;>rfl⟩;have w3:Wt (tL (zaa 3)) (gLo m a b lot none none none none none) S λc S'=>S'=S/\c = !past.isEmpty:=zml rfl hb ⟨rfl,by cases past<;>rfl⟩;rw [zeu,zc3];obtain ⟨c,S1,e,rfl,rfl⟩:=w2;refine ⟨_,_,e,?_⟩;cases more with
    |nil=>rw [if_pos (by rfl),zc3];obtain ⟨c,S2,e,rfl,rfl⟩:=w3;refine ⟨_,_,e,rfl,?_⟩;cases past<;>simp
    |cons x r=>rw [if_neg '*'];exact ⟨rfl,by simp⟩
   ·rintro S' ⟨rfl,hc⟩;have hc:=of_decide_eq_true hc.symm;simp only [zcc,zap,zan,zam,zah,qg0,qg1,zak,zdg,List.length_cons,List.length_nil];exact ⟨by lia,.inr ⟨_,rfl,hc,⟨_,rfl⟩,_,rfl,qlr _,zbe⟩⟩
   ·rintro S' ⟨rfl,hc⟩;have hc:=of_decide_eq_false hc.symm;rw [zcb];exact .inl ⟨nofun,rfl,rfl,hc⟩
  ·rintro l S' ⟨rfl,rfl,hne⟩;rw [zhu,if_neg hne];refine zav (l':=gLo m a b lot (some (.ref S'.length)) none none none none) (S':=S'++[.lst []]) ?_ ?_
   ·simp only [za7,zap,zam,zdg,List.length_nil,zao,qs0,qs1];exact ⟨by lia,nofun,nofun,nofun⟩
   refine zc6 (λl S1=>Gr S' S1/\(∃x5 x6 x7 x8,l=gLo m a b lot (some (.ref S'.length)) x5 x6 x7 x8)/\S1[S'.length]?=some (.lst ((gfl (pr F) n lot more past more.length).map tL_))) (λd S1=>False) ?_ ?_ (λd l1 S1 z=>z.elim)
   ·refine zq7 (enl (more.map nD)) (λi l S1=>Gr S' S1/\S'.length<S1.length/\(∃x5 x6 x7 x8,l=gLo m a b lot (some (.ref S'.length)) x5 x6 x7 x8)/\S1[S'.length]?=some (.lst ((gfl (pr F) n lot more past i).map tL_))) (λ_ _=>False) (yhn (n:=a) rfl (za3 (za2 ha))) ⟨⟨_,rfl⟩,by simp,⟨_,_,_,_,rfl⟩,zbe⟩ (λi l S1 ⟨g,_⟩=>yho (g.lst (za3 ha))) ?_ ?_ (λd l' S1 z=>z.elim)
    ·rintro i v l S1 hx ⟨g1,hl1,⟨x5,x6,x7,x8,rfl⟩,hk1⟩;rw [zq5,qgm] at hx;obtain ⟨w,hw,rfl⟩:=Option.map_eq_some_iff.mp hx;obtain ⟨r,hr,rfl⟩:=Option.map_eq_some_iff.mp hw;have hi:=(qme hr).1;simp only [zfk,zfm,zfl,zao,List.length_cons,List.length_nil,qs0,qs1]
     try refine ⟨by first|rfl|trivial,?_⟩
     have e1:(i:Int)+1=((i+1:Nat):Int):=(by push_cast;rfl);refine za1 (λl S2=>Gr S1 S2/\S1.length<=S2.length/\∃k,S1.length<=k/\S2[k]?=some (.lst (((more.drop (i+1)).filter λo=>!pr F r o).map nD))/\l=gLo m a b lot (some (.ref S'.length)) (some (.int (i:Int))) (some (nD r)) (some (.ref k)) x8) ?_ ?_
     ·simp only [za7,zap,zan,zam,zhh,zaz,zah,zau,zhe,zhf,qg0,qg1,zak,zhg,ze2,zl6 (za3 (g1.get ha)),e1,yfy];rw [<-List.map_drop];refine (zsv (za2 (g1.get hm)) zbe (by rw [List.length_drop];lia)).mono ?_;rintro v S2 ⟨rfl,rfl⟩;simp only [zao,qs0,qs1];refine ⟨nofun,((Gr.refl _).push _).push _,?_,_,?_,zbe,rfl⟩
      ·simp only [qla,List.length_singleton];lia
      ·simp only [qla,List.length_singleton];lia
     rintro l S2 ⟨g2,hl2,k,hk,hk2,rfl⟩;refine za1 (λl S3=>Gr S2 S3/\S2.length<=S3.length/\∃j,S2.length<=j/\S3[j]?=some (.lst (((past++more.take i).filter λo=>!pr F r o).map nD))/\l=gLo m a b lot (some (.ref S'.length)) (some (.int (i:Int))) (some (nD r)) (some (.ref k)) (some (.ref j))) ?_ ?_
     ·have g02:=g1.trans g2;simp only [za7,zap,zan,zam,zhh,zaz,zah,zau,zhe,zhf,qg0,qg1,zak,zhg,zl6 (za3 (g02.get ha)),yfx];rw [yfw (za2 (g02.get hb)) zbe,<-List.map_take,<-List.map_append];have hlen:(past.map nD).length+((more.take i).map nD).length<=sizeLine:=(by rw [qlm,qlm,List.length_take];lia);refine ⟨hlen,?_⟩;refine (zsv (za2 (za2 (g02.get hm))) zbe (by rw [qla,List.length_take];lia)).mono ?_;rintro v S3 ⟨rfl,rfl⟩;simp only [zao,qs0,qs1];refine ⟨nofun,(((Gr.refl _).push _).push _).push _,?_,_,?_,zbe,rfl⟩
      ·simp only [qla,List.length_singleton];lia
      ·simp only [qla,List.length_singleton];lia
     rintro l S3 ⟨g3,hl3,j,hj,hj3,rfl⟩;have g03:=(g1.trans g2).trans g3;simp only [za7,zaz,zah,qg0,qg1,zak,zap,zan,zam,zcn,List.length_cons,List.length_nil];refine ⟨by lia,?_⟩;unfold tL_;rw [zje];refine ⟨by simp;lia,?_⟩;rw [show lot.map nD++[nD r]=(lot++[r]).map nD by simp];have rl:=zhv (p:=pr F) hr;have ll:(past++more.take i).length<=past.length+i:=(by rw [qla,List.length_take];lia);have ll2:=List.length_filter_le (λo=>!pr F r o) (past++more.take i);have ll3:=List.length_filter_le (λo=>!pr F r o) (more.drop (i+1));rw [List.length_drop] at ll3;refine (zsw n (lot:=lot++[r]) (g03.get hm) (g3.get hk2) hj3 '!' '!' (by rw [qla,List.length_singleton];lia) '!').mono ?_;rintro v S4 ⟨g4,q,rfl,hq,hq4⟩;have g14:=(g2.trans g3).trans g4;have b1:=yhj (p:=pr F) (n:=n) (lot:=lot) (more:=more) (past:=past) i '!';have b2:=zmm (p:=pr F) n (lot++[r]) ((more.drop (i+1)).filter λo=>!pr F r o) ((past++more.take i).filter λo=>!pr F r o);have b3:2^more.length<=2^12:=Nat.pow_le_pow_right '$' h12;have b4:2^((more.drop (i+1)).filter λo=>!pr F r o).length<=2^12:=Nat.pow_le_pow_right '$' '!';have b5:2^more.length*more.length<=2^12*12:=Nat.mul_le_mul b3 h12;rw [yht (g14.get hk1) hq4 (by rw [qlm,qlm];lia)];simp only [zao,qs0,qs1];refine .inl ⟨.inl nofun,(g03.trans g4).set (qlr _) _,by rw [List.length_set];have:=g4.len;lia,⟨_,_,_,_,rfl⟩,?_⟩;rw [List.getElem?_set_self (by have:=g4.len;lia),zjq,List.map_append,zf1 hr];rfl
    ·rintro l S1 ⟨g1,hl1,hx,hk⟩;rw [zq4,qlm] at hk;exact .inl ⟨nofun,g1,hx,hk⟩
   rintro l S1 ⟨g1,⟨x5,x6,x7,x8,rfl⟩,hk⟩;simp only [zcc,zah,qg0,qg1,zak];exact ⟨g1,_,rfl,qlr _,hk⟩
  ·rintro d l S1 ⟨hc,g,k,rfl,hk,h⟩;rw [zhu,if_pos hc];exact ⟨g,k,rfl,hk,h⟩
noncomputable def uN (L:List Nat):List Int:=L.map Int.ofNat
theorem yhu (L:List Nat):tL_ L=pU (uN L):=by unfold tL_ pU uN;rw [List.map_map];rfl
theorem yhv (h:uN a=uN b):a=b:=by unfold uN at h;exact (List.map_inj_right (f:=Int.ofNat) λx y e=>by cases e;rfl).mp h
noncomputable def zf3 (Ls:List (List Nat)):List D:=(SP.sortU (Ls.map uN)).map pU
theorem yhw (h:a.Perm b):zf3 a=zf3 b:=by unfold zf3;rw [SP.sortU_eq (h.map uN)]
theorem zsx (h:S[n]?=some (.lst (Ls.map tL_))) (ne:∀L∈Ls,L≠[]) (nd:Ls.Nodup) (hl:Ls.length<=5000):ze1 [.ref n] S=some (.ref S.length,S++[.lst (zf3 Ls)]):=by
 have e:Ls.map tL_=(Ls.map uN).map pU:=by rw [List.map_map];exact List.map_congr_left λL _=>yhu L
 have u:usD ((Ls.map uN).map pU)=some (Ls.map uN):=zqv λq hq=>by obtain ⟨L,hL,rfl⟩:=List.mem_map.mp hq;have:=ne L hL;unfold uN;simpa using this
 have nd2:(Ls.map uN).Nodup:=by rw [List.nodup_iff_pairwise_ne,List.pairwise_map];exact (List.nodup_iff_pairwise_ne.mp nd).imp λhab e=>hab (yhv e)
 unfold ze1;show (lstOf S n).bind _=_;rw [za3 h,e];show (usD ((Ls.map uN).map pU)).bind _=_;rw [u];show (if _ then _ else _)=_;rw [if_pos ⟨nd2,by rw [qlm];exact hl⟩];rfl
theorem zmq (n:Nat):zal 0 n=(List.range n).map nD:=by unfold zal nD;apply List.map_congr_left;intro i _;show D.int (0+(i:Int))=D.int (i:Int);rw [Int.zero_add]
theorem yhx (h:∀x y,x<N->y<N->p x y=q x y) (b:Nat):cm p N b=cm q N b:=by refine ze6 (zf2 b) (zf2 b) λx hx=>?_;apply Bool.eq_iff_iff.mpr;rw [ze7,ze7];exact ⟨λ⟨a,c⟩=>⟨a,λy hy hb=>by rw [<-h y x hy hx];exact c y hy hb⟩,λ⟨a,c⟩=>⟨a,λy hy hb=>by rw [h y x hy hx];exact c y hy hb⟩⟩
theorem zsy (h:∀x y,x<N->y<N->p x y=q x y) (k:Nat):zbf p N k=zbf q N k:=by unfold zbf;congr 1;apply List.filter_congr;intro b _;rw [yhx h b]
theorem zsz:∀L∈zbf p N (2^N),L≠[]:=λL hL z=>by
 unfold zbf at hL;obtain ⟨b,hb,rfl⟩:=List.mem_map.mp hL;obtain ⟨h1,h2⟩:=List.mem_filter.mp hb;have h1:=List.mem_range.mp h1;have h2:=(of_decide_eq_true h2).1;have:b=0:=ze6 h1 (Nat.two_pow_pos N) λx hx=>by
  rw [Nat.zero_testBit];cases e:b.testBit x with
  |false=>rfl
  |true=>have:=lsb_mem.mpr ⟨hx,e⟩;rw [z] at this;cases this
 lia
noncomputable def ptb (A:Nat) (g:List (List Cl)) (x y:Nat):Bool:=@decide (Pt A g (x,y)) (Classical.propDecidable _)
theorem zs0:ptb A g x y=true↔Pt A g (x,y):=by unfold ptb;exact @decide_eq_true_iff (Pt A g (x,y)) (Classical.propDecidable _)
noncomputable def yhy (A:Nat) (g:List (List Cl)):List D:=zf3 (zbf (ptb A g) g.length (2^g.length))
theorem zs1 (h:Pt A g (x,y)):Pt A g (y,x):=let ⟨w,h⟩:=h;⟨w,zf0 h⟩
theorem yhz (hF:∀p,p∈F↔InP g p/\Pt A g p) (hx:x<g.length) (hy:y<g.length):pr F x y=ptb A g x y:=by
 apply Bool.eq_iff_iff.mpr;rw [zs0];unfold pr;rw [decide_eq_true_iff,hF];rcases Nat.lt_trichotomy x y with c|c|c
 ·rw [Nat.min_eq_left '!',Nat.max_eq_right '!'];exact ⟨λz=>z.2,λz=>⟨⟨c,hy⟩,z⟩⟩
 ·subst c;exact ⟨λz=>absurd z.1.1 (by show ¬min x x<max x x;lia),λ⟨w,z⟩=>absurd z zjo⟩
 ·rw [Nat.min_eq_right '!',Nat.max_eq_left '!'];exact ⟨λz=>zs1 z.2,λz=>⟨⟨c,hx⟩,zs1 z⟩⟩
theorem yh0 {i n:Nat}(h:l[i]?=some (some (.int (n:Int)))) (hn:n<=1000):ziv (za5 (zab (zaa i) zac)) l S=some (.ref S.length,S++[.lst ((List.range n).map nD)]):=by
 have sz:=zbs;have hr0:∀y:Int,0<=y/\y<=1000->l[i]?=some (some (.int y))->za5 (zab (zaa i) zac) l S=some ((0,y.toNat),S):=λy hy hl=>by
  have e:zab (zaa i) zac l S=some ([.int y],S):=by unfold zab zaa;rw [hl];rfl
  unfold za5;rw [e];show (if _ then _ else _)=_;rw [if_pos '!']
 have hr:=hr0 (n:Int) '!' h;rw [Int.toNat_natCast] at hr;unfold ziv;rw [hr];show (if n<=sizeLine then _ else _)=_;rw [if_pos '!',zmq]
theorem zs2 (ok:OkM A g) (h12:g.length<=12):Wo (zd2 [mD A g] S) λv S'=>Gr S S'/\∃k,v=.ref k/\S.length<=k/\S'[k]?=some (.lst (yhy A g)):=by
 have sz:=zbs;have g1:=ok.r1;unfold zd2 zmd;dsimp! only [zbw];refine zav (l':=[some (mD A g),some (.int (g.length:Int))]) (S':=S) ?_ ?_
 ·unfold mD;simp only [za7,zap,zan,zam,zaz,zah,zau,qg0,zak,zdi,zmh,zb0,zg9,qlm,zao,qs0,qs1];exact ⟨nofun,nofun,nofun⟩
 refine zav (l':=[some (mD A g),some (.int (g.length:Int))]) (S':=S) ?_ ?_
 ·refine zce (λc S'=>c=false/\S'=S) ?_ (λS' z=>by cases z.1) ?_
  ·simp only [zbl,zaz,zah,zau,qg0,qg1,zak,zed,zbn];exact ⟨by rw [decide_eq_false_iff_not];lia,nofun⟩
  ·rintro S' ⟨_,rfl⟩;rw [zcb];exact ⟨nofun,nofun,nofun⟩
 rw [zcc,zap,zan,zap,zan,zap,zan,zah];simp only [zam,qg0,zak];refine (ygz ok).mono ?_;rintro v S1 ⟨m,F,rfl,hm,gr1,hml,nd,hF⟩;rw [zan,zap];simp only [zam,zcn,List.length_nil];refine ⟨by lia,?_⟩;rw [zan];refine ⟨_,_,yh0 (n:=g.length) rfl '!',?_⟩;show Wa (zab (zad zbr zac) zac) _ _ _;rw [zan,zap];simp only [zam,zdg,List.length_nil];refine ⟨by lia,?_⟩;have hm2:=za2 (o':=Ob.lst []) (za2 (o':=Ob.lst ((List.range g.length).map nD)) hm);have ha:(S1++[Ob.lst ((List.range g.length).map nD)]++[Ob.lst []])[S1.length]?=some (.lst ((List.range g.length).map nD)):=za2 zbe;have hb:(S1++[Ob.lst ((List.range g.length).map nD)]++[Ob.lst []])[(S1++[Ob.lst ((List.range g.length).map nD)]).length]?=some (.lst (([]:List Nat).map nD)):=zbe;refine (zsw (F:=F) 14 (lot:=[]) hm2 ha hb (by simp;lia) (by simpa using h12) (by simp;lia) (by simp;lia)).mono ?_;rintro v S2 ⟨gr2,k,rfl,hk,hk2⟩;have irr:∀x,pr F x x=false:=λx=>by unfold pr;rw [decide_eq_false_iff_not,hF];intro z;have:=z.1.1;simp at this
 have pm:=yhm (N:=g.length) (zst F) irr g1 (n:=14) '!';have hN:2^g.length<=2^12:=Nat.pow_le_pow_right '$' h12;refine ⟨_,_,zsx hk2 (λL hL=>zsz L (pm.mem_iff.mp hL)) (zmo (zst F) 14 _ _ _ (by simp;lia) List.nodup_range (λx _=>by simp)) (by rw [pm.length_eq];have:=zju (p:=pr F) (N:=g.length) (2^g.length);lia),?_⟩;have gr:Gr S S2:=((gr1.push _).push _).trans gr2;refine ⟨gr.push _,_,rfl,gr.len,?_⟩;rw [zbe,yhw pm,zsy (λx y hx hy=>yhz hF hx hy)];rfl
theorem yh1 (P:Nat->Lo->Sto->Prop) (O:D->Sto->Prop) (lo n:Nat) (h:as l S=some ([.int (lo:Int),.int ((lo+n:Nat):Int)],S1)) (h1:lo+n<1000000000) (h0:P 0 l S1)
  (step:∀(i:Nat) l S,i<n->P i l S->Wg (g (.int ((lo+i:Nat):Int)) l S) λl1 S1=>Ws b l1 S1 λf l2 S2=>((f=.nx\/f=.ct)/\P (i+1) l2 S2)\/∃d,f=.rt d/\O d S2)
  (fin:∀l' S',P n l' S'->QS .nx l' S') (out:∀d l' S',O d S'->QS (.rt d) l' S'):Ws (zca (zc1 as) g b) l S QS:=by
 have hr0:∀i j:Int,0<=i->i<1000000000->0<=j->j<1000000000->as l S=some ([.int i,.int j],S1)->zc1 as l S=some ((i,(j-i).toNat),S1):=λi j a1 a2 a3 a4 e=>by unfold zc1;rw [e];show (if _ then _ else _)=_;rw [if_pos '!']
 have hr:=hr0 _ _ '!' '!' '!' '!' h;rw [show (((lo+n:Nat):Int)-(lo:Int)).toNat=n by lia] at hr;obtain ⟨f,l',S',e2,q⟩:=zl4 (g:=g) (b:=b) P O (zal lo n) 0 l S1 h0 (by
  intro i x l S hx hp;obtain ⟨hi',rfl⟩:=zis hx;rw [Nat.zero_add] at hp ⊢;exact step i l S hi' hp)
 refine ⟨f,l',S',by unfold zca;rw [hr];exact e2,?_⟩;rcases q with ⟨rfl,hp⟩|⟨d,rfl,hd⟩
 ·rw [zdt,Nat.zero_add] at hp;exact fin l' S' hp
 ·exact out d l' S' hd
noncomputable def pw (o:Nat):Int:=1*2^o
noncomputable def nrF (f:TF) (x:Nat):D->Option D
 | .int o=>if f x o.toNat then none else some (.int (1*2^o.toNat))
 |_=>none
theorem zs3 (f:TF) (x:Nat):∀xs:List Nat,(xs.map nD).filterMap (nrF f x)=((xs.filter λo=>!f x o).map pw).map D.int
 |[]=>rfl
 |y::xs=>by
  rw [List.map_cons,List.filterMap_cons,List.filter_cons,zs3 f x xs];unfold nD nrF;simp only [Int.toNat_natCast];by_cases h:f x y=true
  ·rw [if_pos h,if_neg (by rw [h];decide)]
  ·rw [if_neg h,if_pos (by simpa using h)];rfl
theorem zs4 (q:Nat->Bool):∀k,(((List.range k).filter q).map pw).sum=((zcr q k:Nat):Int)
 |0=>rfl
 |k+1=>by
  rw [List.range_succ,List.filter_append,List.map_append,List.sum_append,zs4 q k];show _=((zcr q k+if q k then 2^k else 0:Nat):Int);by_cases h:q k=true
  ·rw [if_pos h,List.filter_cons,if_pos h];simp [pw]
  ·rw [if_neg h,List.filter_cons,if_neg h];simp
theorem yh2 (ht:Tab b N f S) (hx:x<N) (hN:N<=24) (h0:l[0]?=some (some (.ref (b+N)))) (h1:l[1]?=some (some (.int (N:Int)))) (h3:l[3]?=some (some (.int (x:Int)))) (q:∀S',Gr S S'->Q (.int (nr f N x:Nat)) S') :
  We (zad zfr (zab (zbv (zc2 (za5 (zab (zaa 1) (zac)))) [none,some 0,some 3] (zae 0) (zcf (tE (eOp zag (eOp zag (zaa 1) (zaa 2)) (zaa 0)))) (eOp zeg (eC (.int 1)) (zaa 0))) (zac))) l S Q:=by
 have sz:=zbs;have him:(zab (zaa 1) zac) l S=some ([.int (N:Int)],S):=by unfold zab zaa;rw [h1];rfl
 have hs:zas [none,some 0,some 3] l=[none,~~~(b+N),‹x›]:=by unfold zas;simp only [List.map_cons,List.map_nil,h0,h3];rfl
 rw [zap,zan];refine zhc ((List.range N).map nD) (nrF f x) (λS'=>S'=S) (λl=>∃x0,l=[x0,~~~(b+N),‹x›]) (by have:=zhd (n:=N) him '!';rw [zmq] at this;exact this) rfl ⟨_,hs⟩ (λi S' _=>rfl) (by simp;lia) ?_ ?_
 ·rintro d l S1 hd ⟨x0,rfl⟩ rfl;obtain ⟨o,ho,rfl⟩:=List.mem_map.mp hd;have ho:=List.mem_range.mp ho;simp only [zao,qs0];refine ⟨⟨_,rfl⟩,?_⟩;unfold nD;simp only [zc3,zbl,zaz,zah,qg0,qg1,zak];rw [ht.at hx ho];simp only [zbn];refine ⟨nofun,λh=>?_,λh=>?_⟩
  ·unfold nrF;simp only [Int.toNat_natCast];rw [if_pos (by simpa using h)]
  ·have c1:(0:Int)<=(o:Int)/\(o:Int)<=1000000/\((1:Int)).natAbs<2^64:=⟨by lia,by lia,by decide⟩;simp only [zaz,zau,zah,qg0,zak,zee,decide_eq_true_eq,c1,true_and];refine ⟨?_,nofun⟩;unfold nrF;simp only [Int.toNat_natCast];rw [if_neg (by simpa using h)]
 ·rintro S1 rfl;simp only [zam];have:zfr [.ref S1.length] (S1++[.lst (((List.range N).map nD).filterMap (nrF f x))])=some (.int (nr f N x:Nat),S1++[.lst (((List.range N).map nD).filterMap (nrF f x))]):=by show (lstOf _ _).bind _=_;rw [zdz];simp only [Option.bind_some];rw [zs3,zqd];simp only [Option.bind_some];rw [zs4];rfl
  rw [this,zbd];exact q _ ⟨_,rfl⟩
noncomputable abbrev eLo (b N:Nat) (x2 x3 x4 x5 x6 x7:Option D):Lo:=[~~~(b+N),‹N›,x2,x3,x4,x5,x6,x7]
theorem zjv (h:S[n]?=some (.lst xs)) (hz:xs.length<sizeLine) (q:Q .non (S.set n (.lst (xs++[x])))):Wo (zb6 (.ref n) [x] S) Q:=by rw [zhj h hz];exact q
theorem zmr {α:Type}{F:Nat->D}{n i:Nat}(h:i<n):L2.atI ((List.range n).map F) (i:Int)=some (F i):=zhs F h
theorem yh3 (hB:B<2^N) (h1:1<=B) (h0:∀j,j<r->B.testBit j=false):r<N:=by
 refine Nat.lt_of_not_le λhle=>?_;have:B=0:=ze6 hB (Nat.two_pow_pos N) λx hx=>by rw [h0 x '!',Nat.zero_testBit]
 lia
theorem zs5 (B r:Nat):decide ((B:Int)/2^((r:Nat):Int).toNat%2=0) = !B.testBit r:=by
 rw [Int.toNat_natCast,Nat.testBit_eq_decide_div_mod_eq];have:(B:Int)/2^r%2=((B/2^r%2:Nat):Int):=by push_cast;rfl
 rw [this];have h2:=Nat.mod_lt (B/2^r) (show 0<2 by decide);apply Bool.eq_iff_iff.mpr;simp only [decide_eq_true_eq,Bool.not_eq_true',decide_eq_false_iff_not];lia
theorem yh4 {b N B:Nat}{x2 x3 x4 x5:Option D}(hB:B<2^N) (h1:1<=B) (hN:N<=24)
  (fin:∀r,B.testBit r=true->(∀j,j<r->B.testBit j=false)->QS .nx (eLo b N x2 x3 x4 x5 (some (.int (B:Int))) (some (.int (r:Int)))) S) :
  Ws (whl (tE (eOp dEq (eOp zgy (eOp zi0 (zaa 6) (zaa 7)) (eC (.int 1))) (eC (.int 0)))) (zai (eOp za8 (zaa 7) (eC (.int 1))) (zae 7)) zef) (eLo b N x2 x3 x4 x5 (some (.int (B:Int))) (some (.int 0))) S QS:=by
 refine zmb (λm l S'=>∃r,m=N-r/\(∀j,j<r->B.testBit j=false)/\S'=S/\l=eLo b N x2 x3 x4 x5 (some (.int (B:Int))) (some (.int (r:Int)))) (λ_ _=>False) (λl S'=>∃r,B.testBit r=true/\(∀j,j<r->B.testBit j=false)/\S'=S/\l=eLo b N x2 x3 x4 x5 (some (.int (B:Int))) (some (.int (r:Int)))) N '!' ⟨0,rfl,λj hj=>absurd hj (Nat.not_lt_zero _),rfl,rfl⟩ ?_ ?_ (λd l' S' z=>z.elim)
 ·rintro m l S' ⟨r,rfl,h0,rfl,rfl⟩;have hr:=yh3 hB h1 h0;have c1:(0:Int)<=(r:Int):=by lia
  simp only [zbl,zaz,zah,zau,qg0,qg1,zak,zee,zed,decide_eq_true_eq,c1,true_and,zgu,PyProof.Rows.bitAnd_m1,zbn,zs5];cases e:B.testBit r with
  |false=>
   rw [if_pos (by rfl)];simp only [za7,zaz,zah,zau,qg0,qg1,zak,ze2,zao,qs0,qs1];refine .inl ⟨.inl nofun,N-(r+1),by lia,r+1,rfl,λj hj=>?_,nofun,by rw [show (r:Int)+1=((r+1:Nat):Int) by push_cast;rfl]⟩;rcases Nat.lt_or_ge j r with c|c
   ·exact h0 j c
   ·have:j=r:=(by lia);rw [this];exact e
  |true=>rw [if_neg '$'];exact ⟨r,e,h0,rfl⟩
 ·rintro l S' ⟨r,e,h0,rfl,rfl⟩;exact fin r e h0
theorem yh5 {b N:Nat}{f:TF}{S:Sto}(ht:Tab b N f S) (h1:1<=N) (h12:N<=12):Wo (zji [.ref (b+N)] S) λv S'=>Gr S S'/\∃k,v=.ref k/\S.length<=k/\S'[k]?=some (.lst (zf3 (zbf f N (2^N)))):=by
 have sz:=zbs;have p12:2^N<=2^12:=Nat.pow_le_pow_right '$' h12;have p0:=Nat.two_pow_pos N;unfold zji zrl;dsimp! only [zbw];refine zav (l':=eLo b N none none none none none none) (S':=S) ?_ ?_
 ·simp only [za7,zap,zan,zam,zah,qg0,zak,zly,za3 ht.top,zb0,qlm,List.length_range,zao,qs0,qs1];exact ⟨nofun,nofun,nofun⟩
 refine zav (l':=eLo b N (some (.ref S.length)) none none none none none) (S':=S++[.lst []]) ?_ ?_
 ·simp only [za7,zap,zam,zdg,List.length_nil,zao,qs0,qs1];exact ⟨by lia,nofun,nofun,nofun⟩
 refine zc6 (λl S'=>Gr S S'/\S.length<S'.length/\(∃x3,l=eLo b N (some (.ref S.length)) x3 none none none none)/\S'[S.length]?=some (.lst ((List.range N).map λy=>.int (nr f N y:Nat)))) (λ_ _=>False) ?_ ?_ (λd l S' z=>z.elim)
 ·refine zfv (λi l S'=>Gr S S'/\S.length<S'.length/\(∃x3,l=eLo b N (some (.ref S.length)) x3 none none none none)/\S'[S.length]?=some (.lst ((List.range i).map λy=>.int (nr f N y:Nat)))) (λ_ _=>False) (n:=N) rfl '!' ⟨⟨_,rfl⟩,by simp,⟨_,rfl⟩,zbe⟩ ?_ (λl' S' ⟨a,a2,c,d⟩=>.inl ⟨nofun,a,a2,c,d⟩) (λd l' S' z=>z.elim);rintro i l S1 hi ⟨g1,hl1,⟨x3,rfl⟩,hs⟩;simp only [zao,qs0,qs1];rw [zdf,zcz,zah];simp only [qg0,qg1,zak];rw [zan];refine ⟨⟨_,za3 hs⟩,?_⟩;refine yh2 (l:=eLo b N (some (.ref S.length)) (some (.int (i:Int))) none none none none) (ht.gr g1) hi '!' rfl rfl rfl λS2 g2=>?_;simp only [zam];refine zjv (g2.get hs) (by simp;lia) ?_;refine .inl ⟨.inl nofun,(g1.trans g2).set (qlr _) _,by rw [List.length_set];have:=g2.len;lia,⟨_,rfl⟩,?_⟩;rw [List.getElem?_set_self (by have:=g2.len;lia),List.range_succ,List.map_append];rfl
 rintro l S1 ⟨g1,hl1,⟨x3,rfl⟩,hn⟩;have c1:(0:Int)<=(N:Int)/\(N:Int)<=1000000/\((1:Int)).natAbs<2^64:=⟨by lia,by lia,by decide⟩;have e1:(1:Int)*2^((N:Nat):Int).toNat=((2^N:Nat):Int):=by rw [Int.toNat_natCast,Int.one_mul];push_cast;rfl
 have e2:((2^N:Nat):Int)-1=((cm f N 0:Nat):Int):=by rw [yhk];lia
 refine zav (l':=eLo b N (some (.ref S.length)) x3 (some (.ref S1.length)) none none none) (S':=S1++[.lst [.int (cm f N 0:Nat)]]) ?_ ?_
 ·simp only [za7,zap,zan,zam,zaz,zau,zah,qg0,qg1,zak,zee,zed,decide_eq_true_eq,c1,true_and,e1,e2,zdg,List.length_cons,List.length_nil,zao,qs0,qs1];exact ⟨nofun,nofun⟩
 refine zav (l':=eLo b N (some (.ref S.length)) x3 (some (.ref S1.length)) (some (.ref (S1.length+1))) none none) (S':=S1++[.lst [.int (cm f N 0:Nat)]]++[.lst []]) ?_ ?_
 ·simp only [za7,zap,zam,zdg,List.length_nil,zao,qs0,qs1,qla,List.length_singleton];exact ⟨by lia,nofun,nofun,nofun⟩
 refine zc6 (λl S'=>Gr S S'/\(∃x6 x7,l=eLo b N (some (.ref S.length)) x3 (some (.ref S1.length)) (some (.ref (S1.length+1))) x6 x7)/\S'[S1.length+1]?=some (.lst ((zbf f N (2^N)).map tL_))) (λ_ _=>False) ?_ ?_ (λd l S' z=>z.elim)
 ·have him:(zab (eC (.int 1)) (zab (eOp zeg (eC (.int 1)) (zaa 1)) zac)) (eLo b N (some (.ref S.length)) x3 (some (.ref S1.length)) (some (.ref (S1.length+1))) none none) (S1++[.lst [.int (cm f N 0:Nat)]]++[.lst []])=some ([.int ((1:Nat):Int),.int ((1+(2 ^ N-1):Nat):Int)],S1++[.lst [.int (cm f N 0:Nat)]]++[.lst []]):=by have:Wa (zab (eC (.int 1)) (zab (eOp zeg (eC (.int 1)) (zaa 1)) zac)) (eLo b N (some (.ref S.length)) x3 (some (.ref S1.length)) (some (.ref (S1.length+1))) none none) (S1++[.lst [.int (cm f N 0:Nat)]]++[.lst []]) λxs S'=>xs=[.int ((1:Nat):Int),.int ((1+(2 ^ N-1):Nat):Int)]/\S' = S1++[.lst [.int (cm f N 0:Nat)]]++[.lst []]:=(by simp only [zan,zam,zaz,zau,zah,qg0,qg1,zak,zee,decide_eq_true_eq,c1,true_and,e1];rw [show 1+(2 ^ N-1)=2 ^ N by lia];exact ⟨nofun,nofun⟩);obtain ⟨xs,S',e,rfl,rfl⟩:=this;exact e
  refine yh1 (λi l S'=>Gr S S'/\S1.length+2<=S'.length/\(∃x6 x7,l=eLo b N (some (.ref S.length)) x3 (some (.ref S1.length)) (some (.ref (S1.length+1))) x6 x7)/\S'[S.length]?=some (.lst ((List.range N).map λy=>.int (nr f N y:Nat)))/\S'[S1.length]?=some (.lst ((List.range (1+i)).map λy=>.int (cm f N y:Nat)))/\S'[S1.length+1]?=some (.lst ((zbf f N (1+i)).map tL_))) (λ_ _=>False) 1 (2^N-1) him '!' ⟨(g1.push _).push _,by simp,⟨_,_,rfl⟩,za2 (za2 hn),za2 zbe,?_⟩ ?_ ?_ (λd l' S' z=>z.elim)
  ·have e0:zbf f N 1=[]:=(by rw [show 1=0+1 from rfl,zmp];rw [if_neg '!'];rfl);have:=zbe (S:=S1++[.lst [.int (cm f N 0:Nat)]]) (o:=.lst []);rw [show (S1++[Ob.lst [.int (cm f N 0:Nat)]]).length=S1.length+1 by simp] at this;rw [this,e0];rfl
  ·rintro i l S2 hi ⟨g2,hl2,⟨x6,x7,rfl⟩,hn2,hc2,hd2⟩;have hB:1+i<2^N:=(by lia);simp only [zao,qs0,qs1];refine zav (l':=eLo b N (some (.ref S.length)) x3 (some (.ref S1.length)) (some (.ref (S1.length+1))) (some (.int ((1+i:Nat):Int))) (some (.int 0))) (S':=S2) ?_ ?_
   ·simp only [za7,zau,zao,qs0,qs1];exact ⟨nofun,nofun,nofun⟩
   refine za1 (λl S'=>S'=S2/\∃r,(1+i).testBit r=true/\(∀j,j<r->(1+i).testBit j=false)/\l=eLo b N (some (.ref S.length)) x3 (some (.ref S1.length)) (some (.ref (S1.length+1))) (some (.int ((1+i:Nat):Int))) (some (.int (r:Int)))) ?_ ?_
   ·exact yh4 hB '!' '!' λr a c=>⟨rfl,rfl,r,a,c,rfl⟩
   rintro l S' ⟨rfl,r,hr1,hr0,rfl⟩;obtain ⟨hrN,hlt,hcm⟩:=yhl (p:=f) hB hr1 hr0;have hle:=(zsp hr1 hr0).1;have c2:(0:Int)<=(r:Int)/\(r:Int)<=1000000/\((1:Int)).natAbs<2^64:=⟨by lia,by lia,by decide⟩;have e3:((1+i:Nat):Int)-1*2^((r:Nat):Int).toNat=((1+i-2^r:Nat):Int):=(by rw [Int.toNat_natCast,Int.one_mul];have:((2^r:Nat):Int)=(2:Int)^r:=(by push_cast;rfl);lia);refine za1 (λl S3=>S3=S'.set S1.length (.lst ((List.range (1+i+1)).map λy=>.int (cm f N y:Nat)))/\l=eLo b N (some (.ref S.length)) x3 (some (.ref S1.length)) (some (.ref (S1.length+1))) (some (.int ((1+i:Nat):Int))) (some (.int (r:Int)))) ?_ ?_
   ·simp only [zdf,zcz,zan,zam,zaz,zau,zah,qg0,qg1,zak,zee,zed,decide_eq_true_eq,c2,true_and,e3,zd0,za3 hc2,za3 hn2,zb0,zmr (F:=λy=>D.int (cm f N y:Nat)) (α:=Nat) (show 1+i-2^r<1+i from hlt),zmr (F:=λy=>D.int (nr f N y:Nat)) (α:=Nat) hrN];have ev:D.int (Builtin.bitAnd ((cm f N (1+i-2^r):Nat):Int) ((nr f N r:Nat):Int))=D.int ((cm f N (1+i):Nat):Int):=(by rw [PyProof.Rows.bitAnd_pp '!' '!',Int.toNat_natCast,Int.toNat_natCast,<-hcm]);rw [ev];refine ⟨⟨_,za3 hc2⟩,?_⟩;refine zjv hc2 (by simp;lia) ?_;have el:((List.range (1+i)).map λy=>D.int ((cm f N y:Nat):Int))++[D.int ((cm f N (1+i):Nat):Int)]=(List.range (1+i+1)).map λy=>D.int ((cm f N y:Nat):Int):=(by rw [List.range_succ,List.map_append];rfl);rw [el];exact ⟨nofun,nofun⟩
   rintro l S3 ⟨rfl,rfl⟩;have hc3:(S'.set S1.length (.lst ((List.range (1+i+1)).map λy=>.int (cm f N y:Nat))))[S1.length]?=some (.lst ((List.range (1+i+1)).map λy=>.int (cm f N y:Nat))):=List.getElem?_set_self '!';have hn3:(S'.set S1.length (.lst ((List.range (1+i+1)).map λy=>.int (cm f N y:Nat))))[S.length]?=some (.lst ((List.range N).map λy=>.int (nr f N y:Nat))):=(by rw [List.getElem?_set_ne '!'];exact hn2);have hd3:(S'.set S1.length (.lst ((List.range (1+i+1)).map λy=>.int (cm f N y:Nat))))[S1.length+1]?=some (.lst ((zbf f N (1+i)).map tL_)):=(by rw [List.getElem?_set_ne '!'];exact hd2);have g3:Gr S (S'.set S1.length (.lst ((List.range (1+i+1)).map λy=>.int (cm f N y:Nat)))):=g2.set g1.len _;have hl3:S1.length+2<=(S'.set S1.length (.lst ((List.range (1+i+1)).map λy=>.int (cm f N y:Nat)))).length:=(by rw [List.length_set];exact hl2);generalize S'.set S1.length (.lst ((List.range (1+i+1)).map λy=>.int (cm f N y:Nat)))=S3 at hc3 hn3 hd3 g3 hl3 ⊢;refine zce (λc S4=>S4=S3/\c=decide (cm f N (1+i)=1+i)) ?_ ?_ ?_
   ·simp only [zbl,zaz,zah,qg0,qg1,zak,zd0,za3 hc3,zb0,zmr (F:=λy=>D.int (cm f N y:Nat)) (α:=Nat) (show 1+i<1+i+1 by lia),zgu,zbn];refine ⟨nofun,?_⟩;apply Bool.eq_iff_iff.mpr;simp only [decide_eq_true_eq];lia
   ·rintro S4 ⟨rfl,hc⟩;have hc:=of_decide_eq_true hc.symm;rw [zdf,zcz,zah];simp only [qg0,qg1,zak];rw [zan,zap,zan];have hN':(zab (zaa 1) zac) (eLo b N (some (.ref S.length)) x3 (some (.ref S1.length)) (some (.ref (S1.length+1))) (some (.int ((1+i:Nat):Int))) (some (.int (r:Int)))) S4=some ([.int (N:Int)],S4):=rfl;refine ⟨⟨_,za3 hd3⟩,?_⟩;have hsc:zas [none,some 6] (eLo b N (some (.ref S.length)) x3 (some (.ref S1.length)) (some (.ref (S1.length+1))) (some (.int ((1+i:Nat):Int))) (some (.int (r:Int))))=[none,some (.int ((1+i:Nat):Int))]:=rfl;refine zhc ((List.range N).map nD) (λd=>match d with | .int o=>if (1+i).testBit o.toNat then some (.int o) else none|_=>none) (λS'=>S'=S4) (λl=>∃x0,l=[x0,some (.int ((1+i:Nat):Int))]) (by have:=zhd (n:=N) hN' '!';rw [zmq] at this;exact this) rfl ⟨_,hsc⟩ (λi S' _=>rfl) (by simp;lia) ?_ ?_
    ·rintro d l S5 hd ⟨x0,rfl⟩ rfl;obtain ⟨o,ho,rfl⟩:=List.mem_map.mp hd;simp only [zao,qs0];refine ⟨⟨_,rfl⟩,?_⟩;have c3:(0:Int)<=(o:Int):=(by lia);have tb1:decide (((1+i:Nat):Int)/2^o%2=1)=(1+i).testBit o:=by
      have h:=zs5 (1+i) o;rw [Int.toNat_natCast] at h;have h2:=Int.emod_two_eq (((1+i:Nat):Int)/2^o);rcases h2 with z|z
      ·rw [z] at h ⊢;cases e:(1+i).testBit o<;>simp [e] at h ⊢
      ·rw [z] at h ⊢;cases e:(1+i).testBit o<;>simp [e] at h ⊢
     unfold nD;simp only [zbl,zaz,zah,zau,qg0,qg1,zak,zee,zed,decide_eq_true_eq,c3,true_and,zgu,PyProof.Rows.bitAnd_m1,zbn,tb1,Int.toNat_natCast];exact ⟨λh=>by rw [if_neg (by rw [h];decide)],λh=>⟨by rw [if_pos h],nofun⟩⟩
    ·rintro S5 rfl;have em:∀xs:List Nat,(xs.map nD).filterMap (λd=>match d with | .int o=>if (1+i).testBit o.toNat then some (D.int o) else none|_=>none)=(xs.filter λo=>(1+i).testBit o).map nD:=λxs=>by
      induction xs with
      |nil=>rfl
      |cons y xs ih=>
       rw [List.map_cons,List.filterMap_cons,List.filter_cons,ih];unfold nD;simp only [Int.toNat_natCast];by_cases h:(1+i).testBit y=true
       ·rw [if_pos h,if_pos h];rfl
       ·rw [if_neg h,if_neg h]
     rw [em];simp only [zam,zir];refine ⟨_,zdz,?_⟩;refine zjv (za2 hd3) (by rw [qlm];have:=zju (p:=f) (N:=N) (1+i);lia) ?_;refine .inl ⟨.inl nofun,(g3.push _).set (by have:=g1.len;lia) _,by rw [List.length_set,qla];lia,⟨_,_,rfl⟩,?_,?_,?_⟩
     ·rw [List.getElem?_set_ne '!'];exact za2 hn3
     ·rw [List.getElem?_set_ne '!'];exact za2 hc3
     ·rw [List.getElem?_set_self (by rw [qla];lia),show 1+(i+1)=(1+i)+1 by lia,zmp,if_pos ⟨by lia,hc⟩,List.map_append];rfl
   ·rintro S4 ⟨rfl,hc⟩;have hc:=of_decide_eq_false hc.symm;rw [zcb];refine .inl ⟨.inl nofun,g3,hl3,⟨_,_,rfl⟩,hn3,hc3,?_⟩;rw [show 1+(i+1)=(1+i)+1 by lia,zmp,if_neg (λz=>hc z.2),List.append_nil];exact hd3
  ·rintro l S2 ⟨g2,hl2,hx,hn2,hc2,hd2⟩;rw [show 1+(2^N-1)=2^N by lia] at hd2;exact .inl ⟨nofun,g2,hx,hd2⟩
 rintro l S2 ⟨g2,⟨x6,x7,rfl⟩,hd⟩;rw [zcc,zap,zan,zah];simp only [zam,qg0,qg1,zak];have nd:(zbf f N (2^N)).Nodup:=by unfold zbf;rw [List.nodup_iff_pairwise_ne,List.pairwise_map];refine List.Pairwise.imp_of_mem (λ{a b} ha hb hab=>?_) ((List.nodup_range (n:=2^N)).filter _);have ha:=List.mem_range.mp (List.mem_filter.mp ha).1;have hb:=List.mem_range.mp (List.mem_filter.mp hb).1;exact λe=>hab (zsq ha hb e)
 refine ⟨_,_,zsx hd zsz nd (by have:=zju (p:=f) (N:=N) (2^N);lia),g2.push _,_,rfl,g2.len,?_⟩;rw [zbe]
theorem yh6 (h:S[n]?=some (.lst xs)):Wo (zde U (.ref n) S) Q=Q (.bl (isI "list" U)) S:=by
 have:zde U (.ref n) S=some (.bl (isI "list" U),S):=by unfold zde tyD;dsimp only;rw [h];rfl
 rw [this];exact zbd
theorem yh7 (h1:zbm S 60 x=some p) (h2:zbm S 60 y=some q) (c1:p.canLay0=true) (c2:q.canLay0=true):Wo (zfn x y S) Q=Q (.bl (!p.eqv q)) S:=by
 have:zfn x y S=some (.bl (!p.eqv q),S):=by unfold zfn;rw [h1];show (zbm S 60 y).bind _=_;rw [h2];show (if _ then _ else _)=_;rw [if_pos ⟨c1,c2⟩]
 rw [this];exact zbd
def Sm (p:List Int):Prop:=∀i∈p,i.natAbs.log2<1920
noncomputable def pyU (p:List Int):PyData:=.tuple (p.map PyData.int)
theorem zs6:∀{p:List Int},Sm p->pyAll S (k+1) (p.map D.int)=some (p.map PyData.int)
 |[],_=>by unfold pyAll;rfl
 |i::p,h=>by
  rw [List.map_cons];unfold pyAll;have e:zbm S (k+1) (.int i)=some (.int i):=by unfold zbm;rw [if_pos (h i List.mem_cons_self)]
  rw [e];show ((pyAll S (k+1) (p.map D.int)).bind _)=_;rw [zs6 λj hj=>h j (List.mem_cons_of_mem _ hj)];rfl
theorem zs7:∀{ps:List (List Int)},(∀p∈ps,Sm p)->pyAll S (k+2) (ps.map pU)=some (ps.map pyU)
 |[],_=>by unfold pyAll;rfl
 |p::ps,h=>by
  rw [List.map_cons];unfold pyAll;have e:zbm S (k+2) (pU p)=some (pyU p):=by unfold pU zbm;show (pyAll S (k+1) (p.map D.int)).bind _=_;rw [zs6 (h p List.mem_cons_self)];rfl
  rw [e];show ((pyAll S (k+2) (ps.map pU)).bind _)=_;rw [zs7 λq hq=>h q (List.mem_cons_of_mem _ hq)];rfl
theorem zs8:∀p:List Int,PyData.canLayAll0 (p.map PyData.int)=true
 |[]=>by simp [PyData.canLayAll0]
 |x::xs=>by rw [List.map_cons];simp only [PyData.canLayAll0,PyData.canLay0,Bool.true_and];exact zs8 xs
theorem zs9:∀ps:List (List Int),PyData.canLayAll0 (ps.map pyU)=true
 |[]=>by simp [PyData.canLayAll0]
 |x::xs=>by rw [List.map_cons];simp only [PyData.canLayAll0,pyU,PyData.canLay0,zs8,Bool.true_and];exact zs9 xs
theorem zta {n k:Nat}{ps:List (List Int)}(hn:S[n]?=some (.lst (ps.map pU))) (hk:S[k]?=some (.lst (ps.map pU))) (hs:∀p∈ps,Sm p) (hl:∀p∈ps,p.length<=1000):Wo (zhk [.ref n,.ref k] S) λv S'=>Gr S S'/\v=.bl true:=by
 have sz:=zbs;have py:∀{m:Nat},S[m]?=some (.lst (ps.map pU))->zbm S 60 (.ref m)=some (.list (ps.map pyU)):=λ{m} hm=>by unfold zbm;show (lstOf S m).bind _=_;rw [za3 hm];show (pyAll S 59 (ps.map pU)).bind _=_;rw [zs7 hs];rfl
 have lay:(PyData.list (ps.map pyU)).canLay0=true:=by simp only [PyData.canLay0];exact zs9 ps
 unfold zhk zrc;dsimp! only [zbw];refine zav (l':=[~~~n,~~~k,none]) (S':=S) ?_ ?_
 ·refine zce (λc S'=>c=false/\S'=S) ?_ (λS' z=>by cases z.1) ?_
  ·simp only [zgs,zc3,zbl,zeb,zaz,zah,qg0,qg1,zak,yh6 hn,zha,zbn,Bool.not_true,qbf,if_false];rw [yh7 (py hn) (py hk) lay lay,PySem.SeqAt.eqv_refl _ lay];exact ⟨_,rfl,nofun,nofun⟩
  ·rintro S' ⟨_,rfl⟩;rw [zcb];exact ⟨nofun,nofun,nofun⟩
 refine zc6 (λl S'=>Gr S S') (λ_ _=>False) ?_ ?_ (λd l S' z=>z.elim)
 ·refine zl7 (n:=n) (ps.map pU) (λi l S'=>Gr S S'/\∃x2,l=[~~~n,~~~k,x2]) (λ_ _=>False) rfl ⟨Gr.refl S,_,rfl⟩ (λi l S' ⟨g,_⟩=>g.lst (za3 hn)) ?_ (λl' S' ⟨g,_⟩=>.inl ⟨nofun,g⟩) (λd l' S' z=>z.elim);rintro i v l S1 hx ⟨g1,x2,rfl⟩;obtain ⟨p,hp,rfl⟩:=List.mem_map.mp (qmg hx);have hpl:=hl p hp;simp only [zao,qs0,qs1];refine zce (λc S'=>c=false/\Gr S S') ?_ (λS' z=>by cases z.1) ?_
  ·unfold pU;simp only [zgs,zc3,zbl,zeb,zaz,zah,qg0,qg1,zak,zl1,zha,zbn,Bool.not_true,qbf,if_false];refine zhc (p.map D.int) (λ_=>none) (λS'=>S'=S1) (λl=>∃x0,l=[x0]) (zl2 rfl) rfl ⟨_,rfl⟩ (λi S' _=>rfl) (by rw [qlm];lia) ?_ ?_
   ·rintro d l S2 hd ⟨x0,rfl⟩ rfl;obtain ⟨z,hz,rfl⟩:=List.mem_map.mp hd;have e1:isI "int" "bool" = false:=(by decide);simp only [zao,qs0];refine ⟨⟨_,rfl⟩,?_⟩;simp only [zgs,zc3,zbl,zeb,zah,qg0,zak,zl0,zha,zbn,Bool.not_true,qbf,if_false,e1];exact ⟨nofun,nofun,λz=>by first|exact absurd z '$'|cases z⟩
   ·rintro S2 rfl;have e0:(p.map D.int).filterMap (λ_=>(none:Option D))=[]:=(by simp);rw [e0];simp only [zap,zam,zdg,List.length_nil];refine ⟨by lia,?_⟩;rw [yfs (xs:=[]) (za2 zbe) zbe];exact ⟨_,rfl,nofun,(g1.push _).push _⟩
  ·rintro S' ⟨_,g⟩;rw [zcb];exact .inl ⟨.inl nofun,g,_,rfl⟩
 rintro l S1 g;simp only [zcc,zau];exact ⟨g,nofun⟩
theorem yh8 (h1:mN l S=none) (h2:r l S=some (c,S')) (hc:ok c=true) (h:Ws mS (l.set i (some (.ref S'.length))) (S'++[.exc c]) λf l2 S2=>f=.nx/\Q .nx (l2.set i none) S2):Ws (zg2 i ok mN r mS) l S Q:=by obtain ⟨f,l2,S2,e,rfl,q⟩:=h;refine ⟨.nx,l2.set i none,S2,?_,q⟩;unfold zg2;rw [h1];dsimp only;rw [h2];dsimp only;rw [if_pos hc,e];rfl
theorem ztb (h:S[n]?=some (.exc c)) (hb:tab.lookup c=some b):Wo (zco tab (.ref n) S) Q=Q (.bl b) S:=by unfold zco;simp only [h,hb];exact zbd
theorem yh9 (h13:12<g.length):zd2 [mD A g] S=none/\zho [mD A g] S=some (("TooMany":Str),S):=by
 have s1:(zai (zad zb3 (zab (eOp zag (zaa 0) (eC (.int 1))) (zac))) (zae 1)) [some (mD A g),none] S=some (.nx,[some (mD A g),some (.int (g.length:Int))],S):=by
  have:Ws (zai (zad zb3 (zab (eOp zag (zaa 0) (eC (.int 1))) (zac))) (zae 1)) [some (mD A g),none] S λf l S'=>f=.nx/\l=[some (mD A g),some (.int (g.length:Int))]/\S'=S:=by unfold mD;simp only [za7,zap,zan,zam,zaz,zah,zau,qg0,zak,zdi,zmh,zb0,zg9,qlm,zao,qs0,qs1];exact ⟨nofun,nofun,nofun⟩
  obtain ⟨f,l,S',e,rfl,rfl,rfl⟩:=this;exact e
 have t1:(tE (eOp dGt (zaa 1) (eC (.int 12)))) [some (mD A g),some (.int (g.length:Int))] S=some (true,S):=by
  have:Wt (tE (eOp dGt (zaa 1) (eC (.int 12)))) [some (mD A g),some (.int (g.length:Int))] S λb S'=>b=true/\S'=S:=by simp only [zbl,zaz,zah,zau,qg0,qg1,zak,zed,zbn];exact ⟨by rw [decide_eq_true_eq];lia,nofun⟩
  obtain ⟨b,S',e,rfl,rfl⟩:=this;exact e
 constructor
 ·unfold zd2 zmd zbc;show (zaf _ _ [some (mD A g),none] S).bind _=_;have:∀a b:SM,zaf (zai (zad zb3 (zab (eOp zag (zaa 0) (eC (.int 1))) (zac))) (zae 1)) (zaf (sIf (tE (eOp dGt (zaa 1) (eC (.int 12)))) zgq a) b) [some (mD A g),none] S=none:=λa b=>by unfold zaf;rw [s1];show (sIf _ _ _ [some (mD A g),some (.int (g.length:Int))] S).bind _=_;unfold sIf;rw [t1];rfl
  rw [this];rfl
 ·unfold zho zrk zi6;show zi4 _ _ [some (mD A g),none] S=_;unfold zi4;rw [s1];simp only [Option.bind_some];unfold zIf;rw [t1];rfl
theorem yia (h13:12<g.length):Wo (zjl [mD A g] S) λv S'=>v=.bl true:=by
 obtain ⟨h1,h2⟩:=yh9 (A:=A) (S:=S) h13;have tF:List.lookup ("TooMany":Str) [(("TooMany":Str),false)]=some false:=by simp [List.lookup]
 have tT:List.lookup ("TooMany":Str) [(("TooMany":Str),true)]=some true:=by simp [List.lookup]
 unfold zjl zrr;dsimp! only [zbw];refine zav (l':=[some (mD A g),some .non,none]) (S':=S) (by simp! only [zah];exact ⟨nofun,nofun,nofun⟩) ?_;refine za1 (λl S'=>∃n,S'[n]?=some (.exc "TooMany")/\l=[some (mD A g),~~~n,none]) ?_ ?_
 ·refine yh8 (c:="TooMany") (S':=S) ?_ (show zho [mD A g] S=_ from h2) (by decide +kernel) ?_
  ·show ((zd2 [mD A g] S).bind _)=_;rw [h1];rfl
  ·simp! only [zah];exact ⟨nofun,nofun,_,zbe,rfl⟩
 rintro l S3 ⟨n,hn,rfl⟩;have iF:∀{Q:D->Sto->Prop},Wo (zco [(("TooMany":Str),false)] (.ref n) S3) Q=Q (.bl false) S3:=ztb hn tF;have iT:∀{Q:D->Sto->Prop},Wo (zco [(("TooMany":Str),true)] (.ref n) S3) Q=Q (.bl true) S3:=ztb hn tT;refine zav (l':=[some (mD A g),~~~n,none]) (S':=S3) ?_ ?_
 ·refine zce (λc S'=>c=false/\S'=S3) (by simp only [zbl,zeb,zah,qg0,qg1,zak,iF,zbn];first|exact ⟨rfl,rfl⟩|trivial) (λS' z=>by cases z.1) ?_;rintro S' ⟨_,rfl⟩;rw [zcb];exact ⟨nofun,nofun,nofun⟩
 refine zav (l':=[some (mD A g),~~~n,none]) (S':=S3) ?_ ?_
 ·refine zce (λc S'=>c=false/\S'=S3) (by simp only [zbl,zeb,zah,qg0,qg1,zak,iF,zbn];first|exact ⟨rfl,rfl⟩|trivial) (λS' z=>by cases z.1) ?_;rintro S' ⟨_,rfl⟩;rw [zcb];exact ⟨nofun,nofun,nofun⟩
 simp only [zcc,zkz,zeb,zah,qg0,qg1,zak,iT,zbn,if_true]
theorem yib (ns:List Int) (hl:ns.length<=63):zbj (ns.map D.int) none (some 63)=ns.map D.int:=by unfold zbj;rw [HT.sIx_none,show (63:Int)=((63:Nat):Int) from rfl,HT.sIx_nat];rw [List.drop_zero,List.take_of_length_le (by rw [qlm];lia)]
theorem yic (h:S[n]?=some (.flst xs)):lstOf S n=some xs:=by unfold lstOf;rw [h]
noncomputable def zbx (A:Nat) (g:List (List Cl)):List (List Int):=SP.sortU ((zbf (ptb A g) g.length (2^g.length)).map uN)
theorem ztc (h:p∈zbx A g):∃L,p=uN L/\(∀x∈L,x<g.length)/\L.length<=g.length:=by unfold zbx at h;rw [(SP.sortU_perm _).mem_iff] at h;obtain ⟨L,hL,rfl⟩:=List.mem_map.mp h;unfold zbf at hL;obtain ⟨b,hb,rfl⟩:=List.mem_map.mp hL;refine ⟨_,rfl,λx hx=>(lsb_mem.mp hx).1,?_⟩;unfold lsb;exact Nat.le_trans (List.length_filter_le _ _) '*'
theorem yid (h:g.length<=24):(∀p∈zbx A g,Sm p)/\∀p∈zbx A g,p.length<=1000:=by
 constructor
 ·intro p hp i hi;obtain ⟨L,rfl,hx,_⟩:=ztc hp;obtain ⟨x,hxL,rfl⟩:=List.mem_map.mp hi;have:=hx x hxL;exact yfz '!'
 ·intro p hp;obtain ⟨L,rfl,_,hl⟩:=ztc hp;unfold uN;rw [qlm];lia
theorem law_true (ns:List Int) (hl:ns.length<=63):∃S',ze3 [.ref 0] [.flst (ns.map D.int)]=some (.bl true,S'):=by
 have sz:=zbs
 suffices h:Wo (ze3 [.ref 0] [.flst (ns.map D.int)]) λv S'=>v=.bl true by obtain ⟨v,S',e,rfl⟩:=h;exact ⟨S',e⟩
 unfold ze3 zrt;dsimp! only [zbw];refine za1 (λl S=>l=[~~~0,~~~2,none,none,none,none,none,none]/\PQ ns 0 S) ?_ ?_
 ·simp only [za7,zap,zan,zam,zah,qg0,zak];unfold zme zrs;simp! only [zah];rw [zl6 (yic (n:=0) rfl),yib ns hl];exact ⟨by lia,nofun,nofun,0,0,rfl,rfl,by decide,by decide,by decide⟩
 rintro l S ⟨rfl,p0⟩;refine za1 (λl S'=>∃gb:Bool,PQ ns 1 S'/\l=[~~~0,~~~2,some (.bl gb),none,none,none,none,none]) ?_ ?_
 ·simp! only [zah];refine (zcd p0 '!' '$' '$').mono ?_;rintro v S2 ⟨d,rfl,hd,p2,f2⟩;simp! only [zah];exact ⟨nofun,_,p2,rfl⟩
 rintro l S1 ⟨gb,p1,rfl⟩;refine za1 (λl S'=>∃A:Nat,1<=A/\A<=4/\PQ ns 2 S'/\l=[~~~0,~~~2,some (.bl gb),‹A›,none,none,none,none]) ?_ ?_
 ·simp! only [zah];refine (zcd p1 '!' '$' '$').mono ?_;rintro v S2 ⟨d,rfl,hd,p2,f2⟩;simp! only [zah];rw [show (1:Int)+(d:Int)=((1+d:Nat):Int) by lia];exact ⟨nofun,1+d,by lia,by lia,p2,rfl⟩
 rintro l S2 ⟨A,a1,a4,p2,rfl⟩;refine zc6 (λl S'=>S'=S2/\l=[~~~0,~~~2,some (.bl gb),‹A›,none,none,none,none]) (λd S'=>d=.bl true) ?_ ?_ (λd l' S' e=>e)
 ·refine zce (λc S'=>S'=S2) ?_ ?_ ?_
  ·simp only [zbl,zah,qg0,qg1,zak,zbn]
  ·rintro S' rfl;simp only [zcc,zap,zan,zam,zaz,zau,zah,qg0,qg1,zak];refine (zcd p2 '!' '$' '$').mono ?_;rintro v S3 ⟨d,rfl,hd,p3,f3⟩;simp only [ze2];rw [show (13:Int)+(d:Int)=((13+d:Nat):Int) by lia];refine (zsf p3 '!' '!' '!' a1 a4).mono ?_;rintro v S4 ⟨g,rfl,ok,gl,p4,f4⟩;refine (yia '!').mono ?_;rintro v S5 rfl;exact .inr ⟨_,rfl,rfl⟩
  ·rintro S' rfl;rw [zcb];exact .inl ⟨nofun,nofun,nofun⟩
 rintro l S' ⟨rfl,rfl⟩;refine zc6 (λl S=>True) (λd S=>False) ?_ ?_ (λd l1 S1 o=>o.elim)
 ·refine zfv (λu l S1=>(∃x4 x5 x6 x7,l=[~~~0,~~~2,some (.bl gb),‹A›,x4,x5,x6,x7])/\PQ ns (2+1000*u) S1) (λ_ _=>False) (n:=2) rfl '$' ⟨⟨_,_,_,_,rfl⟩,p2⟩ ?_ (λl' S' _=>.inl ⟨rfl,trivial⟩) (λd l' S' z=>z.elim);rintro u l S1 hu ⟨⟨x4,x5,x6,x7,rfl⟩,p1⟩;simp only [zao,qs0,qs1];refine za1 (λl S'=>∃(g:List (List Cl)),OkM A g/\g.length<=12/\PQ ns (2+1000*u+610) S'/\l=[~~~0,~~~2,some (.bl gb),‹A›,‹u›,some (mD A g),x6,x7]) ?_ ?_
  ·have s3:3<=sizeLine:=(by lia);simp only [za7,zaz,zap,zan,zam,zah,zau,qg0,qg1,zak,zdg,List.length_cons,List.length_nil,s3,true_and]
   try refine ⟨by lia,?_⟩
   refine (zcd (p1.gr ⟨_,rfl⟩) '!' '$' '$').mono ?_;rintro v S3 ⟨d,rfl,hd,p3,f3⟩;obtain ⟨x,hx,hx1,hx2⟩:∃x:Nat,L2.atI [D.int 6,.int 9,.int 12] (d:Int)=some (.int (x:Int))/\1<=x/\x<=12:=by
    have hd:d<3:=by lia
    match d,hd with
    |0,_=>exact ⟨6,rfl,by decide,by decide⟩
    |1,_=>exact ⟨9,rfl,by decide,by decide⟩
    |2,_=>exact ⟨12,rfl,by decide,by decide⟩
   have hl3:=f3.lst (m:=S1.length) (by have:=p1.lt;lia) zdz;simp only [zd0,hl3,zb0,hx];refine (zcd p3 '!' '!' '!').mono ?_;rintro v S4 ⟨e,rfl,he,p4,f4⟩;simp only [ze2];rw [show (1:Int)+(e:Int)=((1+e:Nat):Int) by lia];refine (zsf p4 '!' '!' '!' a1 a4).mono ?_;rintro v S5 ⟨g,rfl,ok,gl,p5,f5⟩;simp only [zao,qs0,qs1];exact ⟨g,ok,by lia,p5.mono '!',rfl⟩
  rintro l S3 ⟨g,ok,g12,p3,rfl⟩;have g1:=ok.r1;obtain ⟨sm,sl⟩:=yid (A:=A) (g:=g) '!';refine za1 (λl S'=>∃k,S'[k]?=some (.lst ((zbx A g).map pU))/\PQ ns (2+1000*u+610) S'/\l=[~~~0,~~~2,some (.bl gb),‹A›,‹u›,some (mD A g),~~~k,x7]) ?_ ?_
  ·simp only [za7,zap,zan,zam,zah,qg0,qg1,zak];refine (yhi ok).mono ?_;rintro v S5 ⟨b,f,rfl,hb,g5,t5,hf⟩;refine (yh5 t5 g1 g12).mono ?_;rintro v S6 ⟨g6,k,rfl,hk,h6⟩;have e:zbf f g.length (2^g.length)=zbf (ptb A g) g.length (2^g.length):=zsy (λx y hx hy=>by
    apply Bool.eq_iff_iff.mpr;rw [zs0];exact hf x y hx hy) _
   rw [e] at h6;simp only [zao,qs0,qs1];exact ⟨nofun,k,h6,p3.gr (g5.trans g6),rfl⟩
  rintro l S4 ⟨k,hk,p4,rfl⟩;refine za1 (λl S'=>∃j,j≠k/\2<j/\S'[j]?=some (.lst ((zbx A g).map pU))/\S'[k]?=some (.lst ((zbx A g).map pU))/\PQ ns (2+1000*u+610) S'/\l=[~~~0,~~~2,some (.bl gb),‹A›,‹u›,some (mD A g),~~~k,~~~j]) ?_ ?_
  ·simp only [za7,zap,zan,zam,zah,qg0,qg1,zak];refine (zs2 ok g12).mono ?_;rintro v S5 ⟨g5,j,rfl,hj,h5⟩;have hkl:=(qme hk).1;have:=p4.lt;simp only [zao,qs0,qs1];exact ⟨nofun,j,by lia,by lia,h5,g5.get hk,p4.gr g5,rfl⟩
  rintro l S5 ⟨j,hjk,hj2,hj,hk5,p5,rfl⟩;refine za1 (λl S'=>∃(j:Nat),j≠k/\2<j/\S'[j]?=some (.lst ((zbx A g).map pU))/\S'[k]?=some (.lst ((zbx A g).map pU))/\PQ ns (2+1000*u+610) S'/\l=[~~~0,~~~2,some (.bl gb),‹A›,‹u›,some (mD A g),~~~k,~~~j]) ?_ ?_
  ·refine zce (λc S'=>c=false/\Gr S5 S') ?_ (λS' z=>by cases z.1) ?_
   ·simp only [zc3,zbl,zap,zan,zam,zah,qg0,qg1,zak];refine (zta hj hk5 sm sl).mono ?_;rintro v S6 ⟨g6,rfl⟩;simp only [zbn,Bool.not_true];exact ⟨nofun,g6⟩
   ·rintro S6 ⟨_,g6⟩;rw [zcb];exact ⟨nofun,j,hjk,hj2,g6.get hj,g6.get hk5,p5.gr g6,rfl⟩
  rintro l S6 ⟨j,hjk,hj2,hj6,hk6,p6,rfl⟩;have hjl:=(qme hj6).1;have hll:(zbx A g).length<=4096:=by unfold zbx;rw [(SP.sortU_perm _).length_eq,qlm];have:=zju (p:=ptb A g) (N:=g.length) (2^g.length);have:2^g.length<=2^12:=Nat.pow_le_pow_right '$' g12;lia
  refine za1 (λl S'=>S'=S6.set j (.lst ((zbx A g).map pU).reverse)/\l=[~~~0,~~~2,some (.bl gb),‹A›,‹u›,some (mD A g),~~~k,~~~j]) ?_ ?_
  ·rw [zdf,zcz,zah];simp only [qg0,qg1,zak,zam];refine ⟨⟨_,za3 hj6⟩,?_⟩;have e:zfi (.ref j) [] S6=some (.non,S6.set j (.lst ((zbx A g).map pU).reverse)):=(by unfold zfi;dsimp only;rw [hj6]);rw [e,zbd];exact ⟨nofun,nofun,nofun⟩
  rintro l S' ⟨rfl,rfl⟩;have hjr:(S6.set j (.lst ((zbx A g).map pU).reverse))[j]?=some (.lst ((zbx A g).map pU).reverse):=List.getElem?_set_self hjl;refine za1 (λl S'=>∃ys,S'=(S6.set j (.lst ((zbx A g).map pU).reverse)).set j (.lst ys)/\l=[~~~0,~~~2,some (.bl gb),‹A›,‹u›,some (mD A g),~~~k,~~~j]) ?_ ?_
  ·rw [zdf,zcz,zah];simp only [qg0,qg1,zak];refine ⟨⟨_,za3 hjr⟩,?_⟩;simp only [zan,zam,zap,zcn,List.length_nil];refine ⟨by lia,?_⟩;refine zjv hjr (by rw [List.length_reverse,qlm];lia) ?_;exact ⟨nofun,_,rfl,nofun⟩
  rintro l S' ⟨ys,rfl,rfl⟩;have hk7:((S6.set j (.lst ((zbx A g).map pU).reverse)).set j (.lst ys))[k]?=some (.lst ((zbx A g).map pU)):=by rw [List.getElem?_set_ne hjk,List.getElem?_set_ne hjk];exact hk6
  have p7:PQ ns (2+1000*u+610) ((S6.set j (.lst ((zbx A g).map pU).reverse)).set j (.lst ys)):=(p6.setN '!').setN '!';generalize (S6.set j (.lst ((zbx A g).map pU).reverse)).set j (.lst ys)=S7 at hk7 p7 ⊢;refine zce (λc S'=>c=false/\PQ ns (2+1000*u+610) S') ?_ (λS' z=>by cases z.1) ?_
  ·simp only [zc3,zbl,zap,zan,zam,zah,qg0,qg1,zak];refine (zs2 ok g12).mono ?_;rintro v S8 ⟨g8,q,rfl,hq,h8⟩;refine (zta h8 (g8.get hk7) sm sl).mono ?_;rintro v S9 ⟨g9,rfl⟩;simp only [zbn,Bool.not_true];exact ⟨nofun,p7.gr (g8.trans g9)⟩
  ·rintro S8 ⟨_,p8⟩;rw [zcb];exact .inl ⟨.inl rfl,⟨_,_,_,_,rfl⟩,p8.mono '!'⟩
 ·intro l S _;simp only [zcc,zau]
end M
end
namespace PySem.W.Fast
def tw9903919733041372832:Nat:=0
def tw16851418171071384401:Nat:=0
def tw6237647562539739493:Nat:=0
def tw9686267612619531109:Nat:=0
def tw3146528817287553708:Nat:=0
def tw12190478939120148563:Nat:=0
def tw2726658684560154179:Nat:=0
def tw14917385590184831705:Nat:=0
def tw4815260076020626129:Nat:=0
def tw5624996624460546217:Nat:=0
def tw18273065450711047559:Nat:=0
def tw6651010072158839421:Nat:=0
def tw12982247289707886524:Nat:=0
def tw385398020544613747:Nat:=0
def tw3533994416130886477:Nat:=0
def tw11771803100748294780:Nat:=0
def tw13454241631756719962:Nat:=0
def tw6411508832370868508:Nat:=0
def tw14121529153817174113:Nat:=0
def tw3110908580848385245:Nat:=0
def tw268102325117729576:Nat:=0
def tw2821758028706040341:Nat:=0
def tw17821798545405043947:Nat:=0
def tw16551256555927453264:Nat:=0
def tw7063047828808566804:Nat:=0
def tw12980379843155655432:Nat:=0
def tw7558464962294398687:Nat:=0
def tw10601433545042280004:Nat:=0
def tw9787060073406638270:Nat:=0
def tw1405542916510740812:Nat:=0
def tw9140139202506038020:Nat:=0
def tw16060166475271162453:Nat:=0
def tw15567352227926203531:Nat:=0
def tw12296074481772845229:Nat:=0
def tw4250808571039251536:Nat:=0
def tw11299568767420556191:Nat:=0
def tw4832725298621648333:Nat:=0
def tw4386005682608879292:Nat:=0
def tw2440059332372840254:Nat:=0
def tw3863094798499656862:Nat:=0
def tw9592116822258011642:Nat:=0
def tw831865046299200334:Nat:=0
def tw15580677372140081165:Nat:=0
def tw1911070293361641413:Nat:=0
def tw5269385278281367246:Nat:=0
def tw7856840384256288734:Nat:=0
def tw10650096905535939405:Nat:=0
def tw14478433622395504442:Nat:=0
def tw13371609378322495105:Nat:=0
def tw9566871639825719308:Nat:=0
def tw17490050668686326104:Nat:=0
def tw17418271685907395600:Nat:=0
def tw5949273759072254379:Nat:=0
def tw12800473671840386377:Nat:=0
def tw3395905197078122257:Nat:=0
def tw17848014307071065256:Nat:=0
def tw5242620354048298654:Nat:=0
def tw6921416062426230044:Nat:=0
def tw16760908618583510561:Nat:=0
def tw1019807002563207534:Nat:=0
def tw12175907033834813781:Nat:=0
def tw12157229146433861672:Nat:=0
def tw14780542710556142655:Nat:=0
def tw3324444136814124026:Nat:=0
def tw16310193897190961730:Nat:=0
def tw2481879133244129442:Nat:=0
def tw10960879864719547170:Nat:=0
def tw5400320068550902477:Nat:=0
def tw16556653485181238834:Nat:=0
def tw10729307707928181617:Nat:=0
def tw6189056846891682245:Nat:=0
def tw1399550526363583782:Nat:=0
def tw2905941023634627723:Nat:=0
def tw4940799816546596834:Nat:=0
def tw1560139235692043901:Nat:=0
def tw4081672224194216425:Nat:=0
def tw10176337415656922796:Nat:=0
def tw14526728370062106825:Nat:=0
def tw11293927013294709297:Nat:=0
def tw10789004054559208631:Nat:=0
def tw10919834722953080037:Nat:=0
def tw8976243771564286506:Nat:=0
def tw817660795511194196:Nat:=0
def tw12899914522870999068:Nat:=0
def tw2440205304644781949:Nat:=0
def tw13994216971987422863:Nat:=0
def tw1236558975412065516:Nat:=0
def tw12140848574240782662:Nat:=0
def tw12119701916193930485:Nat:=0
def tw3877971421756641060:Nat:=0
def tw12963213827496979036:Nat:=0
def tw14645667750298679585:Nat:=0
def tw4747915720371033914:Nat:=0
def tw17313948036403378364:Nat:=0
def tw5159001880425083136:Nat:=0
def tw14683384095247537526:Nat:=0
def tw14537071466030586142:Nat:=0
def tw15590734433889588066:Nat:=0
def tw14283211592478823037:Nat:=0
def tw12629887768495644463:Nat:=0
def tw5914533957738464613:Nat:=0
def tw10084324379814700225:Nat:=0
def tw2795516100986587555:Nat:=0
def tw10211450434202746793:Nat:=0
def tw14367343734057600724:Nat:=0
def tw15718265870035433289:Nat:=0
def tw3067847177745663240:Nat:=0
def tw7153497782369538466:Nat:=0
def tw8640998571710421453:Nat:=0
def tw8772007203209845546:Nat:=0
def tw9511634458809546205:Nat:=0
def tw9933479493091165980:Nat:=0
def tw7462494877478971121:Nat:=0
def tw9974845450598695240:Nat:=0
def tw16940532833847902789:Nat:=0
def tw12915929995105210307:Nat:=0
def tw6732239739127834533:Nat:=0
def tw3248598776987463773:Nat:=0
def tw6407163202323773567:Nat:=0
def tw11824618379088972393:Nat:=0
def tw6390835494463062330:Nat:=0
def tw1743953361654552413:Nat:=0
def tw7113034076201359638:Nat:=0
def tw17167383023757698000:Nat:=0
def tw13375825285144625494:Nat:=0
def tw695379464241892108:Nat:=0
def tw4098200918093807155:Nat:=0
def tw8482652706146998712:Nat:=0
def tw2362874211458109443:Nat:=0
def tw10696246771733577332:Nat:=0
def tw1082187625950806683:Nat:=0
def tw16299906944218363645:Nat:=0
def tw7172107685744314972:Nat:=0
def tw6056800328981446851:Nat:=0
def tw1252802524172566098:Nat:=0
def tw4881186241319586923:Nat:=0
def tw10764616227549648183:Nat:=0
def tw15550661216271413652:Nat:=0
def tw6255182392845460072:Nat:=0
def tw4574587961964698437:Nat:=0
def tw120589575217246101:Nat:=0
def tw17856181216377837979:Nat:=0
def tw3641591271062718676:Nat:=0
def tw2695392591626565526:Nat:=0
def tw10548419989636808890:Nat:=0
def tw6643013657848950279:Nat:=0
def tw757710012447107869:Nat:=0
def tw693748638453668674:Nat:=0
def tw15883669483576923843:Nat:=0
def tw6987929961162162717:Nat:=0
def tw15971320040016273269:Nat:=0
def tw513313948270335185:Nat:=0
def tw8448387849785324813:Nat:=0
def tw5180938336472677182:Nat:=0
def tw11775033495704974904:Nat:=0
def tw8552501946999505442:Nat:=0
def tw6307434036913939628:Nat:=0
def tw7426697991362388693:Nat:=0
def tw16836835006384365444:Nat:=0
def tw198622345619775283:Nat:=0
def tw9280530758183348078:Nat:=0
def tw11804653930338283194:Nat:=0
def tw11681363473404504494:Nat:=0
def tw559715226871707768:Nat:=0
def tw5676276968879760814:Nat:=0
def tw5978921996799420903:Nat:=0
def tw11950573790401279211:Nat:=0
def tw8035878205656638917:Nat:=0
def tw10021464531773031710:Nat:=0
def tw12767966303903592639:Nat:=0
def tw9803158973240243854:Nat:=0
def tw319793584335010660:Nat:=0
def tw843375679835788839:Nat:=0
def tw10143793848748945811:Nat:=0
def tw4658023601650687151:Nat:=0
def tw13825828450900920311:Nat:=0
def tw11296307713383756193:Nat:=0
def tw2828249167501247673:Nat:=0
def tw8264261604560016996:Nat:=0
def tw13236135901650321626:Nat:=0
def tw17211896943052887537:Nat:=0
def tw5935127615212842625:Nat:=0
def tw14554017626831368494:Nat:=0
def tw14017872900049217540:Nat:=0
def tw873603660555345372:Nat:=0
def tw16485996856858576540:Nat:=0
def tw1195510263509990203:Nat:=0
def tw16594348350613999973:Nat:=0
def tw2992913672458540532:Nat:=0
def tw4620293231812272019:Nat:=0
def tw5423199623367642492:Nat:=0
def tw5730475036903050055:Nat:=0
def tw6946516955085720257:Nat:=0
def tw9378980434316439719:Nat:=0
def tw9862078514285881959:Nat:=0
def tw9905134926886361332:Nat:=0
def tw10451307576462761167:Nat:=0
def tw1978680946901282488:Nat:=0
def tw900145827210947353:Nat:=0
def tw8884721851036972708:Nat:=0
def tw663398287566097079:Nat:=0
def tw7425368314926313198:Nat:=0
def tw9657648860795152021:Nat:=0
def tw17721468827116530321:Nat:=0
def tw7737016638596484115:Nat:=0
def tw16434387930004117735:Nat:=0
def tw3107369490056027025:Nat:=0
def tw12233393132643925329:Nat:=0
def tw10078857879622853979:Nat:=0
def tw2876285867612110912:Nat:=0
def tw10118862665742425237:Nat:=0
def tw10970884705719273756:Nat:=0
def tw1152118185773979720:Nat:=0
def tw12934073506066785623:Nat:=0
def tw1415042127306141674:Nat:=0
def tw18044908410302820929:Nat:=0
def tw3917727175485762146:Nat:=0
def tw5842095662490222376:Nat:=0
def tw5974457717447208191:Nat:=0
def tw6503755001104986751:Nat:=0
end PySem.W.Fast
open PySem PySem.W PyProof.Rows
theorem PySem.Challenge.cw_opencells_k11_greatest_lots_holds : PySem.Challenge.rw_opencells_k11_greatest_lots.Holds := by
 w_on;o_law;k_head;(case hw=>w_witness2)
 k_fill
 refine G.walk (l:=PySem.Challenge.rw_opencells_k11_greatest_lots) rfl rfl (λw h Y=>PySem.W.kIn_of Y) ?F (λns hl=>M.law_true ns hl)
 case F =>
  intro w mg fa h KX GN hmg
  refine' G.all_mk KX GN hmg ?_ ?_ ?_ ?_ ?_ ?_ ?_ ?_ ?_ ?_ ?_ ?_ ?_ ?_ ?_ ?_ ?_ ?_ ?_ ?_ ?_ ?_ ?_ ?_ ?_ ?_ ?_ ?_ ?_ ?_ ?_ ?_ ?_ ?_ ?_ ?_ ?_ ?_ ?_ ?_ ?_ ?_ ?_ ?_ ?_ ?_ ?_ ?_ ?_ ?_ ?_ ?_ ?_ ?_ ?_ ?_ ?_ ?_ ?_ ?_ ?_
  all_goals try first|(refine' G.FI.mk ?a ?l ?c ?k;(case a=>k_is);(case l=>k_is);(case c=>k_is);(case k=>k_is))|k_is|kernel_rfl
#print axioms PySem.Challenge.cw_opencells_k11_greatest_lots_holds