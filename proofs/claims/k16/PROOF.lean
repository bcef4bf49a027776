import PyProof.Rows.All
import Wide.All
import OpenK.AllK
import Wide.FinOn
import Lean
import PyProof.EqAt
import PyProof.EqKinds
import PyProof.TupleCall
import PyProof.ReprLen
import PyProof.ReprRoads
import PyProof.P3Eq
import PyProof.SetRoads
import PyProof.IsRules
import PyProof.ListRange
import PyProof.ConsumeWalk
import PyProof.NeKinds
import PyProof.DictTable
import PyProof.Draws
import PyProof.EnumMake
import KE.BitLaws
import KE.KIntText
import KE.KRevIter
import PyProof.Rows.SumAny
import PyProof.StrLawsRepr
import PyProof.Rows.SortStrRead
import PyProof.DictCompW
import PyProof.StrOps2
import PyProof.DictWalks
import OpenK.KOwn
import PyProof.NsDelKeeps
import PyProof.RulesAs
import KE.KIsAll
import PyProof.ExcArgsOwn
import PyProof.ExcAttrAll.ValueError
import PyProof.TupleKey
import PyProof.DictRoadsH
import KE.KSortTup
import KE.KDictSum
import PyProof.Rows.TupDisplay
import PyProof.ZipIter
import PyProof.FactsAll.tuple_1
import KE.KDictOf
import PyProof.AttrMissHeap
import PyProof.Dict
import PyProof.FactsAll.tuple_2
import PyProof.FactsAll.tuple_3
import PyProof.IsiH_list
import PyProof.MeetsSeq
import PyProof.Rows.FStr
import PyProof.Rows.RuleM_int
import PyProof.Rows.SetFrom
import PyProof.Rows.StrItems
import PyProof.Rows.StrNews2
import PyProof.StrWalks
import PyProof.WalksMore
import PyProof.ZipIter
import PySem.Challenge.RW_opencells_k16_faults_of_pairs
set_option Elab.async false
set_option maxHeartbeats 4000000
set_option maxRecDepth 100000
set_option linter.unusedSimpArgs false
set_option linter.unusedVariables false
noncomputable section
theorem qwb {α β:Type}{M:PySem.Model}{A:PySem.Around}{E:PySem.Value->PySem.Shared->Prop}{s:PySem.Shared}{m:PySem.Sem α}{f:α->PySem.Sem β}{Q:β->PySem.Shared->Prop}(h:PySem.wpAny M A m (λa s'=>PySem.wpAny M A (f a) Q E s') E s):PySem.wpAny M A (m >>= f) Q E s:=PySem.wpAny_bind h
theorem qwp {α:Type}{M:PySem.Model}{A:PySem.Around}{E:PySem.Value->PySem.Shared->Prop}{s:PySem.Shared}{a:α}{Q:α->PySem.Shared->Prop}(h:Q a s):PySem.wpAny M A (pure a) Q E s:=PySem.wpAny_pure h
theorem qbf:(false=true)=False:=Bool.false_eq_true
theorem qme {α:Type _}{l:List α}{i:Nat}{a:α}(h:l[i]? = some a):∃h:i<l.length,l[i]=a:=List.getElem?_eq_some_iff.mp h
theorem qge {α:Type _}{l:List α}{i:Nat}(h:i<l.length):l[i]? = some l[i]:=List.getElem?_eq_getElem h
abbrev QFg:=PySem.W.Frag
theorem qps {h:PySem.Heap}{a:PySem.Addr}{o1:PySem.Obj}(o:PySem.Obj) (e:h.get? a=some o1):(h.push o).get? a=some o1:=PySem.Heap.get?_push_of_some o e
theorem qlm {α β:Type _}{as:List α}(f:α->β):(as.map f).length=as.length:=List.length_map f
theorem qgm {α β:Type _}{f:α->β}{l:List α}{i:Nat}:(l.map f)[i]? = l[i]?.map f:=List.getElem?_map
theorem qoi {α:Type _}{a b:α}(h:some a=some b):a=b:=Option.some.inj h
theorem qmg {α:Type _}{l:List α}{i:Nat}{a:α}(e:l[i]? = some a):a∈l:=List.mem_of_getElem? e
theorem qlr (n:Nat):n<=n:=Nat.le_refl n
theorem qla {α:Type _}{as bs:List α}:(as++bs).length=as.length+bs.length:=List.length_append
namespace TS
open PySem PySem.SetTable
noncomputable def F:Nat->Nat->Nat
 | 0,x=>x
 | n+1,x=>5*F n x+1
noncomputable def adv (mask:Nat) (p:Probe):Probe :=
 if p.more > 0 then { p with j:=p.j+1,more:=p.more-1 } else
 let (i,perturb):=leap mask p.i p.perturb
 { p with j:=i,more:=runEnd mask i-i,i,perturb }
noncomputable def st0 (mask:Nat) (h:Int):Probe:={ j:=bits h % (mask+1),more:=runEnd mask (bits h % (mask+1))-bits h % (mask+1),i:=bits h % (mask+1),perturb:=bits h,dummy:=none }
noncomputable def pn (mask:Nat) (h:Int):Nat->Probe
 | 0=>st0 mask h
 | n+1=>adv mask (pn mask h n)
noncomputable def bl (mask:Nat) (h:Int):Nat->Nat × Nat
 | 0=>(bits h % (mask+1),bits h)
 | n+1=>leap mask (bl mask h n).1 (bl mask h n).2
def Ris (xs:Array Nat):Prop:=∀i j,i<j->j<xs.size->xs.getD i 0<xs.getD j 0
def In (t:SetTable) (j:Nat):Prop:=∃i:Nat,t.place[i]? = some j
structure TOk (t:SetTable) (es:Array (Int × Value)):Prop where
 dm:t.dummies = #[]
 sz:t.place.size=es.size
 pw:∃k,t.mask+1=2 ^ k/\3<=k
 ris:Ris t.place
 le:∀j,In t j->j<=t.mask
 ro:es.size*5<t.mask*3
 sm:t.mask<8192
 pr:∀(i:Nat) (h:Int) (v:Value),es[i]? = some (h,v)->∃n,t.place[i]? = some (pn t.mask h n).j/\∀m,m<n->In t (pn t.mask h m).j
theorem pigeon:∀(n:Nat) (f:Nat->Option Nat) ,(∀j,j<n+1->∃i,f j=some i/\i<n)->(∀j j' i,j<n+1->j' < n+1->f j=some i->f j' = some i->j=j')->False
 | 0,f,h,_=>by obtain ⟨i,_,hi⟩:=h 0 (by omega);omega
 | n+1,f,h,inj=>by
  obtain ⟨a,ha,hal⟩:=h (n+1) (by omega)
  refine pigeon n (λj=>(f j).map λi=>if i=n then a else i) (λj hj=>?_) λj j' i l1 l2 h1 h2=>?_
  ·obtain ⟨i,hi,hil⟩:=h j (by omega)
   refine ⟨if i=n then a else i,by simp [hi],?_⟩
   split
   ·rename_i e
    rcases Nat.lt_or_ge a n with h' | h'
    ·exact h'
    ·have:a=n:=by omega
     have:=inj (n+1) j n (by omega) (by omega) (by rw [ha,this]) (by rw [hi,e])
     omega
   ·omega
  ·cases e1:f j with
   | none=>rw [e1] at h1;cases h1
   | some i1 =>
    cases e2:f j' with
    | none=>rw [e2] at h2;cases h2
    | some i2 =>
     rw [e1] at h1;rw [e2] at h2
     have h1:(if i1=n then a else i1)=i:=by simpa using h1
     have h2:(if i2=n then a else i2)=i:=by simpa using h2
     by_cases c1:i1=n <;> by_cases c2:i2=n
     ·exact inj j j' n (by omega) (by omega) (by rw [e1,c1]) (by rw [e2,c2])
     ·rw [if_pos c1] at h1;rw [if_neg c2] at h2
      have:=inj (n+1) j' i (by omega) (by omega) (by rw [ha,h1]) (by rw [e2,h2])
      omega
     ·rw [if_neg c1] at h1;rw [if_pos c2] at h2
      have:=inj (n+1) j i (by omega) (by omega) (by rw [ha,h2]) (by rw [e1,h1])
      omega
     ·rw [if_neg c1] at h1;rw [if_neg c2] at h2
      exact inj j j' i (by omega) (by omega) (by rw [e1,h1]) (by rw [e2,h2])
def Occ (ow:Array (Option Nat)) (j:Nat):Prop:=∃i,ow[j]? = some (some i)
instance (ow:Array (Option Nat)):DecidablePred (Occ ow):=λj=>match h:ow[j]? with
 | some (some i)=>.isTrue ⟨i,h⟩
 | some none=>.isFalse λhx1_=>by obtain ⟨i,z⟩:=hx1_;rw [h] at z;cases z
 | none=>.isFalse λhx2_=>by obtain ⟨i,z⟩:=hx2_;rw [h] at z;cases z
noncomputable def zn9 (ks:List Int):Int:=reduceHash (Builtin.Tuple.tupleHashOf (ks.map hashInt))
section
variable {prog:Program}{w:World}{A:Around}{E:Value->Shared->Prop}{s:Shared}
structure Els (es:Array (Int × Value)) (xs:List (List Int × Addr)):Prop where
 sub:∀e∈es.toList,∃p∈xs,e=(zn9 p.1,.ref p.2)
 sup:∀p∈xs,(zn9 p.1,Value.ref p.2)∈es.toList
 len:es.size=xs.length
end
def ztp (o:Obj) (xs:List (List Int × Addr)):Prop:=o.ExactSet/\∃es ep t,o.data=.set es ep t/\TOk t es/\Els es xs
def TSet (a:Addr) (xs:List (List Int × Addr)) (h:Heap):Prop:=∃o,h.get? a=some o/\ztp o xs
section
variable {prog:Program}{w:World}{A:Around}{E:Value->Shared->Prop}{s:Shared}{a x:Addr}{k:List Int}{xs:List (List Int × Addr)}
end
end TS
namespace BF
def lx:List Nat->List Nat->Prop
 | a :: u,b :: v=>a<b\/(a=b/\lx u v)
 | _,_=>False
def sl (u v:List Nat):Prop:=u.length<v.length\/(u.length=v.length/\lx u v)
def le (u v:List Nat):Prop:=sl u v\/u=v
abbrev P:=Nat × Nat
section
variable (A:Nat) (step:P->Nat->Option P) (fail:P->Nat->Bool)
noncomputable def walk:P->List Nat->Option P
 | p,[]=>some p
 | p,a :: w=>(step p a).bind λq=>walk q w
def ztq (p:P) (w:List Nat):Prop:=∃u b q,w=u++[b]/\b<A/\(∀a∈u,a<A)/\walk step p u=some q/\fail q b=true
end
section
variable {A:Nat}{step:P->Nat->Option P}{fail:P->Nat->Bool}
section
variable {p0 q q':P}{ps:List P}{ws:List (List Nat)}{w:List Nat}{i c:Nat}
theorem get_snoc {α:Type}{l:List α}{x y:α}{k:Nat}(h:(l++[x])[k]? = some y):l[k]? = some y\/(k=l.length/\y=x):=by
 rcases Nat.lt_trichotomy k l.length with hk|hk|hk
 ·rw [List.getElem?_append_left hk] at h;exact .inl h
 ·subst hk;rw [List.getElem?_append_right (qlr _)] at h;exact .inr ⟨rfl,by simpa using h.symm⟩
 ·rw [List.getElem?_eq_none (by simp;omega)] at h;cases h
theorem get_left {α:Type}{l:List α}{x y:α}{k:Nat}(h:l[k]? = some y):(l++[x])[k]? = some y:=by
 rw [List.getElem?_append_left (qme h).1];exact h
end
def Fn (A:Nat) (step:P->Nat->Option P) (fail:P->Nat->Bool) (n:Nat) (p:P):Prop:=∃w,ztq A step fail p w/\w.length=n
end
theorem few {n:Nat}:∀(l:List Nat),l.Nodup->(∀x∈l,x<n)->l.length<=n:=by
 intro l hd hl
 rcases Nat.lt_or_ge n l.length with h|h
 ·exfalso
  refine TS.pigeon n (λa=>l[a]?) (λa ha=>?_) λa b i l1 l2 e1 e2=>?_
  ·have:a<l.length:=by omega
   exact ⟨l[a],qge this,hl _ (List.getElem_mem this)⟩
  ·have h1:a<l.length:=by omega
   exact (List.getElem?_inj h1 hd).mp (e1.trans e2.symm)
 ·exact h
theorem few2 {n m:Nat}(l:List P) (hd:l.Nodup) (hl:∀x∈l,x.1<n/\x.2<m):l.length<=n*m:=by
 have:=few (n:=n*m) (l.map λx=>x.1*m+x.2) (by
  unfold List.Nodup
  rw [List.pairwise_map]
  refine List.Pairwise.imp_of_mem (λ{x y} hx hy hne e=>hne ?_) hd
  ·skip
   obtain ⟨h1,h2⟩:=hl x hx
   obtain ⟨h3,h4⟩:=hl y hy
   have e1:x.2=y.2:=by
    have a1:(x.1*m+x.2) % m=x.2:=by rw [Nat.mul_comm,Nat.mul_add_mod];exact Nat.mod_eq_of_lt h2
    have a2:(y.1*m+y.2) % m=y.2:=by rw [Nat.mul_comm,Nat.mul_add_mod];exact Nat.mod_eq_of_lt h4
    rw [<-a1,<-a2];exact congrArg (· % m) e
   have e2:x.1=y.1:=by
    have:x.1*m=y.1*m:=by omega
    exact Nat.eq_of_mul_eq_mul_right (by omega) this
   exact Prod.ext e2 e1) (λz hz=>by
  obtain ⟨x,hx,rfl⟩:=List.mem_map.mp hz
  obtain ⟨h1,h2⟩:=hl x hx
  calc x.1*m+x.2<x.1*m+m:=by omega
   _=(x.1+1)*m:=by rw [Nat.add_mul,Nat.one_mul]
   _<=n*m:=Nat.mul_le_mul_right m h1)
 simpa using this
end BF
namespace SP
open PySem PySem.W PyProof.Rows
inductive Ok (lt:Nat->Nat->Bool) (n:Nat) {α:Type} (G:α->Prop):KasT α->Prop where
 | ret {a:α} (h:G a):Ok lt n G (.ret a)
 | ask {i j:Nat} {k:Bool->KasT α} (hi:i<n) (hj:j<n) (h:Ok lt n G (k (lt i j))):Ok lt n G (.ask i j k)
section
variable {r:Nat->Int}{n:Nat}
noncomputable def lt (r:Nat->Int) (i j:Nat):Bool:=decide (r i<r j)
noncomputable def at' (r:Nat->Int) (p:Array Nat) (k:Nat):Int:=r (p.getD k 0)
end
open PySem.Calls
abbrev Pr:=Int × Int
noncomputable def plt (p q:Pr):Bool:=decide (p.1<q.1) || (decide (p.1=q.1) && decide (p.2<q.2))
section
variable {prog:Program}{w:World}{A:Around}{E:Value->Shared->Prop}{s:Shared}
end
noncomputable def rk (ps:List Pr) (i:Nat):Int:=(ps.countP (λq=>plt q (ps.getD i (0,0))):Nat)
section
variable {prog:Program}{w:World}{A:Around}{E:Value->Shared->Prop}{s:Shared}
end
end SP
namespace L2
open PySem PySem.Spec PyProof.Rows
abbrev Key:=Sum Int Str
noncomputable def zgd:Key->Value->Bool
 | .inl k,v=>Value.isInt k v
 | .inr x,v=>Value.isStrOf x v
noncomputable def ztr (w:World):Key->Int
 | .inl k=>hashInt k
 | .inr x=>hashStr w x
theorem ze8:∀{k:Key}{v:Value},zgd k v=true->(∃i t,k=Sum.inl i/\v=Value.int i t)\/(∃x t,k=Sum.inr x/\v=Value.str x t)
 | .inl i,v,h=>by
  obtain ⟨t,e⟩:=Value.isInt_shape (k:=i) (v:=v) h
  exact .inl ⟨i,t,rfl,e⟩
 | .inr x,v,h=>by
  obtain ⟨t,e⟩:=Value.isStrOf_shape (x:=x) (v:=v) h
  exact .inr ⟨x,t,rfl,e⟩
theorem zts (i:Int) (t:Tok):zgd (.inl i) (.int i t)=true:=by simp [zgd,Value.isInt]
theorem ztt (x:Str) (t:Tok):zgd (.inr x) (.str x t)=true:=by simp [zgd,Value.isStrOf]
theorem ztu (a b:Int):decide ((Sum.inl a:Key)=Sum.inl b)=(a == b):=by
 by_cases e:a=b
 ·subst e;simp
 ·have h:¬(Sum.inl a:Key)=Sum.inl b:=λq=>e (Sum.inl.inj q)
  rw [decide_eq_false h]
  exact (beq_eq_false_iff_ne.mpr e).symm
theorem ztv (a b:Str):decide ((Sum.inr a:Key)=Sum.inr b)=decide (a=b):=by
 by_cases e:a=b
 ·subst e;simp
 ·have h:¬(Sum.inr a:Key)=Sum.inr b:=λq=>e (Sum.inr.inj q)
  rw [decide_eq_false h,decide_eq_false e]
theorem ztw (a:Int) (b:Str):decide ((Sum.inl a:Key)=Sum.inr b)=false:=decide_eq_false (λq=>nomatch q)
theorem ztx (a:Str) (b:Int):decide ((Sum.inr a:Key)=Sum.inl b)=false:=decide_eq_false (λq=>nomatch q)
noncomputable def zde (prog:Program) (w:World):PySem.KeyKind prog w Key where
 is:=zgd
 hash:=ztr w
 inj:=λv a b ha hb=>by
  rcases ze8 ha with ⟨i,t,rfl,rfl⟩|⟨x,t,rfl,rfl⟩
  ·rcases ze8 hb with ⟨j,u,rfl,e⟩|⟨y,u,rfl,e⟩
   ·injection e with e1 _;rw [e1]
   ·exact nomatch e
  ·rcases ze8 hb with ⟨j,u,rfl,e⟩|⟨y,u,rfl,e⟩
   ·exact nomatch e
   ·injection e with e1 _;rw [e1]
 byValue:=λk v h=>by
  rcases ze8 h with ⟨i,t,rfl,rfl⟩|⟨x,t,rfl,rfl⟩ <;> rfl
 pyHash:=λhv h=>by
  rcases ze8 hv with ⟨i,t,rfl,rfl⟩|⟨x,t,rfl,rfl⟩
  ·exact wpAny_pyHash_int h
  ·exact wpAny_pyHash_str h
 eqBool:=λhu hv h=>by
  rcases ze8 hu with ⟨i,t,rfl,rfl⟩|⟨x,t,rfl,rfl⟩
  ·rcases ze8 hv with ⟨j,u,rfl,rfl⟩|⟨y,u,rfl,rfl⟩
   ·rw [ztu] at h;exact wpAny_eqBool_int h
   ·rw [ztw] at h;exact SeqAt.EqAt.int_str i t y u _ _ _ _ h
  ·rcases ze8 hv with ⟨j,u,rfl,rfl⟩|⟨y,u,rfl,rfl⟩
   ·rw [ztx] at h;exact SeqAt.EqAt.str_int x t j u _ _ _ _ h
   ·rw [ztv] at h;exact wpAny_eqBool_str h
 «strs»:=λk x t v h=>by
  rcases ze8 h with ⟨i,u,rfl,e⟩|⟨y,u,rfl,e⟩
  ·exact nomatch e
  ·injection e with e1 _
   subst e1
   cases v <;> rfl
theorem zlu (prog:Program) (w:World) (i:Int) (t:Tok):(zde prog w).is (.inl i) (.int i t)=true:=zts i t
theorem zty (prog:Program) (w:World) (x:Str) (t:Tok):(zde prog w).is (.inr x) (.str x t)=true:=ztt x t
inductive V where
 | non|bl (b:Bool)|int (i:Int)|str (x:Str)|byt (b:Array UInt8)|flt (b:UInt64)|ref (a:Addr)|ty (n:String)
 deriving DecidableEq
def RelV:V->Value->Prop
 | .non,u=>u=Value.none
 | .bl b,u=>u=Value.bool b
 | .int i,u=>∃t,u=Value.int i t
 | .str x,u=>∃t,u=Value.str x t
 | .byt b,u=>∃t,u=Value.bytes b t
 | .flt b,u=>∃t,u=Value.float b t
 | .ref a,u=>u=Value.ref a
 | .ty n,u=>u=Value.type n
abbrev Vals:List V->List Value->Prop:=Paired RelV
theorem Vals.length {xs:List V}{us:List Value}(r:Vals xs us):xs.length=us.length:=Paired.length r
theorem Vals.get:∀{xs:List V}{us:List Value}{i:Nat}{x:V},Vals xs us->xs[i]? = some x->∃u,us[i]? = some u/\RelV x u
 | _,_,_,_,.nil,e=>by simp at e
 | _,_,0,_,.cons r _,e=>by simp at e;subst e;exact ⟨_,rfl,r⟩
 | _,_,i+1,x,.cons _ t,e=>by
  obtain ⟨u,h1,h2⟩:=Vals.get (i:=i) (x:=x) t (by simpa using e)
  exact ⟨u,by simpa using h1,h2⟩
theorem Vals.set {x:V}{u:Value}(r:RelV x u):∀{xs:List V}{us:List Value}(i:Nat),Vals xs us->Vals (xs.set i x) (us.set i u)
 | _,_,_,.nil=>.nil
 | _,_,0,.cons _ t=>.cons r t
 | _,_,i+1,.cons q t=>.cons q (Vals.set r i t)
theorem Vals.append:∀{xs ys:List V}{us ws:List Value},Vals xs us->Vals ys ws->Vals (xs++ys) (us++ws)
 | _,_,_,_,.nil,s=>s
 | _,_,_,_,.cons r t,s=>.cons r (Vals.append t s)
theorem Vals.take:∀{xs:List V}{us:List Value}(n:Nat),Vals xs us->Vals (xs.take n) (us.take n)
 | _,_,0,_=>.nil
 | _,_,_+1,.nil=>.nil
 | _,_,n+1,.cons r t=>.cons r (Vals.take n t)
theorem Vals.drop:∀{xs:List V}{us:List Value}(n:Nat),Vals xs us->Vals (xs.drop n) (us.drop n)
 | _,_,0,r=>r
 | _,_,_+1,.nil=>.nil
 | _,_,n+1,.cons _ t=>Vals.drop n t
def RelO:Option V->Option Value->Prop
 | some v,some u=>RelV v u
 | none,none=>True
 | _,_=>False
def KV {κ:Type}:List (κ × V)->List (κ × Value)->Prop:=Paired λ(p:κ × V) (q:κ × Value)=>p.1=q.1/\RelV p.2 q.2
noncomputable def kV:Key->V
 | .inl i=>.int i
 | .inr x=>.str x
inductive HO where
 | lst (xs:List V)
 | tup (xs:List V)
 | dK (kvs:List (Key × V))|dT (kvs:List (List Key × V))
 | set (S:Int->Bool) (n:Nat)
 | ins (C dx:Addr) (fs:List (Str × V))
 | own (x:Addr)
 | xd (fs:List (Str × V))
 | met (f x:Addr)
 | rng (lo hi:Int)
 | frz (o:Obj) (u:HO)
 | tbl (ps:Array Value)
 | ext (φ:Heap->Prop)
abbrev Hp:=Addr->Option HO
noncomputable def upd (H:Hp) (a:Addr) (o:HO):Hp:=λb=>if b=a then some o else H b
theorem zbw {H:Hp}{a:Addr}{o:HO}:upd H a o a=some o:=by unfold upd;rw [if_pos rfl]
theorem zar {H:Hp}{a b:Addr}{o:HO}(h:b≠a):upd H a o b=H b:=by unfold upd;rw [if_neg h]
theorem zlv {H:Hp}{a:Addr}{o u:HO}:upd (upd H a o) a u=upd H a u:=by
 funext b;unfold upd;split <;> rfl
theorem zdl {H:Hp}{a b:Addr}{o u:HO}(h:H a=some o) (h':H b=some u) (d:o≠u):a≠b:=by
 intro e;subst e;rw [h] at h';exact d (qoi h')
theorem zbl {H:Hp}{a b:Addr}{o:HO}(h:H a=some o) (h':H b=none):a≠b:=by
 intro e;subst e;rw [h] at h';cases h'
def IsTD (h:Heap) (a:Addr) (items:Array Value):Prop:=∃o,h.get? a=some o/\o.cls=.type "tuple"/\∃n,o.data=.seq items n/\o.dict=none
theorem IsTD.tup {h:Heap}{a:Addr}{items:Array Value}(x:IsTD h a items):IsTup h a items:=by
 obtain ⟨o,e,c,n,d,_⟩:=x
 exact ⟨o,e,c,n,d⟩
theorem IsTD.new (h:Heap) (items:Array Value):IsTD (h.push { cls:=.type "tuple",data:=.seq items }) h.objs.size items:=⟨_,Heap.get?_push_size _ rfl,rfl,_,rfl,rfl⟩
section
variable (P:Program) (w:World)
def ObjOk (H:Hp) (h:Heap) (a:Addr):HO->Prop
 | .lst xs=>xs.length<=sizeLine/\∃(its:List Value) (n:Nat),Vals xs its/\h.get? a=some { cls:=.type "list",data:=.seq its.toArray n }
 | .tup xs=>xs.length<=sizeLine/\∃its:List Value,Vals xs its/\IsTD h a its.toArray
 | .dK kvs=>kvs.length<=sizeLine/\(a == sysModules)=false/\∃vs,KV kvs vs/\h.DictOf (zde P w) a vs
 | .dT kvs=>kvs.length<=sizeLine/\(a == sysModules)=false/\∃xs:List (List Key × Addr × Value),
   Paired (λ(p:List Key × V) (q:List Key × Addr × Value)=>p.1=q.1/\H q.2.1=some (.tup (p.1.map kV))/\RelV p.2 q.2.2) kvs xs /\
   ∃o es ep,h.get? a=some o/\o.ExactDict/\o.data=.dict es ep/\es.toList=xs.map (entryOfKey (tupleKind (zde P w)))/\(xs.map (·.1)).Nodup
 | .set S n=>h.SetOf (intKind P w) a S n
 | .ins C dx fs=>H dx=some (.own a)/\fs.length<=1000/\dx≠a/\h.get? a=some (PySem.W.instObj C dx) /\
   ∃mA,h.Ns1 dx mA/\(∀f,RelO (fs.lookup f) (mA f))/\PySem.Within mA (fs.map (·.1))
 | .own _=>∃o,h.get? a=some o
 | .xd fs=>∃mA,h.Ns1 a mA/\∀f,RelO (fs.lookup f) (mA f)
 | .rng lo hi=>∃t u v,h.get? a=some { cls:=.type "range",data:=.fields #[.int lo t,.int hi u,.int 1 v] }
 | .frz o u=>h.get? a=some o/\ObjOk H h a u
 | .tbl ps=>h.get? a=some { cls:=.none,data:=.fields ps }
 | .met f x=>h.get? a=some (PySem.W.methodObj (.ref f) (.ref x))
 | .ext φ=>φ h/\(∃o,h.get? a=some o)/\∀h1 h2:Heap,φ h1->(∀o,h1.get? a=some o->h2.get? a=some o)->φ h2
def HOk (H:Hp) (h:Heap):Prop:=∀a o,H a=some o->ObjOk P w H h a o
end
section
variable {P:Program}{w:World}{H H':Hp}{h h':Heap}{a:Addr}{o:HO}
theorem ObjOk.lt (x:ObjOk P w H h a o):a<h.objs.size:=by
 cases o with
 | lst xs=>obtain ⟨_,_,_,_,e⟩:=x;exact Heap.lt_size e
 | tup xs=>obtain ⟨_,_,_,p⟩:=x;exact p.tup.lt
 | dK kvs=>obtain ⟨_,_,_,_,o,_,_,e,_⟩:=x;exact Heap.lt_size e
 | dT kvs=>obtain ⟨_,_,_,_,o,_,_,e,_⟩:=x;exact Heap.lt_size e
 | set S n=>obtain ⟨o,_,_,_,e,_⟩:=x;exact Heap.lt_size e
 | ins C dx fs=>obtain ⟨_,_,_,e,_⟩:=x;exact Heap.lt_size e
 | own y=>obtain ⟨_,e⟩:=x;exact Heap.lt_size e
 | xd fs=>obtain ⟨_,⟨_,_,_,e,_⟩,_⟩:=x;exact Heap.lt_size e
 | rng lo hi=>obtain ⟨_,_,_,e⟩:=x;exact Heap.lt_size e
 | frz ob u=>obtain ⟨e,_⟩:=x;exact Heap.lt_size e
 | tbl ps=>exact Heap.lt_size (show h.get? a=some _ from x)
 | met f y=>exact Heap.lt_size (show h.get? a=some _ from x)
 | ext φ=>obtain ⟨_,⟨_,e⟩,_⟩:=x;exact Heap.lt_size e
theorem Paired.mapP {α β:Type}{F G:α->β->Prop}:∀{l₁:List α}{l₂:List β},Paired F l₁ l₂->(∀a b,F a b->G a b)->Paired G l₁ l₂
 | _,_,.nil,_=>.nil
 | _,_,.cons r t,f=>.cons (f _ _ r) (Paired.mapP t f)
theorem ObjOk.stay (x:ObjOk P w H h a o) (k:∀b u,(b=a\/H b=some (.own a))->h.get? b=some u->h'.get? b=some u)
  (ho:∀b,H b=some (.own a)->H' b=some (.own a)) (ht:∀b xs,H b=some (.tup xs)->H' b=some (.tup xs)):ObjOk P w H' h' a o:=by
 induction o with
 | lst xs=>obtain ⟨z,its,n,r,e⟩:=x;exact ⟨z,its,n,r,k _ _ (.inl rfl) e⟩
 | tup xs=>obtain ⟨z,its,r,ob,e,c⟩:=x;exact ⟨z,its,r,ob,k _ _ (.inl rfl) e,c⟩
 | dK kvs=>obtain ⟨z,y,vs,r,ob,es,ep,e,c⟩:=x;exact ⟨z,y,vs,r,ob,es,ep,k _ _ (.inl rfl) e,c⟩
 | dT kvs =>
  obtain ⟨z,y,xs,r,ob,es,ep,e,c⟩:=x
  exact ⟨z,y,xs,Paired.mapP r λp q z=>⟨z.1,ht _ _ z.2.1,z.2.2⟩,ob,es,ep,k _ _ (.inl rfl) e,c⟩
 | set S n=>obtain ⟨ob,es,ep,t,e,c⟩:=x;exact ⟨ob,es,ep,t,k _ _ (.inl rfl) e,c⟩
 | ins C dx fs =>
  obtain ⟨d,z,ne,e,mA,⟨od,es,ep,e2,c⟩,r⟩:=x
  exact ⟨ho _ d,z,ne,k _ _ (.inl rfl) e,mA,⟨od,es,ep,k _ _ (.inr d) e2,c⟩,r⟩
 | own y=>obtain ⟨ob,e⟩:=x;exact ⟨ob,k _ _ (.inl rfl) e⟩
 | xd fs=>obtain ⟨mA,⟨od,es,ep,e,c⟩,r⟩:=x;exact ⟨mA,⟨od,es,ep,k _ _ (.inl rfl) e,c⟩,r⟩
 | rng lo hi=>obtain ⟨t,u,v,e⟩:=x;exact ⟨t,u,v,k _ _ (.inl rfl) e⟩
 | frz ob u ih=>obtain ⟨e,q⟩:=x;exact ⟨k _ _ (.inl rfl) e,ih q⟩
 | tbl ps =>
  have e:h.get? a=some { cls:=.none,data:=.fields ps }:=x
  show h'.get? a=some { cls:=.none,data:=.fields ps }
  exact k a _ (.inl rfl) e
 | met f y =>
  have e:h.get? a=some (PySem.W.methodObj (.ref f) (.ref y)):=x
  show h'.get? a=some (PySem.W.methodObj (.ref f) (.ref y))
  exact k a _ (.inl rfl) e
 | ext φ=>obtain ⟨p,⟨o,e⟩,st⟩:=x;exact ⟨st _ _ p λo q=>k _ _ (.inl rfl) q,⟨o,k _ _ (.inl rfl) e⟩,st⟩
theorem HOk.lt (x:HOk P w H h) (e:H a=some o):a<h.objs.size:=(x a o e).lt
theorem HOk.fresh (x:HOk P w H h) (e:h.objs.size<=a):H a=none:=by
 cases q:H a with
 | none=>rfl
 | some u=>exact absurd (Nat.lt_of_lt_of_le (x.lt q) e) (Nat.lt_irrefl _)
theorem HOk.kept (x:HOk P w H h) (k:∀b u,h.get? b=some u->h'.get? b=some u):HOk P w H h':=λa o e =>
 (x a o e).stay (λb u _ q=>k b u q) (λ_ q=>q) λ_ _ q=>q
theorem HOk.laid (x:HOk P w H h) (k:∀b u,h.get? b=some u->h'.get? b=some u) (hp:h.objs.size<=a) (new:ObjOk P w (upd H a o) h' a o):HOk P w (upd H a o) h':=λb u e=>by
 have hn:=x.fresh hp
 by_cases hb:b=a
 ·subst hb;rw [zbw] at e;cases e;exact new
 ·rw [zar hb] at e
  exact (x b u e).stay (λc v _ q=>k c v q) (λc q=>by rw [zar (zbl q hn)];exact q) λc xs q=>by rw [zar (zbl q hn)];exact q
end
def Rd (H:Hp) (a:Addr) (u:HO):Prop:=H a=some u\/∃o,H a=some (.frz o u)
theorem Rd.ok {P:Program}{w:World}{H:Hp}{h:Heap}{a:Addr}{u:HO}(r:Rd H a u) (x:HOk P w H h):ObjOk P w H h a u:=by
 rcases r with r|⟨o,r⟩
 ·exact x a u r
 ·obtain ⟨_,q⟩:=x a _ r
  exact q
def Mut:Option HO->Prop
 | some (.lst _)=>True
 | some (.dK _)=>True
 | some (.dT _)=>True
 | some (.set _ _)=>True
 | some (.ins _ _ _)=>True
 | some (.ext _)=>True
 | _=>False
section
variable {P:Program}{w:World}{H:Hp}{h h':Heap}{x e:Addr}{o':HO}
theorem HOk.write (ok:HOk P w H h) (mu:Mut (H x)) (he:e=x\/H e=some (.own x)) (k:∀b u,b≠e->h.get? b=some u->h'.get? b=some u) (heo:∃u,h'.get? e=some u)
  (new:ObjOk P w (upd H x o') h' x o'):HOk P w (upd H x o') h':=λb u q=>by
 have nown:∀c y,H c=some (.own y)->c≠x:=λc y r z=>by subst z;rw [r] at mu;exact mu
 have ntup:∀c xs,H c=some (.tup xs)->c≠x:=λc xs r z=>by subst z;rw [r] at mu;exact mu
 by_cases hb:b=x
 ·subst hb;rw [zbw] at q;cases q;exact new
 ·rw [zar hb] at q
  by_cases hbe:b=e
  ·have q':H b=some (.own x):=by
    rcases he with z|z
    ·exact absurd (hbe.trans z) hb
    ·rw [hbe];exact z
   rw [q] at q';cases q'
   obtain ⟨v,hv⟩:=heo
   exact ⟨v,by rw [hbe];exact hv⟩
  ·refine (ok b u q).stay (λc v hc r=>k c v ?_ r) (λc r=>by rw [zar (nown c b r)];exact r) λc xs r=>by rw [zar (ntup c xs r)];exact r
   rcases hc with rfl|hc
   ·exact hbe
   ·rintro rfl
    rcases he with z|z
    ·exact nown c b hc z
    ·rw [hc] at z;cases z;exact hb rfl
end
structure Un (fs ex:List Addr) (H H':Hp) (h h':Heap):Prop where
 keep:∀b o,h.get? b=some o->H b=none->b ∉ fs->b ∉ ex->h'.get? b=some o
 slot:∀b o,h.get? b=some o->H b=none->b∈fs->b ∉ ex->∃sl,h'.get? b=some { o with slots:=sl }
 free:∀b o,h.get? b=some o->H b=none->b ∉ ex->H' b=none
 there:∀b o,h.get? b=some o->b ∉ ex->∃o',h'.get? b=some o'
 tups:∀b xs,H b=some (.tup xs)->H' b=some (.tup xs)
 frzs:∀b o u,H b=some (.frz o u)->H' b=some (.frz o u)
 tbls:∀b ps,H b=some (.tbl ps)->∃more,H' b=some (.tbl (ps++more))
section
variable {fs fs' ex ex':List Addr}{H H1 H2:Hp}{h h1 h2 h':Heap}{a x e:Addr}{o:HO}
theorem Un.any (u:Un fs ex H H1 h h1) {b:Addr}{ob:Obj}(q:h.get? b=some ob) (n:H b=none) (hx:b ∉ ex):∃sl,h1.get? b=some { ob with slots:=sl }:=by
 by_cases hb:b∈fs
 ·exact u.slot b ob q n hb hx
 ·exact ⟨ob.slots,u.keep b ob q n hb hx⟩
theorem Un.kept (k:∀b u,h.get? b=some u->h'.get? b=some u):Un fs ex H H h h' :=
 ⟨λb ob q _ _ _=>k b ob q,λb ob q _ _ _=>⟨ob.slots,k b ob q⟩,λ_ _ _ n _=>n,λb ob q _=>⟨ob,k b ob q⟩,λ_ _ q=>q,λ_ _ _ q=>q,λ_ ps q=>⟨#[],by rw [q];simp⟩⟩
theorem Un.refl:Un fs ex H H h h:=Un.kept λ_ _ q=>q
theorem Un.laid (k:∀b u,h.get? b=some u->h'.get? b=some u) (hp:h.objs.size<=a) (hn:H a=none):Un fs ex H (upd H a o) h h' where
 keep:=λb u q _ _ _=>k b u q
 slot:=λb u q _ _ _=>⟨u.slots,k b u q⟩
 free:=λb u q n _=>by rw [zar (Nat.ne_of_lt (Nat.lt_of_lt_of_le (Heap.lt_size q) hp))];exact n
 there:=λb u q _=>⟨u,k b u q⟩
 tups:=λb xs q=>by rw [zar (zbl q hn)];exact q
 frzs:=λb u xs q=>by rw [zar (zbl q hn)];exact q
 tbls:=λb ps q=>⟨#[],by rw [zar (zbl q hn),q];simp⟩
theorem Un.write (mu:Mut (H x)) (he:e=x\/H e=some (.own x)) (k:∀b u,b≠e->h.get? b=some u->h'.get? b=some u) (heo:∃u,h'.get? e=some u):Un fs ex H (upd H x o) h h':=by
 have hx:∀b,H b=none->b≠x:=λb n z=>by subst z;rw [n] at mu;exact mu
 have hb:∀b,H b=none->b≠e:=λb n z=>by
  subst z
  rcases he with r|r
  ·exact hx b n r
  ·rw [n] at r;cases r
 have hm:∀b u,H b=some u->¬Mut (some u)->b≠x:=λb u q nm z=>by subst z;rw [q] at mu;exact nm mu
 refine ⟨λb u q n _ _=>k b u (hb b n) q,λb u q n _ _=>⟨u.slots,k b u (hb b n) q⟩,λb u q n _=>by rw [zar (hx b n)];exact n,λb u q _=>?_,
  λb xs q=>by rw [zar (hm b _ q λz=>z)];exact q,λb u xs q=>by rw [zar (hm b _ q λz=>z)];exact q,λb ps q=>⟨#[],by rw [zar (hm b _ q λz=>z),q];simp⟩⟩
 by_cases hbe:b=e
 ·subst hbe;exact heo
 ·exact ⟨u,k b u hbe q⟩
end
noncomputable def trk (h:Heap) (H:Hp):List Addr:=(List.range h.objs.size).filter λa=>(H a).isSome
noncomputable def zge (h:Heap) (H:Hp):Heap:=PySem.W.hideAll h (trk h H)
theorem ztz (h:Heap) (H:Hp):(zge h H).objs.size=h.objs.size:=PySem.W.hideAll_size _ _
theorem zt0 {h:Heap}{H:Hp}{b:Addr}{o:Obj}(e:h.get? b=some o) (n:H b=none):(zge h H).get? b=some o :=
 PySem.W.hideAll_get _ e λhm=>by
  have q:(H b).isSome=true:=(List.mem_filter.mp hm).2
  rw [n] at q;simp at q
theorem zt1 {h:Heap}{H:Hp}{b:Addr}{o:Obj}(e:(zge h H).get? b=some o):h.get? b=some o/\H b=none:=by
 have e':h.get? b=some o:=PySem.W.of_hideAll (trk h H) e
 refine ⟨e',?_⟩
 cases q:H b with
 | none=>rfl
 | some x =>
  have hm:b∈trk h H:=List.mem_filter.mpr ⟨List.mem_range.mpr (Heap.lt_size e'),by simp [q]⟩
  have z:(zge h H).get? b=none:=PySem.W.hideAll_none (trk h H) hm
  rw [z] at e;cases e
noncomputable def zt2 (g h:Heap) (L:Addr):List (Addr × Obj):=(List.range h.objs.size).filterMap λa=>if a=L\/(g.get? a).isSome=true then none else (h.get? a).map λo=>(a,o)
noncomputable def rest (g h:Heap) (L d:Addr):List (Addr × Obj):=(zt2 g h L).filter λp=>decide (p.1≠d)
def BMd (mg:Str->Option Value) (h:Heap):Prop:=∃bm ob,mg "__builtins__" = some (.ref bm)/\bm≠builtinsNs/\h.get? bm=some ob/\ob.cls=.type "module"/\ob.dict=some builtinsNs/\ob.data=.plain
structure Mod (K:QFg) (mg:Str->Option Value) (base:Heap):Prop where
 kin:K.In base
 glob:base.Ns mainGlobals mg
 blt:∃mb,base.Ns builtinsNs mb/\∀x:Str,x≠"__name__"->mb x=bootBuiltins x
 nolimit:base.NoLimit
 bm:BMd mg base
structure Cx where
 prog:Program
 w:World
 K:QFg
 mg:Str->Option Value
 base:Heap
 A:Around
 N:List Str
 s₀:Shared
 H₀:Hp
 env:Env
 outer:List Env
 stack:List Env
 ex:List Addr
 fn:Str->Bool
 calm:Bool
 pn:List (Addr × Obj)
 xe:Value->Shared->Prop
noncomputable def frs (l:List Env):List Addr:=l.filterMap (·.frame)
noncomputable abbrev Cx.fs (X:Cx):List Addr:=frs X.outer
def Vis (sc:Scope) (x:Str):Prop:=sc.names.lookup x=some .local\/sc.names.lookup x=some .cell\/sc.names.lookup x=some .free
def Loc (sc:Scope) (x:Str):Prop:=sc.names.lookup x=some .local\/sc.names.lookup x=some .cell
def zt3 (env:Env) (h:Heap) (m:Str->Option Value) (x:Str) (u:Value):Prop :=
 (env.kindOf x=some .local/\m x=some u)\/((env.kindOf x=some .cell\/env.kindOf x=some .free)/\∃c,env.cells.lookup x=some c/\h.IsCell c (some u))
structure Cx.Ok (X:Cx):Prop where
 mod:Mod X.K X.mg X.base
 kind:X.env.scope.kind=.function
 glob:X.env.globals=mainGlobals
 blt:X.env.builtins=builtinsNs
 above:X.s₀.heap.objs.size<=X.env.locals
 inj:∀x y c,X.env.cells.lookup x=some c->X.env.cells.lookup y=some c->x=y
 has:∀x,(X.env.kindOf x=some .cell\/X.env.kindOf x=some .free)->∃c,X.env.cells.lookup x=some c
 cab:∀x c,X.fn x=true->X.env.cells.lookup x=some c->X.s₀.heap.objs.size<=c
 hd:X.calm=true->X.A.handled=none
 frames:X.A.frames=some X.stack
 stk:X.stack=X.outer\/(X.stack=X.env :: X.outer/\X.env.frame=some X.env.locals)
 exf:∀b∈X.ex,b≠X.env.locals/\∀x c,X.env.cells.lookup x=some c->c≠b
 bs:∀b o,X.base.get? b=some o->X.s₀.heap.get? b=some o/\X.H₀ b=none
 bsz:X.base.objs.size<=X.s₀.heap.objs.size
 noex:∀b o,X.base.get? b=some o->b ∉ X.ex
 exfs:∀b∈X.ex,b ∉ X.fs
 funs:X.s₀.heap.FunFrames X.base X.outer
 frf:∀b∈X.fs,X.H₀ b=none
structure Inv (X:Cx) (pins:List (Addr × Obj)) (σ:List (Option V)) (H:Hp) (s:Shared):Prop where
 ok:X.Ok
 os:s.os=X.s₀.os
 bare:AllBare s.gens
 base:Un X.fs X.ex X.H₀ H X.s₀.heap s.heap
 loc:∃m,s.heap.Ns X.env.locals m/\∀(i:Nat) (x:Str) (v:V),X.N[i]? = some x->σ[i]? = some (some v)->Vis X.env.scope x->∃u,RelV v u/\zt3 X.env s.heap m x u
 cell:∀x c,X.env.cells.lookup x=some c->∃v,s.heap.IsCell c v
 free:H X.env.locals=none
 freeC:∀x c,X.env.cells.lookup x=some c->H c=none
 pin:∀p∈X.pn++pins,s.heap.get? p.1=some p.2/\H p.1=none/\p.1≠X.env.locals/\p.1 ∉ X.fs/\∀v,p.2.data≠.cell v
 hok:HOk X.prog X.w H s.heap
 len:σ.length=X.N.length
section
variable {X:Cx}{pins:List (Addr × Obj)}{σ:List (Option V)}{H H':Hp}{s:Shared}{h':Heap}
theorem Cx.Ok.nofr (ok:X.Ok) {b:Addr}{o:Obj}(e:X.base.get? b=some o):b ∉ X.fs:=λhb=>by
 have:=(ok.funs.mem hb).1
 rw [e] at this;cases this
theorem Inv.bs (I:Inv X pins σ H s):∀b o,X.base.get? b=some o->s.heap.get? b=some o/\H b=none:=λb o e =>
 ⟨I.base.keep b o (I.ok.bs b o e).1 (I.ok.bs b o e).2 (I.ok.nofr e) (I.ok.noex b o e),I.base.free b o (I.ok.bs b o e).1 (I.ok.bs b o e).2 (I.ok.noex b o e)⟩
theorem Inv.bk (I:Inv X pins σ H s):∀b o,X.base.get? b=some o->s.heap.get? b=some o:=λb o e=>(I.bs b o e).1
theorem Inv.mod (I:Inv X pins σ H s):Mod X.K X.mg X.base:=I.ok.mod
theorem Inv.kIn (I:Inv X pins σ H s):X.K.In s.heap:=I.ok.mod.kin.keeps I.bk
theorem Inv.lt (I:Inv X pins σ H s):X.env.locals<s.heap.objs.size:=let ⟨_,hn,_⟩:=I.loc;hn.lt
theorem Inv.sz (I:Inv X pins σ H s):X.s₀.heap.objs.size<=s.heap.objs.size:=Nat.le_trans I.ok.above (Nat.le_of_lt I.lt)
theorem Inv.nofs (I:Inv X pins σ H s) {a:Addr}(h:s.heap.objs.size<=a):a ∉ X.fs:=λhb=>by
 obtain ⟨_,o,ho,_⟩:=I.ok.funs.mem hb
 exact absurd (Nat.lt_of_lt_of_le (Heap.lt_size ho) (Nat.le_trans I.sz h)) (Nat.lt_irrefl _)
theorem Inv.cne (I:Inv X pins σ H s):∀x c,X.env.cells.lookup x=some c->c≠X.env.locals:=λx c e z=>by
 obtain ⟨v,o,ho,hd⟩:=I.cell x c e
 obtain ⟨m,⟨o',es,ep,ho',hd',_⟩,_⟩:=I.loc
 rw [z,ho'] at ho;cases ho;rw [hd'] at hd;cases hd
theorem Inv.funs (I:Inv X pins σ H s):s.heap.FunFrames X.base X.outer:=by
 have all:∀(l:List Env),(∀b∈frs l,b∈X.fs)->X.s₀.heap.FunFrames X.base l->s.heap.FunFrames X.base l:=by
  intro l
  induction l with
  | nil=>intro _ _;trivial
  | cons env r ih =>
   intro hs hl
   obtain ⟨hk,⟨L,o,hf,hn,ho,hd⟩,hr⟩:=hl
   have hL:L∈X.fs:=hs L (by unfold frs;rw [List.filterMap_cons,hf];exact List.mem_cons_self)
   obtain ⟨sl,e⟩:=I.base.slot L o ho (I.ok.frf L hL) hL λz=>I.ok.exfs L z hL
   exact ⟨hk,⟨L,_,hf,hn,e,hd⟩,ih (λb hb=>hs b (by unfold frs;rw [List.filterMap_cons,hf];exact List.mem_cons_of_mem _ hb)) hr⟩
 exact all X.outer (λ_ hb=>hb) I.ok.funs
theorem Inv.stack (I:Inv X pins σ H s):s.heap.FunFrames X.base X.stack:=by
 rcases I.ok.stk with e|⟨e,hf⟩
 ·rw [e];exact I.funs
 ·rw [e]
  obtain ⟨m,hn,_⟩:=I.loc
  refine .cons (by rw [I.ok.kind];decide) hf hn ?_ I.funs
  exact Heap.get?_none_of_le (Nat.le_trans I.ok.bsz I.ok.above)
theorem Inv.stkSub (I:Inv X pins σ H s):∀b∈frs X.stack,b∈X.env.locals :: X.fs:=λb hb=>by
 rcases I.ok.stk with e|⟨e,hf⟩
 ·rw [e] at hb;exact List.mem_cons_of_mem _ hb
 ·rw [e] at hb
  unfold frs at hb
  rw [List.filterMap_cons,hf] at hb
  exact hb
theorem Inv.stkFree (I:Inv X pins σ H s):∀b∈frs X.stack,H b=none:=λb hb=>by
 rcases List.mem_cons.mp (I.stkSub b hb) with e|hb
 ·rw [e];exact I.free
 ·obtain ⟨_,o,ho,_⟩:=I.ok.funs.mem hb
  exact I.base.free b o ho (I.ok.frf b hb) λz=>I.ok.exfs b z hb
theorem Inv.step {g':Array GenState}{t':Nat}{d':Drawn}{ch:List Addr}(I:Inv X pins σ H s)
  (hch:∀b∈ch,(b∈X.ex\/X.s₀.heap.objs.size<=b)/\b≠X.env.locals/\(∀x c,X.env.cells.lookup x=some c->c≠b)/\∀p∈X.pn++pins,p.1≠b)
  (keep:∀b o,b≠X.env.locals->b ∉ X.fs->b ∉ ch->s.heap.get? b=some o->H b=none->h'.get? b=some o)
  (slot:∀b o,b≠X.env.locals->b∈X.fs->b ∉ ch->s.heap.get? b=some o->H b=none->∃sl,h'.get? b=some { o with slots:=sl }) (free:∀b o,b ∉ ch->s.heap.get? b=some o->H b=none->H' b=none)
  (there:∀b o,b ∉ ch->s.heap.get? b=some o->∃o',h'.get? b=some o')
  (tups:∀b xs,H b=some (.tup xs)->H' b=some (.tup xs)) (frzs:∀b o u,H b=some (.frz o u)->H' b=some (.frz o u)) (tbls:∀b ps,H b=some (.tbl ps)->∃more,H' b=some (.tbl (ps++more)))
  (ns:∀m,s.heap.Ns X.env.locals m->h'.Ns X.env.locals m) (hok:HOk X.prog X.w H' h') (hg:AllBare g') :
  Inv X pins σ H' { s with heap:=h',gens:=g',drawn:=d',toks:=t' }:=by
 have neL:∀b o,X.s₀.heap.get? b=some o->b≠X.env.locals:=λb o e=>Nat.ne_of_lt (Nat.lt_of_lt_of_le (Heap.lt_size e) I.ok.above)
 have neC:∀b o,X.s₀.heap.get? b=some o->b ∉ X.ex->b ∉ ch:=λb o e hx hb=>by
  rcases (hch b hb).1 with z|z
  ·exact hx z
  ·exact absurd (Nat.lt_of_lt_of_le (Heap.lt_size e) z) (Nat.lt_irrefl _)
 have cellK:∀x c,X.env.cells.lookup x=some c->∀v,s.heap.IsCell c v->h'.IsCell c v:=λx c e v hx1_=>by
  obtain ⟨o,ho,hd⟩:=hx1_
  have nch:c ∉ ch:=λz=>(hch c z).2.2.1 x c e rfl
  by_cases hc:c∈X.fs
  ·obtain ⟨sl,q⟩:=slot c o (I.cne x c e) hc nch ho (I.freeC x c e)
   exact ⟨_,q,hd⟩
  ·exact ⟨o,keep c o (I.cne x c e) hc nch ho (I.freeC x c e),hd⟩
 refine ⟨I.ok,I.os,hg,⟨λb o e n hb hx=>?_,λb o e n hb hx=>?_,λb o e n hx=>?_,λb o e hx=>?_,λb xs e=>tups b xs (I.base.tups b xs e),λb o xs e=>frzs b o xs (I.base.frzs b o xs e),λb ps e=>?_⟩,?_,λx c e=>?_,?_,λx c e=>?_,λp hp=>?_,hok,I.len⟩
 ·exact keep b o (neL b o e) hb (neC b o e hx) (I.base.keep b o e n hb hx) (I.base.free b o e n hx)
 ·obtain ⟨sl,e1⟩:=I.base.slot b o e n hb hx
  obtain ⟨sl',e2⟩:=slot b _ (neL b o e) hb (neC b o e hx) e1 (I.base.free b o e n hx)
  exact ⟨sl',e2⟩
 ·obtain ⟨o',e1⟩:=I.base.there b o e hx
  exact free b o' (neC b o e hx) e1 (I.base.free b o e n hx)
 ·obtain ⟨o',e1⟩:=I.base.there b o e hx
  exact there b o' (neC b o e hx) e1
 ·obtain ⟨m1,e1⟩:=I.base.tbls b ps e
  obtain ⟨m2,e2⟩:=tbls b _ e1
  exact ⟨m1++m2,by rw [e2,Array.append_assoc]⟩
 ·obtain ⟨m,hn,hl⟩:=I.loc
  refine ⟨m,ns m hn,λi x v e1 e2 e3=>?_⟩
  obtain ⟨u,r,l⟩:=hl i x v e1 e2 e3
  refine ⟨u,r,?_⟩
  rcases l with l|⟨k,c,e,z⟩
  ·exact .inl l
  ·exact .inr ⟨k,c,e,cellK x c e _ z⟩
 ·obtain ⟨v,z⟩:=I.cell x c e
  exact ⟨v,cellK x c e v z⟩
 ·obtain ⟨m,⟨o,_,_,ho,_⟩,_⟩:=I.loc
  exact free _ o (λz=>(hch _ z).2.1 rfl) ho I.free
 ·obtain ⟨v,o,ho,hd⟩:=I.cell x c e
  exact free c o (λz=>(hch c z).2.2.1 x c e rfl) ho (I.freeC x c e)
 ·obtain ⟨e,n,ne,nf,d⟩:=I.pin p hp
  have nch:p.1 ∉ ch:=λz=>(hch p.1 z).2.2.2 p hp rfl
  exact ⟨keep p.1 p.2 ne nf nch e n,free p.1 p.2 nch e n,ne,nf,d⟩
theorem Inv.un {t':Nat}(I:Inv X pins σ H s) (u:Un X.fs [] H H' s.heap h') (hok:HOk X.prog X.w H' h'):Inv X pins σ H' { s with heap:=h',toks:=t' }:=by
 obtain ⟨m,⟨o,es,ep,ho,r⟩,_⟩:=id I.loc
 obtain ⟨sl,hL⟩:=u.any ho I.free (by simp)
 exact I.step (g':=s.gens) (d':=s.drawn) (ch:=[]) (λ_ z=>nomatch z) (λb o _ hb _ e n=>u.keep b o e n hb (by simp)) (λb o _ hb _ e n=>u.slot b o e n hb (by simp)) (λb o _ e n=>u.free b o e n (by simp)) (λb o _ e=>u.there b o e (by simp)) u.tups u.frzs u.tbls (λm' hm=>by
  obtain ⟨o',es',ep',ho',r'⟩:=hm
  rw [ho] at ho';cases ho'
  exact ⟨_,es',ep',hL,r'⟩) hok I.bare
theorem Inv.call {g':Array GenState}{t':Nat}{d':Drawn}{ch:List Addr}(I:Inv X pins σ H s) (u:Un (frs X.stack) ch H H' s.heap h') (hok:HOk X.prog X.w H' h') (hg:AllBare g')
  (hch:∀b∈ch,(b∈X.ex\/X.s₀.heap.objs.size<=b)/\b≠X.env.locals/\(∀x c,X.env.cells.lookup x=some c->c≠b)/\∀p∈X.pn++pins,p.1≠b) :
  Inv X pins σ H' { s with heap:=h',gens:=g',drawn:=d',toks:=t' }:=by
 obtain ⟨m,⟨o,es,ep,ho,r⟩,_⟩:=id I.loc
 obtain ⟨sl,hL⟩:=u.any ho I.free λz=>(hch _ z).2.1 rfl
 exact I.step (ch:=ch) hch (λb o hL hb hc e n=>u.keep b o e n (λz=>(List.mem_cons.mp (I.stkSub b z)).elim hL hb) hc) (λb o _ _ hc e n=>u.any e n hc) (λb o hc e n=>u.free b o e n hc) (λb o hc e=>u.there b o e hc) u.tups u.frzs u.tbls (λm' hm=>by
  obtain ⟨o',es',ep',ho',r'⟩:=hm
  rw [ho] at ho';cases ho'
  exact ⟨_,es',ep',hL,r'⟩) hok hg
theorem Inv.turned {t':Nat}{it:Addr}(I:Inv X pins σ H s) (k:∀b o,b≠it->s.heap.get? b=some o->h'.get? b=some o) (hn:H it=none) (hL:it≠X.env.locals)
  (h1:it∈X.ex\/X.s₀.heap.objs.size<=it) (h2:∀x c,X.env.cells.lookup x=some c->c≠it) (h3:∀p∈X.pn++pins,p.1≠it):Inv X pins σ H { s with heap:=h',toks:=t' }:=by
 have nit:∀b u,H b=some u->b≠it:=λb u e z=>by rw [z,hn] at e;cases e
 refine I.step (g':=s.gens) (d':=s.drawn) (ch:=[it]) (λb hb=>?_) (λb o _ _ hc e _=>k b o (λz=>hc (by simp [z])) e) (λb o _ _ hc e _=>⟨o.slots,k b o (λz=>hc (by simp [z])) e⟩) (λ_ _ _ _ n=>n)
  (λb o hc e=>⟨o,k b o (λz=>hc (by simp [z])) e⟩) (λ_ _ e=>e) (λ_ _ _ e=>e) (λb ps e=>⟨#[],by rw [e];simp⟩) (λm hm=>?_) (λb u e=>?_) I.bare
 ·have e:b=it:=by simpa using hb
  subst e
  exact ⟨h1,hL,h2,h3⟩
 ·obtain ⟨o,es,ep,ho,r⟩:=hm
  exact ⟨o,es,ep,k _ o (Ne.symm hL) ho,r⟩
 ·refine (I.hok b u e).stay (λc v hc q=>k c v ?_ q) (λ_ q=>q) λ_ _ q=>q
  rcases hc with z|z
  ·rw [z];exact nit b u e
  ·exact nit c _ z
theorem Inv.tok (I:Inv X pins σ H s) (t:Nat):Inv X pins σ H { s with toks:=t }:=I.un (h':=s.heap) (t':=t) Un.refl I.hok
theorem Inv.kept {t':Nat}(I:Inv X pins σ H s) (k:∀b u,s.heap.get? b=some u->h'.get? b=some u):Inv X pins σ H { s with heap:=h',toks:=t' }:=I.un (Un.kept k) (I.hok.kept k)
theorem Inv.laid {a:Addr}{o:HO}{t':Nat}(I:Inv X pins σ H s) (k:∀b u,s.heap.get? b=some u->h'.get? b=some u) (hp:s.heap.objs.size<=a) (new:ObjOk X.prog X.w (upd H a o) h' a o) :
  Inv X pins σ (upd H a o) { s with heap:=h',toks:=t' }:=I.un (Un.laid k hp (I.hok.fresh hp)) (I.hok.laid k hp new)
theorem Inv.write {x e:Addr}{o:HO}{t':Nat}(I:Inv X pins σ H s) (mu:Mut (H x)) (he:e=x\/H e=some (.own x)) (k:∀b u,b≠e->s.heap.get? b=some u->h'.get? b=some u) (heo:∃u,h'.get? e=some u)
  (new:ObjOk X.prog X.w (upd H x o) h' x o):Inv X pins σ (upd H x o) { s with heap:=h',toks:=t' }:=I.un (Un.write mu he k heo) (I.hok.write mu he k heo new)
theorem Inv.pins_of {pins':List (Addr × Obj)}(I:Inv X pins σ H s) (h:∀p∈pins',s.heap.get? p.1=some p.2/\H p.1=none/\p.1≠X.env.locals/\p.1 ∉ X.fs/\∀v,p.2.data≠.cell v):Inv X pins' σ H s :=
 ⟨I.ok,I.os,I.bare,I.base,I.loc,I.cell,I.free,I.freeC,λp hp=>(List.mem_append.mp hp).elim (λz=>I.pin p (List.mem_append_left _ z)) (h p),I.hok,I.len⟩
theorem zoa {N:List Str}(hN:N.Nodup) {i j:Nat}{x:Str}(a:N[i]? = some x) (b:N[j]? = some x):i=j:=by
 obtain ⟨h1,e1⟩:=qme a
 obtain ⟨h2,e2⟩:=qme b
 exact (List.getElem_inj hN).mp (e1.trans e2.symm)
theorem zlw {M:Model}{A:Around}{E:Value->Shared->Prop}{i:Nat}{x:Str}{v:V}{u:Value}{Q:Unit->Shared->Prop}(I:Inv X pins σ H s) (hN:X.N.Nodup) (hi:X.N[i]? = some x) (hx:Loc X.env.scope x) (r:RelV v u)
  (h:∀s',Inv X pins (σ.set i (some v)) H s'->(∃a,Heap.SameBut a s.heap s'.heap/\(a=X.env.locals\/X.env.cells.lookup x=some a))->Q () s') (hf:X.fn x=true\/X.env.scope.names.lookup x=some .local:=by first|exact .inl rfl|exact .inr rfl|assumption):wpAny M A (storeName X.env x u) Q E s:=by
 obtain ⟨m,hn,hl⟩:=id I.loc
 have hcls:(X.env.scope.kind == .class || (X.env.scope.kind == .module && X.env.locals != X.env.globals))=false:=by rw [I.ok.kind];rfl
 have hiσ:i<σ.length:=by rw [I.len];exact (qme hi).1
 have cne:=I.cne
 have tracked:∀{a:Addr} {h':Heap},(∃o,s.heap.get? a=some o/\H a=none)->Heap.SameBut a s.heap h'->HOk X.prog X.w H h':=λ{a h'} ha hs b ob e=>by
  obtain ⟨_,_,hfree⟩:=ha
  refine (I.hok b ob e).stay (λc w' hc q=>(hs.2 c ?_).trans q) (λ_ q=>q) λ_ _ q=>q
  rintro rfl
  rcases hc with rfl|hc
  ·rw [hfree] at e;cases e
  ·rw [hfree] at hc;cases hc
 rcases hx with hk|hk
 ·refine wpAny_storeName_local hk hn (λh' hn' hs=>?_) hcls
  obtain ⟨oL,_,_,hoL,_⟩:=id hn
  refine h _ ⟨I.ok,I.os,I.bare,⟨λb o e n hb hx=>?_,λb o e n hb hx=>?_,I.base.free,λb o e hx=>?_,I.base.tups,I.base.frzs,I.base.tbls⟩,⟨_,hn',λj y v' e1 e2 e3=>?_⟩,λy c e=>?_,I.free,I.freeC,λp hp=>?_,tracked ⟨oL,hoL,I.free⟩ hs,by simpa using I.len⟩ ⟨_,hs,.inl rfl⟩
  ·exact (hs.2 b (Nat.ne_of_lt (Nat.lt_of_lt_of_le (Heap.lt_size e) I.ok.above))).trans (I.base.keep b o e n hb hx)
  ·obtain ⟨sl,e1⟩:=I.base.slot b o e n hb hx
   exact ⟨sl,(hs.2 b (Nat.ne_of_lt (Nat.lt_of_lt_of_le (Heap.lt_size e) I.ok.above))).trans e1⟩
  ·obtain ⟨o',e1⟩:=I.base.there b o e hx
   exact ⟨o',(hs.2 b (Nat.ne_of_lt (Nat.lt_of_lt_of_le (Heap.lt_size e) I.ok.above))).trans e1⟩
  ·by_cases hj:j=i
   ·subst hj
    rw [hi] at e1;cases e1
    rw [List.getElem?_set_self hiσ] at e2
    cases e2
    exact ⟨u,r,.inl ⟨hk,by simp⟩⟩
   ·rw [List.getElem?_set_ne (Ne.symm hj)] at e2
    obtain ⟨u',r',q⟩:=hl j y v' e1 e2 e3
    refine ⟨u',r',?_⟩
    rcases q with ⟨k,e⟩|⟨k,c,e,z⟩
    ·refine .inl ⟨k,?_⟩
     have:y≠x:=λe=>hj (zoa hN e1 (e ▸ hi))
     simp [this,e]
    ·exact .inr ⟨k,c,e,z.sameBut hs (cne y c e)⟩
  ·obtain ⟨w',z⟩:=I.cell y c e
   exact ⟨w',z.sameBut hs (cne y c e)⟩
  ·obtain ⟨e,n,ne,nf,d⟩:=I.pin p hp
   exact ⟨(hs.2 p.1 ne).trans e,n,ne,nf,d⟩
 ·have hfn:X.fn x=true:=by
   rcases hf with z|z
   ·exact z
   ·rw [z] at hk;cases hk
  obtain ⟨c,hc⟩:=I.ok.has x (.inl hk)
  obtain ⟨w',z⟩:=I.cell x c hc
  refine wpAny_storeName_cell I.ok.kind hk hc z (λh' hc' hs=>?_)
  obtain ⟨oc,hoc,hocd⟩:=id z
  refine h { s with heap:=h' } ⟨I.ok,I.os,I.bare,⟨λb o e n hb hx=>?_,λb o e n hb hx=>?_,I.base.free,λb o e hx=>?_,I.base.tups,I.base.frzs,I.base.tbls⟩,⟨m,hn.sameBut hs (Ne.symm (cne x c hc)),λj y v' e1 e2 e3=>?_⟩,λy c' e=>?_,I.free,I.freeC,λp hp=>?_,tracked ⟨oc,hoc,I.freeC x c hc⟩ hs,by simpa using I.len⟩ ⟨c,hs,.inr hc⟩
  ·exact (hs.2 b (Nat.ne_of_lt (Nat.lt_of_lt_of_le (Heap.lt_size e) (I.ok.cab x c hfn hc)))).trans (I.base.keep b o e n hb hx)
  ·obtain ⟨sl,e1⟩:=I.base.slot b o e n hb hx
   exact ⟨sl,(hs.2 b (Nat.ne_of_lt (Nat.lt_of_lt_of_le (Heap.lt_size e) (I.ok.cab x c hfn hc)))).trans e1⟩
  ·obtain ⟨o',e1⟩:=I.base.there b o e hx
   exact ⟨o',(hs.2 b (Nat.ne_of_lt (Nat.lt_of_lt_of_le (Heap.lt_size e) (I.ok.cab x c hfn hc)))).trans e1⟩
  ·by_cases hj:j=i
   ·subst hj
    rw [hi] at e1;cases e1
    rw [List.getElem?_set_self hiσ] at e2
    cases e2
    exact ⟨u,r,.inr ⟨.inl hk,c,hc,hc'⟩⟩
   ·rw [List.getElem?_set_ne (Ne.symm hj)] at e2
    obtain ⟨u',r',q⟩:=hl j y v' e1 e2 e3
    refine ⟨u',r',?_⟩
    rcases q with q|⟨k,c',e,z'⟩
    ·exact .inl q
    ·refine .inr ⟨k,c',e,z'.sameBut hs ?_⟩
     rintro rfl
     exact hj (zoa hN e1 (I.ok.inj _ _ _ e hc ▸ hi))
  ·by_cases hcc:c' = c
   ·subst hcc;exact ⟨_,hc'⟩
   ·obtain ⟨w2,z2⟩:=I.cell y c' e
    exact ⟨w2,z2.sameBut hs hcc⟩
  ·obtain ⟨e,n,ne,nf,d⟩:=I.pin p hp
   refine ⟨(hs.2 p.1 ?_).trans e,n,ne,nf,d⟩
   intro q
   rw [q,hoc] at e
   have q':oc=p.2:=qoi e
   exact d w' (by rw [<-q'];exact hocd)
theorem zob {M:Model}{A:Around}{E:Value->Shared->Prop}{i:Nat}{x:Str}{v:V}{u:Value}{Q:Unit->Shared->Prop}(I:Inv X pins σ H s) (hN:X.N.Nodup) (hi:X.N[i]? = some x) (hx:Loc X.env.scope x) (r:RelV v u)
  (h:∀s',Inv X pins (σ.set i (some v)) H s'->Q () s') (hf:X.fn x=true\/X.env.scope.names.lookup x=some .local:=by first|exact .inl rfl|exact .inr rfl|assumption):wpAny M A (storeName X.env x u) Q E s :=
 zlw I hN hi hx r (λs' I' _=>h s' I') hf
theorem Inv.call' {s':Shared}{ch:List Addr}(I:Inv X pins σ H s) (ho:s'.os=s.os) (u:Un (frs X.stack) ch H H' s.heap s'.heap) (hok:HOk X.prog X.w H' s'.heap) (hg:AllBare s'.gens)
  (hch:∀b∈ch,(b∈X.ex\/X.s₀.heap.objs.size<=b)/\b≠X.env.locals/\(∀x c,X.env.cells.lookup x=some c->c≠b)/\∀p∈X.pn++pins,p.1≠b):Inv X pins σ H' s':=by
 obtain ⟨h',g',d',t',o'⟩:=s'
 have e:o' = s.os:=ho
 subst e
 exact I.call (g':=g') (t':=t') (d':=d') u hok hg hch
end
abbrev XK:=Value->Option Addr->Hp->Prop
abbrev St:=List (Option V)
abbrev VK:=V->Hp->Prop
abbrev TE:=St->Hp->VK->Prop
abbrev TT:=St->Hp->(Bool->Hp->Prop)->Prop
abbrev TA:=St->Hp->(List V->Hp->Prop)->Prop
structure Ends where
 nx:St->Hp->Prop
 rt:VK
 bk:St->Hp->Prop:=λ_ _=>False
 ct:St->Hp->Prop:=λ_ _=>False
abbrev TS:=Ends->St->Hp->Prop
def EP (X:Cx) (pins:List (Addr × Obj)) (σ:St) (Q:VK) (u:Value) (s':Shared):Prop:=∃v H',Inv X pins σ H' s'/\RelV v u/\Q v H'
def TP (X:Cx) (pins:List (Addr × Obj)) (σ:St) (Q:Bool->Hp->Prop) (b:Bool) (s':Shared):Prop:=∃H',Inv X pins σ H' s'/\Q b H'
def AP (X:Cx) (pins:List (Addr × Obj)) (σ:St) (Q:List V->Hp->Prop) (us:List Value) (s':Shared):Prop:=∃vs H',Inv X pins σ H' s'/\Vals vs us/\Q vs H'
def SP (X:Cx) (pins:List (Addr × Obj)) (D:Ends) (f:Flow) (s':Shared):Prop :=
 match f with
 | .next=>∃σ' H',Inv X pins σ' H' s'/\D.nx σ' H'
 | .brk=>∃σ' H',Inv X pins σ' H' s'/\D.bk σ' H'
 | .cont=>∃σ' H',Inv X pins σ' H' s'/\D.ct σ' H'
 | .ret u=>∃v σ' H',Inv X pins σ' H' s'/\RelV v u/\D.rt v H'
def PE (X:Cx) (e:Expr) (t:TE):Prop :=
 ∀(pins:List (Addr × Obj)) (s:Shared) (σ:St) (H:Hp) (Q:VK),Inv X pins σ H s->t σ H Q->wpAny (model X.prog X.w) X.A (eval e X.env) (EP X pins σ Q) X.xe s
def PT (X:Cx) (e:Expr) (t:TT):Prop :=
 ∀(pins:List (Addr × Obj)) (s:Shared) (σ:St) (H:Hp) (Q:Bool->Hp->Prop),Inv X pins σ H s->t σ H Q->wpAny (model X.prog X.w) X.A (isTrue e X.env (eval e X.env)) (TP X pins σ Q) X.xe s
def PW (X:Cx) (e:Expr) (t:TT):Prop :=
 ∀(whole:Sem Value) (pins:List (Addr × Obj)) (s:Shared) (σ:St) (H:Hp) (Q:Bool->Hp->Prop),Inv X pins σ H s->t σ H Q->wpAny (model X.prog X.w) X.A (isTrue e X.env whole) (TP X pins σ Q) X.xe s
theorem PW.pt {X:Cx}{e:Expr}{t:TT}(h:PW X e t):PT X e t:=h _
def PA (X:Cx) (es:List Expr) (t:TA):Prop :=
 ∀(pos:Pos) (pins:List (Addr × Obj)) (s:Shared) (σ:St) (H:Hp) (Q:List V->Hp->Prop),Inv X pins σ H s->t σ H Q->wpAny (model X.prog X.w) X.A (spliced (backTo pos (starEach es X.env))) (AP X pins σ Q) X.xe s
def PS (X:Cx) (st:Stmt) (t:TS):Prop :=
 ∀(pins:List (Addr × Obj)) (s:Shared) (σ:St) (H:Hp) (D:Ends),Inv X pins σ H s->t D σ H->wpAny (model X.prog X.w) X.A (exec st X.env) (SP X pins D) X.xe s
def PSs (X:Cx) (st:List Stmt) (t:TS):Prop :=
 ∀(pins:List (Addr × Obj)) (s:Shared) (σ:St) (H:Hp) (D:Ends),Inv X pins σ H s->t D σ H->wpAny (model X.prog X.w) X.A (execs st X.env) (SP X pins D) X.xe s
theorem thn {α:Type}{t:Sem α}{Q Q':α->Shared->Prop}{M:Model}{A:Around}{E:Value->Shared->Prop}{s:Shared}(h:wpAny M A t Q E s) (hQ:∀a s,Q a s->Q' a s):wpAny M A t Q' E s:=wpAny_mono h hQ λ_ _ x=>x
section
variable {X:Cx}
def zt4 (i:Nat):TE:=λσ H Q=>∃v,σ[i]? = some (some v)/\Q v H
def tC (v:V):TE:=λ_ H Q=>Q v H
theorem zt5 {i:Nat}{x:Str}{pos:Pos}(hN:X.N[i]? = some x) (hv:Vis X.env.scope x) (hd:(x == ("__debug__":Str))=false:=by decide) (hcd:(x == ("__classdict__":Str))=false:=by decide):PE X (.Name x pos) (zt4 i):=by
 intro pins s σ H Q I h
 obtain ⟨v,e,h⟩:=h
 obtain ⟨m,hn,hl⟩:=I.loc
 obtain ⟨u,r,l⟩:=hl i x v hN e hv
 have fin:EP X pins σ Q u s:=⟨v,H,I,r,h⟩
 rcases l with ⟨hk,hm⟩|⟨hk,c,hc,hcell⟩
 ·exact wpAny_Name (wpAny_loadName_local I.ok.kind hk hn hm fin) hd
 ·rcases hk with hk|hk
  ·exact wpAny_Name (wpAny_loadName_cell I.ok.kind hk hc hcell fin) hd
  ·exact wpAny_Name (wpAny_loadName_free I.ok.kind hk hc hcell fin hcd) hd
theorem zoc {i j pos}:PE X (.Constant (.int i) j pos) (tC (.int i)):=λ_ _ _ H _ I h=>wpAny_Constant_int ⟨.int i,H,I.tok _,⟨_,rfl⟩,h⟩
theorem zt6 {b j pos}:PE X (.Constant (.bool b) j pos) (tC (.bl b)):=λ_ _ _ H _ I h=>Constant_bool ⟨.bl b,H,I,rfl,h⟩
theorem zt7 {j pos}:PE X (.Constant .none j pos) (tC .non):=λ_ _ _ H _ I h=>Constant_none ⟨.non,H,I,rfl,h⟩
theorem zt8 {x j pos}:PE X (.Constant (.str x) j pos) (tC (.str x)):=λ_ _ _ H _ I h=>Calls.Constant_str ⟨.str x,H,I.tok _,⟨_,rfl⟩,h⟩
def Gl (X:Cx) (x:Str):Prop:=X.env.kindOf x=some .globalImplicit
theorem zt9 {E:Value->Shared->Prop}{pins:List (Addr × Obj)}{s:Shared}{σ:St}{H:Hp}{x:Str}{u:Value}{pos:Pos}{Q:Value->Shared->Prop}(I:Inv X pins σ H s) (hg:Gl X x) (hm:X.mg x=some u) (h:Q u s)
  (hd:(x == ("__debug__":Str))=false:=by decide):wpAny (model X.prog X.w) X.A (eval (.Name x pos) X.env) Q E s :=
 Calls.Name_function_global I.ok.kind hg (Calls.loadGlobal_global (by rw [I.ok.glob];exact I.mod.glob.keeps I.bk) hm h) hd
theorem zgz {E:Value->Shared->Prop}{pins:List (Addr × Obj)}{s:Shared}{σ:St}{H:Hp}{x:Str}{u:Value}{pos:Pos}{Q:Value->Shared->Prop}(I:Inv X pins σ H s) (hg:Gl X x) (hm:X.mg x=none) (hv:bootBuiltins x=some u) (h:Q u s)
  (hn:x≠"__name__":=by decide) (hd:(x == ("__debug__":Str))=false:=by decide):wpAny (model X.prog X.w) X.A (eval (.Name x pos) X.env) Q E s:=by
 obtain ⟨mb,h1,h2⟩:=I.mod.blt
 exact Calls.Name_function_global I.ok.kind hg (Calls.loadGlobal_builtin (by rw [I.ok.glob];exact I.mod.glob.keeps I.bk) hm (by rw [I.ok.blt];exact h1.keeps I.bk) ((h2 x hn).trans hv) h) hd
theorem zod {x:Str}{v:V}{u:Value}{pos:Pos}(hg:Gl X x) (hm:X.mg x=none) (hv:bootBuiltins x=some u) (r:RelV v u) (hn:x≠"__name__":=by decide) (hd:(x == ("__debug__":Str))=false:=by decide):PE X (.Name x pos) (tC v) :=
 λ_ _ _ H _ I h=>zgz I hg hm hv ⟨v,H,I,r,h⟩ hn hd
variable {a b:Expr}{ta tb:TE}{pos:Pos}
def tB (t:TE):TT:=λσ H Q=>t σ H λx H1=>∃c,x=.bl c/\Q c H1
theorem zua {e:Expr}{t:TE}(h:PE X e t) (he:∀whole,isTrue e X.env whole=(do let v <-whole;standAt e.pos;holding [v] (truthy v)):=by intro _;rfl):PT X e (tB t):=by
 intro pins s σ H Q I hw
 refine isTrue_plain (thn (h pins s σ H _ I hw) λv s1 ⟨x,H1,I1,r1,q1⟩=>?_) (he _)
 obtain ⟨d,rfl,q⟩:=q1
 cases r1
 exact wpAny_truthy_bool ⟨H1,I1,q⟩
variable {tA tB':TT}{rest:List Expr}
def tAnd (t u:TT):TT:=λσ H Q=>t σ H λc H1=>if c=true then u σ H1 Q else Q false H1
def tOr (t u:TT):TT:=λσ H Q=>t σ H λc H1=>if c=true then Q true H1 else u σ H1 Q
def zub (t:TT):TT:=λσ H Q=>t σ H λc H1=>Q (!c) H1
theorem zuc (ha:PT X a tA):PW X (.BoolOp .And [a] pos) tA:=by
 intro wh pins s σ H Q I h
 refine isTrue_and (thn (ha pins s σ H Q I h) λc s1 e=>?_)
 cases c with
 | true=>exact isTrue_and_nil e
 | false=>exact e
theorem zud (ha:PT X a tA):PW X (.BoolOp .Or [a] pos) tA:=by
 intro wh pins s σ H Q I h
 refine isTrue_or (thn (ha pins s σ H Q I h) λc s1 e=>?_)
 cases c with
 | false=>exact isTrue_or_nil e
 | true=>exact e
theorem zue (ha:PT X a tA) (hb:PW X (.BoolOp .And (b :: rest) pos) tB'):PW X (.BoolOp .And (a :: b :: rest) pos) (tAnd tA tB'):=by
 intro wh pins s σ H Q I h
 refine isTrue_and (thn (ha pins s σ H _ I h) λc s1 ⟨H1,I1,q1⟩=>?_)
 cases c with
 | true=>exact hb wh pins s1 σ H1 Q I1 q1
 | false=>exact ⟨H1,I1,q1⟩
theorem zuf (ha:PT X a tA) (hb:PW X (.BoolOp .Or (b :: rest) pos) tB'):PW X (.BoolOp .Or (a :: b :: rest) pos) (tOr tA tB'):=by
 intro wh pins s σ H Q I h
 refine isTrue_or (thn (ha pins s σ H _ I h) λc s1 ⟨H1,I1,q1⟩=>?_)
 cases c with
 | true=>exact ⟨H1,I1,q1⟩
 | false=>exact hb wh pins s1 σ H1 Q I1 q1
theorem zug (ha:PT X a tA):PT X (.UnaryOp .Not a pos) (zub tA):=by
 intro pins s σ H Q I h
 exact isTrue_not (ha pins s σ H (λc H1=>Q (!c) H1) I h)
def zuh (ta tb:TE):TE:=λσ H Q=>ta σ H λx H1=>∃c,x=.bl c/\if c=true then tb σ H1 Q else Q (.bl false) H1
def zui (ta:TE):TE:=λσ H Q=>ta σ H λx H1=>∃c,x=.bl c/\Q (.bl (!c)) H1
theorem zuj {op}{t:TE}(h:PE X a t):PE X (.BoolOp op [a] pos) t:=λpins s σ H Q I hw=>BoolOp_one (h pins s σ H Q I hw)
theorem zuk (ha:PE X a ta) (hb:PE X (.BoolOp .And (b :: rest) pos) tb):PE X (.BoolOp .And (a :: b :: rest) pos) (zuh ta tb):=by
 intro pins s σ H Q I h
 refine BoolOp_and (thn (ha pins s σ H _ I h) λv s1 ⟨x,H1,I1,r1,q1⟩=>?_)
 obtain ⟨c,rfl,q1⟩:=q1
 cases r1
 refine wpAny_truthy_bool ?_
 cases c with
 | true=>exact hb pins s1 σ H1 Q I1 q1
 | false=>exact ⟨.bl false,H1,I1,rfl,q1⟩
theorem zul (ha:PE X a ta):PE X (.UnaryOp .Not a pos) (zui ta):=by
 intro pins s σ H Q I h
 refine UnaryOp_ (thn (ha pins s σ H _ I h) λv s1 ⟨x,H1,I1,r1,q1⟩=>?_)
 obtain ⟨c,rfl,q1⟩:=q1
 cases r1
 exact not_of (wpAny_truthy_bool ⟨.bl (!c),H1,I1,rfl,q1⟩)
def tIf (t:TT) (ta tb:TE):TE:=λσ H Q=>t σ H λc H1=>if c=true then ta σ H1 Q else tb σ H1 Q
theorem zum {c:Expr}(hc:PT X c tA) (ha:PE X a ta) (hb:PE X b tb):PE X (.IfExp c a b pos) (tIf tA ta tb):=by
 intro pins s σ H Q I h
 refine wpAny_IfExp (thn (hc pins s σ H _ I h) λd s1 ⟨H1,I1,q1⟩=>?_)
 cases d with
 | true=>exact ha pins s1 σ H1 Q I1 q1
 | false=>exact hb pins s1 σ H1 Q I1 q1
end
def SqL (K:QFg) (H:Hp) (a:Addr) (xs:List V):Prop :=
 Rd H a (.lst xs) \/
  ∃(o:Obj) (its:Array Value) (n:Nat),K.lookup a=some o/\o.cls=.type "list"/\o.dict=none/\o.data=.seq its n/\its.size<=sizeLine/\Vals xs its.toList
def SqT (K:QFg) (H:Hp) (a:Addr) (xs:List V):Prop :=
 Rd H a (.tup xs) \/
  ∃(o:Obj) (its:Array Value) (n:Nat),K.lookup a=some o/\o.cls=.type "tuple"/\o.data=.seq its n/\its.size<=sizeLine/\Vals xs its.toList
noncomputable def zun:Value->Option V
 | .none=>some .non
 | .bool b=>some (.bl b)
 | .int i _=>some (.int i)
 | .str x _=>some (.str x)
 | .bytes b _=>some (.byt b)
 | .float b _=>some (.flt b)
 | .ref a=>some (.ref a)
 | .type n=>some (.ty n)
 | _=>none
theorem RelV.abs {x:V}{u:Value}(r:RelV x u):zun u=some x:=by
 cases x with
 | non=>cases r;rfl
 | bl _=>cases r;rfl
 | int _=>obtain ⟨t,rfl⟩:=r;rfl
 | str _=>obtain ⟨t,rfl⟩:=r;rfl
 | byt _=>obtain ⟨t,rfl⟩:=r;rfl
 | flt _=>obtain ⟨t,rfl⟩:=r;rfl
 | ref _=>cases r;rfl
 | ty _=>cases r;rfl
theorem RelV.inj {x y:V}{u:Value}(r:RelV x u) (q:RelV y u):x=y:=qoi (r.abs.symm.trans q.abs)
theorem Vals.inj:∀{xs ys:List V}{us:List Value},Vals xs us->Vals ys us->xs=ys
 | _,_,_,.nil,.nil=>rfl
 | _,_,_,.cons r t,.cons r' t'=>by rw [r.inj r',Vals.inj t t']
section
variable {X:Cx}{pins:List (Addr × Obj)}{σ:St}{H:Hp}{s:Shared}{a:Addr}{xs ys:List V}
theorem SqT.of {K:QFg}(h:H a=some (.tup xs)):SqT K H a xs:=.inl (.inl h)
theorem Inv.list (I:Inv X pins σ H s) (h:SqL X.K H a xs):∃its:List Value,Vals xs its/\PlainL s.heap a its.toArray/\xs.length<=sizeLine:=by
 rcases h with h|⟨o,its,n,hk,hc,hd,hs,hz,r⟩
 ·obtain ⟨z,its,n,r,e⟩:=h.ok I.hok
  exact ⟨its,r,⟨_,n,e,rfl,rfl,rfl⟩,z⟩
 ·refine ⟨its.toList,r,⟨o,n,I.kIn a o hk,hc,hd,by simpa using hs⟩,?_⟩
  have e:=r.length
  simp only [Array.length_toList] at e
  omega
theorem Inv.tuple (I:Inv X pins σ H s) (h:SqT X.K H a xs):∃its:List Value,Vals xs its/\IsTup s.heap a its.toArray/\xs.length<=sizeLine:=by
 rcases h with h|⟨o,its,n,hk,hc,hs,hz,r⟩
 ·obtain ⟨z,its,r,p⟩:=h.ok I.hok
  exact ⟨its,r,p.tup,z⟩
 ·refine ⟨its.toList,r,⟨o,I.kIn a o hk,hc,n,by simpa using hs⟩,?_⟩
  have e:=r.length
  simp only [Array.length_toList] at e
  omega
theorem Inv.list_inj (I:Inv X pins σ H s) (h:SqL X.K H a xs) (h':SqL X.K H a ys):xs=ys:=by
 obtain ⟨its,r,⟨o,n,e,_,_,d⟩,_⟩:=I.list h
 obtain ⟨its',r',⟨o',n',e',_,_,d'⟩,_⟩:=I.list h'
 rw [e] at e';cases e'
 rw [d] at d'
 injection d' with d1 _
 have:its=its':=by simpa using congrArg Array.toList d1
 subst this
 exact r.inj r'
theorem Inv.tuple_inj (I:Inv X pins σ H s) (h:SqT X.K H a xs) (h':SqT X.K H a ys):xs=ys:=by
 obtain ⟨its,r,⟨o,e,_,n,d⟩,_⟩:=I.tuple h
 obtain ⟨its',r',⟨o',e',_,n',d'⟩,_⟩:=I.tuple h'
 rw [e] at e';cases e'
 rw [d] at d'
 injection d' with d1 _
 have:its=its':=by simpa using congrArg Array.toList d1
 subst this
 exact r.inj r'
end
noncomputable abbrev Cx.wish (X:Cx) (E:Value->Shared->Prop):Cx:={ X with xe:=E }
noncomputable abbrev Cx.nox (X:Cx):Cx:=X.wish λ_ _=>False
theorem Cx.Ok.wish {X:Cx}(ok:X.Ok) (E:Value->Shared->Prop):(X.wish E).Ok :=
 ⟨ok.mod,ok.kind,ok.glob,ok.blt,ok.above,ok.inj,ok.has,ok.cab,ok.hd,ok.frames,ok.stk,ok.exf,ok.bs,ok.bsz,ok.noex,ok.exfs,ok.funs,ok.frf⟩
theorem Cx.Ok.unwish {X:Cx}{E:Value->Shared->Prop}(ok:(X.wish E).Ok):X.Ok :=
 ⟨ok.mod,ok.kind,ok.glob,ok.blt,ok.above,ok.inj,ok.has,ok.cab,ok.hd,ok.frames,ok.stk,ok.exf,ok.bs,ok.bsz,ok.noex,ok.exfs,ok.funs,ok.frf⟩
section
variable {X:Cx}{pins:List (Addr × Obj)}{σ:St}{H:Hp}{s:Shared}{E:Value->Shared->Prop}
theorem Inv.wish (I:Inv X pins σ H s) (E:Value->Shared->Prop):Inv (X.wish E) pins σ H s:=⟨I.ok.wish E,I.os,I.bare,I.base,I.loc,I.cell,I.free,I.freeC,I.pin,I.hok,I.len⟩
theorem Inv.unwish (I:Inv (X.wish E) pins σ H s):Inv X pins σ H s:=⟨I.ok.unwish,I.os,I.bare,I.base,I.loc,I.cell,I.free,I.freeC,I.pin,I.hok,I.len⟩
theorem SP.unwish {D:Ends}{f:Flow}{s':Shared}(h:SP (X.wish E) pins D f s'):SP X pins D f s':=by
 cases f with
 | next=>obtain ⟨σ',H',I,q⟩:=h;exact ⟨σ',H',I.unwish,q⟩
 | brk=>obtain ⟨σ',H',I,q⟩:=h;exact ⟨σ',H',I.unwish,q⟩
 | cont=>obtain ⟨σ',H',I,q⟩:=h;exact ⟨σ',H',I.unwish,q⟩
 | ret u=>obtain ⟨v,σ',H',I,r,q⟩:=h;exact ⟨v,σ',H',I.unwish,r,q⟩
theorem PSs.nox {st:List Stmt}{t:TS}(h:PSs X.nox st t):PSs X st t:=λpins s σ H D I hw =>
 wpAny_mono (h pins s σ H D (I.wish _) hw) (λ_ _ q=>q.unwish) λ_ _ z=>False.elim z
end
section
variable {X:Cx}{st:Stmt}{rest:List Stmt}{t u:TS}{e:Expr}{te:TE}{pos:Pos}
def zuo:TS:=λD σ H=>D.nx σ H
def zup (t u:TS):TS:=λD σ H=>t { D with nx:=u D } σ H
theorem zuq:PSs X [] zuo:=λ_ _ σ H _ I h=>wpAny_execs_nil ⟨σ,H,I,h⟩
theorem zur (h1:PS X st t) (h2:PSs X rest u):PSs X (st :: rest) (zup t u):=by
 intro pins s σ H D I h
 refine wpAny_execs_cons (thn (h1 pins s σ H { D with nx:=u D } I h) λf s1 q=>?_)
 cases f with
 | next =>
  obtain ⟨σ',H',I',q⟩:=q
  exact h2 pins s1 σ' H' D I' q
 | ret v=>exact q
 | brk=>exact q
 | cont=>exact q
theorem zus (h1:PS X st t):PSs X [st] t:=by
 intro pins s σ H D I h
 refine wpAny_execs_cons (thn (h1 pins s σ H D I h) λf s1 q=>?_)
 cases f with
 | next=>exact wpAny_execs_nil q
 | ret v=>exact q
 | brk=>exact q
 | cont=>exact q
theorem Inv.quiet {pins:List (Addr × Obj)}{σ:St}{H:Hp}{s:Shared}(I:Inv X pins σ H s):interactive X.env=false:=by simp [interactive,I.ok.kind]
def zut (te:TE):TS:=λD σ H=>te σ H λ_ H1=>D.nx σ H1
theorem zuu (he:PE X e te) (hs:swapsWith e none pos.line X.env=pure false:=by rfl):PS X (.Expr e pos) (zut te):=by
 intro pins s σ H D I h
 exact wpAny_Expr_any (thn (he pins s σ H _ I h) λv s1 ⟨x,H1,I1,r1,q1⟩=>⟨σ,H1,I1,q1⟩) I.quiet hs
def zuv (te:TE):TS:=λD σ H=>te σ H D.rt
theorem zuw (he:PE X e te):PS X (.Return (some e) pos) (zuv te):=by
 intro pins s σ H D I h
 exact wpAny_Return_some (thn (he pins s σ H _ I h) λv s1 ⟨x,H1,I1,r1,q1⟩=>⟨x,σ,H1,I1,r1,q1⟩)
def zux (c:TT) (t u:TS):TS:=λD σ H=>c σ H λb H1=>if b=true then t D σ H1 else u D σ H1
theorem zuy {c:Expr}{a b:List Stmt}{tc:TT}(hc:PT X c tc) (ha:PSs X a t) (hb:PSs X b u):PS X (.If c a b pos) (zux tc t u):=by
 intro pins s σ H D I h
 refine wpAny_If (thn (hc pins s σ H _ I h) λd s1 ⟨H1,I1,q1⟩=>?_)
 cases d with
 | true=>exact ha pins s1 σ H1 D I1 q1
 | false=>exact hb pins s1 σ H1 D I1 q1
def zuz:TS:=λ_ _ _=>False
theorem zu0:PS X st zuz:=λ_ _ _ _ _ _ h=>h.elim
end
abbrev TG:=V->St->Hp->(St->Hp->Prop)->Prop
abbrev TGs:=List V->St->Hp->(St->Hp->Prop)->Prop
def PG (X:Cx) (target:Expr) (t:TG):Prop :=
 ∀(pins:List (Addr × Obj)) (s:Shared) (σ:St) (H:Hp) (v:V) (u:Value) (Q:St->Hp->Prop),Inv X pins σ H s->RelV v u->t v σ H Q ->
  wpAny (model X.prog X.w) X.A (assign target X.env u) (λ_ s'=>∃σ' H',Inv X pins σ' H' s'/\Q σ' H') X.xe s
def PGs (X:Cx) (ts:List Expr) (t:TGs):Prop :=
 ∀(pins:List (Addr × Obj)) (s:Shared) (σ:St) (H:Hp) (vs:List V) (us:List Value) (Q:St->Hp->Prop),Inv X pins σ H s->Vals vs us->t vs σ H Q ->
  wpAny (model X.prog X.w) X.A (assignInOrder ((assignEach ts X.env).map (·.2)) us) (λ_ s'=>∃σ' H',Inv X pins σ' H' s'/\Q σ' H') X.xe s
abbrev TSet:=V->V->V->Hp->(Hp->Prop)->Prop
def zoe (X:Cx) (t:TSet):Prop :=
 ∀(pins:List (Addr × Obj)) (s:Shared) (σ:St) (H:Hp) (o i v:V) (ov iv u:Value) (Q:Hp->Prop),Inv X pins σ H s->RelV o ov->RelV i iv->RelV v u->t o i v H Q ->
  wpAny (model X.prog X.w) X.A (setItem ov iv u) (λ_ s'=>∃H',Inv X pins σ H' s'/\Q H') X.xe s
section
variable {X:Cx}{pos:Pos}
def zj7 (i:Nat):TG:=λv σ H Q=>Q (σ.set i (some v)) H
theorem zu1 {i:Nat}{x:Str}(hN:X.N.Nodup) (hi:X.N[i]? = some x) (hx:Loc X.env.scope x) (hf:X.fn x=true\/X.env.scope.names.lookup x=some .local:=by first|exact .inl rfl|exact .inr rfl|assumption):PG X (.Name x pos) (zj7 i):=by
 intro pins s σ H v u Q I r h
 exact wpAny_assign_Name (zob I hN hi hx r (λs' I'=>⟨_,H,I',h⟩) hf)
def zu2:TGs:=λvs σ H Q=>vs=[]/\Q σ H
def zu3 (t:TG) (u:TGs):TGs:=λvs σ H Q=>∃v r,vs=v :: r/\t v σ H λσ' H'=>u r σ' H' Q
theorem zu4:PGs X [] zu2:=by
 intro pins s σ H vs us Q I r h
 obtain ⟨e,h⟩:=h
 subst e
 cases r
 exact assignInOrder_nil ⟨σ,H,I,h⟩
theorem zu5 {e:Expr}{es:List Expr}{t:TG}{u:TGs}(h1:PG X e t) (h2:PGs X es u)
  (hs:(assignEach (e :: es) X.env).map (·.2)=assign e X.env :: (assignEach es X.env).map (·.2):=by rfl):PGs X (e :: es) (zu3 t u):=by
 intro pins s σ H vs us Q I r h
 obtain ⟨v,vr,e1,h⟩:=h
 subst e1
 cases r with
 | cons r rr =>
  rw [hs]
  refine assignInOrder_cons (thn (h1 pins s σ H _ _ _ I r h) λ_ s1 ⟨σ1,H1,I1,q1⟩=>?_)
  exact h2 pins s1 σ1 H1 _ _ Q I1 rr q1
def zu6 (K:QFg) (n:Nat) (t:TGs):TG:=λv σ H Q=>∃a xs,v=.ref a/\SqT K H a xs/\xs.length=n/\t xs σ H Q
theorem zu7 {es:List Expr}{k:Nat}{t:TGs}{n:Nat}(hc:X.calm=true) (h:PGs X es t)
  (hn:(assignEach es X.env).length=n:=by rfl) (hst:(assignEach es X.env).findIdx? (·.1)=none:=by rfl):PG X (.Tuple es k pos) (zu6 X.K n t):=by
 intro pins s σ H v u Q I r hw
 obtain ⟨a,xs,e1,hq,hl,hw⟩:=hw
 subst e1
 cases r
 obtain ⟨its,rv,ht,hz⟩:=I.tuple hq
 refine assign_Tuple_tuple (I.ok.hd hc) ht (by simp [hn,<-hl,rv.length]) hst λh' hx=>?_
 have I1:Inv X pins σ H { s with heap:=h' }:=I.kept (t':=s.toks) λb o e=>hx b o (Nat.ne_of_lt (Heap.lt_size e)) e
 exact h pins _ σ H xs _ Q I1 (by simpa using rv) hw
def zu8 (to ti:TE) (t:TSet):TG:=λv σ H Q=>to σ H λo H1=>ti σ H1 λi H2=>t o i v H2 λH3=>Q σ H3
theorem zu9 {o i:Expr}{to ti:TE}{t:TSet}(ho:PE X o to) (hi:PE X i ti) (hs:zoe X t)
  (ha:∀v,assign (.Subscript o i pos) X.env v=(do
   let ov <-holding [v] (eval o X.env)
   let iv <-holding [v,ov] (eval i X.env)
   standAt pos
   holding [v,ov,iv] (setItem ov iv v)
   release [v,ov,iv] []):=by intro _;rfl):PG X (.Subscript o i pos) (zu8 to ti t):=by
 intro pins s σ H v u Q I r h
 rw [ha]
 refine qwb (wpAny_holding (thn (ho pins s σ H _ I h) λov s1 ⟨x,H1,I1,r1,q1⟩=>?_))
 refine qwb (wpAny_holding (thn (hi pins s1 σ H1 _ I1 q1) λiv s2 ⟨y,H2,I2,r2,q2⟩=>?_))
 refine qwb (wpAny_standAt (qwb (wpAny_holding (thn (hs pins s2 σ H2 x y v ov iv u _ I2 r1 r2 r q2) λ_ s3 ⟨H3,I3,q3⟩=>?_))))
 exact wpAny_release ⟨σ,H3,I3,q3⟩
def zj8 (te:TE) (g:TG):TS:=λD σ H=>te σ H λx H1=>g x σ H1 D.nx
theorem zva {tg e:Expr}{te:TE}{g:TG}(he:PE X e te) (hg:PG X tg g) (hs:swapsWithSole [tg] e pos.line X.env=pure false:=by rfl) (hw:swappedStores [tg] e X.env=pure none:=by rfl)
  (h1:(assignEach [tg] X.env).map (·.2)=[assign tg X.env]:=by rfl):PS X (.Assign [tg] e pos) (zj8 te g):=by
 intro pins s σ H D I h
 refine wpAny_Assign_stores (thn (he pins s σ H _ I h) λv s1 ⟨x,H1,I1,r1,q1⟩=>?_) hs hw
 rw [h1]
 exact thn (hg pins s1 σ H1 x v _ I1 r1 q1) λ_ s2 q=>q
theorem zvb {i:Nat}{x:Str}{e:Expr}{te:TE}{pos':Pos}(hN:X.N.Nodup) (hi:X.N[i]? = some x) (hx:Loc X.env.scope x) (he:PE X e te) (hs:swapsWith e (some (.Name x pos')) pos.line X.env=pure false:=by rfl) (hf:X.fn x=true\/X.env.scope.names.lookup x=some .local:=by first|exact .inl rfl|exact .inr rfl|assumption) :
  PS X (.Assign [.Name x pos'] e pos) (zj8 te (zj7 i)):=by
 intro pins s σ H D I h
 refine wpAny_Assign_Name (thn (he pins s σ H _ I h) λv s1 ⟨y,H1,I1,r1,q1⟩=>?_) hs
 exact zob I1 hN hi hx r1 (λs2 I2=>⟨_,H1,I2,q1⟩) hf
end
section
variable {X:Cx}{pos:Pos}
end
structure It where
 go:Nat->Hp->Prop
 yld:Nat->Hp->V->Hp->Prop
 stop:Nat->Hp->Prop
def zcz (X:Cx) (pins:List (Addr × Obj)) (H:Hp) (b:Addr):Prop :=
 H b=none/\b≠X.env.locals/\b ∉ X.fs/\(b∈X.ex\/X.s₀.heap.objs.size<=b)/\(∀x c,X.env.cells.lookup x=some c->c≠b)/\∀p∈X.pn++pins,p.1≠b
theorem Inv.fpOk {X:Cx}{pins:List (Addr × Obj)}{σ:St}{H H':Hp}{s:Shared}{b:Addr}(I:Inv X pins σ H s) (hb:s.heap.objs.size<=b) (hn:H' b=none):zcz X pins H' b:=by
 refine ⟨hn,Nat.ne_of_gt (Nat.lt_of_lt_of_le I.lt hb),I.nofs hb,.inr (Nat.le_trans I.sz hb),λx c e z=>?_,λp hp z=>?_⟩
 ·obtain ⟨v,q⟩:=I.cell x c e
  exact absurd (Nat.lt_of_lt_of_le q.lt (by rw [z];exact hb)) (Nat.lt_irrefl _)
 ·exact absurd (Nat.lt_of_lt_of_le (Heap.lt_size (I.pin p hp).1) (by rw [z];exact hb)) (Nat.lt_irrefl _)
structure Turn (P:Program) (w:World) (K:QFg) (tg:Expr) (J:It) (fp:List Addr) (it:Addr) (tn:Nat->Heap->Prop):Prop where
 mem:it∈fp
 obj:∀i h,tn i h->∀b∈fp,∃o,h.get? b=some o/\∀v,o.data≠.cell v
 keep:∀i h h',tn i h->(∀b∈fp,∀o,h.get? b=some o->h'.get? b=some o)->tn i h'
 item:∀(X:Cx),X.prog=P->X.w=w->X.K=K->X.calm=true->∀(i:Nat) (pins:List (Addr × Obj)) (s:Shared) (σ:St) (H:Hp) (E:Value->Shared->Prop),Inv X pins σ H s->(∀b∈fp,zcz X pins H b)->tn i s.heap->J.go i H ->
  wpAny (model P w) X.A (pyNext (.ref it)) (λr s1=>∃u,r=some u /\
   wpAny (model P w) X.A (letOwnedTupleGo tg (.ref it) u) (λ_ s2=>∃x H',Inv X pins σ H' s2/\RelV x u/\J.yld i H x H'/\tn (i+1) s2.heap/\∀b∈fp,H' b=none) E s1) E s
 done:∀(X:Cx),X.prog=P->X.w=w->X.K=K->X.calm=true->∀(i:Nat) (pins:List (Addr × Obj)) (s:Shared) (σ:St) (H:Hp) (E:Value->Shared->Prop),Inv X pins σ H s->(∀b∈fp,zcz X pins H b)->tn i s.heap->J.stop i H ->
  wpAny (model P w) X.A (pyNext (.ref it)) (λr s1=>r=none/\Inv X pins σ H s1) E s
 self:∀(A:Around) (i:Nat) (s:Shared) (Q:Value->Shared->Prop) (E:Value->Shared->Prop),tn i s.heap->Q (.ref it) s->wpAny (model P w) A (pyIter (.ref it)) Q E s
abbrev TI:=St->Hp->(It->Hp->Prop)->Prop
def PIE (X:Cx) (pins:List (Addr × Obj)) (σ:St) (tg:Expr) (R:It->Hp->Prop) (itv:Value) (s2:Shared):Prop :=
 ∃(it:Addr) (fp:List Addr) (tn:Nat->Heap->Prop) (J:It) (H':Hp),itv=.ref it/\Inv X pins σ H' s2/\Turn X.prog X.w X.K tg J fp it tn/\tn 0 s2.heap/\(∀b∈fp,zcz X pins H' b)/\R J H'
def PI (X:Cx) (tg iter:Expr) (wi:TI):Prop :=
 ∀(pins:List (Addr × Obj)) (s:Shared) (σ:St) (H:Hp) (R:It->Hp->Prop),Inv X pins σ H s->wi σ H R ->
  wpAny (model X.prog X.w) X.A (eval iter X.env) (λv s1=>wpAny (model X.prog X.w) X.A (pyIter v) (PIE X pins σ tg R) X.xe s1) X.xe s
theorem zlx {M:Model}{A:Around}{E:Value->Shared->Prop}{s:Shared}{tg:Expr}{it:Addr}{u:Value}{o:Obj}{n:String}{vs:Array Value}{Q:Unit->Shared->Prop}(ho:s.heap.get? it=some o) (hc:o.cls=.type n) (hd:o.data=.fields vs)
  (hn:["enumerate","zip","dict_itemiterator","dict_reverseitemiterator","odict_iterator","itertools.zip_longest","itertools.pairwise"].contains n=false) (hQ:Q () s):wpAny M A (letOwnedTupleGo tg (.ref it) u) Q E s:=by
 unfold letOwnedTupleGo
 cases tg <;> first
  | exact qwp hQ
  | (cases u <;> first
    | exact qwp hQ
    | (refine qwb (wpAny_load ho ?_)
       rw [hc,hd]
       show wpAny M A (if (["enumerate","zip","dict_itemiterator","dict_reverseitemiterator","odict_iterator","itertools.zip_longest","itertools.pairwise"].contains n && vs[0]? == some (rawInt _))=true then _ else _) Q E s
       rw [if_neg (by intro h;rw [hn,Bool.false_and] at h;cases h)]
       exact qwp hQ))
noncomputable def Itl (K:QFg) (a:Addr):It :=
 ⟨λi H=>∃xs x,SqL K H a xs/\xs[i]? = some x,λi H x H'=>H' = H/\∀xs,SqL K H a xs->xs[i]? = some x,λi H=>∃xs,SqL K H a xs/\xs.length<=i⟩
noncomputable def Itt (K:QFg) (a:Addr):It :=
 ⟨λi H=>∃xs x,SqT K H a xs/\xs[i]? = some x,λi H x H'=>H' = H/\∀xs,SqT K H a xs->xs[i]? = some x,λi H=>∃xs,SqT K H a xs/\xs.length<=i⟩
noncomputable def Itr (lo:Int) (n:Nat):It:=⟨λi _=>i<n,λi H x H'=>H' = H/\x=.int (lo+i),λi _=>n<=i⟩
theorem zvc {P:Program}{w:World}{K:QFg}{tg:Expr}(a it:Addr):Turn P w K tg (Itl K a) [it] it (λi h=>h.IsListIter it a i) where
 mem:=by simp
 obj:=λi h st b hb=>by
  have e:b=it:=by simpa using hb
  subst e
  obtain ⟨o,e,c,d⟩:=st
  exact ⟨o,e,λv z=>by rw [d] at z;cases z⟩
 keep:=λi h h' st k=>st.at λo e=>k it (by simp) o e
 item:=by
  intro X hP hw hK hc i pins s σ H E I hf st hg
  subst hP hw hK
  obtain ⟨xs,x,hq,hx⟩:=hg
  obtain ⟨its,rv,p,hz⟩:=I.list hq
  obtain ⟨u,hu,ru⟩:=rv.get hx
  obtain ⟨f0,f1,f2,f3,f4,f5⟩:=hf it (by simp)
  refine wpAny_pyNext_list_item st p.isList (x:=u) (by simpa using hu) λh' st' sb=>?_
  have I1:Inv X pins σ H { s with heap:=h' }:=I.turned (t':=s.toks) (λb o hb e=>(sb.2 b hb).trans e) f0 f1 f3 f4 f5
  obtain ⟨o,e,c,d⟩:=id st'
  exact ⟨u,rfl,zlx (s:={ s with heap:=h' }) e c d (by decide) ⟨x,H,I1,ru,⟨rfl,λys hy=>by rw [I.list_inj hy hq];exact hx⟩,st',λb hb=>(hf b hb).1⟩⟩
 done:=by
  intro X hP hw hK hc i pins s σ H E I hf st hg
  subst hP hw hK
  obtain ⟨xs,hq,hx⟩:=hg
  obtain ⟨its,rv,p,hz⟩:=I.list hq
  obtain ⟨f0,f1,f2,f3,f4,f5⟩:=hf it (by simp)
  have hl:=rv.length
  exact wpAny_pyNext_list_end (I.ok.hd hc) st p.isList (by simp;omega) λh' eb=>⟨rfl,I.turned (t':=s.toks) (λb o hb e=>eb b o hb e) f0 f1 f3 f4 f5⟩
 self:=λ_ _ _ _ _ st h=>wpAny_pyIter_listiter st h
theorem zvd {P:Program}{w:World}{K:QFg}{tg:Expr}(a it:Addr):Turn P w K tg (Itt K a) [it] it (λi h=>h.IsTupleIter it a i) where
 mem:=by simp
 obj:=λi h st b hb=>by
  have e:b=it:=by simpa using hb
  subst e
  obtain ⟨o,e,c,d⟩:=st
  exact ⟨o,e,λv z=>by rw [d] at z;cases z⟩
 keep:=λi h h' st k=>st.at λo e=>k it (by simp) o e
 item:=by
  intro X hP hw hK hc i pins s σ H E I hf st hg
  subst hP hw hK
  obtain ⟨xs,x,hq,hx⟩:=hg
  obtain ⟨its,rv,p,hz⟩:=I.tuple hq
  obtain ⟨u,hu,ru⟩:=rv.get hx
  obtain ⟨f0,f1,f2,f3,f4,f5⟩:=hf it (by simp)
  refine wpAny_pyNext_tuple_item st (show s.heap.IsTuple a its.toArray from p) (x:=u) (by simpa using hu) λh' st' sb=>?_
  have I1:Inv X pins σ H { s with heap:=h' }:=I.turned (t':=s.toks) (λb o hb e=>(sb.2 b hb).trans e) f0 f1 f3 f4 f5
  obtain ⟨o,e,c,d⟩:=id st'
  exact ⟨u,rfl,zlx (s:={ s with heap:=h' }) e c d (by decide) ⟨x,H,I1,ru,⟨rfl,λys hy=>by rw [I.tuple_inj hy hq];exact hx⟩,st',λb hb=>(hf b hb).1⟩⟩
 done:=by
  intro X hP hw hK hc i pins s σ H E I hf st hg
  subst hP hw hK
  obtain ⟨xs,hq,hx⟩:=hg
  obtain ⟨its,rv,p,hz⟩:=I.tuple hq
  obtain ⟨f0,f1,f2,f3,f4,f5⟩:=hf it (by simp)
  have hl:=rv.length
  exact wpAny_pyNext_tuple_end (I.ok.hd hc) st (show s.heap.IsTuple a its.toArray from p) (by simp;omega) λh' eb=>⟨rfl,I.turned (t':=s.toks) (λb o hb e=>eb b o hb e) f0 f1 f3 f4 f5⟩
 self:=λ_ _ _ _ _ st h=>wpAny_pyIter_tupleiter st h
theorem zve {P:Program}{w:World}{K:QFg}{tg:Expr}(it:Addr) (lo:Int) (n:Nat):Turn P w K tg (Itr lo n) [it] it (λi h=>IsRangeIter h it (lo+(i:Nat)*1) ((n:Int)-(i:Nat)) 1) where
 mem:=by simp
 obj:=λi h st b hb=>by
  have e:b=it:=by simpa using hb
  subst e
  exact ⟨_,st,λv z=>by
   have z':Data.fields _=Data.cell v:=z
   cases z'⟩
 keep:=λi h h' st k=>k it (by simp) _ st
 item:=by
  intro X hP hw hK hc i pins s σ H E I hf st hg
  subst hP hw hK
  obtain ⟨f0,f1,f2,f3,f4,f5⟩:=hf it (by simp)
  have W:=Walks.range (prog:=X.prog) (w:=X.w) (I.ok.hd hc) it lo 1 n
  refine W.item i s _ _ hg st λv h' tk hv st' kk=>?_
  obtain ⟨t,rfl⟩:=hv
  have I1:Inv X pins σ H { s with heap:=h',toks:=tk }:=I.turned (λb o hb e=>kk b o (by simpa using hb) e) f0 f1 f3 f4 f5
  refine ⟨_,rfl,zlx (s:={ s with heap:=h',toks:=tk }) (n:="range_iterator") st' rfl rfl (by decide) ⟨.int (lo+i),H,I1,⟨t,?_⟩,⟨rfl,rfl⟩,st',λb hb=>(hf b hb).1⟩⟩
  rw [Int.mul_one]
 done:=by
  intro X hP hw hK hc i pins s σ H E I hf st hg
  subst hP hw hK
  obtain ⟨f0,f1,f2,f3,f4,f5⟩:=hf it (by simp)
  exact wpAny_pyNext_range_end (I.ok.hd hc) st (by have:n<=i:=hg;omega) λh' eb=>⟨rfl,I.turned (t':=s.toks) (λb o hb e=>eb b o hb e) f0 f1 f3 f4 f5⟩
 self:=λ_ _ _ _ _ st h=>wpAny_pyIter_rangeiter st h
section
variable {X:Cx}{tg:Expr}
def zvf (K:QFg) (tl:TE):TI:=λσ H R=>tl σ H λx H1=>∃a,x=.ref a/\(∃xs,SqL K H1 a xs)/\R (Itl K a) H1
def zvg (K:QFg) (tl:TE):TI:=λσ H R=>tl σ H λx H1=>∃a,x=.ref a/\(∃xs,SqT K H1 a xs)/\R (Itt K a) H1
theorem zof {l:Expr}{tl:TE}(hl:PE X l tl):PI X tg l (zvf X.K tl):=by
 intro pins s σ H R I h
 refine thn (hl pins s σ H _ I h) λv s1 ⟨x,H1,I1,r1,q1⟩=>?_
 obtain ⟨a,e,⟨xs,hq⟩,q⟩:=q1
 subst e
 cases r1
 obtain ⟨its,rv,p,hz⟩:=I1.list hq
 refine wpAny_pyIter_list p.isList ?_
 refine ⟨s1.heap.objs.size,[s1.heap.objs.size],_,_,H1,rfl,I1.kept (t':=s1.toks) λb o e=>qps _ e,zvc a _,⟨_,Heap.get?_push_size _ rfl,rfl,rfl⟩,λb hb=>?_,q⟩
 have e:b=s1.heap.objs.size:=by simpa using hb
 subst e
 exact I1.fpOk (qlr _) (I1.hok.fresh (qlr _))
theorem zog {l:Expr}{tl:TE}(hl:PE X l tl):PI X tg l (zvg X.K tl):=by
 intro pins s σ H R I h
 refine thn (hl pins s σ H _ I h) λv s1 ⟨x,H1,I1,r1,q1⟩=>?_
 obtain ⟨a,e,⟨xs,hq⟩,q⟩:=q1
 subst e
 cases r1
 obtain ⟨its,rv,p,hz⟩:=I1.tuple hq
 refine wpAny_pyIter_tuple (show s1.heap.IsTuple a its.toArray from p) ?_
 refine ⟨s1.heap.objs.size,[s1.heap.objs.size],_,_,H1,rfl,I1.kept (t':=s1.toks) λb o e=>qps _ e,zvd a _,⟨_,Heap.get?_push_size _ rfl,rfl,rfl⟩,λb hb=>?_,q⟩
 have e:b=s1.heap.objs.size:=by simpa using hb
 subst e
 exact I1.fpOk (qlr _) (I1.hok.fresh (qlr _))
theorem zvh {pins:List (Addr × Obj)}{σ:St}{H:Hp}{s:Shared}{R:It->Hp->Prop}{E:Value->Shared->Prop}{lo hi:Int}{t u v:Tok}{tk:Nat}(I:Inv X pins σ H s) (h1:-(2 ^ 62)<=lo) (h2:lo<2 ^ 62) (h3:-(2 ^ 62)<=hi) (h4:hi<2 ^ 62)
  (q:R (Itr lo (hi-lo).toNat) H):wpAny (model X.prog X.w) X.A (pyIter (.ref s.heap.objs.size)) (PIE X pins σ tg R) E { s with heap:=s.heap.push { cls:=.type "range",data:=.fields #[.int lo t,.int hi u,.int 1 v] },toks:=tk }:=by
 refine wpAny_pyIter_range (IsRange.new ..) (small_one h1 h2 h3 h4) ?_
 have I1:Inv X pins σ H { s with heap:=s.heap.push { cls:=.type "range",data:=.fields #[.int lo t,.int hi u,.int 1 v] },toks:=tk }:=I.kept λb o e=>qps _ e
 refine ⟨(s.heap.push { cls:=.type "range",data:=.fields #[.int lo t,.int hi u,.int 1 v] }).objs.size,[(s.heap.push { cls:=.type "range",data:=.fields #[.int lo t,.int hi u,.int 1 v] }).objs.size],_,_,H,rfl,
  I1.kept (t':=tk) λb o e=>qps _ e,zve _ lo (hi-lo).toNat,?_,λb hb=>?_,q⟩
 ·have e1:lo+((0:Nat):Int)*1=lo:=by simp
  have e2:(((hi-lo).toNat:Nat):Int)-((0:Nat):Int)=Builtin.Range.rangeSize lo hi 1:=by rw [rangeSize_one];split <;> omega
  show IsRangeIter _ _ (lo+((0:Nat):Int)*1) ((((hi-lo).toNat:Nat):Int)-((0:Nat):Int)) 1
  rw [e1,e2]
  exact Heap.get?_push_size _ rfl
 ·have e:b=(s.heap.push { cls:=.type "range",data:=.fields #[.int lo t,.int hi u,.int 1 v] }).objs.size:=by simpa using hb
  subst e
  exact I1.fpOk (qlr _) (I1.hok.fresh (qlr _))
def zvi (ta:TA):TI:=λσ H R=>ta σ H λvs H1=>∃j:Int,vs=[.int j]/\-(2 ^ 62)<=j/\j<2 ^ 62/\R (Itr 0 j.toNat) H1
theorem zoh {a:Expr}{ta:TA}{p pos:Pos}(hg:Gl X "range") (hm:X.mg "range" = none) (ha:PA X [a] ta) (hs:starEach [a] X.env=[(false,eval a X.env)]:=by rfl):PI X tg (.Call (.Name "range" p) [a] [] pos) (zvi ta):=by
 intro pins s σ H R I h
 refine Call_ (zgz I hg hm boot_range (PyProof.Rows.callWith_type1 (thn (ha pos pins s σ H _ I h) λus s1 ⟨vs,H1,I1,r1,q1⟩=>?_) hs rfl))
 obtain ⟨j,e,q1,q2,q⟩:=q1
 subst e
 cases r1 with
 | cons r rr =>
  cases rr
  obtain ⟨t,rfl⟩:=r
  exact call_range_1 (zvh I1 (by omega) (by omega) q1 q2 (by simpa using q))
def zvj (wi:TI) (g:TG) (tb:TS):TS:=λD σ H=>wi σ H λJ H1=>∃W:Nat->Nat->St->Hp->Prop,(∃m,W 0 m σ H1)/\∀i m σ H,W i m σ H ->
 (J.stop i H/\D.nx σ H)\/(J.go i H/\∃N:St->Hp->Prop,(∀σ' H',N σ' H'->∃m',m' < m/\W (i+1) m' σ' H')/\∀x H',J.yld i H x H'->g x σ H' λσ2 H2=>tb { D with nx:=N,ct:=N,bk:=D.nx } σ2 H2)
noncomputable def zhm (fp:List Addr) (h:Heap):List (Addr × Obj):=fp.filterMap λb=>(h.get? b).map λo=>(b,o)
theorem zg0 {fp:List Addr}{h:Heap}{b:Addr}{o:Obj}(hb:b∈fp) (e:h.get? b=some o):(b,o)∈zhm fp h:=List.mem_filterMap.mpr ⟨b,hb,by rw [e];rfl⟩
theorem zvk {fp:List Addr}{h:Heap}{p:Addr × Obj}(hp:p∈zhm fp h):p.1∈fp/\h.get? p.1=some p.2:=by
 obtain ⟨b,hb,e⟩:=List.mem_filterMap.mp hp
 cases q:h.get? b with
 | none=>rw [q] at e;cases e
 | some o =>
  rw [q] at e
  have e':(b,o)=p:=qoi e
  subst e'
  exact ⟨hb,q⟩
theorem Inv.pinned {pins:List (Addr × Obj)}{σ:St}{H:Hp}{s:Shared}{fp:List Addr}(I:Inv X pins σ H s) (hf:∀b∈fp,zcz X pins H b) (ho:∀b∈fp,∃o,s.heap.get? b=some o/\∀v,o.data≠.cell v):Inv X (pins++zhm fp s.heap) σ H s :=
 I.pins_of λp hp=>(List.mem_append.mp hp).elim (λz=>I.pin p (List.mem_append_right _ z)) λz=>by
  obtain ⟨hb,e⟩:=zvk z
  obtain ⟨f0,f1,f2,_⟩:=hf p.1 hb
  obtain ⟨o,e',d⟩:=ho p.1 hb
  rw [e] at e';cases e'
  exact ⟨e,f0,f1,f2,d⟩
theorem Inv.unpinned {pins pl:List (Addr × Obj)}{σ:St}{H:Hp}{s:Shared}(I:Inv X (pins++pl) σ H s):Inv X pins σ H s:=I.pins_of λp hp=>I.pin p (List.mem_append_right _ (List.mem_append_left _ hp))
theorem zly {iter:Expr}{body:List Stmt}{wi:TI}{g:TG}{tb:TS}{pos:Pos}(hp:PassesOwn (model X.prog X.w) X.A X.env X.xe) (hc:X.calm=true) (hi:PI X tg iter wi) (hg:PG X tg g) (hb:PSs X body tb)
  (hs:∀x,foldedSetIterable iter X.env x=pure x:=by intro _;rfl):PS X (.For tg iter body [] pos) (zvj wi g tb):=by
 intro pins s σ H D I h
 refine wpAny_For (thn (hi pins s σ H _ I h) λv s1 h1=>thn h1 λitv s2 h2=>?_) hs
 obtain ⟨it,fp,tn,J,H2,e,I2,T,st2,f2,W,⟨m0,w0⟩,turn⟩:=h2
 subst e
 have stat:∀{H':Hp},(∀b∈fp,H' b=none)->∀b∈fp,zcz X pins H' b:=λhn b hb=>⟨hn b hb,(f2 b hb).2⟩
 refine codeAny_forLoop_any (λn s'=>∃i σ' H',Inv X pins σ' H' s'/\tn i s'.heap/\(∀b∈fp,H' b=none)/\W i n σ' H') ?_ m0 ⟨0,σ,H2,I2,st2,λb hb=>(f2 b hb).1,w0⟩
 rintro n s3 ⟨i,σ3,H3,I3,st3,fr3,w3⟩
 rcases turn i n σ3 H3 w3 with ⟨stop,qn⟩|⟨go,N,hN,step⟩
 ·refine wpAny_passesOwn hp (thn (T.done X rfl rfl rfl hc i pins s3 σ3 H3 X.xe I3 (stat fr3) st3 stop) λr s4 ⟨hr,I4⟩=>?_)
  subst hr
  exact wpAny_execs_nil ⟨σ3,H3,I4,qn⟩
 ·refine wpAny_passesOwn hp (thn (T.item X rfl rfl rfl hc i pins s3 σ3 H3 X.xe I3 (stat fr3) st3 go) λr s4 ⟨u,hr,h4⟩=>?_)
  subst hr
  refine wpAny_passesOwn hp (thn h4 λ_ s5 ⟨x,H5,I5,r5,y5,st5,fr5⟩=>?_)
  have I5':=I5.pinned (stat fr5) (T.obj _ _ st5)
  refine wpAny_passesOwn hp (thn (hg _ s5 σ3 H5 x u _ I5' r5 (step x H5 y5)) λ_ s6 ⟨σ6,H6,I6,q6⟩=>?_)
  refine wpAny_passesOwn hp (thn (hb _ s6 σ6 H6 _ I6 q6) λf s7 q7=>?_)
  have again:∀{σ7:St} {H7:Hp},Inv X (pins++zhm fp s5.heap) σ7 H7 s7->N σ7 H7->∃m,m<n/\∃i σ' H',Inv X pins σ' H' s7/\tn i s7.heap/\(∀b∈fp,H' b=none)/\W i m σ' H':=λ{σ7 H7} I7 n7=>by
   obtain ⟨m',hm,w7⟩:=hN σ7 H7 n7
   refine ⟨m',hm,i+1,σ7,H7,I7.unpinned,T.keep _ _ _ st5 λb hb o e=>(I7.pin (b,o) (List.mem_append_right _ (List.mem_append_right _ (zg0 hb e)))).1,λb hb=>?_,w7⟩
   obtain ⟨o,e,d⟩:=T.obj _ _ st5 b hb
   exact (I7.pin (b,o) (List.mem_append_right _ (List.mem_append_right _ (zg0 hb e)))).2.1
  cases f with
  | next=>obtain ⟨σ7,H7,I7,n7⟩:=q7;exact again I7 n7
  | cont=>obtain ⟨σ7,H7,I7,n7⟩:=q7;exact again I7 n7
  | brk=>obtain ⟨σ7,H7,I7,q7⟩:=q7;exact ⟨σ7,H7,I7.unpinned,q7⟩
  | ret v=>obtain ⟨x7,σ7,H7,I7,r7,q7⟩:=q7;exact ⟨x7,σ7,H7,I7.unpinned,r7,q7⟩
end
abbrev R2:=V->V->Hp->VK->Prop
def OpR (X:Cx) (f:Value->Value->Sem Value) (r:R2):Prop :=
 ∀(pins:List (Addr × Obj)) (s:Shared) (σ:St) (H:Hp) (x y:V) (v u:Value) (Q:VK),Inv X pins σ H s->RelV x v->RelV y u->r x y H Q ->
  wpAny (model X.prog X.w) X.A (f v u) (EP X pins σ Q) X.xe s
def UnR (X:Cx) (f:Value->Sem Value) (r:V->Hp->VK->Prop):Prop :=
 ∀(pins:List (Addr × Obj)) (s:Shared) (σ:St) (H:Hp) (x:V) (v:Value) (Q:VK),Inv X pins σ H s->RelV x v->r x H Q ->
  wpAny (model X.prog X.w) X.A (f v) (EP X pins σ Q) X.xe s
def CallR (X:Cx) (f:Value) (r:List V->Hp->VK->Prop):Prop :=
 ∀(pins:List (Addr × Obj)) (s:Shared) (σ:St) (H:Hp) (xs:List V) (us:List Value) (Q:VK),Inv X pins σ H s->Vals xs us->r xs H Q ->
  wpAny (model X.prog X.w) X.A (call f us) (EP X pins σ Q) X.xe s
def tOp (r:R2) (ta tb:TE):TE:=λσ H Q=>ta σ H λx H1=>tb σ H1 λy H2=>r x y H2 Q
def tUn (r:V->Hp->VK->Prop) (ta:TE):TE:=λσ H Q=>ta σ H λx H1=>r x H1 Q
def rI (C:Int->Int->Prop) (g:Int->Int->V):R2:=λx y H Q=>∃i j,x=.int i/\y=.int j/\C i j/\Q (g i j) H
def rI0 (g:Int->Int->V):R2:=λx y H Q=>∃i j,x=.int i/\y=.int j/\Q (g i j) H
def rU (g:Int->V):V->Hp->VK->Prop:=λx H Q=>∃i,x=.int i/\Q (g i) H
section
variable {X:Cx}{a b c:Expr}{ta tb tc:TE}{pos:Pos}
theorem zlz (ha:PE X a ta) (hb:PE X b tb) {pins:List (Addr × Obj)}{s:Shared}{σ:St}{H:Hp}{R:V->V->Hp->Prop}(I:Inv X pins σ H s)
  (h:ta σ H λx H1=>tb σ H1 λy H2=>R x y H2) {Q:Value->Shared->Prop} {f:Value->Value->Sem Value}
  (hf:∀v u s2 x y H2,Inv X pins σ H2 s2->RelV x v->RelV y u->R x y H2->wpAny (model X.prog X.w) X.A (f v u) Q X.xe s2) :
  wpAny (model X.prog X.w) X.A (eval a X.env) (λv s₁=>wpAny (model X.prog X.w) X.A (eval b X.env) (λu s₂=>wpAny (model X.prog X.w) X.A (f v u) Q X.xe s₂) X.xe s₁) X.xe s:=by
 refine thn (ha pins s σ H _ I h) λv s1 ⟨x,H1,I1,r1,q1⟩=>?_
 refine thn (hb pins s1 σ H1 _ I1 q1) λu s2 ⟨y,H2,I2,r2,q2⟩=>?_
 exact hf v u s2 x y H2 I2 r1 r2 q2
theorem zvl {op:Operator}{r:R2}(ho:OpR X (binaryOp op) r) (ha:PE X a ta) (hb:PE X b tb):PE X (.BinOp a op b pos) (tOp r ta tb):=by
 intro pins s σ H Q I h
 exact wpAny_BinOp (zlz ha hb I h λv u s2 x y H2 I2 rx ry q=>ho pins s2 σ H2 x y v u Q I2 rx ry q)
theorem zoi {op:UnaryOp}{r:V->Hp->VK->Prop}(ho:UnR X (unaryOp op) r) (ha:PE X a ta):PE X (.UnaryOp op a pos) (tUn r ta):=by
 intro pins s σ H Q I h
 exact UnaryOp_ (thn (ha pins s σ H _ I h) λv s1 ⟨x,H1,I1,r1,q1⟩=>ho pins s1 σ H1 x v Q I1 r1 q1)
theorem opI {f:Value->Value->Sem Value}{C:Int->Int->Prop}{g:Int->Int->Int}
  (rule:∀(i j:Int) (t u:Tok) (s:Shared) (Q:Value->Shared->Prop) (E:Value->Shared->Prop),C i j->Q (.int (g i j) s.toks) { s with toks:=s.toks+1 }->wpAny (model X.prog X.w) X.A (f (.int i t) (.int j u)) Q E s) :
  OpR X f (rI C λi j=>.int (g i j)):=by
 intro pins s σ H x y v u Q I rx ry h
 obtain ⟨i,j,rfl,rfl,hc,q⟩:=h
 obtain ⟨t,rfl⟩:=rx
 obtain ⟨t',rfl⟩:=ry
 exact rule i j t t' s _ _ hc ⟨.int (g i j),H,I.tok _,⟨_,rfl⟩,q⟩
theorem zoj {f:Value->Value->Sem Value}{g:Int->Int->Int}
  (rule:∀(i j:Int) (t u:Tok) (s:Shared) (Q:Value->Shared->Prop) (E:Value->Shared->Prop),Q (.int (g i j) s.toks) { s with toks:=s.toks+1 }->wpAny (model X.prog X.w) X.A (f (.int i t) (.int j u)) Q E s) :
  OpR X f (rI0 λi j=>.int (g i j)):=by
 intro pins s σ H x y v u Q I rx ry h
 obtain ⟨i,j,rfl,rfl,q⟩:=h
 obtain ⟨t,rfl⟩:=rx
 obtain ⟨t',rfl⟩:=ry
 exact rule i j t t' s _ _ ⟨.int (g i j),H,I.tok _,⟨_,rfl⟩,q⟩
theorem zj9 {f:Value->Value->Sem Value}{g:Int->Int->Bool}
  (rule:∀(i j:Int) (t u:Tok) (s:Shared) (Q:Value->Shared->Prop) (E:Value->Shared->Prop),Q (.bool (g i j)) s->wpAny (model X.prog X.w) X.A (f (.int i t) (.int j u)) Q E s) :
  OpR X f (rI0 λi j=>.bl (g i j)):=by
 intro pins s σ H x y v u Q I rx ry h
 obtain ⟨i,j,rfl,rfl,q⟩:=h
 obtain ⟨t,rfl⟩:=rx
 obtain ⟨t',rfl⟩:=ry
 exact rule i j t t' s _ _ ⟨.bl (g i j),H,I,rfl,q⟩
def zka (i j:Int):Prop:=0<j/\j<1073741824
def zkb (i j:Int):Prop:=0<=j/\j<=1000000/\i.natAbs<2 ^ 64
def CMul (i j:Int):Prop:=(-(2 ^ 64)<i/\i<2 ^ 64)\/(-(2 ^ 64)<j/\j<2 ^ 64)
theorem CMul.ok {i j:Int}(h:CMul i j):IntMulOk i j:=by
 rcases h with ⟨h1,h2⟩|⟨h1,h2⟩
 ·exact .of_left (intBits_le_64 h1 h2)
 ·exact .of_right (intBits_le_64 h1 h2)
theorem op_add:OpR X (binaryOp .Add) (rI0 λi j=>.int (i+j)):=zoj λ_ _ _ _ _ _ _ q=>add_int q
theorem zvm:OpR X (binaryOp .Sub) (rI0 λi j=>.int (i-j)):=zoj λ_ _ _ _ _ _ _ q=>sub_int q
theorem op_mul:OpR X (binaryOp .Mult) (rI CMul λi j=>.int (i*j)):=opI λ_ _ _ _ _ _ _ hc q=>mul_int q hc.ok
theorem zvn:OpR X (binaryOp .FloorDiv) (rI zka λi j=>.int (i / j)):=opI λi j _ _ _ _ _ hc q=>by
 have h1:(0:Int)<j:=hc.1
 have h2:j<1073741824:=hc.2
 exact floordiv_int (by omega) (by rw [Int.fdiv_eq_ediv_of_nonneg i (by omega)];exact q) (.inl (PyProof.noPylong_small (by omega)))
theorem zvo:OpR X (binaryOp .Mod) (rI (λ_ j=>0<j) λi j=>.int (i % j)):=opI λi j _ _ _ _ _ hc q=>by
 have h1:(0:Int)<j:=hc
 exact mod_int' (by omega) (by rw [Int.fmod_eq_emod_of_nonneg i (by omega)];exact q)
theorem zvp:OpR X (binaryOp .Pow) (rI zkb λi j=>.int (i ^ j.toNat)):=opI λ_ _ _ _ _ _ _ hc q=>pow_int_small hc.1 hc.2.1 hc.2.2 q
theorem unI {f:Value->Sem Value}{g:Int->Int}
  (rule:∀(i:Int) (t:Tok) (s:Shared) (Q:Value->Shared->Prop) (E:Value->Shared->Prop),Q (.int (g i) s.toks) { s with toks:=s.toks+1 }->wpAny (model X.prog X.w) X.A (f (.int i t)) Q E s) :
  UnR X f (rU λi=>.int (g i)):=by
 intro pins s σ H x v Q I rx h
 obtain ⟨i,rfl,q⟩:=h
 obtain ⟨t,rfl⟩:=rx
 exact rule i t s _ _ ⟨.int (g i),H,I.tok _,⟨_,rfl⟩,q⟩
theorem zok:UnR X (unaryOp .USub) (rU λi=>.int (-i)):=unI λ_ _ _ _ _ q=>neg_int q
end
noncomputable def zl0:V->V->Bool
 | .non,.non=>true | .non,.int _=>true | .int _,.non=>true | .non,.bl _=>true | .bl _,.non=>true | .non,.str _=>true | .str _,.non=>true
 | .int _,.int _=>true | .bl _,.bl _=>true | .str _,.str _=>true | .byt _,.byt _=>true
 | .int _,.str _=>true | .str _,.int _=>true | .bl _,.str _=>true | .str _,.bl _=>true
 | _,_=>false
def rEq:R2:=λx y H Q=>zl0 x y=true/\Q (.bl (decide (x=y))) H
def rNe:R2:=λx y H Q=>zl0 x y=true/\Q (.bl (!decide (x=y))) H
theorem zol {i j:Int}:decide (V.int i=V.int j)=(i == j):=by
 rw [Bool.eq_iff_iff]
 simp
theorem zom {i j:Bool}:decide (V.bl i=V.bl j)=(i == j):=by
 rw [Bool.eq_iff_iff]
 simp
theorem zon {i j:Str}:decide (V.str i=V.str j)=(i == j):=by
 rw [Bool.eq_iff_iff]
 simp
theorem zoo {i j:Array UInt8}:decide (V.byt i=V.byt j)=(i.toList == j.toList):=by
 rw [Bool.eq_iff_iff]
 cases i
 cases j
 simp
section
variable {X:Cx}{a b c:Expr}{ta tb tc:TE}{pos:Pos}
theorem zbs {pins:List (Addr × Obj)}{σ:St}{H:Hp}{s:Shared}{Q:VK}{k k':Bool}(I:Inv X pins σ H s) (q:Q (.bl k) H) (e:k=k'):EP X pins σ Q (.bool k') s:=by
 subst e
 exact ⟨.bl k,H,I,rfl,q⟩
theorem zop:OpR X (compareOp .Eq) rEq:=by
 intro pins s σ H x y v u Q I rx ry h
 obtain ⟨hs,q⟩:=h
 cases x with
 | non =>
  cases rx
  cases y with
  | non=>cases ry;exact PySem.EqNone.eq_none_none (zbs I q (by simp))
  | bl j=>cases ry;exact PySem.EqNone.eq_none_bool (zbs I q (by simp))
  | int j=>obtain ⟨t',rfl⟩:=ry;exact PySem.EqNone.eq_none_int (zbs I q (by simp))
  | str j=>obtain ⟨t',rfl⟩:=ry;exact PySem.EqNone.eq_none_str (zbs I q (by simp))
  | _=>exact absurd (show false=true from hs) Bool.false_ne_true
 | bl i =>
  cases rx
  cases y with
  | non=>cases ry;exact PySem.EqNone.eq_bool_none (zbs I q (by simp))
  | bl j=>cases ry;exact eq_bool (zbs I q zom)
  | str j=>obtain ⟨t',rfl⟩:=ry;exact PySem.EqMixed.eq_bool_str (zbs I q (by simp))
  | _=>exact absurd (show false=true from hs) Bool.false_ne_true
 | int i =>
  obtain ⟨t,rfl⟩:=rx
  cases y with
  | non=>cases ry;exact PySem.EqNone.eq_int_none (zbs I q (by simp))
  | int j=>obtain ⟨t',rfl⟩:=ry;exact eq_int (zbs I q zol)
  | str j=>obtain ⟨t',rfl⟩:=ry;exact PySem.EqMixed.eq_int_str (zbs I q (by simp))
  | _=>exact absurd (show false=true from hs) Bool.false_ne_true
 | str i =>
  obtain ⟨t,rfl⟩:=rx
  cases y with
  | non=>cases ry;exact PySem.EqNone.eq_str_none (zbs I q (by simp))
  | bl j=>cases ry;exact PySem.EqMixed.eq_str_bool (zbs I q (by simp))
  | int j=>obtain ⟨t',rfl⟩:=ry;exact PySem.EqMixed.eq_str_int (zbs I q (by simp))
  | str j=>obtain ⟨t',rfl⟩:=ry;exact eq_str (zbs I q zon)
  | _=>exact absurd (show false=true from hs) Bool.false_ne_true
 | byt i =>
  obtain ⟨t,rfl⟩:=rx
  cases y with
  | byt j=>obtain ⟨t',rfl⟩:=ry;exact PySem.W.eq_bytes (zbs I q zoo)
  | _=>exact absurd (show false=true from hs) Bool.false_ne_true
 | _=>cases y <;> exact absurd (show false=true from hs) Bool.false_ne_true
theorem zvq:OpR X (compareOp .NotEq) rNe:=by
 intro pins s σ H x y v u Q I rx ry h
 obtain ⟨hs,q⟩:=h
 cases x with
 | non =>
  cases rx
  cases y with
  | non=>cases ry;exact PySem.EqNone.ne_none_none (zbs I q (by simp))
  | bl j=>cases ry;exact PySem.EqNone.ne_none_bool (zbs I q (by simp))
  | int j=>obtain ⟨t',rfl⟩:=ry;exact PySem.EqNone.ne_none_int (zbs I q (by simp))
  | str j=>obtain ⟨t',rfl⟩:=ry;exact PySem.EqNone.ne_none_str (zbs I q (by simp))
  | _=>exact absurd (show false=true from hs) Bool.false_ne_true
 | bl i =>
  cases rx
  cases y with
  | non=>cases ry;exact PySem.EqNone.ne_bool_none (zbs I q (by simp))
  | bl j=>cases ry;exact ne_bool (zbs I q (congrArg not zom))
  | str j=>obtain ⟨t',rfl⟩:=ry;exact PySem.EqMixed.ne_bool_str (zbs I q (by simp))
  | _=>exact absurd (show false=true from hs) Bool.false_ne_true
 | int i =>
  obtain ⟨t,rfl⟩:=rx
  cases y with
  | non=>cases ry;exact PySem.EqNone.ne_int_none (zbs I q (by simp))
  | int j=>obtain ⟨t',rfl⟩:=ry;exact ne_int (zbs I q (congrArg not zol))
  | str j=>obtain ⟨t',rfl⟩:=ry;exact PySem.EqMixed.ne_int_str (zbs I q (by simp))
  | _=>exact absurd (show false=true from hs) Bool.false_ne_true
 | str i =>
  obtain ⟨t,rfl⟩:=rx
  cases y with
  | non=>cases ry;exact PySem.EqNone.ne_str_none (zbs I q (by simp))
  | bl j=>cases ry;exact PySem.EqMixed.ne_str_bool (zbs I q (by simp))
  | int j=>obtain ⟨t',rfl⟩:=ry;exact PySem.EqMixed.ne_str_int (zbs I q (by simp))
  | str j=>obtain ⟨t',rfl⟩:=ry;exact ne_str (zbs I q (congrArg not zon))
  | _=>exact absurd (show false=true from hs) Bool.false_ne_true
 | byt i =>
  obtain ⟨t,rfl⟩:=rx
  cases y with
  | byt j=>obtain ⟨t',rfl⟩:=ry;exact PySem.W.ne_bytes (zbs I q (congrArg not zoo))
  | _=>exact absurd (show false=true from hs) Bool.false_ne_true
 | _=>cases y <;> exact absurd (show false=true from hs) Bool.false_ne_true
theorem zi1:OpR X (compareOp .Lt) (rI0 λi j=>.bl (decide (i<j))):=zj9 λ_ _ _ _ _ _ _ q=>lt_int q
theorem zvr:OpR X (compareOp .LtE) (rI0 λi j=>.bl (decide (i<=j))):=zj9 λ_ _ _ _ _ _ _ q=>le_int q
theorem zvs:OpR X (compareOp .Gt) (rI0 λi j=>.bl (decide (j<i))):=zj9 λ_ _ _ _ _ _ _ q=>gt_int q
theorem zvt:OpR X (compareOp .GtE) (rI0 λi j=>.bl (decide (j<=i))):=zj9 λ_ _ _ _ _ _ _ q=>ge_int q
theorem zvu:OpR X (compareOp .Is) (λx y H Q=>y=.non/\Q (.bl (decide (x=.non))) H):=by
 intro pins s σ H x y v u Q I rx ry h
 obtain ⟨rfl,q⟩:=h
 cases ry
 refine is_none_gen (zbs I q ?_)
 cases x <;> first
  | (cases rx;rfl)
  | (obtain ⟨t,rfl⟩:=rx;rfl)
theorem zvv:OpR X (compareOp .IsNot) (λx y H Q=>y=.non/\Q (.bl (!decide (x=.non))) H):=by
 intro pins s σ H x y v u Q I rx ry h
 obtain ⟨rfl,q⟩:=h
 cases ry
 refine isnot_none_gen (zbs I q ?_)
 cases x <;> first
  | (cases rx;rfl)
  | (obtain ⟨t,rfl⟩:=rx;rfl)
theorem OpR.or {f:Value->Value->Sem Value}{r r':R2}(h:OpR X f r) (h':OpR X f r'):OpR X f (λx y H Q=>r x y H Q\/r' x y H Q):=by
 intro pins s σ H x y v u Q I rx ry q
 rcases q with q|q
 ·exact h pins s σ H x y v u Q I rx ry q
 ·exact h' pins s σ H x y v u Q I rx ry q
theorem zft (b:Expr) {op:CmpOp}(h:op≠.In:=by decide) (h2:op≠.NotIn:=by decide):behindInMarks op b=false:=by
 have e1:(op == CmpOp.In)=false:=by cases op <;> first|rfl|exact absurd rfl h
 have e2:(op == CmpOp.NotIn)=false:=by cases op <;> first|rfl|exact absurd rfl h2
 cases b <;> simp [behindInMarks,e1,e2]
theorem zvw {op:CmpOp}{r:R2}(ho:OpR X (compareOp op) r) (ha:PE X a ta) (hb:PE X b tb) (hm:behindInMarks op b=false):PE X (.Compare a [op] [b] pos) (tOp r ta tb):=by
 intro pins s σ H Q I h
 exact wpAny_Compare1 (zlz ha hb I h λv u s2 x y H2 I2 rx ry q=>ho pins s2 σ H2 x y v u Q I2 rx ry q) hm
def zoq (t:TE):TT:=λσ H Q=>t σ H λx H'=>∃k,x=.bl k/\Q k H'
theorem zvx {op:CmpOp}{r:R2}(ho:OpR X (compareOp op) r) (ha:PE X a ta) (hb:PE X b tb) (hm:behindInMarks op b=false):PT X (.Compare a [op] [b] pos) (zoq (tOp r ta tb)):=by
 intro pins s σ H Q I h
 refine wpAny_isTrue_Compare1 (thn (ha pins s σ H _ I h) λv s1 ⟨x,H1,I1,r1,q1⟩=>thn (hb pins s1 σ H1 _ I1 q1) λu s2 ⟨y,H2,I2,r2,q2⟩ =>
  thn (ho pins s2 σ H2 x y v u _ I2 r1 r2 q2) λc s3 ⟨z,H3,I3,r3,k,e,q3⟩=>?_) hm
 subst e
 cases r3
 exact wpAny_truthy_bool ⟨H3,I3,q3⟩
def zl1 (r r':R2) (ta tb tc:TE):TE:=λσ H Q=>ta σ H λx H1=>tb σ H1 λy H2=>r x y H2 λz H3=>∃k,z=.bl k /\
 (if k=true then tc σ H3 λw' H4=>r' y w' H4 Q else Q (.bl false) H3)
theorem zvy {op op':CmpOp}{r r':R2}(ho:OpR X (compareOp op) r) (ho':OpR X (compareOp op') r') (ha:PE X a ta) (hb:PE X b tb) (hc:PE X c tc)
  (hm:lastMarks [op,op'] [b,c]=false:=by with_unfolding_all rfl):PE X (.Compare a [op,op'] [b,c] pos) (zl1 r r' ta tb tc):=by
 intro pins s σ H Q I h
 refine Compare_chain (thn (ha pins s σ H _ I h) λv s1 ⟨x,H1,I1,r1,q1⟩=>chain_link (thn (hb pins s1 σ H1 _ I1 q1) λu s2 ⟨y,H2,I2,r2,q2⟩ =>
  thn (ho pins s2 σ H2 x y v u _ I2 r1 r2 q2) λd s3 ⟨z,H3,I3,r3,k,e,q3⟩=>?_)) hm
 subst e
 cases r3
 refine wpAny_truthy_bool ?_
 cases k with
 | false=>exact ite_ff ⟨.bl false,H3,I3,rfl,q3⟩
 | true=>exact ite_tt (chain_last (thn (hc pins s3 σ H3 _ I3 q3) λw' s4 ⟨z',H4,I4,r4,q4⟩=>ho' pins s4 σ H4 y z' u w' Q I4 r2 r4 q4))
theorem zvz {op op':CmpOp}{r r':R2}(ho:OpR X (compareOp op) r) (ho':OpR X (compareOp op') r') (ha:PE X a ta) (hb:PE X b tb) (hc:PE X c tc)
  (hm:lastMarks [op,op'] [b,c]=false:=by with_unfolding_all rfl):PT X (.Compare a [op,op'] [b,c] pos) (zoq (zl1 r r' ta tb tc)):=by
 intro pins s σ H Q I h
 refine isTrue_chain (thn (ha pins s σ H _ I h) λv s1 ⟨x,H1,I1,r1,q1⟩=>test_link (thn (hb pins s1 σ H1 _ I1 q1) λu s2 ⟨y,H2,I2,r2,q2⟩ =>
  thn (ho pins s2 σ H2 x y v u _ I2 r1 r2 q2) λd s3 ⟨z,H3,I3,r3,k,e,q3⟩=>?_)) hm
 subst e
 cases r3
 refine wpAny_truthy_bool ?_
 cases k with
 | false =>
  obtain ⟨k',e',q'⟩:=q3
  cases e'
  exact ite_ff ⟨H3,I3,q'⟩
 | true =>
  refine ite_tt (test_last (thn (hc pins s3 σ H3 _ I3 q3) λw' s4 ⟨z',H4,I4,r4,q4⟩=>thn (ho' pins s4 σ H4 y z' u w' _ I4 r2 r4 q4) λd' s5 ⟨z2,H5,I5,r5,k2,e2,q5⟩=>?_))
  subst e2
  cases r5
  exact wpAny_truthy_bool ⟨H5,I5,q5⟩
theorem zh0:(sizeLine:Nat)<2 ^ 63:=by rw [sizeLine_eq];decide
theorem op_add_str:OpR X (binaryOp .Add) (λx y H Q=>∃i j,x=.str i/\y=.str j/\i.length+j.length<=sizeLine/\Q (.str (i++j)) H):=by
 intro pins s σ H x y v u Q I rx ry h
 obtain ⟨i,j,rfl,rfl,hz,q⟩:=h
 obtain ⟨t,rfl⟩:=rx
 obtain ⟨t',rfl⟩:=ry
 exact add_str (λt' tk=>⟨.str (i++j),H,I.tok _,⟨_,rfl⟩,q⟩) hz
theorem ze9 {x:V}{us:List Value}(r:Vals [x] us):∃u,us=[u]/\RelV x u:=by
 cases r with
 | cons r1 r2=>cases r2;exact ⟨_,rfl,r1⟩
theorem zv0:CallR X (.builtin "abs") (λxs H Q=>∃i,xs=[.int i]/\Q (.int (if i<0 then -i else i)) H):=by
 intro pins s σ H xs us Q I r h
 obtain ⟨i,rfl,q⟩:=h
 obtain ⟨u,rfl,t,rfl⟩:=ze9 r
 exact call_abs_int λu tk=>⟨.int (if i<0 then -i else i),H,I.tok _,⟨_,rfl⟩,q⟩
theorem zv1:CallR X (.type "int") (λxs H Q=>(∃i,xs=[.int i]/\Q (.int i) H)\/∃k,xs=[.bl k]/\Q (.int (if k then 1 else 0)) H):=by
 intro pins s σ H xs us Q I r h
 rcases h with ⟨i,rfl,q⟩|⟨k,rfl,q⟩
 ·obtain ⟨u,rfl,t,rfl⟩:=ze9 r
  exact call_int_int ⟨.int i,H,I,⟨_,rfl⟩,q⟩
 ·obtain ⟨u,rfl,r1⟩:=ze9 r
  cases r1
  exact call_int_bool ⟨.int (if k then 1 else 0),H,I.tok _,⟨_,rfl⟩,q⟩
end
structure ObjM (h:Heap) (x dx C:Addr) (mA:Str->Option Value):Prop where
 obj:h.get? x=some (PySem.W.instObj C dx)
 ns:h.Ns1 dx mA
 ne:dx≠x
theorem zv2 {h:Heap}{dx:Addr}{mA:Str->Option Value}(n:h.Ns1 dx mA):∃od,h.get? dx=some od/\∀name,PySem.W.lookIn name od=some (mA name):=by
 obtain ⟨o,es,ep,ho,hd,hk,_,hm⟩:=n
 refine ⟨o,ho,λname=>?_⟩
 have e:=hm name
 unfold nsFind findBy at e
 rw [<-Array.find?_toList] at e
 unfold PySem.W.lookIn
 rw [hd]
 dsimp only
 split
 ·rename_i y q
  rw [q] at e
  exact congrArg some e
 ·rename_i q
  rw [q] at e
  have a:es.toList.any (·.refKey)=false:=by
   rw [List.any_eq_false]
   intro y hy
   obtain ⟨z,t,hkey⟩:=hk y (Array.mem_toList_iff.mp hy)
   simp [DictEntry.refKey,hkey]
  have a':¬es.toList.any (·.refKey)=true:=by rw [a];exact Bool.false_ne_true
  rw [if_neg a']
  exact congrArg some e
theorem ObjM.look {h:Heap}{x dx C:Addr}{mA:Str->Option Value}(I:ObjM h x dx C mA):∃od,PySem.W.InstAt h x (PySem.W.instObj C dx) C (some od)/\∀name,PySem.W.lookIn name od=some (mA name) :=
 let ⟨od,ho,hl⟩:=zv2 I.ns
 ⟨od,⟨I.obj,rfl,rfl,ho⟩,hl⟩
section
variable {prog:Program}{w:World}{A:Around}{E:Value->Shared->Prop}{s:Shared}{K:QFg}{x dx C f:Addr}{mA:Str->Option Value}{name:Str}{v:Value}
end
section
variable {P:Program}{w:World}{H H':Hp}{h h':Heap}{a C dx:Addr}{fs fs':List (Str × V)}
theorem zv3 (hok:HOk P w H h) (e:H a=some (.ins C dx fs)):∃mA,ObjM h a dx C mA/\(∀f,RelO (fs.lookup f) (mA f))/\PySem.Within mA (fs.map (·.1))/\fs.length<=1000/\H dx=some (.own a):=by
 obtain ⟨d,z,ne,ob,mA,n,r,q⟩:=(show ObjOk P w H h a (.ins C dx fs) from hok a _ e)
 exact ⟨mA,⟨ob,n,ne⟩,r,q,z,d⟩
end
structure Cls (K:QFg) (C:Addr):Prop where
 pg:PySem.W.plainGet K C Str.empty=true
 hd:PySem.W.hasDictIn K C=true
 po:PySem.W.plainOver K C=true
 sa:PySem.W.findIn K (.ref C) "__setattr__" = some (some (.builtin "object.__setattr__"))
theorem Cls.get {K:QFg}{C:Addr}(c:Cls K C) (f:Str):PySem.W.plainGet K C f=true:=c.pg
section
variable {X:Cx}{pins:List (Addr × Obj)}{σ:St}{H:Hp}{s:Shared}{a C dx:Addr}{fs:List (Str × V)}{f:Str}{v:V}{A:Around}{E:Value->Shared->Prop}
end
section
variable {X:Cx}{o e value:Expr}{f:Str}{pos pos' tpos:Pos}{ta tv:TE}
end
section
variable {X:Cx}{pins:List (Addr × Obj)}{σ:St}{H:Hp}{s:Shared}{A:Around}{E:Value->Shared->Prop}{Q:Value->Shared->Prop}{c:Value}{b:Bool}
inductive TyOf (K:QFg) (H:Hp):V->Value->Prop where
 | non:TyOf K H .non (.type "NoneType")
 | bl (x:Bool):TyOf K H (.bl x) (.type "bool")
 | int (i:Int):TyOf K H (.int i) (.type "int")
 | str (x:Str):TyOf K H (.str x) (.type "str")
 | flt (x:UInt64):TyOf K H (.flt x) (.type "float")
 | lst {a:Addr} {xs:List V} (e:H a=some (.lst xs)):TyOf K H (.ref a) (.type "list")
 | frz {a:Addr} {o:Obj} {xs:List V} (e:H a=some (.frz o (.lst xs))):TyOf K H (.ref a) (.type "list")
 | tup {a:Addr} {xs:List V} (e:H a=some (.tup xs)):TyOf K H (.ref a) (.type "tuple")
 | dK {a:Addr} {kvs:List (Key × V)} (e:H a=some (.dK kvs)):TyOf K H (.ref a) (.type "dict")
 | dT {a:Addr} {kvs:List (List Key × V)} (e:H a=some (.dT kvs)):TyOf K H (.ref a) (.type "dict")
 | ins {a C dx:Addr} {fs:List (Str × V)} (e:H a=some (.ins C dx fs)) (cl:Cls K C) (ha:PySem.W.findIn K (.ref C) "__class__" = some (some (.builtin "object.__class__")))
   (hn:PySem.W.specialIn K (.builtin "object.__class__") "__get__" = some (some (.builtin "getset_descriptor.__get__"))) (htk:PySem.W.takesIn K (.builtin "object.__class__")=some true)
   (hm:PySem.W.mroIn K C (.type "object")=some true):TyOf K H (.ref a) (.ref C)
theorem zor {x:V}{u t:Value}(I:Inv X pins σ H s) (rx:RelV x u) (ty:TyOf X.K H x t) (e:PySem.W.kitOne X.K t c=some b) (h:∀tk,Q (.bool b) { s with toks:=tk }) :
  wpAny (model X.prog X.w) A (call (.builtin "isinstance") [u,c]) Q E s:=by
 cases ty with
 | non=>cases (show u=Value.none from rx);exact PySem.W.kia_one PySem.W.kitx_none I.kIn True.intro e (λz=>nomatch z) h
 | bl y=>cases (show u=Value.bool y from rx);exact PySem.W.kia_one PySem.W.kitx_bool I.kIn True.intro e (λz=>nomatch z) h
 | int i=>obtain ⟨t,q⟩:=(show ∃t,u=Value.int i t from rx);cases q;exact PySem.W.kia_one PySem.W.kitx_int I.kIn True.intro e (λz=>nomatch z) h
 | str y=>obtain ⟨t,q⟩:=(show ∃t,u=Value.str y t from rx);cases q;exact PySem.W.kia_one PySem.W.kitx_str I.kIn True.intro e (λz=>nomatch z) h
 | flt y=>obtain ⟨t,q⟩:=(show ∃t,u=Value.float y t from rx);cases q;exact PySem.W.kia_one PySem.W.kitx_float I.kIn True.intro e (λz=>nomatch z) h
 | @lst a xs ea =>
  cases (show u=Value.ref a from rx)
  obtain ⟨_,_,n,_,h1⟩:=(show ObjOk X.prog X.w H s.heap a (.lst xs) from I.hok a _ ea)
  exact PySem.W.kia_one PySem.W.kitx_list I.kIn ⟨_,h1,rfl⟩ e (λz=>nomatch z) h
 | @frz a ob xs ea =>
  cases (show u=Value.ref a from rx)
  obtain ⟨_,_,_,n,_,h1⟩:=(show ObjOk X.prog X.w H s.heap a (.frz ob (.lst xs)) from I.hok a _ ea)
  exact PySem.W.kia_one PySem.W.kitx_list I.kIn ⟨_,h1,rfl⟩ e (λz=>nomatch z) h
 | @tup a xs ea =>
  cases (show u=Value.ref a from rx)
  obtain ⟨_,_,_,p⟩:=(show ObjOk X.prog X.w H s.heap a (.tup xs) from I.hok a _ ea)
  obtain ⟨o,h1,h2,_⟩:=p
  exact PySem.W.kia_one PySem.W.kitx_tuple I.kIn ⟨o,h1,h2⟩ e (λz=>nomatch z) h
 | @dK a kvs ea =>
  cases (show u=Value.ref a from rx)
  obtain ⟨_,_,vs,_,p⟩:=(show ObjOk X.prog X.w H s.heap a (.dK kvs) from I.hok a _ ea)
  obtain ⟨o,es,ep,h1,h2,_⟩:=p
  exact PySem.W.kia_one PySem.W.kitx_dict I.kIn ⟨o,h1,h2.1⟩ e (λz=>nomatch z) h
 | @dT a kvs ea =>
  cases (show u=Value.ref a from rx)
  obtain ⟨_,_,xs,_,o,es,ep,h1,h2,_⟩:=(show ObjOk X.prog X.w H s.heap a (.dT kvs) from I.hok a _ ea)
  exact PySem.W.kia_one PySem.W.kitx_dict I.kIn ⟨o,h1,h2.1⟩ e (λz=>nomatch z) h
 | @ins a C dx fs ea cl ha hn htk hm =>
  cases (show u=Value.ref a from rx)
  obtain ⟨mA,O,_⟩:=zv3 I.hok ea
  obtain ⟨od,J,_⟩:=O.look
  exact PySem.W.kia_one (PySem.W.kitx_own (cl.get _) cl.hd ha hn htk hm) I.kIn J e (λz=>nomatch z) h
end
structure Room (k:Nat) (A:Around):Prop where
 hd:A.handled=none
 dp:A.depth+3*k+5<recursionLimit
 un:A.units+16*k+200<cLine
 gd:A.guards=some []
theorem Room.mono {j k:Nat}{A:Around}(r:Room k A) (h:j<=k):Room j A:=⟨r.hd,by have:=r.dp;omega,by have:=r.un;omega,r.gd⟩
theorem Room.deeper {k:Nat}{A:Around}(r:Room (k+1) A) (env:Env):Room k (A.deeper env) :=
 ⟨r.hd,by have:=r.dp;show A.depth+1+3*k+5<_;omega,by have:=r.un;show A.units+3+16*k+200<_;omega,r.gd⟩
theorem Room.depth {k:Nat}{A:Around}(r:Room k A):A.depth<recursionLimit:=by have:=r.dp;omega
def zv4:TA:=λ_ H Q=>Q [] H
def zv5 (ta:TE) (tr:TA):TA:=λσ H Q=>ta σ H λx H1=>tr σ H1 λxs H2=>Q (x :: xs) H2
section
variable {X:Cx}{e:Expr}{es:List Expr}{te:TE}{t:TA}{pos:Pos}
theorem zkc:PA X [] zv4:=λ_ _ _ _ H Q I h=>Calls.spliced_nil ⟨[],H,I,.nil,h⟩
theorem zh1 (ha:PE X e te) (hr:PA X es t) (hs:starEach (e :: es) X.env=(false,eval e X.env) :: starEach es X.env:=by rfl):PA X (e :: es) (zv5 te t):=by
 intro pos pins s σ H Q I h
 rw [hs]
 show wpAny _ _ (spliced ((false,eval e X.env) :: backTo pos (starEach es X.env))) _ _ s
 refine Calls.spliced_cons (thn (ha pins s σ H _ I h) λu s1 ⟨x,H1,I1,r1,q1⟩=>?_)
 exact thn (hr pos pins s1 σ H1 _ I1 q1) λus s2 ⟨xs,H2,I2,r2,q2⟩=>⟨x :: xs,H2,I2,.cons r1 r2,q2⟩
def zv6 (t:TA):TE:=λσ H Q=>t σ H λxs H1=>xs.length<=sizeLine/\∀p,H1 p=none->Q (.ref p) (upd H1 p (.tup xs))
def zv7 (t:TA):TE:=λσ H Q=>t σ H λxs H1=>xs.length<=sizeLine/\∀p,H1 p=none->Q (.ref p) (upd H1 p (.lst xs))
theorem zv8 {x1}(h:PA X es t):PE X (.Tuple es x1 pos) (zv6 t):=by
 intro pins s σ H Q I hq
 refine wpAny_Tuple_spliced (thn (h pos pins s σ H _ I hq) λus s1 ⟨xs,H1,I1,r,z,q⟩=>⟨by rw [<-r.length];exact z,?_⟩)
 have hf:H1 s1.heap.objs.size=none:=I1.hok.fresh (qlr _)
 refine ⟨.ref s1.heap.objs.size,upd H1 s1.heap.objs.size (.tup xs),I1.laid (t':=s1.toks) (λb u e=>qps _ e) (qlr _) ?_,rfl,q _ hf⟩
 exact ⟨z,us,r,IsTD.new _ _⟩
theorem zv9 (h:PA X es t):PE X (.List es pos) (zv7 t):=by
 intro pins s σ H Q I hq
 refine wpAny_List_spliced (thn (h pos pins s σ H _ I hq) λus s1 ⟨xs,H1,I1,r,z,q⟩=>⟨by rw [<-r.length];exact z,?_⟩)
 have hf:H1 s1.heap.objs.size=none:=I1.hok.fresh (qlr _)
 refine ⟨.ref s1.heap.objs.size,upd H1 s1.heap.objs.size (.lst xs),I1.laid (t':=s1.toks) (λb u e=>qps _ e) (qlr _) ?_,rfl,q _ hf⟩
 exact ⟨z,us,0,r,Heap.get?_push_size _ rfl⟩
end
abbrev Sp:=List V->Hp->VK->XK->Prop
abbrev CXT:=List Env->Hp->Shared->XK->Value->Shared->Prop
structure Env0 (P:Program) (w:World) (K:QFg) (mg:Str->Option Value) (base:Heap) (A:Around) (outer:List Env) (s:Shared) (H:Hp):Prop where
 frames:A.frames=some outer
 mod:Mod K mg base
 bs:∀b o,base.get? b=some o->s.heap.get? b=some o/\H b=none
 bsz:base.objs.size<=s.heap.objs.size
 funs:s.heap.FunFrames base outer
 frf:∀b∈frs outer,H b=none
 hok:HOk P w H s.heap
 bare:AllBare s.gens
def CE (outer:List Env) (P:Program) (w:World) (H:Hp) (s:Shared) (Q:VK) (u:Value) (s':Shared):Prop :=
 ∃v H',s'.os=s.os/\AllBare s'.gens/\Un (frs outer) [] H H' s.heap s'.heap/\HOk P w H' s'.heap/\RelV v u/\Q v H'
def CR (CX:CXT) (outer:List Env) (P:Program) (w:World) (H:Hp) (s:Shared) (Q:VK) (E:XK) (r:Result) (s':Shared):Prop :=
 match r with
 | .ok (.ret u)=>CE outer P w H s Q u s'
 | .ok _=>False
 | .error e=>CX outer H s E e s'
structure FnOk (P:Program) (w:World) (K:QFg) (mg:Str->Option Value) (base:Heap) (CX:CXT) (k:Nat) (f:Addr) (fd:FuncData) (ps:List Str) (sp:Sp):Prop where
 len:∀vs H Q E,sp vs H Q E->vs.length=ps.length
 run:∀(A:Around) (outer:List Env) (s:Shared) (H:Hp) (args:Args) (us:List Value) (vs:List V) (Q:VK) (E:XK),Room k A->Env0 P w K mg base A outer s H->BindsTo s fd args (ps.zip us)->Vals vs us->sp vs H Q E ->
  codeAny (model P w) A (.call (.ref f) args) (CR CX outer P w H s Q E) s
section
variable {X:Cx}{pins:List (Addr × Obj)}{σ:St}{H:Hp}{s s':Shared}
theorem Inv.env0 (I:Inv X pins σ H s):Env0 X.prog X.w X.K X.mg X.base X.A X.stack s H :=
 ⟨I.ok.frames,I.ok.mod,I.bs,Nat.le_trans I.ok.bsz I.sz,I.stack,I.stkFree,I.hok,I.bare⟩
theorem Inv.after {Q:VK}{u:Value}(I:Inv X pins σ H s) (h:CE X.stack X.prog X.w H s Q u s'):EP X pins σ Q u s':=by
 obtain ⟨v,H',os,bare,un,hok,r,q⟩:=h
 obtain ⟨hh,g,d,t,os'⟩:=s'
 obtain rfl:os' = s.os:=os
 exact ⟨v,H',I.call (h':=hh) (g':=g) (d':=d) (t':=t) (ch:=[]) un hok bare (λb z=>absurd z (by simp)),r,q⟩
end
def zwa (sp:Sp) (dvs:List V) (E:XK) (t:TA):TE:=λσ H Q=>t σ H λvs H1=>sp (vs++dvs) H1 Q E
def Binds (K:QFg) (fd:FuncData) (ps:List Str) (ds:List Value):Prop :=
 ∀(s:Shared) (us:List Value),K.In s.heap->(us++ds).length=ps.length->BindsTo s fd ⟨us,[]⟩ (ps.zip (us++ds))
theorem Binds.all {K:QFg}{fd:FuncData}{ps:List Str}(h:∀us:List Value,us.length=ps.length->bindArgs fd ⟨us,[]⟩=pure (ps.zip us)):Binds K fd ps []:=λs us _ hl=>by
 rw [List.append_nil] at hl ⊢
 exact .of_eq (h us hl)
def zl2 (CX:CXT) (X:Cx) (E:XK):Prop:=∀(pins:List (Addr × Obj)) (σ:St) (H:Hp) (s:Shared) (e:Value) (s':Shared),Inv X pins σ H s->CX X.stack H s E e s'->X.xe e s'
section
variable {X:Cx}{CX:CXT}{k:Nat}{f C:Addr}{fd:FuncData}{ps:List Str}{sp:Sp}{dvs:List V}{ds:List Value}{E:XK}{x m:Str}{p pos apos:Pos}{e o:Expr}{es:List Expr}{ta:TE}{t:TA}
theorem zwb {pins:List (Addr × Obj)}{σ:St}{H:Hp}{s:Shared}{Q:VK}{us:List Value}{vs:List V}(F:FnOk X.prog X.w X.K X.mg X.base CX k f fd ps sp) (hr:Room k X.A) (hb:Binds X.K fd ps ds) (hd:Vals dvs ds) (hx:zl2 CX X E)
  (I:Inv X pins σ H s) (r:Vals vs us) (h:sp (vs++dvs) H Q E):wpAny (model X.prog X.w) X.A (call (.ref f) us) (EP X pins σ Q) X.xe s:=by
 have r2:Vals (vs++dvs) (us++ds):=r.append hd
 have hl:(us++ds).length=ps.length:=by rw [<-r2.length];exact F.len _ _ _ _ h
 refine wpAny_call (codeAny_mono (F.run X.A X.stack s H ⟨us,[]⟩ (us++ds) (vs++dvs) Q E hr I.env0 (hb s us I.kIn hl) r2 h) λr s' hq=>?_)
 cases r with
 | error e=>exact hx pins σ H s e s' I hq
 | ok fl =>
  cases fl with
  | ret u=>exact I.after hq
  | next=>exact False.elim hq
  | brk=>exact False.elim hq
  | cont=>exact False.elim hq
theorem zwc (F:FnOk X.prog X.w X.K X.mg X.base CX k f fd ps sp) (hr:Room k X.A) (hg:Gl X x) (hm:X.mg x=some (.ref f)) (hk:PySem.W.keepIn X.K (.ref f)=true) (hb:Binds X.K fd ps ds) (hd:Vals dvs ds) (hx:zl2 CX X E)
  (ha:PA X (e :: es) t) (hdb:(x == ("__debug__":Str))=false:=by decide) (he:starEach (e :: es) X.env=(false,eval e X.env) :: starEach es X.env:=by rfl) (hpl:(backTo pos (starEach es X.env)).any (·.1)=false:=by rfl) :
  PE X (.Call (.Name x p) (e :: es) [] pos) (zwa sp dvs E t):=by
 intro pins s σ H Q I h
 refine wpAny_Call_Name_kw (zt9 I hg hm ?_ hdb)
 refine PySem.W.callWith_K (h₀:=X.base) I.ok.mod.kin hk (thn (ha pos pins s σ H _ I h) λus s1 ⟨vs,H1,I1,r,q⟩=>⟨I1.kIn,?_⟩) he hpl
 exact zwb F hr hb hd hx I1 r q
end
section
variable {X:Cx}{CX:CXT}{k:Nat}{f C:Addr}{fd:FuncData}{ps ks:List Str}{sp:Sp}{E:XK}{x m:Str}{p pos apos kpos:Pos}{e o:Expr}{es:List Expr}{kws:List Keyword}{te ta:TE}{t tk:TA}{nm:Option Str}
variable {g:List Value->List Value->List Value}{gV:List V->List V->List V}
end
structure FnScope (N P:List Str) (sc:Scope):Prop where
 kind:sc.kind=.function
 co:sc.isCoroutine=false
 gen:sc.isGenerator=false
 nd:N.Nodup
 pre:N.take P.length=P
 par:∀x∈P,sc.names.lookup x=some .local\/sc.names.lookup x=some .cell
 nofree:∀y∈sc.names,y.2≠.free
theorem zos {kindOf:Str->Option NameKind}{x:Str}:∀{binds:List (Str × Value)}{m:Str->Option Value},(∀v,(x,v) ∉ binds)->bindL kindOf binds m x=m x
 | [],_,_=>rfl
 | (n,v) :: r,m,h=>by
  unfold bindL
  rw [zos λw hw=>h w (List.mem_cons_of_mem _ hw)]
  split
  ·have:x≠n:=by rintro rfl;exact h v List.mem_cons_self
   simp [this]
  ·rfl
theorem zot {kindOf:Str->Option NameKind}{x:Str}:∀{binds:List (Str × Value)}{m:Str->Option Value},(∀v,(x,v) ∉ binds)->bindC kindOf binds m x=m x
 | [],_,_=>rfl
 | (n,v) :: r,m,h=>by
  unfold bindC
  rw [zot λw hw=>h w (List.mem_cons_of_mem _ hw)]
  split
  ·rfl
  ·have:x≠n:=by rintro rfl;exact h v List.mem_cons_self
   simp [this]
theorem zou {kindOf:Str->Option NameKind}{x:Str}{v:Value}:∀{P:List Str}{vs:List Value}{i:Nat}{m:Str->Option Value},P.Nodup->P[i]? = some x->vs[i]? = some v->kindOf x=some .local ->
  bindL kindOf (P.zip vs) m x=some v
 | [],_,_,_,_,h,_,_=>by simp at h
 | _ :: _,[],_,_,_,_,h,_=>by simp at h
 | p :: P,w :: vs,0,m,nd,h1,h2,hk=>by
  simp at h1 h2;subst h1;subst h2
  show bindL kindOf ((p,w) :: P.zip vs) m p=_
  unfold bindL
  rw [zos λv hv=>(List.nodup_cons.mp nd).1 (List.of_mem_zip hv).1,if_pos hk]
  simp
 | p :: P,w :: vs,i+1,m,nd,h1,h2,hk=>by
  show bindL kindOf ((p,w) :: P.zip vs) m x=_
  unfold bindL
  exact zou (i:=i) (List.nodup_cons.mp nd).2 (by simpa using h1) (by simpa using h2) hk
theorem zov {kindOf:Str->Option NameKind}{x:Str}{v:Value}:∀{P:List Str}{vs:List Value}{i:Nat}{m:Str->Option Value},P.Nodup->P[i]? = some x->vs[i]? = some v->kindOf x≠some .local ->
  bindC kindOf (P.zip vs) m x=some v
 | [],_,_,_,_,h,_,_=>by simp at h
 | _ :: _,[],_,_,_,_,h,_=>by simp at h
 | p :: P,w :: vs,0,m,nd,h1,h2,hk=>by
  simp at h1 h2;subst h1;subst h2
  show bindC kindOf ((p,w) :: P.zip vs) m p=_
  unfold bindC
  rw [zot λv hv=>(List.nodup_cons.mp nd).1 (List.of_mem_zip hv).1,if_neg hk]
  simp
 | p :: P,w :: vs,i+1,m,nd,h1,h2,hk=>by
  show bindC kindOf ((p,w) :: P.zip vs) m x=_
  unfold bindC
  exact zov (i:=i) (List.nodup_cons.mp nd).2 (by simpa using h1) (by simpa using h2) hk
noncomputable def start (N:List Str) (vs:List V):St:=vs.map some++List.replicate (N.length-vs.length) none
noncomputable def zg1 (CX:CXT) (P:Program) (w:World) (K:QFg) (mg:Str->Option Value) (base:Heap) (N:List Str) (qual:Str) (scope:Scope) (f:Addr) (cd:Value) (A:Around) (outer:List Env) (s:Shared) (H:Hp) (E:XK):Cx where
 prog:=P
 w:=w
 K:=K
 mg:=mg
 base:=base
 A:=A.deeper (envOfC qual scope s.heap.objs.size f cd)
 N:=N
 s₀:=s
 H₀:=H
 env:=envOfC qual scope s.heap.objs.size f cd
 outer:=outer
 stack:=envOfC qual scope s.heap.objs.size f cd :: outer
 ex:=[]
 calm:=true
 fn:=λ_=>true
 pn:=[]
 xe:=λe s'=>wpAny (model P w) (A.deeper (envOfC qual scope s.heap.objs.size f cd)) (leaving (envOfC qual scope s.heap.objs.size f cd) e) (λ_ s''=>CX outer H s E e s'') (λe' s''=>CX outer H s E e' s'') s'
theorem zow {sc:Scope}{n:Nat}{x:Str}(h:sc.names.lookup x=some .cell):∃c,(cellsFrom n sc.names []).lookup x=some c:=by
 have q:=PySem.W.cellsFrom_some sc.names n [] (.inl h)
 exact Option.isSome_iff_exists.mp q
theorem zwd {CX:CXT}{P:Program}{w:World}{K:QFg}{mg:Str->Option Value}{base:Heap}{N ps:List Str}{qual:Str}{scope:Scope}{f:Addr}{cd:Value}{A:Around}{outer:List Env}{s s1:Shared}{H:Hp}{E:XK}{us:List Value}{vs:List V}
  (S:FnScope N ps scope) (hd:A.handled=none) (e0:Env0 P w K mg base A outer s H) (hl:vs.length=ps.length) (r:Vals vs us)
  (x:InCallC s s.heap.objs.size (bindL (envOfC qual scope s.heap.objs.size f cd).kindOf (ps.zip us) λ_=>none) (cellsFrom (s.heap.objs.size+1) scope.names []) (bindC (envOfC qual scope s.heap.objs.size f cd).kindOf (ps.zip us) λ_=>none) s1) :
  Inv (zg1 CX P w K mg base N qual scope f cd A outer s H E) [] (start N vs) H s1:=by
 have hpl:ps.length<=N.length:=by have:=congrArg List.length S.pre;rw [List.length_take] at this;omega
 obtain ⟨h1,tk,rfl,hk⟩:=x.done
 have noA:∀b:Addr,b ∉ (zg1 CX P w K mg base N qual scope f cd A outer s H E).ex:=λb z=>absurd (show b∈([]:List Addr) from z) (by simp)
 refine ⟨⟨e0.mod,S.kind,rfl,rfl,qlr _,λy z c h1 h2=>?_,λy hy=>?_,λy c _ h=>?_,λ_=>hd,Around.frames_deeper e0.frames,.inr ⟨rfl,rfl⟩,λb z=>absurd z (noA b),e0.bs,e0.bsz,λb _ _=>noA b,λb z=>absurd z (noA b),e0.funs,e0.frf⟩,
  rfl,e0.bare,Un.kept hk,⟨_,x.toInCall.ns,λi y v h1 h2 h3=>?_⟩,λy c h=>⟨_,x.cell y c h⟩,e0.hok.fresh (qlr _),λy c h=>?_,λp hp=>absurd (show p∈([]:List (Addr × Obj)) from hp) (by simp),e0.hok.kept hk,?_⟩
 ·exact name_of_addr x.apart (PySem.mem_of_lookup h1) (PySem.mem_of_lookup h2)
 ·have hy:scope.names.lookup y=some .cell\/scope.names.lookup y=some .free:=hy
  rcases hy with hy|hy
  ·exact zow hy
  ·exact absurd rfl (S.nofree _ (PySem.mem_of_lookup hy))
 ·exact Nat.le_of_lt (x.above y c (PySem.mem_of_lookup h))
 ·have hi:i<vs.length:=by
   unfold start at h2
   by_cases hi:i<vs.length
   ·exact hi
   ·rw [List.getElem?_append_right (by simpa using hi)] at h2
    rw [List.getElem?_replicate] at h2
    split at h2 <;> cases h2
  have ha:vs[i]? = some v:=by
   unfold start at h2
   rw [List.getElem?_append_left (by simpa using hi),qgm] at h2
   cases e:vs[i]? with
   | none=>rw [e] at h2;cases h2
   | some a=>rw [e] at h2;cases h2;rfl
  obtain ⟨u,hu,rv⟩:=r.get ha
  have hp:ps[i]? = some y:=by
   rw [<-S.pre,List.getElem?_take_of_lt (by omega)];exact h1
  have ndP:ps.Nodup:=by rw [<-S.pre];exact S.nd.sublist (List.take_sublist _ _)
  refine ⟨u,rv,?_⟩
  rcases S.par y (qmg hp) with k|k
  ·exact .inl ⟨k,zou ndP hp hu k⟩
  ·obtain ⟨c,e⟩:=zow (n:=s.heap.objs.size+1) k
   refine .inr ⟨.inl k,c,e,?_⟩
   have q:=x.cell y c e
   rw [zov ndP hp hu (by show scope.names.lookup y≠_;rw [k];decide)] at q
   exact q
 ·exact e0.hok.fresh (Nat.le_of_lt (x.above y c (PySem.mem_of_lookup h)))
 ·unfold start
  show _=N.length
  rw [qla,qlm,List.length_replicate]
  omega
theorem zwe {CX:CXT}{P:Program}{w:World}{K:QFg}{mg:Str->Option Value}{base:Heap}{k:Nat}{f:Addr}{name qual:Str}{params:Arguments}{body:List Stmt}{scope:Scope}{dV kV doc pm cdv ct oc:Value}{an od:Option Addr}
  {osl:Array (Option Value)} {N ps:List Str} {sp:Sp} (lk:K.lookup f=some ⟨oc,od,.func (PySem.W.fnOf name qual params body scope dV kV doc pm an cdv ct),osl⟩) (hcd:PySem.W.codeIn K cdv qual=true) (S:FnScope N ps scope)
  (len:∀vs H Q E,sp vs H Q E->vs.length=ps.length)
  (hbody:∀(A:Around) (outer:List Env) (s:Shared) (H:Hp) (vs:List V) (Q:VK) (E:XK),Room k (A.deeper (envOfC qual scope s.heap.objs.size f cdv))->sp vs H Q E ->
   ∃t,PSs (zg1 CX P w K mg base N qual scope f cdv A outer s H E) body t/\t { nx:=λ_ H'=>Q .non H',rt:=Q } (start N vs) H) :
  FnOk P w K mg base CX (k+1) f (PySem.W.fnOf name qual params body scope dV kV doc pm an cdv ct) ps sp:=by
 refine ⟨len,λA outer s H args us vs Q E hr e0 hb r hsp=>?_⟩
 have hl:=len _ _ _ _ hsp
 have KX:K.In s.heap:=e0.mod.kin.keeps λb o e=>(e0.bs b o e).1
 have lim:s.heap.NoLimit:=e0.mod.nolimit.keeps λb o e=>(e0.bs b o e).1
 have hkind:∀y∈ps.zip us,scope.names.lookup y.1=some .local\/(scope.names.lookup y.1=some .cell/\((cellsFrom (s.heap.objs.size+1) scope.names []).lookup y.1).isSome=true):=λhx2_ hy=>by
  obtain ⟨n,v⟩:=hx2_
  rcases S.par n (List.of_mem_zip hy).1 with q|q
  ·exact .inl q
  ·exact .inr ⟨q,PySem.W.cellsFrom_some _ _ _ (.inl q)⟩
 refine codeAny_call_function hr.depth (KX _ _ lk) rfl S.co S.gen rfl (PySem.W.codeRec_of KX hcd) (hb _ _ _ _ ?_)
 refine wpAny_newFunctionEnv_cells S.kind hkind λenv he s1 x=>?_
 subst he
 refine ⟨lim.keeps x.toInCall.keep,codeAny_func ?_⟩
 obtain ⟨t,ht,hq⟩:=hbody A outer s H vs Q E (hr.deeper _) hsp
 have I:Inv (zg1 CX P w K mg base N qual scope f cdv A outer s H E) [] (start N vs) H s1:=zwd S hr.hd e0 hl r x
 refine wpAny_mono (ht [] s1 (start N vs) H _ I hq) (λfl s' hs=>?_) λe s' hs=>hs
 have fin:∀{σ':St} {H':Hp} {v:V} {u:Value},Inv (zg1 CX P w K mg base N qual scope f cdv A outer s H E) [] σ' H' s'->RelV v u->Q v H'->CE outer P w H s Q u s' :=
  λ{σ' H' v u} J rv q=>⟨v,H',J.os,J.bare,J.base,J.hok,rv,q⟩
 cases fl with
 | ret u =>
  obtain ⟨v,σ',H',J,rv,q⟩:=hs
  exact fin J rv q
 | next =>
  obtain ⟨σ',H',J,q⟩:=hs
  exact fin (v:=V.non) (u:=Value.none) J rfl q
 | brk =>
  obtain ⟨_,_,_,q⟩:=hs
  exact False.elim q
 | cont =>
  obtain ⟨_,_,_,q⟩:=hs
  exact False.elim q
section
variable {X:Cx}{x:Str}{p pos:Pos}{e:Expr}{es:List Expr}{t:TA}{id T:String}{r:List V->Hp->VK->Prop}
def tCB (r:List V->Hp->VK->Prop) (t:TA):TE:=λσ H Q=>t σ H λvs H1=>r vs H1 Q
theorem zl3 (hc:CallR X (.builtin id) r) (hg:Gl X x) (hm:X.mg x=none) (hv:bootBuiltins x=some (.builtin id)) (ha:PA X (e :: es) t) (hn:x≠"__name__":=by decide) (hdb:(x == ("__debug__":Str))=false:=by decide)
  (he:starEach (e :: es) X.env=(false,eval e X.env) :: starEach es X.env:=by rfl) (hpl:(backTo pos (starEach es X.env)).any (·.1)=false:=by rfl):PE X (.Call (.Name x p) (e :: es) [] pos) (tCB r t):=by
 intro pins s σ H Q I h
 refine wpAny_Call_Name_kw (zgz I hg hm hv ?_ hn hdb)
 exact PyProof.Rows.callWith_builtin1 (thn (ha pos pins s σ H _ I h) λus s1 ⟨vs,H1,I1,r1,q1⟩=>hc pins s1 σ H1 vs us Q I1 r1 q1) he hpl
theorem zl4 (hc:CallR X (.type T) r) (hg:Gl X x) (hm:X.mg x=none) (hv:bootBuiltins x=some (.type T)) (ha:PA X (e :: es) t) (hn:x≠"__name__":=by decide) (hdb:(x == ("__debug__":Str))=false:=by decide)
  (he:starEach (e :: es) X.env=(false,eval e X.env) :: starEach es X.env:=by rfl) (hpl:(backTo pos (starEach es X.env)).any (·.1)=false:=by rfl):PE X (.Call (.Name x p) (e :: es) [] pos) (tCB r t):=by
 intro pins s σ H Q I h
 refine wpAny_Call_Name_kw (zgz I hg hm hv ?_ hn hdb)
 exact PyProof.Rows.callWith_type1 (thn (ha pos pins s σ H _ I h) λus s1 ⟨vs,H1,I1,r1,q1⟩=>hc pins s1 σ H1 vs us Q I1 r1 q1) he hpl
end
end L2
namespace HT
open PySem PyProof.Rows
section
open PySem.SeqAt
open PySem.AutoSeq1 (wpAny_loadPart')
open PySem.MeetsSeq PySem.MeetsSeq2 PySem.MeetsSeq3
end
section
variable {prog:Program}{w:World}{A:Around}{E:Value->Shared->Prop}{s:Shared}
theorem cat_tup {t b:Addr}{vs ws:List Value}{Q:Value->Shared->Prop}(ht:IsTup s.heap t vs.toArray) (hb:IsTup s.heap b ws.toArray) (hv:vs≠[])
  (h1:ws=[]->Q (.ref t) s) (h2:ws≠[]->Q (.ref s.heap.objs.size) { s with heap:=s.heap.push { cls:=.type "tuple",data:=.seq (vs++ws).toArray } })
  (hsz:vs.length+ws.length<=sizeLine):wpAny (model prog w) A (binaryOp .Add (.ref t) (.ref b)) Q E s:=by
 obtain ⟨⟨cls,dd,data,sl⟩,ho,hc,n,hd⟩:=id ht
 obtain ⟨⟨cls2,dd2,data2,sl2⟩,ho2,hc2,n2,hd2⟩:=id hb
 simp only at hc hd hc2 hd2
 subst hc hd hc2 hd2
 have e:vs.toArray++ws.toArray=(vs++ws).toArray:=by simp
 by_cases hw:ws=[]
 ·exact concat_meets ⟨_,ho,rfl⟩ ⟨_,ho2,rfl⟩ noFill_tuple_add seq_tuple_add PySem.F.slot_tuple_add PySem.F.entry_tuple_add (PySem.F.args_tuple_add_2 _ _)
   (tuple_addW1 t b vs.toArray ws.toArray n n2 dd dd2 sl sl2 (by simpa using hv) (by simp [hw])) ⟨ho,ho2,h1 hw⟩
 ·refine concat_meets ⟨_,ho,rfl⟩ ⟨_,ho2,rfl⟩ noFill_tuple_add seq_tuple_add PySem.F.slot_tuple_add PySem.F.entry_tuple_add (PySem.F.args_tuple_add_2 _ _)
   (tuple_addW2 t b vs.toArray ws.toArray n n2 dd dd2 sl sl2 (by simpa using hv) (by simpa using hw) (by rw [List.size_toArray,List.size_toArray];exact hsz)) ⟨ho,ho2,?_⟩
  rw [e]
  exact h2 hw
noncomputable def sIx (n d:Nat):Option Int->Nat
 | none=>d
 | some v=>if v<0 then (v+(n:Int)).toNat else min v.toNat n
theorem sIx_none (n d:Nat):sIx n d none=d:=rfl
theorem sIx_nat (n d k:Nat):sIx n d (some (k:Int))=min k n:=by
 show (if (k:Int)<0 then ((k:Int)+(n:Int)).toNat else min (k:Int).toNat n)=min k n
 rw [if_neg (by omega),Int.toNat_natCast]
theorem zwf (n d:Nat) (hd:d<=n) (o:Option Int):sIx n d o<=n:=by
 cases o with
 | none=>exact hd
 | some v =>
  show (if v<0 then (v+(n:Int)).toNat else min v.toNat n)<=n
  by_cases hv:v<0
  ·rw [if_pos hv];omega
  ·rw [if_neg hv];exact Nat.min_le_right _ _
theorem zox (v:Int) (n d:Nat):(if v<0 then max (v+(n:Int)) 0 else min v (n:Int))=((sIx n d (some v):Nat):Int):=by
 show (if v<0 then max (v+(n:Int)) 0 else min v (n:Int))=(((if v<0 then (v+(n:Int)).toNat else min v.toNat n):Nat):Int)
 by_cases hv:v<0
 ·simp only [if_pos hv];omega
 ·simp only [if_neg hv];omega
theorem zwg (lo hi:Option Int) (n:Nat):Builtin.Slice.sliceAdjust lo hi 1 (n:Int)=(((sIx n 0 lo:Nat):Int),((sIx n n hi:Nat):Int)):=by
 have h1:¬((1:Int)<0):=by omega
 unfold Builtin.Slice.sliceAdjust
 simp only [h1,if_false]
 refine Prod.ext ?_ ?_
 ·cases lo with
  | none=>rfl
  | some v=>exact zox v n 0
 ·cases hi with
  | none=>rfl
  | some v=>exact zox v n n
theorem zwh (i j:Nat):Builtin.Slice.slicePlaces (i:Int) (j:Int) 1=j-i:=by
 unfold Builtin.Slice.slicePlaces
 have h1:(1:Int) > 0:=by omega
 simp only [h1,if_true,Int.ediv_one]
 split <;> omega
theorem zoy {v:Value}{o:Option Int}{Q:Option Int->Shared->Prop}(p:IsPart v o) (h:Q o s):wpAny (model prog w) A (Builtin.Slice.slicePartIndex v) Q E s:=by
 cases p with
 | none=>exact slicePart_none h
 | int i t=>exact slicePart_int h
theorem zoz {sl:Addr}{vl vu:Value}{lo hi:Option Int}{n:Nat}{Q:Int × Int × Nat->Shared->Prop}(hs:s.heap.IsSliceOf sl vl vu .none) (pl:IsPart vl lo) (pu:IsPart vu hi)
  (h:Q (((sIx n 0 lo:Nat):Int),1,sIx n n hi-sIx n 0 lo) s):wpAny (model prog w) A (Builtin.Slice.sliceApplied (.ref sl) (pure (n:Int))) Q E s:=by
 obtain ⟨os,hos,hcs,hds⟩:=id hs
 unfold Builtin.Slice.sliceApplied Builtin.Slice.sliceFields
 refine qwb (qwb (wpAny_field hos hds (x:=vl) rfl (qwb (wpAny_field hos hds (x:=vu) rfl (qwb (wpAny_field hos hds (x:=.none) rfl (qwp ?_)))))))
 refine qwb (slicePart_none ?_)
 show wpAny _ _ (if ((1:Int) == 0)=true then _ else _) _ _ s
 rw [if_neg (by decide)]
 refine qwb (zoy pl (qwb (zoy pu (qwb (qwp ?_)))))
 show wpAny _ _ (match Builtin.Slice.sliceAdjust lo hi 1 (n:Int) with|(lo,hi)=>pure (lo,(1:Int),Builtin.Slice.slicePlaces lo hi 1)) _ _ s
 rw [zwg lo hi n]
 show wpAny _ _ (pure (((sIx n 0 lo:Nat):Int),(1:Int),Builtin.Slice.slicePlaces ((sIx n 0 lo:Nat):Int) ((sIx n n hi:Nat):Int) 1)) _ _ s
 rw [zwh]
 exact qwp h
theorem zwi (xs:Array Value) (i k:Nat):((List.range k).filterMap λ(m:Nat)=>xs[((i:Int)+(m:Int)*1).toNat]?).toArray=((xs.toList.drop i).take k).toArray:=by
 have e:(λ(m:Nat)=>xs[((i:Int)+(m:Int)*1).toNat]?)=λm=>xs[i+m]?:=by
  funext m
  have:((i:Int)+(m:Int)*1).toNat=i+m:=by omega
  rw [this]
 rw [e]
 have:=pick_run xs i k
 rw [List.filterMap_map] at this
 have e2:((λx=>xs[x]?) ∘ λx=>i+x)=λm=>xs[i+m]?:=rfl
 rw [e2] at this
 rw [this]
theorem getItem_tuple_cut {t sl:Addr}{items:Array Value}{vl vu:Value}{lo hi:Option Int}{Q:Value->Shared->Prop}(ht:IsTup s.heap t items) (hs:s.heap.IsSliceOf sl vl vu .none) (pl:IsPart vl lo) (pu:IsPart vu hi)
  (hw:¬(sIx items.size 0 lo=0/\sIx items.size items.size hi=items.size))
  (h:Q (.ref s.heap.objs.size) { s with heap:=s.heap.push { cls:=.type "tuple",data:=.seq ((items.toList.drop (sIx items.size 0 lo)).take (sIx items.size items.size hi-sIx items.size 0 lo)).toArray } })
  (hsz:items.size<=sizeLine):wpAny (model prog w) A (getItem (.ref t) (.ref sl)) Q E s:=by
 have htake:sizeOk (.seq ((items.toList.drop (sIx items.size 0 lo)).take (sIx items.size items.size hi-sIx items.size 0 lo)).toArray):=by
  show ((items.toList.drop (sIx items.size 0 lo)).take (sIx items.size items.size hi-sIx items.size 0 lo)).toArray.size<=sizeLine
  rw [List.size_toArray,List.length_take,List.length_drop,Array.length_toList]
  omega
 have hj:sIx items.size items.size hi<=items.size:=zwf _ _ (qlr _) hi
 obtain ⟨os,hos,hcs,hds⟩:=id hs
 have hTs:s.TypeIs (.ref sl) "slice":=⟨os,hos,hcs⟩
 unfold getItem
 try with_reducible refine wpAny_holding ?_
 first|refine qwb (qwp ?_)|skip
 refine qwb (wpAny_sequenceKey ht.typeIs (by decide) ?_)
 refine qwb (wpAny_callSpecial?_slot (name:=Str.ofString "__getitem__") ht.typeIs PyProof.Rows.slot_tuple_getitem
  (wpAny_call_entry PyProof.Rows.slot_tuple_getitem ht.typeIs entry_tuple_getitem ?_ (args_tuple_getitem _ _)))
 show wpAny _ _ (Builtin.Tuple.tupleItemsOf (.ref t) >>= _) _ _ s
 refine qwb (tupleItemsOf_ ht ?_)
 refine qwb (wpAny_typeOf hTs ?_)
 rw [if_pos (by decide)]
 refine qwb (zoz hs pl pu ?_)
 have hno:¬((((sIx items.size 0 lo:Nat):Int) == 0 && (1:Int) == 1 && (sIx items.size items.size hi-sIx items.size 0 lo) == items.size)=true):=by
  intro q
  rw [Bool.and_eq_true,Bool.and_eq_true] at q
  have q1:((sIx items.size 0 lo:Nat):Int)=0:=eq_of_beq q.1.1
  have q2:sIx items.size items.size hi-sIx items.size 0 lo=items.size:=eq_of_beq q.2
  exact hw ⟨by omega,by omega⟩
 show wpAny _ _ (if (((sIx items.size 0 lo:Nat):Int) == 0 && (1:Int) == 1 && (sIx items.size items.size hi-sIx items.size 0 lo) == items.size)=true then _ else _) _ _ s
 rw [if_neg hno,zwi]
 first
  | exact qwb (m:=Builtin.Tuple.tupleExact _) (wpAny_newObj_type (qwp ⟨_,rfl,qwp h⟩) htake)
  | exact qwb (m:=Builtin.Tuple.tupleExact _) (wpAny_newObj_type (qwb (qwp (qwp ⟨_,rfl,qwp h⟩))) htake)
  | exact qwb (qwb (m:=Builtin.Tuple.tupleExact _) (wpAny_newObj_type (qwp (qwp ⟨_,rfl,qwp h⟩)) htake))
  | exact qwb (qwb (m:=Builtin.Tuple.tupleExact _) (wpAny_newObj_type (qwp ⟨_,rfl,qwp h⟩) htake))
end
end HT
namespace L2
open PySem PySem.Spec PyProof.Rows
abbrev TO:=St->Hp->(Option Int->Hp->Prop)->Prop
def PO (X:Cx) (e:Option Expr) (t:TO):Prop :=
 ∀(pins:List (Addr × Obj)) (s:Shared) (σ:St) (H:Hp) (Q:Option Int->Hp->Prop),Inv X pins σ H s->t σ H Q ->
  wpAny (model X.prog X.w) X.A (evalPart e X.env) (λu s'=>∃o H',Inv X pins σ H' s'/\IsPart u o/\Q o H') X.xe s
def zwj:TO:=λ_ H Q=>Q none H
def zwk (t:TE):TO:=λσ H Q=>t σ H λx H1=>∃i,x=.int i/\Q (some i) H1
section
variable {X:Cx}{e:Expr}{te:TE}{lo hi:Option Expr}{tl th:TO}{pos p2:Pos}
theorem zwl:PO X none zwj:=by
 intro pins s σ H Q I h
 rw [evalPart_none]
 exact qwp ⟨none,H,I,.none,h⟩
theorem zwm (h:PE X e te):PO X (some e) (zwk te):=by
 intro pins s σ H Q I hw
 rw [evalPart_some]
 refine thn (h pins s σ H _ I hw) λu s1 ⟨x,H1,I1,r1,q1⟩=>?_
 obtain ⟨i,rfl,q⟩:=q1
 obtain ⟨t,rfl⟩:=r1
 exact ⟨some i,H1,I1,.int i t,q⟩
def SlR (X:Cx) (r:V->Option Int->Option Int->Hp->VK->Prop):Prop :=
 ∀(pins:List (Addr × Obj)) (s:Shared) (σ:St) (H:Hp) (x:V) (v vl vu:Value) (lo hi:Option Int) (sl:Addr) (Q:VK),Inv X pins σ H s->RelV x v->s.heap.IsSliceOf sl vl vu .none->IsPart vl lo->IsPart vu hi->r x lo hi H Q ->
  ∃T id,typeLookup (.type T) "__getitem__" = pure (some (.builtin id))/\s.TypeIs v T/\wpAny (model X.prog X.w) X.A (getItem v (.ref sl)) (EP X pins σ Q) X.xe s
theorem SlR.or {r r':V->Option Int->Option Int->Hp->VK->Prop}(h:SlR X r) (h':SlR X r'):SlR X (λx lo hi H Q=>r x lo hi H Q\/r' x lo hi H Q):=by
 intro pins s σ H x v vl vu lo hi sl Q I rx hs pl pu q
 rcases q with q|q
 ·exact h pins s σ H x v vl vu lo hi sl Q I rx hs pl pu q
 ·exact h' pins s σ H x v vl vu lo hi sl Q I rx hs pl pu q
def tSl (r:V->Option Int->Option Int->Hp->VK->Prop) (te:TE) (tl th:TO):TE:=λσ H Q=>te σ H λx H1=>tl σ H1 λl H2=>th σ H2 λu H3=>r x l u H3 Q
theorem zwn {r:V->Option Int->Option Int->Hp->VK->Prop}(hr:SlR X r) (he:PE X e te) (hl:PO X lo tl) (hu:PO X hi th):PE X (.Subscript e (.Slice lo hi none p2) pos) (tSl r te tl th):=by
 intro pins s σ H Q I h
 refine Subscript_ (thn (he pins s σ H _ I h) λv s1 ⟨x,H1,I1,r1,q1⟩=>?_)
 refine wpAny_Slice (thn (hl pins s1 σ H1 _ I1 q1) λvl s2 ⟨l,H2,I2,pl,q2⟩=>thn (hu pins s2 σ H2 _ I2 q2) λvu s3 ⟨u,H3,I3,pu,q3⟩=>?_)
 rw [evalPart_none]
 refine qwp ?_
 have I4:Inv X pins σ H3 { s3 with heap:=s3.heap.push { cls:=.type "slice",data:=.fields #[vl,vu,.none] } }:=I3.kept (t':=s3.toks) λb ob q=>qps _ q
 obtain ⟨T,id,hT,ht,hg⟩:=hr pins { s3 with heap:=s3.heap.push { cls:=.type "slice",data:=.fields #[vl,vu,.none] } } σ H3 x v vl vu l u s3.heap.objs.size Q I4 r1 (Heap.IsSliceOf.new ..) pl pu q3
 show wpAny (model X.prog X.w) X.A (subscriptTail e (.Slice lo hi none p2) v (.ref s3.heap.objs.size)) (EP X pins σ Q) X.xe { s3 with heap:=s3.heap.push { cls:=.type "slice",data:=.fields #[vl,vu,.none] } }
 exact tail_any (ops:=[.ref s3.heap.objs.size,v]) ht hT hg (by with_unfolding_all rfl)
noncomputable def zfu (xs:List V) (lo hi:Option Int):List V:=(xs.drop (HT.sIx xs.length 0 lo)).take (HT.sIx xs.length xs.length hi-HT.sIx xs.length 0 lo)
theorem zo0 (xs:List V) (lo hi:Option Int):(zfu xs lo hi).length<=xs.length:=by
 unfold zfu
 rw [List.length_take,List.length_drop]
 omega
def zwo (K:QFg):V->Option Int->Option Int->Hp->VK->Prop:=λx lo hi H Q=>∃a xs,x=.ref a/\SqT K H a xs /\
 ¬(HT.sIx xs.length 0 lo=0/\HT.sIx xs.length xs.length hi=xs.length)/\∀p,H p=none->Q (.ref p) (upd H p (.tup (zfu xs lo hi)))
theorem sl_tup:SlR X (zwo X.K):=by
 intro pins s σ H x v vl vu lo hi sl Q I rx hs pl pu h
 obtain ⟨a,xs,rfl,hx,hw,q⟩:=h
 cases rx
 obtain ⟨its,r,ht,hz⟩:=I.tuple hx
 have hlen:its.toArray.size=xs.length:=by rw [List.size_toArray];exact r.length.symm
 refine ⟨"tuple",_,PyProof.Rows.slot_tuple_getitem.lookup,ht.typeIs,?_⟩
 refine HT.getItem_tuple_cut ht hs pl pu (by rw [hlen];exact hw) ?_ (by rw [hlen];exact hz)
 rw [hlen]
 refine ⟨.ref s.heap.objs.size,_,I.laid (t':=s.toks) (o:=.tup (zfu xs lo hi)) (λb ob q=>qps _ q) (qlr _) ?_,rfl,q _ (I.hok.fresh (qlr _))⟩
 exact ⟨Nat.le_trans (zo0 xs lo hi) hz,_,(r.drop (HT.sIx xs.length 0 lo)).take (HT.sIx xs.length xs.length hi-HT.sIx xs.length 0 lo),IsTD.new _ _⟩
def zl5 (K:QFg):R2:=λx y H Q=>∃a b xs ys,x=.ref a/\y=.ref b/\SqT K H a xs/\SqT K H b ys/\xs≠[]/\xs.length+ys.length<=sizeLine /\
 (ys=[]->Q (.ref a) H)/\(ys≠[]->∀p,H p=none->Q (.ref p) (upd H p (.tup (xs++ys))))
theorem Vals.nil_iff {xs:List V}{us:List Value}(r:Vals xs us):us=[]↔xs=[]:=by
 cases r with
 | nil=>simp
 | cons _ _=>simp
theorem op_catT:OpR X (binaryOp .Add) (zl5 X.K):=by
 intro pins s σ H x y v u Q I rx ry h
 obtain ⟨a,b,xs,ys,rfl,rfl,ha,hb,hx,hz,q1,q2⟩:=h
 cases rx
 cases ry
 obtain ⟨its,r1,p1,_⟩:=I.tuple ha
 obtain ⟨its2,r2,p2,_⟩:=I.tuple hb
 refine HT.cat_tup p1 p2 (λz=>hx (r1.nil_iff.mp z)) (λz=>⟨.ref a,H,I,rfl,q1 (r2.nil_iff.mp z)⟩) (λz=>?_) (by rw [<-r1.length,<-r2.length];exact hz)
 refine ⟨.ref s.heap.objs.size,_,I.laid (t':=s.toks) (o:=.tup (xs++ys)) (λb ob q=>qps _ q) (qlr _) ?_,rfl,q2 (λw=>z (r2.nil_iff.mpr w)) _ (I.hok.fresh (qlr _))⟩
 exact ⟨by rw [qla];exact hz,_,r1.append r2,IsTD.new _ _⟩
end
noncomputable def ixN (n:Nat) (i:Int):Option Nat:=if 0<=i then (if i<n then some i.toNat else none) else if -(n:Int)<=i then some (i+n).toNat else none
noncomputable def atI {α:Type}(xs:List α) (i:Int):Option α:=(ixN xs.length i).bind λj=>xs[j]?
theorem zo1 {n:Nat}{i:Int}{j:Nat}(h:ixN n i=some j):seqIndex? i n=some j/\j<n/\-(n:Int)<=i/\i<n:=by
 unfold ixN at h
 by_cases h0:0<=i
 ·rw [if_pos h0] at h
  by_cases h1:i<n
  ·rw [if_pos h1] at h
   have e:i.toNat=j:=qoi h
   exact ⟨by rw [seqIndex_of h0 h1,e],by omega,by omega,h1⟩
  ·rw [if_neg h1] at h;cases h
 ·rw [if_neg h0] at h
  by_cases h1:-(n:Int)<=i
  ·rw [if_pos h1] at h
   have e:(i+n).toNat=j:=qoi h
   exact ⟨by rw [seqIndex_neg (by omega) h1,e],by omega,h1,by omega⟩
  ·rw [if_neg h1] at h;cases h
theorem atI_get {α:Type}{xs:List α}{i:Int}{v:α}(h:atI xs i=some v):∃j,seqIndex? i xs.length=some j/\xs[j]? = some v/\j<xs.length/\-(xs.length:Int)<=i/\i<xs.length:=by
 unfold atI at h
 cases e:ixN xs.length i with
 | none=>rw [e] at h;cases h
 | some j =>
  rw [e] at h
  obtain ⟨h1,h2,h3,h4⟩:=zo1 e
  exact ⟨j,h1,h,h2,h3,h4⟩
def zo2 (b:Expr):Prop:=∀o i,subscripted b false o i=operate [o,i] (getItem o i)
def IxR (X:Cx) (r:R2):Prop :=
 ∀(value slice:Expr) (pins:List (Addr × Obj)) (s:Shared) (σ:St) (H:Hp) (x y:V) (v u:Value) (Q:VK),Inv X pins σ H s->RelV x v->RelV y u->r x y H Q ->
  subscripted slice false v u=operate [v,u] (getItem v u)->wpAny (model X.prog X.w) X.A (subscriptTail value slice v u) (EP X pins σ Q) X.xe s
def MtR (X:Cx) (id:String) (r:V->List V->Hp->VK->Prop):Prop :=
 ∀(pins:List (Addr × Obj)) (s:Shared) (σ:St) (H:Hp) (x:V) (xs:List V) (v:Value) (us:List Value) (Q:VK),Inv X pins σ H s->RelV x v->Vals xs us->r x xs H Q ->
  wpAny (model X.prog X.w) X.A (call (.builtin id) (v :: us)) (EP X pins σ Q) X.xe s
section
variable {X:Cx}{a b:Expr}{ta tb:TE}{pos:Pos}
theorem IxR.or {r r':R2}(h:IxR X r) (h':IxR X r'):IxR X (λx y H Q=>r x y H Q\/r' x y H Q):=by
 intro value slice pins s σ H x y v u Q I rx ry q hs
 rcases q with q|q
 ·exact h value slice pins s σ H x y v u Q I rx ry q hs
 ·exact h' value slice pins s σ H x y v u Q I rx ry q hs
theorem zwp {r:R2}(hr:IxR X r) (ha:PE X a ta) (hb:PE X b tb) (hs:zo2 b):PE X (.Subscript a b pos) (tOp r ta tb):=by
 intro pins s σ H Q I h
 exact Subscript_ (zlz ha hb I h λv u s2 x y H2 I2 rx ry q=>hr a b pins s2 σ H2 x y v u Q I2 rx ry q (hs _ _))
def zo3 (K:QFg):R2:=λx y H Q=>∃p xs i v,x=.ref p/\y=.int i/\SqL K H p xs/\atI xs i=some v/\Q v H
def zo4 (K:QFg):R2:=λx y H Q=>∃p xs i v,x=.ref p/\y=.int i/\SqT K H p xs/\atI xs i=some v/\Q v H
def zl6:R2:=λx y H Q=>∃z i c,x=.str z/\y=.int i/\z.length<=sizeLine/\atI z.cps.toList i=some c/\Q (.str ⟨#[c]⟩) H
theorem ix_list:IxR X (zo3 X.K):=by
 intro value slice pins s σ H x y v u Q I rx ry h hs
 obtain ⟨p,xs,i,z,rfl,rfl,hq,he,q⟩:=h
 cases rx
 obtain ⟨t,rfl⟩:=ry
 obtain ⟨its,r,pl,hz⟩:=I.list hq
 obtain ⟨j,h1,h2,h3,h4,h5⟩:=atI_get he
 obtain ⟨w,ew,rw'⟩:=r.get h2
 have hl:=r.length
 have hn:=zh0
 have fin:EP X pins σ Q w s:=⟨z,H,I,rw',q⟩
 by_cases h0:0<=i
 ·have hj:i.toNat=j:=by
   rw [seqIndex_of h0 h5] at h1
   exact qoi h1
  exact item_listR pl.isList h0 (by omega) (by rw [hj];simpa using ew) fin hs
 ·have hj:(i+(its.toArray.size:Int)).toNat=j:=by
   rw [seqIndex_neg (by omega) h4] at h1
   rw [List.size_toArray,<-hl]
   exact qoi h1
  exact subscriptTail_builtinR (x:=w) pl.isList.typeIs slot_list_getitem.lookup
   (wpAny_getItem_list_neg (Q:=λr s'=>r=w/\EP X pins σ Q r s') pl.isList (by omega) (by rw [List.size_toArray] <;> omega) (by omega) (by rw [hj];simpa using ew) ⟨rfl,fin⟩) hs
theorem ix_tup:IxR X (zo4 X.K):=by
 intro value slice pins s σ H x y v u Q I rx ry h hs
 obtain ⟨p,xs,i,z,rfl,rfl,hq,he,q⟩:=h
 cases rx
 obtain ⟨t,rfl⟩:=ry
 obtain ⟨its,r,pl,hz⟩:=I.tuple hq
 obtain ⟨j,h1,h2,h3,h4,h5⟩:=atI_get he
 obtain ⟨w,ew,rw'⟩:=r.get h2
 have hl:=r.length
 have hn:=zh0
 have fin:EP X pins σ Q w s:=⟨z,H,I,rw',q⟩
 exact subscriptTail_builtinR (x:=w) pl.typeIs slot_tuple_getitem.lookup
  (getItem_tuple (j:=j) (Q:=λr s'=>r=w/\EP X pins σ Q r s') pl (by omega) (by omega) (by rw [List.size_toArray,<-hl];exact h1) (by simpa using ew) ⟨rfl,fin⟩) hs
theorem zwq:IxR X zl6:=by
 intro value slice pins s σ H x y v u Q I rx ry h hs
 obtain ⟨z,i,c,rfl,rfl,hz,he,q⟩:=h
 obtain ⟨t,rfl⟩:=rx
 obtain ⟨t',rfl⟩:=ry
 obtain ⟨j,h1,h2,h3,h4,h5⟩:=atI_get he
 have hl:z.cps.toList.length=z.length:=by simp [Str.length]
 rw [hl] at h1 h4 h5
 have hn:=zh0
 exact tail_any (typeIs_str s z t) slot_str_getitem.lookup (getItem_str (c:=c) (by
  have e1:decide (i < -(2 ^ 63:Int))=false:=decide_eq_false (by omega)
  have e2:decide (i ≥ 2 ^ 63)=false:=decide_eq_false (by omega)
  rw [e1,e2,Bool.or_false]) (by rw [h1];simpa using h2) ⟨.str ⟨#[c]⟩,H,I.tok _,⟨_,rfl⟩,q⟩) hs
def rIx (K:QFg):R2:=λx y H Q=>zo3 K x y H Q\/zo4 K x y H Q\/zl6 x y H Q
theorem zwr:IxR X (rIx X.K):=ix_list.or (ix_tup.or zwq)
theorem zws (its:List Value) (n j:Nat) (u:Value):Obj.mapSeq (·.setIfInBounds j u) { cls:=.type "list",data:=.seq its.toArray n }={ cls:=.type "list",data:=.seq (its.set j u).toArray n }:=by
 simp [Obj.mapSeq]
theorem Inv.lst {pins:List (Addr × Obj)}{σ:St}{H:Hp}{s:Shared}{p:Addr}{xs:List V}(I:Inv X pins σ H s) (h:H p=some (.lst xs)) :
  ∃(its:List Value) (n:Nat),Vals xs its/\s.heap.get? p=some { cls:=.type "list",data:=.seq its.toArray n }/\xs.length<=sizeLine:=by
 obtain ⟨z,its,n,r,e⟩:=I.hok p _ h
 exact ⟨its,n,r,e,z⟩
theorem Inv.lstUpd {pins:List (Addr × Obj)}{σ:St}{H:Hp}{s:Shared}{p:Addr}{xs ys:List V}{its its':List Value}{n n':Nat}{f:Obj->Obj}(I:Inv X pins σ H s) (h:H p=some (.lst xs))
  (ho:s.heap.get? p=some { cls:=.type "list",data:=.seq its.toArray n }) (hf:f { cls:=.type "list",data:=.seq its.toArray n }={ cls:=.type "list",data:=.seq its'.toArray n' }) (r:Vals ys its') (hz:ys.length<=sizeLine) (t:Nat) :
  Inv X pins σ (upd H p (.lst ys)) { s with heap:=s.heap.update p f,toks:=t }:=by
 have e:(s.heap.update p f).get? p=some { cls:=.type "list",data:=.seq its'.toArray n' }:=by
  rw [Heap.get?_update_self f ho (by rw [hf] <;> rfl),hf]
 refine I.write (x:=p) (e:=p) (by rw [h];trivial) (.inl rfl) (λb u hb q=>(Heap.get?_update_other _ _ (Ne.symm hb)).trans q) ⟨_,e⟩ ?_
 exact ⟨hz,its',n',r,e⟩
def zo5:V->V->V->Hp->(Hp->Prop)->Prop:=λo i v H Q=>∃p xs k j,o=.ref p/\i=.int k/\H p=some (.lst xs)/\ixN xs.length k=some j/\Q (upd H p (.lst (xs.set j v)))
theorem zwt:zoe X zo5:=by
 intro pins s σ H o i v ov iv u Q I ro ri rv h
 obtain ⟨p,xs,k,j,rfl,rfl,hp,hj,q⟩:=h
 cases ro
 obtain ⟨t,rfl⟩:=ri
 obtain ⟨its,n,r,ho,hz⟩:=I.lst hp
 obtain ⟨h1,h2,h3,h4⟩:=zo1 hj
 have hl:=r.length
 have hn:=zh0
 have I':Inv X pins σ (upd H p (.lst (xs.set j v))) { s with heap:=s.heap.update p (Obj.mapSeq (·.setIfInBounds j u)) } :=
  I.lstUpd hp ho (zws its n j u) (r.set rv j) (by rw [List.length_set];exact hz) s.toks
 by_cases h0:0<=k
 ·have hk:k.toNat=j:=by
   rw [seqIndex_of h0 h4] at h1
   exact qoi h1
  exact PySem.W.ki_setAt ho h0 (by omega) (by rw [List.size_toArray,<-hl];exact h4) (by rw [hk];exact ⟨_,I',q⟩)
 ·have hk:(k+(its.toArray.size:Int)).toNat=j:=by
   rw [seqIndex_neg (by omega) h3] at h1
   rw [List.size_toArray,<-hl]
   exact qoi h1
  exact PySem.W.ki_setBack ho (by omega) (by rw [List.size_toArray,<-hl];exact h3) (by omega) (by rw [hk];exact ⟨_,I',q⟩)
theorem zwu (lo hi:Option Int) (n:Nat):(sliceBounds lo hi none n).1=((HT.sIx n 0 lo:Nat):Int)/\(sliceBounds lo hi none n).2.1=((HT.sIx n n hi:Nat):Int)/\(sliceBounds lo hi none n).2.2=1:=by
 refine ⟨?_,?_,rfl⟩
 ·cases lo with
  | none=>simp [sliceBounds,HT.sIx]
  | some i =>
   simp only [sliceBounds,HT.sIx,Option.getD_none,show (1:Int) > 0 by decide,if_true]
   by_cases h:i<0
   ·simp only [h,if_true] <;> omega
   ·simp only [h,if_false] <;> omega
 ·cases hi with
  | none=>simp [sliceBounds,HT.sIx]
  | some i =>
   simp only [sliceBounds,HT.sIx,Option.getD_none,show (1:Int) > 0 by decide,if_true]
   by_cases h:i<0
   ·simp only [h,if_true] <;> omega
   ·simp only [h,if_false] <;> omega
theorem zwv (its:List Value) (lo hi:Option Int):slicePick its.toArray lo hi none=((its.drop (HT.sIx its.length 0 lo)).take (HT.sIx its.length its.length hi-HT.sIx its.length 0 lo)).toArray:=by
 obtain ⟨h1,h2,h3⟩:=zwu lo hi its.toArray.size
 unfold slicePick
 rw [h1,h2,h3]
 simp only [sliceRange_one,pick_run,List.size_toArray] <;> rfl
def zww (K:QFg):V->Option Int->Option Int->Hp->VK->Prop:=λx lo hi H Q=>∃a xs,x=.ref a/\SqL K H a xs/\∀p,H p=none->Q (.ref p) (upd H p (.lst (zfu xs lo hi)))
theorem zwx:SlR X (zww X.K):=by
 intro pins s σ H x v vl vu lo hi sl Q I rx hs pl pu h
 obtain ⟨a,xs,rfl,hx,q⟩:=h
 cases rx
 obtain ⟨its,r,ht,hz⟩:=I.list hx
 have hlen:=r.length
 refine ⟨"list",_,slot_list_getitem.lookup,ht.isList.typeIs,?_⟩
 refine wpAny_getItem_list_slice ht.isList hs pl pu .none (by simp) ?_ (by rw [List.size_toArray] <;> omega)
 rw [zwv,<-hlen]
 refine ⟨.ref s.heap.objs.size,_,I.laid (t':=s.toks) (o:=.lst (zfu xs lo hi)) (λb ob q=>qps _ q) (qlr _) ?_,rfl,q _ (I.hok.fresh (qlr _))⟩
 exact ⟨Nat.le_trans (zo0 xs lo hi) hz,_,0,(r.drop (HT.sIx xs.length 0 lo)).take (HT.sIx xs.length xs.length hi-HT.sIx xs.length 0 lo),Heap.get?_push_size _ rfl⟩
noncomputable def zfv:V->Bool
 | .non=>true
 | .bl _=>true
 | .int _=>true
 | .str _=>true
 | _=>false
noncomputable def eqV:V->V->Bool
 | .non,.non=>true
 | .bl a,.bl b=>a == b
 | .bl a,.int b=>(if a then 1 else 0) == b
 | .int a,.bl b=>a == (if b then 1 else 0)
 | .int a,.int b=>a == b
 | .str a,.str b=>a == b
 | _,_=>false
theorem zwy {A:Around}{s:Shared}{y x:V}{u v:Value}(ry:RelV y u) (rx:RelV x v) (fy:zfv y=true) (fx:zfv x=true):SeqAt.EqAt A s u v (eqV y x):=by
 cases y with
 | non =>
  cases ry
  cases x with
  | non=>cases rx;exact SeqAt.EqAt.same _
  | bl b=>cases rx;exact SeqAt.EqAt.none_bool b
  | int b=>obtain ⟨t,rfl⟩:=rx;exact SeqAt.EqAt.none_int b t
  | str b=>obtain ⟨t,rfl⟩:=rx;exact SeqAt.EqAt.none_str b t
  | _=>exact absurd (show false=true from fx) Bool.false_ne_true
 | bl a =>
  cases ry
  cases x with
  | non=>cases rx;exact SeqAt.EqAt.bool_none a
  | bl b=>cases rx;exact SeqAt.EqAt.bool_bool a b
  | int b=>obtain ⟨t,rfl⟩:=rx;exact SeqAt.EqAt.bool_int a b t
  | str b=>obtain ⟨t,rfl⟩:=rx;exact SeqAt.EqAt.bool_str a b t
  | _=>exact absurd (show false=true from fx) Bool.false_ne_true
 | int a =>
  obtain ⟨t',rfl⟩:=ry
  cases x with
  | non=>cases rx;exact SeqAt.EqAt.int_none a t'
  | bl b=>cases rx;exact SeqAt.EqAt.int_bool a t' b
  | int b=>obtain ⟨t,rfl⟩:=rx;exact SeqAt.EqAt.int_int a t' b t
  | str b=>obtain ⟨t,rfl⟩:=rx;exact SeqAt.EqAt.int_str a t' b t
  | _=>exact absurd (show false=true from fx) Bool.false_ne_true
 | str a =>
  obtain ⟨t',rfl⟩:=ry
  cases x with
  | non=>cases rx;exact SeqAt.EqAt.str_none a t'
  | bl b=>cases rx;exact SeqAt.EqAt.str_bool a t' b
  | int b=>obtain ⟨t,rfl⟩:=rx;exact SeqAt.EqAt.str_int a t' b t
  | str b=>obtain ⟨t,rfl⟩:=rx;exact SeqAt.EqAt.str_str a t' b t
  | _=>exact absurd (show false=true from fx) Bool.false_ne_true
 | _=>exact absurd (show false=true from fy) Bool.false_ne_true
noncomputable def eqU (x:V) (u:Value):Bool:=match u with
 | .none=>eqV .non x
 | .bool b=>eqV (.bl b) x
 | .int i _=>eqV (.int i) x
 | .str z _=>eqV (.str z) x
 | _=>false
theorem zo6 {x y:V}{u:Value}(r:RelV y u) (f:zfv y=true):eqU x u=eqV y x:=by
 cases y with
 | non=>cases r;rfl
 | bl b=>cases r;rfl
 | int i=>obtain ⟨t,rfl⟩:=r;rfl
 | str z=>obtain ⟨t,rfl⟩:=r;rfl
 | _=>exact absurd (show false=true from f) Bool.false_ne_true
theorem zi2 {x:V}:∀{xs:List V}{us:List Value},Vals xs us->xs.all zfv=true->us.any (eqU x)=xs.any λy=>eqV y x
 | _,_,.nil,_=>rfl
 | y :: xs,u :: us,.cons r t,f=>by
  rw [List.all_cons,Bool.and_eq_true] at f
  rw [List.any_cons,List.any_cons,zo6 r f.1,zi2 t f.2]
theorem zi3 {A:Around}{s:Shared}{x:V}{v:Value}(rx:RelV x v) (fx:zfv x=true):∀{xs:List V}{us:List Value},Vals xs us->xs.all zfv=true->∀u∈us,SeqAt.EqAt A s u v (eqU x u)
 | _,_,.nil,_=>λu hu=>by cases hu
 | y :: xs,u :: us,.cons r t,f=>λu' hu=>by
  rw [List.all_cons,Bool.and_eq_true] at f
  rcases List.mem_cons.mp hu with rfl|hu
  ·rw [zo6 r f.1];exact zwy r rx f.1 fx
  ·exact zi3 rx fx t f.2 u' hu
noncomputable def inV (x:V) (xs:List V):Bool:=xs.any λy=>eqV y x
def rIn (K:QFg) (neg:Bool):R2:=λx y H Q=>∃p xs,y=.ref p/\(SqL K H p xs\/SqT K H p xs)/\zfv x=true/\xs.all zfv=true/\Q (.bl (if neg then !inV x xs else inV x xs)) H
theorem zwz:OpR X (compareOp .In) (rIn X.K false):=by
 intro pins s σ H x y v u Q I rx ry h
 obtain ⟨p,xs,rfl,hq,fx,fs,q⟩:=h
 cases ry
 rcases hq with hq|hq
 ·obtain ⟨its,r,pl,hz⟩:=I.list hq
  refine SeqAt.in_listAt (eqU x) pl.isList (λw hw=>zi3 rx fx r fs w (by simpa using hw)) ⟨.bl _,H,I,rfl,?_⟩
  rw [show its.toArray.any (eqU x)=its.any (eqU x) by simp,zi2 r fs]
  exact q
 ·obtain ⟨its,r,pl,hz⟩:=I.tuple hq
  refine SeqAt.in_tupleAt (eqU x) pl (λw hw=>zi3 rx fx r fs w (by simpa using hw)) ⟨.bl _,H,I,rfl,?_⟩
  rw [show its.toArray.any (eqU x)=its.any (eqU x) by simp,zi2 r fs]
  exact q
theorem zw0:OpR X (compareOp .NotIn) (rIn X.K true):=by
 intro pins s σ H x y v u Q I rx ry h
 obtain ⟨p,xs,rfl,hq,fx,fs,q⟩:=h
 cases ry
 rcases hq with hq|hq
 ·obtain ⟨its,r,pl,hz⟩:=I.list hq
  refine SeqAt.notIn_listAt (eqU x) pl.isList (λw hw=>zi3 rx fx r fs w (by simpa using hw)) ⟨.bl _,H,I,rfl,?_⟩
  rw [show its.toArray.any (eqU x)=its.any (eqU x) by simp,zi2 r fs]
  exact q
 ·obtain ⟨its,r,pl,hz⟩:=I.tuple hq
  refine SeqAt.notIn_tupleAt (eqU x) pl (λw hw=>zi3 rx fx r fs w (by simpa using hw)) ⟨.bl _,H,I,rfl,?_⟩
  rw [show its.toArray.any (eqU x)=its.any (eqU x) by simp,zi2 r fs]
  exact q
theorem call_len_seq:CallR X (.builtin "len") (λxs H Q=>∃p ys,xs=[.ref p]/\(SqL X.K H p ys\/SqT X.K H p ys)/\Q (.int ys.length) H):=by
 intro pins s σ H xs us Q I r h
 obtain ⟨p,ys,rfl,hq,q⟩:=h
 obtain ⟨u,rfl,rx⟩:=ze9 r
 cases rx
 have hn:=zh0
 rcases hq with hq|hq
 ·obtain ⟨its,r',pl,hz⟩:=I.list hq
  have hlen:=r'.length
  exact Calls.call_len_list pl.isList (by simp only [List.size_toArray] <;> omega) ⟨.int ys.length,H,I.tok _,⟨s.toks+1,by rw [List.size_toArray,hlen]⟩,q⟩
 ·obtain ⟨its,r',pl,hz⟩:=I.tuple hq
  have hlen:=r'.length
  exact len_tuple pl (by simp only [List.size_toArray] <;> omega) ⟨.int ys.length,H,I.tok _,⟨s.toks+1,by rw [List.size_toArray,hlen]⟩,q⟩
theorem zw1:CallR X (.builtin "len") (λxs H Q=>∃z,xs=[.str z]/\z.length<=sizeLine/\Q (.int z.length) H):=by
 intro pins s σ H xs us Q I r h
 obtain ⟨z,rfl,hz,q⟩:=h
 obtain ⟨u,rfl,t,rfl⟩:=ze9 r
 have hn:=zh0
 exact len_str (by omega) ⟨.int z.length,H,I.tok _,⟨_,rfl⟩,q⟩
theorem CallR.or {f:Value}{r r':List V->Hp->VK->Prop}(h:CallR X f r) (h':CallR X f r'):CallR X f (λxs H Q=>r xs H Q\/r' xs H Q):=by
 intro pins s σ H xs us Q I rs q
 rcases q with q|q
 ·exact h pins s σ H xs us Q I rs q
 ·exact h' pins s σ H xs us Q I rs q
theorem zw2:CallR X (.type "list") (λxs H Q=>∃p ys,xs=[.ref p]/\(SqL X.K H p ys\/SqT X.K H p ys)/\∀l,H l=none->Q (.ref l) (upd H l (.lst ys))):=by
 intro pins s σ H xs us Q I r h
 obtain ⟨p,ys,rfl,hq,q⟩:=h
 obtain ⟨u,rfl,rx⟩:=ze9 r
 cases rx
 have fin:∀(its:List Value),Vals ys its->ys.length<=sizeLine->∀(h':Heap) (c':Nat),(∀b o',s.heap.get? b=some o'->h'.get? b=some o') ->
   h'.get? s.heap.objs.size=some { cls:=.type "list",dict:=none,data:=.seq its.toArray c',slots:=#[] }->EP X pins σ Q (.ref s.heap.objs.size) { s with heap:=h' }:=λits r' hz h' c' kp e =>
  ⟨.ref s.heap.objs.size,_,I.laid (t':=s.toks) kp (qlr _) (show ObjOk X.prog X.w _ h' _ (.lst ys) from ⟨hz,its,c',r',e⟩),rfl,q _ (I.hok.fresh (qlr _))⟩
 rcases hq with hq|hq
 ·obtain ⟨its,r',pl,hz⟩:=I.list hq
  have hlen:=r'.length
  obtain ⟨o,ho,hc,n,hd⟩:=pl.isList
  exact call_list_seq p (.inl rfl) ho hc hd (λh' c' kp e=>fin its r' hz h' c' kp e) (by simp only [List.size_toArray] <;> omega)
 ·obtain ⟨its,r',pl,hz⟩:=I.tuple hq
  have hlen:=r'.length
  obtain ⟨o,ho,hc,n,hd⟩:=pl
  exact call_list_seq p (.inr rfl) ho hc hd (λh' c' kp e=>fin its r' hz h' c' kp e) (by simp only [List.size_toArray] <;> omega)
theorem zw3:CallR X (.type "tuple") (λxs H Q=>∃p ys,xs=[.ref p]/\((SqL X.K H p ys/\∀l,H l=none->Q (.ref l) (upd H l (.tup ys)))\/(SqT X.K H p ys/\Q (.ref p) H))):=by
 intro pins s σ H xs us Q I r h
 obtain ⟨p,ys,rfl,h⟩:=h
 obtain ⟨u,rfl,rx⟩:=ze9 r
 cases rx
 rcases h with ⟨hq,q⟩|⟨hq,q⟩
 ·obtain ⟨its,r',pl,hz⟩:=I.list hq
  have hlen:=r'.length
  refine call_tuple_list pl.isList (λh' kp=>?_) (by simp only [List.size_toArray] <;> omega)
  have I1:Inv X pins σ H { s with heap:=h' }:=I.kept (t':=s.toks) kp
  have I2:Inv X pins σ (upd H h'.objs.size (.tup ys)) { s with heap:=h'.push { cls:=.type "tuple",data:=.seq its.toArray } } :=
   I1.laid (t':=s.toks) (λb o e=>qps _ e) (qlr _) (show ObjOk X.prog X.w _ _ _ (.tup ys) from ⟨hz,its,r',IsTD.new _ _⟩)
  exact ⟨.ref h'.objs.size,_,I2,rfl,q _ (I1.hok.fresh (qlr _))⟩
 ·obtain ⟨its,r',pl,hz⟩:=I.tuple hq
  exact call_tuple_same pl ⟨.ref p,H,I,rfl,q⟩
def tyV (K:QFg) (T:String) (x:V) (H:Hp):Prop:=match x with
 | .str _=>T = "str"
 | .int _=>T = "int"
 | .ref p=>(T = "list"/\∃xs,SqL K H p xs)\/(T = "tuple"/\∃o,K.lookup p=some o/\o.cls=.type "tuple"/\o.dict=none) \/
   (T = "dict"/\((∃kvs,H p=some (.dK kvs))\/∃kvs,H p=some (.dT kvs)))\/(T = "set"/\∃S n,H p=some (.set S n))
 | _=>False
theorem zo7 {pins:List (Addr × Obj)}{σ:St}{H:Hp}{s:Shared}{T:String}{x:V}{v:Value}(I:Inv X pins σ H s) (r:RelV x v) (ty:tyV X.K T x H) :
  s.TypeIs v T/\∀a,v=.ref a->∃ob,s.heap.get? a=some ob/\ob.dict=none:=by
 cases x with
 | str z =>
  obtain ⟨t,rfl⟩:=r
  cases (show T = "str" from ty)
  exact ⟨typeIs_str s z t,λ_ e=>nomatch e⟩
 | int i =>
  obtain ⟨t,rfl⟩:=r
  cases (show T = "int" from ty)
  exact ⟨typeIs_int s i t,λ_ e=>nomatch e⟩
 | ref p =>
  cases r
  rcases ty with ⟨rfl,xs,hq⟩|⟨rfl,o,hk,hc,hd⟩|⟨rfl,hk⟩|⟨rfl,S,n,hk⟩
  ·obtain ⟨its,_,pl,_⟩:=I.list hq
   refine ⟨pl.isList.typeIs,λa e=>?_⟩
   cases e
   obtain ⟨o,n,e,c,hd,_⟩:=pl
   exact ⟨o,e,hd⟩
  ·refine ⟨⟨o,I.kIn p o hk,hc⟩,λa e=>?_⟩
   cases e
   exact ⟨o,I.kIn _ o hk,hd⟩
  ·have z:∃o,s.heap.get? p=some o/\o.ExactDict:=by
    rcases hk with ⟨kvs,hk⟩|⟨kvs,hk⟩
    ·obtain ⟨_,_,_,_,o,_,_,e,ex,_⟩:=I.hok p _ hk
     exact ⟨o,e,ex⟩
    ·obtain ⟨_,_,_,_,o,_,_,e,ex,_⟩:=I.hok p _ hk
     exact ⟨o,e,ex⟩
   obtain ⟨o,e,ex⟩:=z
   refine ⟨⟨o,e,ex.1⟩,λa e2=>?_⟩
   cases e2
   exact ⟨o,e,ex.2.1⟩
  ·obtain ⟨o,_,_,_,e,ex,_⟩:=I.hok p _ hk
   refine ⟨⟨o,e,ex.1⟩,λa e2=>?_⟩
   cases e2
   exact ⟨o,e,ex.2.1⟩
 | _=>exact False.elim ty
def zw4 (K:QFg) (T:String) (r:V->List V->Hp->VK->Prop) (to:TE):TE:=λσ H Q=>to σ H λx H1=>tyV K T x H1/\r x [] H1 Q
def tBM (K:QFg) (T:String) (r:V->List V->Hp->VK->Prop) (to:TE) (t:TA):TE:=λσ H Q=>to σ H λx H1=>tyV K T x H1/\t σ H1 λxs H2=>r x xs H2 Q
variable {o e:Expr}{es:List Expr}{to:TE}{t:TA}{name:Str}{apos cpos:Pos}{T id:String}{r:V->List V->Hp->VK->Prop}
theorem zw5 (pa:PlainAttrs T) (slot:Slot T name id) (hty:typeOf (.builtin id)=pure (.type "method_descriptor")) (hm:MtR X id r) (ho:PE X o to)
  (hbase:attributeBase o name X.env (eval o X.env)=eval o X.env:=by rfl) (hline:(apos.endLine == cpos.line)=true:=by rfl):PE X (.Call (.Attribute o name apos) [] [] cpos) (zw4 X.K T r to):=by
 intro pins s σ H Q I h
 refine wpAny_Call_method0_late hbase hline (thn (ho pins s σ H _ I h) λv s1 ⟨x,H1,I1,r1,ty,q1⟩=>?_)
 obtain ⟨h1,h2⟩:=zo7 I1 r1 ty
 exact ⟨T,id,pa,slot,hty,h1,h2,Calls.callWith_builtin rfl (PySem.evalArgs_none (hm pins s1 σ H1 x [] v [] Q I1 r1 .nil q1))⟩
theorem zw6 (pa:PlainAttrs T) (slot:Slot T name id) (hty:typeOf (.builtin id)=pure (.type "method_descriptor")) (hm:MtR X id r) (ho:PE X o to) (ha:PA X (e :: es) t)
  (hbase:attributeBase o name X.env (eval o X.env)=eval o X.env:=by rfl)
  (hfew:((backTo cpos (starEach (e :: es) X.env)).all (λx=>!x.1) && (backToKw cpos (keywordEach [] X.env)).all (λx=>x.1.isSome)
   && decide ((e :: es).length+([]:List Keyword).length+(if ([]:List Keyword).isEmpty then 0 else 1)<30))=true:=by rfl)
  (hline:(apos.endLine == cpos.line)=true:=by rfl) (hs:starEach (e :: es) X.env=(false,eval e X.env) :: starEach es X.env:=by rfl) (hplain:(backTo cpos (starEach es X.env)).any (·.1)=false:=by rfl) :
  PE X (.Call (.Attribute o name apos) (e :: es) [] cpos) (tBM X.K T r to t):=by
 intro pins s σ H Q I h
 refine wpAny_Call_method_late hbase hfew hline rfl (thn (ho pins s σ H _ I h) λv s1 ⟨x,H1,I1,r1,ty,q1⟩=>?_)
 obtain ⟨h1,h2⟩:=zo7 I1 r1 ty
 refine ⟨T,id,pa,slot,hty,h1,h2,?_⟩
 have hA:=ha cpos pins s1 σ H1 _ I1 q1
 rw [hs] at hA ⊢
 refine Calls.callWith_builtin (by show (false || (backTo cpos (starEach es X.env)).any (·.1))=false;rw [hplain] <;> rfl) (Calls.evalArgs_plain ?_)
 exact thn hA λus s2 ⟨vs,H2,I2,r2,q2⟩=>hm pins s2 σ H2 x vs v us Q I2 r1 r2 q2
end
def MtM (X:Cx) (id:String) (r:V->List V->Hp->VK->Prop):Prop :=
 ∀(pins:List (Addr × Obj)) (s:Shared) (σ:St) (H:Hp) (x:V) (xs:List V) (v:Value) (us:List Value) (Q:VK),Inv X pins σ H s->RelV x v->Vals xs us->r x xs H Q ->
  wpAny (model X.prog X.w) X.A (call (.builtin id) (v :: us)) (EP X pins σ Q) X.xe s
theorem Vals.one:∀{x:V}{us:List Value},Vals [x] us->∃u,us=[u]/\RelV x u
 | _,_,.cons r .nil=>⟨_,rfl,r⟩
theorem Vals.two {x y:V}{us:List Value}(h:Vals [x,y] us):∃u v,us=[u,v]/\RelV x u/\RelV y v:=by
 cases h with
 | cons r t =>
  cases t with
  | cons q t2=>cases t2;exact ⟨_,_,rfl,r,q⟩
theorem Vals.zero:∀{us:List Value},Vals [] us->us=[]
 | _,.nil=>rfl
theorem Vals.dropLast {xs:List V}{us:List Value}(h:Vals xs us):Vals xs.dropLast us.dropLast:=by
 induction h with
 | nil=>exact .nil
 | cons r t ih =>
  cases t with
  | nil=>exact .nil
  | cons q t'=>exact .cons r ih
theorem Vals.eraseIdx:∀{xs:List V}{us:List Value}(i:Nat),Vals xs us->Vals (xs.eraseIdx i) (us.eraseIdx i)
 | _,_,_,.nil=>.nil
 | _,_,0,.cons _ t=>t
 | _,_,i+1,.cons r t=>.cons r (Vals.eraseIdx i t)
theorem Vals.rep {xs:List V}{us:List Value}(h:Vals xs us):∀k:Nat,Vals (List.replicate k xs).flatten (List.replicate k us).flatten
 | 0=>.nil
 | k+1=>by
  rw [List.replicate_succ,List.replicate_succ,List.flatten_cons,List.flatten_cons]
  exact Vals.append h (Vals.rep h k)
theorem zw7 {α:Type}(l:List α):l.eraseIdx (l.length-1)=l.dropLast:=by
 induction l with
 | nil=>rfl
 | cons a r ih =>
  cases r with
  | nil=>rfl
  | cons b r =>
   have e:(a :: b :: r).length-1=((b :: r).length-1)+1:=by
    have h1:(a :: b :: r).length=r.length+2:=rfl
    have h2:(b :: r).length=r.length+1:=rfl
    omega
   rw [e,List.eraseIdx_cons_succ,ih]
   all_goals rfl
theorem zo8 {α:Type}:∀(l:List α) (i:Nat),(l.eraseIdx i).length<=l.length
 | [],_=>qlr _
 | _ :: _,0=>Nat.le_succ _
 | _ :: r,i+1=>Nat.succ_le_succ (zo8 r i)
theorem zo9 (its:List Value):∀(k:Nat) (acc:List Value),
  List.foldl (λx1 x2=>x1++x2) acc.toArray (List.replicate k its.toArray)=(acc++(List.replicate k its).flatten).toArray
 | 0,acc=>by simp
 | k+1,acc=>by
  have e:acc.toArray++its.toArray=(acc++its).toArray:=by simp
  have e2:(acc++its)++(List.replicate k its).flatten=acc++(List.replicate (k+1) its).flatten:=by
   rw [List.replicate_succ,List.flatten_cons,List.append_assoc]
  rw [<-e2,<-zo9 its k (acc++its),<-e,List.replicate_succ,List.foldl_cons]
section
variable {X:Cx}{pins:List (Addr × Obj)}{σ:St}{H:Hp}{s:Shared}{l b:Addr}{xs ys zs:List V}
theorem Inv.lset {its its':List Value}{n:Nat}{f:Array Value->Array Value}{t':Nat}(I:Inv X pins σ H s) (hH:H l=some (.lst xs))
  (e:s.heap.get? l=some { cls:=.type "list",data:=.seq its.toArray n }) (hf:f its.toArray=its'.toArray) (hv:Vals ys its') (hz:ys.length<=sizeLine) :
  Inv X pins σ (upd H l (.lst ys)) { s with heap:=s.heap.update l (Obj.mapSeq f),toks:=t' }:=by
 have q:=PySem.IsL.update e f
 rw [hf] at q
 refine I.write (x:=l) (e:=l) (by rw [hH];exact trivial) (.inl rfl) (λb' u hb hu=>(Heap.get?_update_other s.heap (Obj.mapSeq f) (Ne.symm hb)).trans hu) ⟨_,q⟩ ?_
 exact ⟨hz,its',_,hv,q⟩
theorem Inv.lnew {its:List Value}{t':Nat}(I:Inv X pins σ H s) (hv:Vals ys its) (hz:ys.length<=sizeLine) :
  Inv X pins σ (upd H s.heap.objs.size (.lst ys)) { s with heap:=s.heap.push { cls:=.type "list",data:=.seq its.toArray },toks:=t' } :=
 I.laid (λ_ _ q=>qps _ q) (qlr _) ⟨hz,its,0,hv,Heap.get?_push_size _ rfl⟩
theorem Inv.fresh (I:Inv X pins σ H s):H s.heap.objs.size=none:=I.hok.fresh (qlr _)
theorem Inv.lstM (I:Inv X pins σ H s) (hH:H l=some (.lst xs)):xs.length<=sizeLine/\∃(its:List Value) (n:Nat),Vals xs its/\xs.length=its.length/\s.heap.get? l=some { cls:=.type "list",data:=.seq its.toArray n }:=by
 obtain ⟨z,its,n,r,e⟩:=I.hok l _ hH
 exact ⟨z,its,n,r,r.length,e⟩
end
section
variable {X:Cx}
def zpa:V->List V->Hp->VK->Prop:=λx vs H Q=>∃l xs y,x=.ref l/\vs=[y]/\H l=some (.lst xs)/\xs.length<sizeLine/\Q .non (upd H l (.lst (xs++[y])))
theorem zl7:MtM X "list.append" zpa:=by
 intro pins s σ H x vs v us Q I rx rv h
 obtain ⟨l,xs,y,rfl,rfl,hH,hz,q⟩:=h
 cases rx
 obtain ⟨u,rfl,ru⟩:=rv.one
 obtain ⟨z,its,n,r,hl,e⟩:=I.lstM hH
 refine call_meets F.slot_list_append ⟨_,e,rfl⟩ F.entry_list_append (F.args_list_append_2 _ _) (PySem.list_append l its.toArray n u (by rw [List.size_toArray];omega)) ⟨e,?_⟩
 refine ⟨.non,_,I.lset (its':=its++[u]) hH e (by simp) (r.append (.cons ru .nil)) ?_,rfl,q⟩
 rw [qla,List.length_singleton]
 omega
def zpb:V->List V->Hp->VK->Prop:=λx vs H Q=>∃l xs y,x=.ref l/\vs=[]/\H l=some (.lst xs)/\xs[xs.length-1]? = some y/\Q y (upd H l (.lst xs.dropLast))
theorem zw8:MtM X "list.pop" zpb:=by
 intro pins s σ H x vs v us Q I rx rv h
 obtain ⟨l,xs,y,rfl,rfl,hH,hy,q⟩:=h
 cases rx
 have hus:=rv.zero
 subst hus
 obtain ⟨z,its,n,r,hl,e⟩:=I.lstM hH
 obtain ⟨u,hu,ru⟩:=r.get hy
 have hy':its.toArray[its.toArray.size-1]? = some u:=by
  show its.toArray[its.length-1]? = some u
  rw [<-Array.getElem?_toList,<-hl]
  exact hu
 refine call_meets F.slot_list_pop ⟨_,e,rfl⟩ F.entry_list_pop (F.args_list_pop_1 _) (MeetsSeq.list_pop_last l its.toArray n u hy' (by rw [List.size_toArray];omega)) ⟨e,?_⟩
 refine ⟨y,_,I.lset (its':=its.dropLast) hH e ?_ r.dropLast ?_,ru,q⟩
 ·show its.toArray.eraseIdxIfInBounds (its.toArray.size-1)=its.dropLast.toArray
  rw [List.size_toArray,List.eraseIdxIfInBounds_toArray,zw7]
 ·rw [List.length_dropLast]
  omega
def zpc:V->List V->Hp->VK->Prop:=λx vs H Q=>∃l xs i k y,x=.ref l/\vs=[.int i]/\H l=some (.lst xs)/\-(2 ^ 63)<=i/\i<2 ^ 63/\seqIndex? i xs.length=some k/\xs[k]? = some y/\Q y (upd H l (.lst (xs.eraseIdx k)))
theorem zw9:MtM X "list.pop" zpc:=by
 intro pins s σ H x vs v us Q I rx rv h
 obtain ⟨l,xs,i,k,y,rfl,rfl,hH,h1,h2,hk,hy,q⟩:=h
 cases rx
 obtain ⟨u,rfl,ru⟩:=rv.one
 obtain ⟨t,rfl⟩:=ru
 obtain ⟨z,its,n,r,hl,e⟩:=I.lstM hH
 obtain ⟨w,hw,rw'⟩:=r.get hy
 refine call_meets F.slot_list_pop ⟨_,e,rfl⟩ F.entry_list_pop (F.args_list_pop_2 _ _)
  (MeetsSeq.list_pop_at l its.toArray n i t k w (fitsIndex_both h1 h2) (by rw [List.size_toArray,<-hl];exact hk) (by rw [<-Array.getElem?_toList];exact hw) (by rw [List.size_toArray];omega)) ⟨e,?_⟩
 refine ⟨y,_,I.lset (its':=its.eraseIdx k) hH e ?_ (r.eraseIdx k) ?_,rw',q⟩
 ·show its.toArray.eraseIdxIfInBounds k=(its.eraseIdx k).toArray
  rw [List.eraseIdxIfInBounds_toArray]
 ·have:=zo8 xs k
  omega
def zpd:R2:=λx y H Q=>∃l b xs zs,x=.ref l/\y=.ref b/\H l=some (.lst xs)/\H b=some (.lst zs)/\xs.length+zs.length<=sizeLine/\∀p,H p=none->Q (.ref p) (upd H p (.lst (xs++zs)))
theorem zxa:OpR X (binaryOp .Add) zpd:=by
 intro pins s σ H x y v u Q I rx ry h
 obtain ⟨l,b,xs,zs,rfl,rfl,hH,hB,hz,q⟩:=h
 cases rx
 cases ry
 obtain ⟨z,its,n,r,hl,e⟩:=I.lstM hH
 obtain ⟨z2,its2,n2,r2,hl2,e2⟩:=I.lstM hB
 refine PySem.P.add_list e e2 ?_ (by rw [List.size_toArray,List.size_toArray];omega)
 have ea:its.toArray++its2.toArray=(its++its2).toArray:=by simp
 rw [ea]
 exact ⟨.ref _,_,I.lnew (t':=s.toks) (r.append r2) (by rw [qla];omega),rfl,q _ I.fresh⟩
theorem zpe {α:Type}(xs:List α) (k:Nat):(List.replicate k xs).flatten.length=k*xs.length:=by
 induction k with
 | zero=>simp
 | succ k ih=>rw [List.replicate_succ,List.flatten_cons,qla,ih,Nat.succ_mul,Nat.add_comm]
end
section
variable {prog:Program}{w:World}{A:Around}{E:Value->Shared->Prop}{s:Shared}
end
section
variable {X:Cx}
end
end L2
namespace Att
open PySem PySem.W PySem.Calls PyProof.Rows
theorem zxb {P:Params}{h:Heap}:∀(ns:List Int) (vs:List Value),WellAll P h vs (ns.map WData.int)->IntsAre vs ns:=by
 intro ns
 induction ns with
 | nil =>
  intro vs w
  rw [List.map_nil] at w
  cases w
  exact .nil
 | cons n ns ih =>
  intro vs w
  rw [List.map_cons] at w
  cases w with
  | cons a b =>
   cases a
   exact .cons _ _ (ih _ b)
theorem zxc {l:OpenLaw}{n:Nat}(hn:l.most=some n) {P:Params}{h:Heap}{args:List WData}{vals:List Value}
  (hpre:l.row.toRowW.claim.pre args=true) (hwl:WellAll P h vals args) :
  ∃a vs ns,vals=[Value.ref a]/\args=[WData.list (ns.map WData.int)]/\h.get? a=some { cls:=.type "list",data:=.seq vs.toArray }/\IntsAre vs ns/\ns.length<=n:=by
 have hsh:WShape.hasAll [] args [.list .int]=true:=(pre_splitW hpre).1
 have hc:l.pre.holds [] { args:=args }=true:=(pre_splitW hpre).2
 obtain ⟨d,r,rfl,h1,h2⟩:=hasAllW_cons hsh
 obtain rfl:=hasAllW_nil h2
 obtain ⟨xs,rfl,h3⟩:=hasW_list h1
 obtain ⟨ns,rfl⟩:=items_int h3
 have hlen:ns.length<=n:=by
  unfold OpenLaw.pre at hc
  have h4:(WTm.not (.lt (.lit (.int (n:Int))) (.len (.arg 0)))).holds [] { args:=[.list (ns.map .int)] }=true:=by
   have h4:=(holds_andW hc).1
   rw [hn] at h4
   exact h4
  have h5:=condW_of h4 (w_not (w_lt w_lit (w_len_list (w_arg rfl))))
  rw [qlm] at h5
  refine Nat.le_of_not_lt λq=>?_
  have q':(n:Int)<((ns.length:Nat):Int):=by omega
  first
   | (rw [decide_eq_true q'] at h5;exact absurd h5 (by decide))
   | (simp at h5;omega)
 cases hwl with
 | cons w1 w2 =>
  cases w2
  cases w1 with
  | list ho hall=>exact ⟨_,_,ns,rfl,rfl,ho,zxb ns _ hall,hlen⟩
theorem zxd (l:OpenLaw) (args:List WData):l.row.toRowW.claim.post args (.bool true) args=true :=
 postW_of (r:=l.row.toRowW) (X:=(true == true))
  (show WShape.has [] (.bool true) .bool=true by first|rfl|decide|simp [WShape.has,WShape.arms,WShape.armsAll])
  (show (WTm.eq .res (.lit (.bool true))).value [] { args:=args,res:=some (.bool true),after:=args }=some (.bool (true == true)) from w_eq_bool (w_res rfl) w_lit) rfl
theorem attach_call {l:OpenLaw}{n:Nat}{q:Program}{loose:List Str}{XP:(Str->Option Value)->Heap->Prop}{YP:World->Heap->Prop}{d:DefRec}
  (hn:l.most=some n) (hdf:d.params.defaults=[])
  (call:∀(w:World) (s₀ s₁:Shared) (mg mb:Str->Option Value) (fa:Addr) (o:Obj) (pm cd doc:Value) (a:Addr) (vs:List Value) (ns:List Int),
   Ground q loose [] XP w s₀ mg mb s₁.heap->YP w s₁.heap ->
   s₁.heap.get? fa=some o->o.data=.func (docDef d.name d.params d.body d.scope pm cd doc)->s₁.heap.CodeRec cd d.name->mg d.name=some (.ref fa) ->
   s₁.heap.get? a=some { cls:=.type "list",data:=.seq vs.toArray }->IntsAre vs ns->ns.length<=n->s₁.gens = #[] ->
   codeAny (model l.prog w) callerA (.call (.ref fa) ⟨[.ref a],[]⟩) (λr s'=>r=.ok (.ret (.bool true))/\OldK s₁.heap s'.heap/\s'.os=s₁.os/\AllBare s'.gens) s₁) :
  WalkO q loose XP YP l.row.toRowW d [] (λf vs=>PySem.call f vs):=by
 intro w s₀ s₁ mg mb G Y fa o pm cd doc dV kV ho hd hcd hD hmg hg args vals as hpre hlay hrd hwl hlo
 obtain rfl:dV=.none:=Dflts.none hD hdf
 obtain rfl:kV=.none:=Dflts.noKw hD
 obtain ⟨a,vs,ns,rfl,rfl,hobj,hints,hlen⟩:=zxc hn hpre hwl
 refine enter_call (codeAny_mono (call w s₀ s₁ mg mb fa o pm cd doc a vs ns G Y ho (fd_plain hd) hcd hmg hobj hints hlen hg) λr s' hq=>?_)
 obtain ⟨rfl,h2,h3,h4⟩:=hq
 exact ⟨.inl ⟨.bool true,.bool true,[],rfl,λ_=>rfl,.bool true,zxd l _,λ_=>⟨List.Pairwise.nil,λ_ hm=>(nomatch hm)⟩⟩,h2,h3,h4⟩
section
variable {prog:Program}{w:World}{A:Around}{E:Value->Shared->Prop}{s:Shared}{K:Frag}
end
end Att
namespace L2
open PySem PySem.Spec PyProof.Rows
theorem zpf:∀{vs:List Value}{ns:List Int},IntsAre vs ns->Vals (ns.map V.int) vs
 | _,_,.nil=>.nil
 | _,_,.cons n t h=>.cons ⟨t,rfl⟩ (zpf h)
def zkd (H:Hp):Prop:=∀b,H b=none\/∃o xs,H b=some (.frz o (.lst xs))
theorem zxe {P:Program}{w:World}{K:QFg}{mg mb:Str->Option Value}{CX:CXT}{k:Nat}{fa a:Addr}{fd:FuncData}{x:Str}{sp:Sp}{s₁:Shared}{vs:List Value}{ns:List Int}
  (KX:K.In s₁.heap) (hbm:BMd mg s₁.heap) (hns:s₁.heap.Ns mainGlobals mg) (hb:s₁.heap.Ns builtinsNs mb) (hbb:∀x:Str,x≠"__name__"->mb x=bootBuiltins x) (hlim:s₁.heap.NoLimit) (hg:s₁.gens = #[])
  (ha:s₁.heap.get? a=some { cls:=.type "list",data:=.seq vs.toArray }) (hi:IntsAre vs ns) (hl:ns.length<=sizeLine) (hr:Room k callerA)
  (F:∀base:Heap,K.In base->base.Ns mainGlobals mg->FnOk P w K mg base CX k fa fd [x] sp) (hbind:∀(s:Shared) (u:Value),BindsTo s fd ⟨[u],[]⟩ [(x,u)])
  (hsp:∀H:Hp,zkd H->SqL K H a (ns.map V.int)->sp [.ref a] H (λv _=>v=.bl true) λ_ _ _=>False)
  (hCX:∀H e s',CX [] H s₁ (λ_ _ _=>False) e s'->False) :
  codeAny (model P w) callerA (.call (.ref fa) ⟨[.ref a],[]⟩) (λr s'=>r=.ok (.ret (.bool true))/\OldK s₁.heap s'.heap/\s'.os=s₁.os/\AllBare s'.gens) s₁:=by
 have rv:=zpf hi
 have lenV:=hi.length
 have core:∀H:Hp,zkd H->SqL K H a (ns.map V.int)->HOk P w H s₁.heap->(∀b,H b≠none->b=a)->(H a≠none->K.lookup a=none) ->
   codeAny (model P w) callerA (.call (.ref fa) ⟨[.ref a],[]⟩) (λr s'=>r=.ok (.ret (.bool true))/\OldK s₁.heap s'.heap/\s'.os=s₁.os/\AllBare s'.gens) s₁:=by
  intro H hO hS hok hA hK
  have base_of:∀{b:Addr} {o:Obj},s₁.heap.get? b=some o->H b=none->(zge s₁.heap H).get? b=some o:=λe n=>zt0 e n
  have noA:∀{b:Addr} {o:Obj} {es:Array DictEntry} {ep:Nat},s₁.heap.get? b=some o->o.data=.dict es ep->H b=none:=λ{b o es ep} e d=>by
   cases q:H b with
   | none=>rfl
   | some u =>
    have e':b=a:=hA b (by rw [q];simp)
    subst e'
    rw [ha] at e;cases e
    have d':Data.seq vs.toArray _=Data.dict es ep:=d
    cases d'
  have nsK:∀{b:Addr} {m:Str->Option Value},s₁.heap.Ns b m->(zge s₁.heap H).Ns b m:=λ{b m} ⟨o,es,ep,e,d,r⟩=>⟨o,es,ep,base_of e (noA e d),d,r⟩
  have hKb:K.In (zge s₁.heap H):=λb o e=>base_of (KX b o e) (by
   cases q:H b with
   | none=>rfl
   | some u =>
    have e':b=a:=hA b (by rw [q];simp)
    subst e'
    rw [hK (by rw [q];simp)] at e;cases e)
  have hM:Mod K mg (zge s₁.heap H):=⟨hKb,nsK hns,⟨mb,nsK hb,hbb⟩,let ⟨mc,h1,h2⟩:=hlim;⟨mc,nsK h1,h2⟩,by
   obtain ⟨bm,ob,b1,b2,b3,b4,b5⟩:=hbm
   refine ⟨bm,ob,b1,b2,base_of b3 ?_,b4,b5⟩
   cases q:H bm with
   | none=>rfl
   | some u =>
    have e':bm=a:=hA bm (by rw [q];simp)
    subst e'
    rw [ha] at b3;cases b3;exact absurd (show Value.type "list" = Value.type "module" from b4) (by decide)⟩
  have e0:Env0 P w K mg (zge s₁.heap H) callerA [] s₁ H:=⟨rfl,hM,λb o e=>zt1 e,Nat.le_of_eq (ztz _ _),trivial,λb hb=>absurd (show b∈([]:List Addr) from hb) (by simp),hok,.of_eq hg⟩
  refine codeAny_mono ((F _ hKb (nsK hns)).run callerA [] s₁ H ⟨[.ref a],[]⟩ [.ref a] [.ref a] _ _ hr e0 (hbind s₁ (.ref a)) (.cons rfl .nil) (hsp H hO hS)) λr s' h=>?_
  cases r with
  | error e=>exact (hCX H e s' h).elim
  | ok fl =>
   cases fl with
   | next=>exact False.elim h
   | brk=>exact False.elim h
   | cont=>exact False.elim h
   | ret u =>
    obtain ⟨v,H',os,bare,un,hok',r',q⟩:=h
    have q':v=.bl true:=q
    subst q'
    obtain rfl:u=Value.bool true:=r'
    refine ⟨rfl,OldK.of_keep λb o e=>?_,os,bare⟩
    cases q:H b with
    | none=>exact un.keep b o e q (by intro z;exact absurd (show b∈([]:List Addr) from z) (by simp)) (by simp)
    | some u =>
     rcases hO b with z|⟨ob,xs,z⟩
     ·rw [q] at z;cases z
     ·have z2:=un.frzs b ob _ z
      obtain ⟨e1,_⟩:=hok b _ z
      obtain ⟨e2,_⟩:=hok' b _ z2
      rw [e] at e1;cases e1
      exact e2
 cases hk:K.lookup a with
 | some o =>
  have e:=KX a o hk
  rw [ha] at e
  cases e
  refine core (λ_=>none) (λ_=>.inl rfl) (.inr ⟨_,vs.toArray,_,hk,rfl,rfl,rfl,by rw [List.size_toArray,lenV];exact hl,by simpa using rv⟩) (λb u z=>by have z':(none:Option HO)=some u:=z;cases z') (λb z=>absurd rfl z) λz=>absurd rfl z
 | none =>
  refine core (λb=>if b=a then some (.frz { cls:=.type "list",data:=.seq vs.toArray } (.lst (ns.map V.int))) else none) (λb=>?_) (.inl (.inr ⟨{ cls:=.type "list",data:=.seq vs.toArray },if_pos rfl⟩)) (λb u z=>?_) (λb z=>?_) λ_=>hk
  ·by_cases hb:b=a
   ·exact .inr ⟨_,_,if_pos hb⟩
   ·exact .inl (if_neg hb)
  ·by_cases hb:b=a
   ·have z':=(if_pos hb).symm.trans z
    cases z'
    subst hb
    exact ⟨ha,by rw [qlm];exact hl,vs,_,rv,ha⟩
   ·have z':=(if_neg hb).symm.trans z
    cases z'
  ·by_cases hb:b=a
   ·exact hb
   ·exact absurd (if_neg hb) z
theorem walk_of {l:PySem.W.OpenLaw}{n k:Nat}{q:Program}{loose:List Str}{XP:(Str->Option Value)->Heap->Prop}{YP:World->Heap->Prop}{d:DefRec}{K:Params->QFg}{CX:World->CXT}{sp:World->Sp}{x:Str}
  (hn:l.most=some n) (hn2:n<=sizeLine) (hdf:d.params.defaults=[]) (hr:Room k callerA)
  (hY:∀(w:World) (h:Heap),YP w h->(K w.params).In h)
  (F:∀(w:World) (mg:Str->Option Value) (fa:Addr) (h:Heap),(K w.params).In h->h.Ns mainGlobals mg->mg d.name=some (.ref fa) ->
   ∃fd:FuncData,(∀(s:Shared) (u:Value),BindsTo s fd ⟨[u],[]⟩ [(x,u)]) /\
    ∀base:Heap,(K w.params).In base->base.Ns mainGlobals mg->FnOk l.prog w (K w.params) mg base (CX w) k fa fd [x] (sp w))
  (hsp:∀(w:World) (H:Hp) (a:Addr) (ns:List Int),ns.length<=n->zkd H->SqL (K w.params) H a (ns.map V.int)->sp w [.ref a] H (λv _=>v=.bl true) λ_ _ _=>False)
  (hCX:∀(w:World) (H:Hp) (s:Shared) (e:Value) (s':Shared),CX w [] H s (λ_ _ _=>False) e s'->False) :
  PySem.W.WalkO q loose XP YP l.row.toRowW d [] (λf vs=>PySem.call f vs):=by
 refine Att.attach_call hn hdf λw s₀ s₁ mg mb fa o pm cd doc a vs ns G Y ho hd hcd hmg hobj hints hlen hg=>?_
 have KX:=hY w _ Y
 obtain ⟨fd,hb,hF⟩:=F w mg fa _ KX G.T.g hmg
 exact zxe KX G.T.bmain G.T.g G.T.b G.T.builtins G.T.nolimit hg hobj hints (Nat.le_trans hlen hn2) hr hF hb (λH hO hS=>hsp w H a ns hlen hO hS) λH e s'=>hCX w H s₁ e s'
noncomputable def zh2 (s:Stmt):Arguments:=match s with
 | .FunctionDef _ a _ _ _ _ _ _ _ _=>a
 | _=>{ posonlyargs:=[],args:=[],vararg:=none,kwonlyargs:=[],kw_defaults:=[],kwarg:=none,defaults:=[] }
noncomputable def zgf (s:Stmt):List Stmt:=match s with
 | .FunctionDef _ _ b _ _ _ _ _ _ _=>b
 | _=>[]
noncomputable def za3 (s:Stmt):Scope:=match s with
 | .FunctionDef _ _ _ _ _ _ sc _ _ _=>sc
 | _=>{ kind:=.function,names:=[],isGenerator:=false,isCoroutine:=false }
abbrev CX0:CXT:=λ_ _ _ _ _ _=>False
abbrev E0:XK:=λ_ _ _=>False
theorem zxf {X:Cx}:zl2 CX0 X E0:=λ_ _ _ _ _ _ _ h=>h.elim
structure Fun (K:QFg) (x qual:Str) (st:Stmt) (f:Addr) (fd:FuncData):Prop where
 ex:∃(oc:Value) (od:Option Addr) (kV doc pm:Value) (an:Option Addr) (cdv ct:Value) (osl:Array (Option Value)),
  fd=PySem.W.fnOf x qual (zh2 st) (zgf st) (za3 st) .none kV doc pm an cdv ct/\K.lookup f=some ⟨oc,od,.func fd,osl⟩/\PySem.W.codeIn K cdv qual=true
 kp:PySem.W.keepIn K (.ref f)=true
section
variable {P:Program}{w:World}{K:QFg}{mg:Str->Option Value}{base:Heap}
theorem Fun.binds {x qual:Str}{st:Stmt}{f:Addr}{fd:FuncData}{ps:List Str}(F:Fun K x qual st f fd)
  (h:∀(kV doc pm:Value) (an:Option Addr) (cdv ct:Value) (us:List Value),us.length=ps.length->bindArgs (PySem.W.fnOf x qual (zh2 st) (zgf st) (za3 st) .none kV doc pm an cdv ct) ⟨us,[]⟩=pure (ps.zip us)):Binds K fd ps []:=by
 obtain ⟨oc,od,kV,doc,pm,an,cdv,ct,osl,rfl,lk,hcd⟩:=F.ex
 exact .all (h kV doc pm an cdv ct)
theorem zxg {x qual:Str}{st:Stmt}{f:Addr}{oc:Value}{od an:Option Addr}{osl:Array (Option Value)}{kV doc pm cdv ct:Value}(l:K.lookup f=some ⟨oc,od,.func (PySem.W.fnOf x qual (zh2 st) (zgf st) (za3 st) .none kV doc pm an cdv ct),osl⟩)
  (c:PySem.W.codeIn K cdv qual=true) (k:PySem.W.keepIn K (.ref f)=true):Fun K x qual st f (PySem.W.fnOf x qual (zh2 st) (zgf st) (za3 st) .none kV doc pm an cdv ct):=⟨⟨oc,od,kV,doc,pm,an,cdv,ct,osl,rfl,l,c⟩,k⟩
end
section
variable {X:Cx}
end
theorem zgg {A B:Prop}(h:B):if false=true then A else B:=by
 rw [if_neg Bool.false_ne_true]
 exact h
theorem zgh {A B:Prop}(h:A):if true=true then A else B:=by
 rw [if_pos rfl]
 exact h
section
variable {κ:Type} [DecidableEq κ]
noncomputable def zc0 (kvs:List (κ × V)) (k:κ):Option V:=(kvs.find? λkv=>decide (kv.1=k)).map (·.2)
noncomputable def zb1 (kvs:List (κ × V)) (k:κ) (v:V):List (κ × V) :=
 if (kvs.any λkv=>decide (kv.1=k))=true then kvs.map (λkv=>if kv.1=k then (kv.1,v) else kv) else kvs++[(k,v)]
theorem zi4 {p:κ × V}{r:List (κ × V)}{k:κ}(e:p.1=k):zc0 (p :: r) k=some p.2:=by simp [zc0,List.find?_cons,e]
theorem zi5 {p:κ × V}{r:List (κ × V)}{k:κ}(e:¬p.1=k):zc0 (p :: r) k=zc0 r k:=by simp [zc0,List.find?_cons,e]
theorem zpg (k:κ):∀kvs:List (κ × V),(kvs.any λkv=>decide (kv.1=k))=(zc0 kvs k).isSome
 | []=>rfl
 | p :: r=>by
  rw [List.any_cons]
  by_cases e:p.1=k
  ·simp only [zi4 e,decide_eq_true e,Bool.true_or,Option.isSome_some]
  ·rw [zi5 e,decide_eq_false e,Bool.false_or];exact zpg k r
theorem zi6 (kvs:List (κ × V)) (k:κ) (v:V):(zb1 kvs k v).length<=kvs.length+1:=by
 unfold zb1
 split
 ·rw [qlm];omega
 ·rw [qla,List.length_cons,List.length_nil];omega
theorem RelO.isSome_eq {o:Option V}{u:Option Value}(r:RelO o u):o.isSome=u.isSome:=by
 cases o with
 | none=>cases u with
  | none=>rfl
  | some _=>exact (show False from r).elim
 | some _=>cases u with
  | none=>exact (show False from r).elim
  | some _=>rfl
theorem KV.val {kvs:List (κ × V)}{vs:List (κ × Value)}(r:KV kvs vs) (k:κ):RelO (zc0 kvs k) (valueAt vs k):=by
 unfold KV at r
 induction r with
 | nil=>exact True.intro
 | @cons p q ps qs h t ih =>
  obtain ⟨h1,h2⟩:=h
  by_cases e:p.1=k
  ·have e':q.1=k:=h1.symm.trans e
   have b:valueAt (q :: qs) k=some q.2:=by simp [valueAt,List.find?_cons,e']
   rw [zi4 e,b];exact h2
  ·have e':¬q.1=k:=λz=>e (h1.trans z)
   have b:valueAt (q :: qs) k=valueAt qs k:=by simp [valueAt,List.find?_cons,e']
   rw [zi5 e,b];exact ih
theorem KV.any {kvs:List (κ × V)}{vs:List (κ × Value)}(r:KV kvs vs) (k:κ):(kvs.any λkv=>decide (kv.1=k))=vs.any λkv=>decide (kv.1=k):=by
 unfold KV at r
 induction r with
 | nil=>rfl
 | cons h t ih=>rw [List.any_cons,List.any_cons,ih,h.1]
theorem KV.repl {kvs:List (κ × V)}{vs:List (κ × Value)}(r:KV kvs vs) (k:κ) {y:V}{u:Value}(ry:RelV y u) :
  KV (kvs.map λkv=>if kv.1=k then (kv.1,y) else kv) (vs.map λkv=>if kv.1=k then (kv.1,u) else kv):=by
 unfold KV at r ⊢
 induction r with
 | nil=>exact .nil
 | @cons p q ps qs h t ih =>
  rw [List.map_cons,List.map_cons]
  refine .cons ?_ ih
  obtain ⟨h1,h2⟩:=h
  by_cases e:p.1=k
  ·rw [if_pos e,if_pos (h1.symm.trans e)];exact ⟨h1,ry⟩
  ·rw [if_neg e,if_neg (λz=>e (h1.trans z))];exact ⟨h1,h2⟩
theorem KV.put {kvs:List (κ × V)}{vs:List (κ × Value)}(r:KV kvs vs) (k:κ) {y:V}{u:Value}(ry:RelV y u):KV (zb1 kvs k y) (stored vs k u):=by
 unfold zb1 stored
 rw [r.any k]
 by_cases e:(vs.any λkv=>decide (kv.1=k))=true
 ·rw [if_pos e,if_pos e];exact r.repl k ry
 ·rw [if_neg e,if_neg e];exact Paired.snoc r ⟨rfl,ry⟩
theorem KV.length {kvs:List (κ × V)}{vs:List (κ × Value)}(r:KV kvs vs):kvs.length=vs.length:=Paired.length r
end
theorem zl8 {P:Program}{w:World}{k:Key}{u:Value}(r:RelV (kV k) u):(zde P w).is k u=true:=by
 cases k with
 | inl i=>obtain ⟨t,e⟩:=(show ∃t,u=Value.int i t from r);subst e;exact zlu P w i t
 | inr x=>obtain ⟨t,e⟩:=(show ∃t,u=Value.str x t from r);subst e;exact zty P w x t
theorem zph {P:Program}{w:World}:∀{ks:List Key}{us:List Value},Vals (ks.map kV) us->ItemsAre (zde P w) ks us
 | [],_,r=>by rw [List.map_nil] at r;cases r;exact .nil
 | k :: ks,_,r=>by
  rw [List.map_cons] at r
  cases r with
  | cons h t=>exact .cons (zl8 h) (zph t)
abbrev KT (H:Hp):List (List Key × V)->List (List Key × Addr × Value)->Prop:=Paired λp q=>p.1=q.1/\H q.2.1=some (.tup (p.1.map kV))/\RelV p.2 q.2.2
theorem KT.val {H:Hp}{kvs:List (List Key × V)}{xs:List (List Key × Addr × Value)}(r:KT H kvs xs) (k:List Key):RelO (zc0 kvs k) ((atKey xs k).map (·.2)):=by
 induction r with
 | nil=>exact True.intro
 | @cons p q ps qs h t ih =>
  obtain ⟨h1,_,h2⟩:=h
  by_cases e:p.1=k
  ·have e':q.1=k:=h1.symm.trans e
   have b:atKey (q :: qs) k=some q.2:=by simp [atKey,List.find?_cons,e']
   rw [zi4 e,b];exact h2
  ·have e':¬q.1=k:=λz=>e (h1.trans z)
   have b:atKey (q :: qs) k=atKey qs k:=by simp [atKey,List.find?_cons,e']
   rw [zi5 e,b];exact ih
theorem KT.repl {H:Hp}{kvs:List (List Key × V)}{xs:List (List Key × Addr × Value)}(r:KT H kvs xs) (k:List Key) {y:V}{u:Value}(ry:RelV y u) :
  KT H (kvs.map λkv=>if kv.1=k then (kv.1,y) else kv) (xs.map (putAt k u)):=by
 induction r with
 | nil=>exact .nil
 | @cons p q ps qs h t ih =>
  rw [List.map_cons,List.map_cons]
  refine .cons ?_ ih
  obtain ⟨h1,h2,h3⟩:=h
  unfold putAt
  by_cases e:p.1=k
  ·rw [if_pos e,if_pos (h1.symm.trans e)];exact ⟨h1,h2,ry⟩
  ·rw [if_neg e,if_neg (λz=>e (h1.trans z))];exact ⟨h1,h2,h3⟩
theorem KT.put {H:Hp}{kvs:List (List Key × V)}{xs:List (List Key × Addr × Value)}(r:KT H kvs xs) (k:List Key) {b:Addr}{y:V}{u:Value}(hb:H b=some (.tup (k.map kV))) (ry:RelV y u) :
  KT H (zb1 kvs k y) (storedH xs k b u):=by
 have e:(kvs.any λkv=>decide (kv.1=k))=(atKey xs k).isSome:=by
  rw [zpg,(r.val k).isSome_eq,Option.isSome_map]
 unfold zb1 storedH
 rw [e]
 by_cases q:(atKey xs k).isSome=true
 ·rw [if_pos q,if_pos q];exact r.repl k ry
 ·rw [if_neg q,if_neg q];exact Paired.snoc r ⟨rfl,hb,ry⟩
theorem KT.keeps {H H':Hp}{kvs:List (List Key × V)}{xs:List (List Key × Addr × Value)}(r:KT H kvs xs) (ht:∀b ys,H b=some (.tup ys)->H' b=some (.tup ys)):KT H' kvs xs :=
 Paired.mapP r λ_ _ z=>⟨z.1,ht _ _ z.2.1,z.2.2⟩
section
variable {P:Program}{w:World}{H:Hp}{h:Heap}{a:Addr}
theorem zpi {u:HO}(ok:HOk P w H h) (e:Rd H a u):ObjOk P w H h a u:=e.ok ok
theorem zpj {kvs:List (Key × V)}(ok:HOk P w H h) (e:Rd H a (.dK kvs)):kvs.length<=sizeLine/\(a == sysModules)=false/\∃vs,KV kvs vs/\h.DictOf (zde P w) a vs :=
 show ObjOk P w H h a (.dK kvs) from zpi ok e
theorem zxh {kvs:List (Key × V)}(ok:HOk P w H h) (e:H a=some (.dK kvs)):kvs.length<=sizeLine/\(a == sysModules)=false/\∃vs,KV kvs vs/\h.DictOf (zde P w) a vs:=zpj ok (.inl e)
theorem zh3 {ks:List Key}(ok:HOk P w H h) (e:H a=some (.tup (ks.map kV))):(tupleKind (zde P w)).is h ks a:=by
 obtain ⟨_,its,r,o,h1,h2,n,h3,_⟩:=(show ObjOk P w H h a (.tup (ks.map kV)) from ok a _ e)
 exact ⟨o,its.toArray,n,h1,h2,h3,by simpa using zph r⟩
theorem zpk {kvs:List (List Key × V)}(ok:HOk P w H h) (e:Rd H a (.dT kvs)):kvs.length<=sizeLine/\(a == sysModules)=false /\
  ∃xs,KT H kvs xs/\h.DictOfH (tupleKind (zde P w)) a xs:=by
 obtain ⟨z,y,xs,r,o,es,ep,h1,h2,h3,h4,h5⟩:=(show ObjOk P w H h a (.dT kvs) from zpi ok e)
 refine ⟨z,y,xs,r,o,es,ep,h1,h2,h3,h4,λx hx=>?_,h5⟩
 have all:∀{l:List (List Key × V)} {m:List (List Key × Addr × Value)},KT H l m->∀x∈m,(tupleKind (zde P w)).is h x.1 x.2.1:=by
  intro l m q
  induction q with
  | nil=>intro x hx;exact nomatch hx
  | @cons p q ps qs hq t ih =>
   intro x hx
   rcases List.mem_cons.mp hx with e|hx
   ·subst e
    exact zh3 ok (by rw [<-hq.1];exact hq.2.1)
   ·exact ih x hx
 exact all r x hx
theorem zke {kvs:List (List Key × V)}(ok:HOk P w H h) (e:H a=some (.dT kvs)):kvs.length<=sizeLine/\(a == sysModules)=false /\
  ∃xs,KT H kvs xs/\h.DictOfH (tupleKind (zde P w)) a xs:=zpk ok (.inl e)
end
def zkf (H:Hp) (a:Addr) (y:V) (r:Option V):Prop :=
 (∃kvs k,Rd H a (.dK kvs)/\y=kV k/\r=zc0 kvs k)\/∃kvs k b,Rd H a (.dT kvs)/\y=.ref b/\H b=some (.tup (k.map kV))/\r=zc0 kvs k
def DPut (H:Hp) (a:Addr) (y v:V) (H':Hp):Prop :=
 (∃kvs k,H a=some (.dK kvs)/\y=kV k/\kvs.length<sizeLine/\H' = upd H a (.dK (zb1 kvs k v))) \/
 ∃kvs k b,H a=some (.dT kvs)/\y=.ref b/\H b=some (.tup (k.map kV))/\kvs.length<sizeLine/\H' = upd H a (.dT (zb1 kvs k v))
theorem DPut.k {H:Hp}{a:Addr}{kvs:List (Key × V)}{k:Key}{v:V}(e:H a=some (.dK kvs)) (hl:kvs.length<sizeLine):DPut H a (kV k) v (upd H a (.dK (zb1 kvs k v))):=.inl ⟨kvs,k,e,rfl,hl,rfl⟩
theorem DPut.t {H:Hp}{a b:Addr}{kvs:List (List Key × V)}{k:List Key}{v:V}(e:H a=some (.dT kvs)) (eb:H b=some (.tup (k.map kV))) (hl:kvs.length<sizeLine) :
  DPut H a (.ref b) v (upd H a (.dT (zb1 kvs k v))):=.inr ⟨kvs,k,b,e,rfl,eb,hl,rfl⟩
section
variable {X:Cx}{pins:List (Addr × Obj)}{σ:St}{H:Hp}{s:Shared}{a:Addr}{y v:V}{u r:Value}{o:Option V}{A:Around}{E:Value->Shared->Prop}
theorem Inv.big (I:Inv X pins σ H s):sysModules<s.heap.objs.size:=by
 have h:mainGlobals<s.heap.objs.size:=(I.mod.glob.keeps I.bk).lt
 exact Nat.lt_trans (by decide) h
theorem zxi {Q:Value->Shared->Prop}(hu:A.units+1<cLine) (I:Inv X pins σ H s) (g:zkf H a y o) (ry:RelV y u) (h:∀s',Inv X pins σ H s'->Q (.bool (!o.isSome)) s') :
  wpAny (model X.prog X.w) A (compareOp .NotIn u (.ref a)) Q E s:=by
 rcases g with ⟨kvs,k,e,ey,l⟩|⟨kvs,k,b,e,ey,eb,l⟩
 ·subst ey
  obtain ⟨z,hd,vs,rel,dd⟩:=zpj I.hok e
  refine wpAny_notIn_of (zl8 ry) hd dd.mapOf ?_
  rw [<-(rel.val k).isSome_eq,<-l]
  exact h _ (I.tok _)
 ·subst ey
  cases (show u=Value.ref b from ry)
  obtain ⟨z,hd,xs,rel,dd⟩:=zpk I.hok e
  refine wpAny_notIn_heap (tupleKind_room_in1 hu) (zh3 I.hok eb) hd dd ?_
  have q:=(rel.val k).isSome_eq
  rw [Option.isSome_map] at q
  rw [<-q,<-l]
  exact h _ (I.tok _)
theorem zi7 {h':Heap}{t':Nat}{ob:HO}(I:Inv X pins σ H s) (mu:Mut (H a)) (hs:Heap.SameBut a s.heap h') (he:∃q,h'.get? a=some q) (new:ObjOk X.prog X.w (upd H a ob) h' a ob) :
  Inv X pins σ (upd H a ob) { s with heap:=h',toks:=t' } :=
 I.write (x:=a) (e:=a) mu (.inl rfl) (λb q hb z=>(hs.2 b hb).trans z) he new
theorem zxj {P:Program}{w:World}{H':Hp}{h':Heap}{kvs:List (Key × V)}{vs:List (Key × Value)}(z:kvs.length<=sizeLine) (hd:(a == sysModules)=false) (rel:KV kvs vs) (dd:h'.DictOf (zde P w) a vs) :
  ObjOk P w H' h' a (.dK kvs):=⟨z,hd,vs,rel,dd⟩
theorem zxk {H':Hp}{Q:Unit->Shared->Prop}(hu:A.units+1<cLine) (I:Inv X pins σ H s) (g:DPut H a y v H') (ry:RelV y u) (rv:RelV v r) (h:∀s',Inv X pins σ H' s'->Q () s') :
  wpAny (model X.prog X.w) A (setItem (.ref a) u r) Q E s:=by
 rcases g with ⟨kvs,k,e,ey,l,eH⟩|⟨kvs,k,b,e,ey,eb,l,eH⟩
 ·subst ey eH
  obtain ⟨z,hd,vs,rel,dd⟩:=zxh I.hok e
  have hz:vs.length<=sizeLine:=by rw [<-rel.length];exact z
  have hl:(zb1 kvs k v).length<=sizeLine:=by have:=zi6 kvs k v;omega
  refine wpAny_setItem_pairs (hsz:=hz) (zl8 ry) dd λh' dd' hs=>h _ ?_
  have he:∃q,h'.get? a=some q:=let ⟨q,_,_,hq,_⟩:=dd';⟨q,hq⟩
  exact zi7 I (by rw [e];exact True.intro) hs he (zxj hl hd (rel.put k rv) dd')
 ·subst ey eH
  cases (show u=Value.ref b from ry)
  obtain ⟨z,hd,xs,rel,dd⟩:=zke I.hok e
  have hz:xs.length<=sizeLine:=by rw [<-Paired.length rel];exact z
  have hl:(zb1 kvs k v).length<=sizeLine:=by have:=zi6 kvs k v;omega
  refine wpAny_setItem_heap (hsz:=hz) (tupleKind_room_in1 hu) (zh3 I.hok eb) dd λh' dd' hs=>h _ ?_
  obtain ⟨q,es,ep,hq,h2,h3,h4,_,h5⟩:=dd'
  refine zi7 I (by rw [e];exact True.intro) hs ⟨q,hq⟩ ⟨hl,hd,_,(rel.put k eb rv).keeps λc ys ec=>?_,q,es,ep,hq,h2,h3,h4,h5⟩
  rw [zar (zdl ec e (λz=>nomatch z))]
  exact ec
end
section
variable {X:Cx}{pins:List (Addr × Obj)}{σ:St}{H:Hp}{s:Shared}{a:Addr}{kvs:List (Key × V)}{k:Key}{u:Value}{A:Around}{E:Value->Shared->Prop}
end
def zxl (td ty tv:TE):TS:=λD σ H=>tv σ H λv H1=>td σ H1 λx H2=>ty σ H2 λy H3=>∃a H4,x=.ref a/\DPut H3 a y v H4/\D.nx σ H4
section
variable {X:Cx}{o i e value:Expr}{pos pos' tpos:Pos}{td ty tv:TE}
theorem zxm (hu:X.A.units+1<cLine) (ho:PE X o td) (hi:PE X i ty) (hv:PE X value tv) (hs:swapsWith value (some (.Subscript o i pos')) pos.line X.env=pure false) :
  PS X (.Assign [.Subscript o i pos'] value pos) (zxl td ty tv):=by
 intro pins s σ H D I h
 refine wpAny_Assign_Subscript (thn (hv pins s σ H _ I h) λr s1 ⟨v,H1,I1,rv,q1⟩=>thn (ho pins s1 σ H1 _ I1 q1) λu s2 ⟨x,H2,I2,rx,q2⟩=>thn (hi pins s2 σ H2 _ I2 q2) λiv s3 ⟨y,H3,I3,ry,a,H4,ex,g,q3⟩=>?_) hs
 subst ex
 obtain rfl:u=Value.ref a:=rx
 exact zxk hu I3 g ry rv λs4 I4=>⟨σ,H4,I4,q3⟩
end
theorem zl9 {P:Program}{w:World}{H:Hp}(h:Heap) (hb:sysModules<h.objs.size):ObjOk P w H (h.push { cls:=.type "dict",data:=.dict #[] }) h.objs.size (.dT []) :=
 ⟨Nat.zero_le _,beq_eq_false_iff_ne.mpr (Ne.symm (Nat.ne_of_lt hb)),[],.nil,_,#[],0,Heap.get?_push_size _ rfl,⟨rfl,rfl,rfl⟩,rfl,rfl,List.nodup_nil⟩
section
variable {X:Cx}{pos:Pos}
end
section
variable {X:Cx}{pins:List (Addr × Obj)}{σ:St}{H:Hp}{s:Shared}{a:Addr}{y d:V}{u r:Value}{o:Option V}{A:Around}{E:Value->Shared->Prop}
end
section
variable {X:Cx}{o e f:Expr}{apos cpos:Pos}{td ty tx:TE}
end
section
variable {X:Cx}{pins:List (Addr × Obj)}{σ:St}{H:Hp}{s:Shared}{a:Addr}{kvs:List (Key × V)}{A:Around}{E:Value->Shared->Prop}
end
section
variable {X:Cx}{pins:List (Addr × Obj)}{σ:St}{H:Hp}{s:Shared}{a:Addr}{y:V}{u:Value}{A:Around}{E:Value->Shared->Prop}
end
section
variable {X:Cx}
end
section
variable {κ:Type} [DecidableEq κ]
end
end L2
namespace L3
abbrev St:=L2.St
open PySem PySem.Spec PyProof.Rows L2
inductive D where
 | non|bl (b:Bool)|int (i:Int)|str (x:Str)|tup (xs:List D)|ref (n:Nat)|fn (a:Addr)
structure LamG where
 qual:Str
 params:Arguments
 body:Expr
 scope:Scope
inductive Ob where
 | lst (xs:List D)|flst (xs:List D)|iset (f:Int->Bool) (n:Nat)|dct (kvs:List (Key × D))|fdct (kvs:List (Key × D))|tdct (kvs:List (List Key × D))|ftdct (kvs:List (List Key × D))|tset (ks:List (List Int))|fnc (x:Str)|exc (c:Str)|tab (x:Str)|lam (g:LamG) (caps:List (Str × D))|dead
noncomputable def Ob.mut:Ob->Bool
 | .flst _=>false
 | .fnc _=>false
 | .lam _ _=>false
 | .dead=>false
 | _=>true
abbrev Sto:=List Ob
abbrev Lo:=List (Option D)
mutual
inductive RD (ρ:List Addr) (H:Hp):D->V->Prop where
 | non:RD ρ H .non .non
 | bl (b:Bool):RD ρ H (.bl b) (.bl b)
 | int (i:Int):RD ρ H (.int i) (.int i)
 | str (x:Str):RD ρ H (.str x) (.str x)
 | tup {xs:List D} {a:Addr} {vs:List V}:H a=some (.tup vs)->RDs ρ H xs vs->RD ρ H (.tup xs) (.ref a)
 | ref {n:Nat} {a:Addr}:ρ[n]? = some a->RD ρ H (.ref n) (.ref a)
 | fn (a:Addr):RD ρ H (.fn a) (.ref a)
inductive RDs (ρ:List Addr) (H:Hp):List D->List V->Prop where
 | nil:RDs ρ H [] []
 | cons {x:D} {v:V} {xs:List D} {vs:List V}:RD ρ H x v->RDs ρ H xs vs->RDs ρ H (x :: xs) (v :: vs)
end
structure Ext0 (ρ:List Addr) (H:Hp) (ρ':List Addr) (H':Hp):Prop where
 pre:∀(n:Nat) (a:Addr),ρ[n]? = some a->ρ'[n]? = some a
 tup:∀a vs,H a=some (.tup vs)->H' a=some (.tup vs)
 frz:∀a o u,H a=some (.frz o u)->H' a=some (.frz o u)
structure Ext (ρ:List Addr) (H:Hp) (ρ':List Addr) (H':Hp):Prop extends Ext0 ρ H ρ' H' where
 out:∀a (vs:HO),H a=some vs->(∀n:Nat,ρ[n]?≠some a)->H' a=some vs/\∀n:Nat,ρ'[n]?≠some a
theorem Ext.refl (ρ:List Addr) (H:Hp):Ext ρ H ρ H:=⟨⟨λ_ _ h=>h,λ_ _ h=>h,λ_ _ _ h=>h⟩,λ_ _ h n=>⟨h,n⟩⟩
theorem Ext.trans {ρ ρ1 ρ2:List Addr}{H H1 H2:Hp}(a:Ext ρ H ρ1 H1) (b:Ext ρ1 H1 ρ2 H2):Ext ρ H ρ2 H2 :=
 ⟨⟨λn x h=>b.pre n x (a.pre n x h),λn x h=>b.tup n x (a.tup n x h),λn o x h=>b.frz n o x (a.frz n o x h)⟩,λx vs h n=>let ⟨h1,n1⟩:=a.out x vs h n;b.out x vs h1 n1⟩
section
variable {ρ ρ':List Addr}{H H':Hp}
mutual
theorem RD.mono0 (e:Ext0 ρ H ρ' H'):∀{d:D}{v:V},RD ρ H d v->RD ρ' H' d v
 | _,_,.non=>.non
 | _,_,.bl b=>.bl b
 | _,_,.int i=>.int i
 | _,_,.str x=>.str x
 | _,_,.tup h r=>.tup (e.tup _ _ h) (RDs.mono0 e r)
 | _,_,.ref h=>.ref (e.pre _ _ h)
 | _,_,.fn a=>.fn a
theorem RDs.mono0 (e:Ext0 ρ H ρ' H'):∀{d:List D}{v:List V},RDs ρ H d v->RDs ρ' H' d v
 | _,_,.nil=>.nil
 | _,_,.cons r q=>.cons (RD.mono0 e r) (RDs.mono0 e q)
end
theorem RD.mono {d:D}{v:V}(r:RD ρ H d v) (e:Ext ρ H ρ' H'):RD ρ' H' d v:=r.mono0 e.toExt0
theorem RDs.mono {d:List D}{v:List V}(r:RDs ρ H d v) (e:Ext ρ H ρ' H'):RDs ρ' H' d v:=r.mono0 e.toExt0
theorem RDs.length:∀{d:List D}{v:List V},RDs ρ H d v->d.length=v.length
 | _,_,.nil=>rfl
 | _,_,.cons _ q=>congrArg (· + 1) (RDs.length q)
theorem RDs.get:∀{d:List D}{v:List V}{i:Nat}{x:D},RDs ρ H d v->d[i]? = some x->∃u,v[i]? = some u/\RD ρ H x u
 | _,_,_,_,.nil,e=>by simp at e
 | _,_,0,_,.cons r _,e=>by simp at e;subst e;exact ⟨_,rfl,r⟩
 | _,_,i+1,x,.cons _ q,e=>by
  obtain ⟨u,h1,h2⟩:=RDs.get (i:=i) (x:=x) q (by simpa using e)
  exact ⟨u,by simpa using h1,h2⟩
theorem RDs.set {x:D}{u:V}(r:RD ρ H x u):∀{d:List D}{v:List V}(i:Nat),RDs ρ H d v->RDs ρ H (d.set i x) (v.set i u)
 | _,_,_,.nil=>.nil
 | _,_,0,.cons _ q=>.cons r q
 | _,_,i+1,.cons p q=>.cons p (RDs.set r i q)
theorem RDs.append:∀{d e:List D}{v w:List V},RDs ρ H d v->RDs ρ H e w->RDs ρ H (d++e) (v++w)
 | _,_,_,_,.nil,q=>q
 | _,_,_,_,.cons r p,q=>.cons r (RDs.append p q)
theorem RDs.take:∀{d:List D}{v:List V}(n:Nat),RDs ρ H d v->RDs ρ H (d.take n) (v.take n)
 | _,_,0,_=>.nil
 | _,_,_+1,.nil=>.nil
 | _,_,n+1,.cons r t=>.cons r (RDs.take n t)
theorem RDs.drop:∀{d:List D}{v:List V}(n:Nat),RDs ρ H d v->RDs ρ H (d.drop n) (v.drop n)
 | _,_,0,r=>r
 | _,_,_+1,.nil=>.nil
 | _,_,n+1,.cons _ t=>RDs.drop n t
theorem RDs.reverse:∀{d:List D}{v:List V},RDs ρ H d v->RDs ρ H d.reverse v.reverse
 | _,_,.nil=>.nil
 | _,_,.cons r t=>by rw [List.reverse_cons,List.reverse_cons];exact RDs.append (RDs.reverse t) (.cons r .nil)
theorem RDs.rep {xs:List D}{us:List V}(h:RDs ρ H xs us):∀k:Nat,RDs ρ H (List.replicate k xs).flatten (List.replicate k us).flatten
 | 0=>.nil
 | k+1=>by
  rw [List.replicate_succ,List.replicate_succ,List.flatten_cons,List.flatten_cons]
  exact RDs.append h (RDs.rep h k)
theorem RDs.one {x:D}{vs:List V}(h:RDs ρ H [x] vs):∃v,vs=[v]/\RD ρ H x v:=by
 cases h with
 | cons r q=>cases q;exact ⟨_,rfl,r⟩
theorem RDs.two {x y:D}{vs:List V}(h:RDs ρ H [x,y] vs):∃v u,vs=[v,u]/\RD ρ H x v/\RD ρ H y u:=by
 cases h with
 | cons r q=>obtain ⟨u,rfl,r2⟩:=q.one;exact ⟨_,_,rfl,r,r2⟩
end
def Fz (K:QFg) (H:Hp) (a:Addr) (xs:List V):Prop:=(∃o,H a=some (.frz o (.lst xs))) \/
  ∃(o:Obj) (its:Array Value) (n:Nat),K.lookup a=some o/\o.cls=.type "list"/\o.dict=none/\o.data=.seq its n/\its.size<=sizeLine/\Vals xs its.toList
theorem Fz.sq {K:QFg}{H:Hp}{a:Addr}{xs:List V}(h:Fz K H a xs):SqL K H a xs:=by
 rcases h with ⟨o,h⟩|h
 ·exact .inl (.inr ⟨o,h⟩)
 ·exact .inr h
noncomputable def zxn (x:Str):Str:=x++".<locals>."++"<lambda>"
noncomputable abbrev hTr:HO:=.ext λ_=>True
def CodeF (H:Hp) (q:Str) (c:Addr):Prop:=∃oc vs t,H c=some (.frz oc hTr)/\oc.data=.fields vs/\vs[1]? = some (.str q t)
def TabOk (H:Hp) (q:Str) (ps:Array Value):Prop:=TriplesOk ps.toList/\∀pos cv,codeAmong pos ps.toList=some cv->∃c,cv=.ref c/\CodeF H q c
inductive CellsR (ρ:List Addr) (H:Hp):List (Str × Addr)->List (Str × D)->Prop where
 | nil:CellsR ρ H [] []
 | cons {x:Str} {c:Addr} {o:Obj} {u:Value} {v:V} {d:D} {cs:List (Str × Addr)} {ds:List (Str × D)}:H c=some (.frz o hTr)->o.data=.cell (some u)->RelV v u->RD ρ H d v->CellsR ρ H cs ds->CellsR ρ H ((x,c) :: cs) ((x,d) :: ds)
theorem CodeF.mono {H H':Hp}{q:Str}{c:Addr}(h:CodeF H q c) (e:∀a o u,H a=some (.frz o u)->H' a=some (.frz o u)):CodeF H' q c :=
 let ⟨oc,vs,t,h1,h2⟩:=h;⟨oc,vs,t,e _ _ _ h1,h2⟩
theorem TabOk.mono {H H':Hp}{q:Str}{ps:Array Value}(h:TabOk H q ps) (e:∀a o u,H a=some (.frz o u)->H' a=some (.frz o u)):TabOk H' q ps :=
 ⟨h.1,λpos cv z=>let ⟨c,e1,k⟩:=h.2 pos cv z;⟨c,e1,k.mono e⟩⟩
theorem CellsR.mono {ρ ρ':List Addr}{H H':Hp}(e:Ext0 ρ H ρ' H') {cs:List (Str × Addr)}{ds:List (Str × D)}(h:CellsR ρ H cs ds):CellsR ρ' H' cs ds:=by
 induction h with
 | nil=>exact .nil
 | cons h1 h2 h3 h4 _ ih=>exact .cons (e.frz _ _ _ h1) h2 h3 (h4.mono0 e) ih
def ObR (K:QFg) (ρ:List Addr) (H:Hp):Ob->Addr->Prop
 | .lst xs,a=>∃vs,H a=some (.lst vs)/\RDs ρ H xs vs
 | .flst xs,a=>∃vs,Fz K H a vs/\RDs ρ H xs vs
 | .iset f n,a=>H a=some (.set f n)
 | .dct kvs,a=>∃vs,H a=some (.dK ((kvs.map (·.1)).zip vs))/\RDs ρ H (kvs.map (·.2)) vs
 | .fdct kvs,a=>∃o vs,H a=some (.frz o (.dK ((kvs.map (·.1)).zip vs)))/\RDs ρ H (kvs.map (·.2)) vs
 | .tdct kvs,a=>∃vs,H a=some (.dT ((kvs.map (·.1)).zip vs))/\RDs ρ H (kvs.map (·.2)) vs
 | .ftdct kvs,a=>∃o vs,H a=some (.frz o (.dT ((kvs.map (·.1)).zip vs)))/\RDs ρ H (kvs.map (·.2)) vs
 | .tset ks,a=>∃xs:List (List Int × Addr),ks=xs.map (·.1)/\H a=some (.ext (TS.TSet a xs))/\∀p∈xs,H p.2=some (.tup (p.1.map V.int))
 | .fnc x,a=>PySem.W.nsIn K mainGlobals x=some (some (.ref a))/\∃o,K.lookup a=some o
 | .exc c,a=>∃C,PySem.W.nsIn K mainGlobals c=some (some (.ref C))/\H a=some (.ext (λh=>∃o,h.get? a=some o/\o.cls=.ref C))
 | .tab x,a=>∃c ps,PySem.W.tabIn K x=some (c,a)/\PySem.W.codeHdIn K c a=true/\H a=some (.tbl ps)/\TabOk H (zxn x) ps
 | .lam g caps,a=>∃cs pm c ctv,H a=some (.frz (PySem.W.kla_obj "<lambda>" g.qual g.params g.body g.scope cs pm c ctv) hTr)/\CodeF H g.qual c/\CellsR ρ H cs caps
 | .dead,a=>∃u,H a=some u
structure Sim (K:QFg) (ρ:List Addr) (S:Sto) (H:Hp):Prop where
 len:ρ.length=S.length
 nd:∀(i j:Nat) (a:Addr) (o1 o2:Ob),ρ[i]? = some a->ρ[j]? = some a->S[i]? = some o1->S[j]? = some o2->o1.mut=true->o2.mut=true->i=j
 at':∀(n:Nat) (a:Addr) (o:Ob),ρ[n]? = some a->S[n]? = some o->ObR K ρ H o a
section
variable {K:QFg}{ρ ρ':List Addr}{H:Hp}{S:Sto}
theorem zbx {p:Addr}{o:HO}(hp:H p=none):Ext ρ H ρ (upd H p o) :=
 ⟨⟨λ_ _ h=>h,λa vs h=>by rw [zar (zbl h hp)];exact h,λa o vs h=>by rw [zar (zbl h hp)];exact h⟩,λa vs h n=>⟨by rw [zar (zbl h hp)];exact h,n⟩⟩
theorem zh4 {p:Addr}{o:HO}{ys:List V}(hp:H p=some (.lst ys)):Ext0 ρ H ρ (upd H p o) :=
 ⟨λ_ _ h=>h,λa vs h=>by rw [zar (zdl h hp (by intro z;cases z))];exact h,λa o vs h=>by rw [zar (zdl h hp (by intro z;cases z))];exact h⟩
def zgi (u:HO):Prop:=(∀vs,u≠.tup vs)/\∀o v,u≠.frz o v
theorem zpl (ys:List V):zgi (.lst ys):=⟨λ_ z=>(by cases z),λ_ _ z=>(by cases z)⟩
theorem zdz {p:Addr}{o u:HO}(hp:H p=some u) (hu:zgi u):Ext0 ρ H ρ (upd H p o) :=
 ⟨λ_ _ h=>h,λa vs h=>by rw [zar (zdl h hp (λz=>hu.1 vs z.symm))];exact h,λa o vs h=>by rw [zar (zdl h hp (λz=>hu.2 o vs z.symm))];exact h⟩
theorem zpm {p:Addr}{o u:HO}{n:Nat}(hn:ρ[n]? = some p) (hp:H p=some u) (hu:zgi u):Ext ρ H ρ (upd H p o) :=
 ⟨zdz hp hu,λa vs h hm=>⟨by rw [zar (λz=>hm n (by rw [z];exact hn))];exact h,hm⟩⟩
theorem zhn {p:Addr}{o:HO}{ys:List V}{n:Nat}(hn:ρ[n]? = some p) (hp:H p=some (.lst ys)):Ext ρ H ρ (upd H p o) :=
 ⟨zh4 hp,λa vs h hm=>⟨by rw [zar (λz=>hm n (by rw [z];exact hn))];exact h,hm⟩⟩
theorem ObR.laid {o:Ob}{a p:Addr}{u:HO}(h:ObR K ρ H o a) (hp:H p=none):ObR K ρ (upd H p u) o a:=by
 cases o with
 | lst xs =>
  obtain ⟨vs,e,r⟩:=h
  exact ⟨vs,by rw [zar (zbl e hp)];exact e,r.mono (zbx hp)⟩
 | flst xs =>
  obtain ⟨vs,e,r⟩:=h
  refine ⟨vs,?_,r.mono (zbx hp)⟩
  rcases e with ⟨o,e⟩|e
  ·exact .inl ⟨o,by rw [zar (zbl e hp)];exact e⟩
  ·exact .inr e
 | iset f n =>
  show upd H p u a=some (.set f n)
  have e:H a=some (.set f n):=h
  rw [zar (zbl e hp)];exact e
 | dct kvs =>
  obtain ⟨vs,e,r⟩:=h
  exact ⟨vs,by rw [zar (zbl e hp)];exact e,r.mono (zbx hp)⟩
 | fdct kvs =>
  obtain ⟨o,vs,e,r⟩:=h
  exact ⟨o,vs,by rw [zar (zbl e hp)];exact e,r.mono (zbx hp)⟩
 | tdct kvs =>
  obtain ⟨vs,e,r⟩:=h
  exact ⟨vs,by rw [zar (zbl e hp)];exact e,r.mono (zbx hp)⟩
 | ftdct kvs =>
  obtain ⟨o,vs,e,r⟩:=h
  exact ⟨o,vs,by rw [zar (zbl e hp)];exact e,r.mono (zbx hp)⟩
 | tset ks =>
  obtain ⟨xs,e0,e,r⟩:=h
  exact ⟨xs,e0,by rw [zar (zbl e hp)];exact e,λp hq=>by rw [zar (zbl (r p hq) hp)];exact r p hq⟩
 | fnc x=>exact h
 | exc c =>
  obtain ⟨C,hc,e⟩:=h
  exact ⟨C,hc,by rw [zar (zbl e hp)];exact e⟩
 | tab x =>
  obtain ⟨c,ps,h1,h2,e,t⟩:=h
  exact ⟨c,ps,h1,h2,by rw [zar (zbl e hp)];exact e,t.mono (zbx (ρ:=ρ) hp).frz⟩
 | lam g caps =>
  obtain ⟨cs,pm,c,ctv,e,k,r⟩:=h
  exact ⟨cs,pm,c,ctv,(zbx (ρ:=ρ) hp).frz _ _ _ e,k.mono (zbx (ρ:=ρ) hp).frz,r.mono (zbx hp).toExt0⟩
 | dead =>
  obtain ⟨v,e⟩:=h
  exact ⟨v,by rw [zar (zbl e hp)];exact e⟩
theorem ObR.writtenG {o:Ob}{a p:Addr}{u u0:HO}(h:ObR K ρ H o a) (hp:H p=some u0) (hu:zgi u0) (hn:o.mut=true->a≠p):ObR K ρ (upd H p u) o a:=by
 cases o with
 | lst xs =>
  obtain ⟨vs,e,r⟩:=h
  exact ⟨vs,by rw [zar (hn rfl)];exact e,r.mono0 (zdz hp hu)⟩
 | flst xs =>
  obtain ⟨vs,e,r⟩:=h
  refine ⟨vs,?_,r.mono0 (zdz hp hu)⟩
  rcases e with ⟨o,e⟩|e
  ·exact .inl ⟨o,by rw [zar (zdl e hp (λz=>hu.2 _ _ z.symm))];exact e⟩
  ·exact .inr e
 | iset f n =>
  show upd H p u a=some (.set f n)
  rw [zar (hn rfl)];exact h
 | dct kvs =>
  obtain ⟨vs,e,r⟩:=h
  exact ⟨vs,by rw [zar (hn rfl)];exact e,r.mono0 (zdz hp hu)⟩
 | tdct kvs =>
  obtain ⟨vs,e,r⟩:=h
  exact ⟨vs,by rw [zar (hn rfl)];exact e,r.mono0 (zdz hp hu)⟩
 | fdct kvs =>
  obtain ⟨o,vs,e,r⟩:=h
  exact ⟨o,vs,by rw [zar (hn rfl)];exact e,r.mono0 (zdz hp hu)⟩
 | ftdct kvs =>
  obtain ⟨o,vs,e,r⟩:=h
  exact ⟨o,vs,by rw [zar (hn rfl)];exact e,r.mono0 (zdz hp hu)⟩
 | tset ks =>
  obtain ⟨xs,e0,e,r⟩:=h
  exact ⟨xs,e0,by rw [zar (hn rfl)];exact e,λp hq=>(zdz (ρ:=ρ) hp hu).tup _ _ (r p hq)⟩
 | fnc x=>exact h
 | exc c =>
  obtain ⟨C,hc,e⟩:=h
  exact ⟨C,hc,by rw [zar (hn rfl)];exact e⟩
 | tab x =>
  obtain ⟨c,ps,h1,h2,e,t⟩:=h
  exact ⟨c,ps,h1,h2,by rw [zar (hn rfl)];exact e,t.mono (zdz (ρ:=ρ) hp hu).frz⟩
 | lam g caps =>
  obtain ⟨cs,pm,c,ctv,e,k,r⟩:=h
  exact ⟨cs,pm,c,ctv,(zdz (ρ:=ρ) hp hu).frz _ _ _ e,k.mono (zdz (ρ:=ρ) hp hu).frz,r.mono (zdz hp hu)⟩
 | dead =>
  obtain ⟨v,e⟩:=h
  by_cases hap:a=p
  ·subst hap;exact ⟨u,zbw⟩
  ·exact ⟨v,by rw [zar hap];exact e⟩
theorem ObR.written {o:Ob}{a p:Addr}{u:HO}{ys:List V}(h:ObR K ρ H o a) (hp:H p=some (.lst ys)) (hn:o.mut=true->a≠p):ObR K ρ (upd H p u) o a:=h.writtenG hp (zpl ys) hn
theorem ObR.more {o:Ob}{a:Addr}(h:ObR K ρ H o a) (e:Ext0 ρ H ρ' H):ObR K ρ' H o a:=by
 cases o with
 | lst xs=>obtain ⟨vs,e1,r⟩:=h;exact ⟨vs,e1,r.mono0 e⟩
 | flst xs=>obtain ⟨vs,e1,r⟩:=h;exact ⟨vs,e1,r.mono0 e⟩
 | iset f n=>exact h
 | dct kvs=>obtain ⟨vs,e1,r⟩:=h;exact ⟨vs,e1,r.mono0 e⟩
 | tdct kvs=>obtain ⟨vs,e1,r⟩:=h;exact ⟨vs,e1,r.mono0 e⟩
 | fdct kvs=>obtain ⟨o,vs,e1,r⟩:=h;exact ⟨o,vs,e1,r.mono0 e⟩
 | ftdct kvs=>obtain ⟨o,vs,e1,r⟩:=h;exact ⟨o,vs,e1,r.mono0 e⟩
 | tset ks=>exact h
 | fnc x=>exact h
 | exc c=>exact h
 | tab x=>exact h
 | lam g caps=>obtain ⟨cs,pm,c,ctv,e1,k,r⟩:=h;exact ⟨cs,pm,c,ctv,e1,k,r.mono e⟩
 | dead=>exact h
theorem Sim.laid (s:Sim K ρ S H) {p:Addr}{u:HO}(hp:H p=none):Sim K ρ S (upd H p u) :=
 ⟨s.len,s.nd,λn a o h1 h2=>(s.at' n a o h1 h2).laid hp⟩
theorem Sim.lst {n:Nat}{xs:List D}(s:Sim K ρ S H) (h:S[n]? = some (.lst xs)):∃a vs,ρ[n]? = some a/\H a=some (.lst vs)/\RDs ρ H xs vs:=by
 have hl:n<ρ.length:=by rw [s.len];exact (qme h).1
 obtain ⟨vs,e,r⟩:=s.at' n _ _ (qge hl) h
 exact ⟨_,vs,qge hl,e,r⟩
noncomputable def lstOf (S:Sto) (n:Nat):Option (List D):=match S[n]? with
 | some (.lst xs)=>some xs
 | some (.flst xs)=>some xs
 | _=>none
theorem Sim.lstOf {n:Nat}{xs:List D}(s:Sim K ρ S H) (h:L3.lstOf S n=some xs):∃a vs,ρ[n]? = some a/\SqL K H a vs/\RDs ρ H xs vs:=by
 unfold L3.lstOf at h
 cases e:S[n]? with
 | none=>rw [e] at h;cases h
 | some o =>
  have hl:n<ρ.length:=by rw [s.len];exact (qme e).1
  have q:=s.at' n _ _ (qge hl) e
  rw [e] at h
  cases o with
  | lst ys =>
   cases h
   obtain ⟨vs,e1,r⟩:=q
   exact ⟨_,vs,qge hl,.inl (.inl e1),r⟩
  | flst ys =>
   cases h
   obtain ⟨vs,e1,r⟩:=q
   exact ⟨_,vs,qge hl,e1.sq,r⟩
  | iset f n=>cases h
  | dct kvs=>cases h
  | fdct kvs=>cases h
  | ftdct kvs=>cases h
  | tset ks=>cases h
  | fnc x=>cases h
  | tdct kvs=>cases h
  | exc c=>cases h
  | tab x=>cases h
  | lam g caps=>cases h
  | dead=>cases h
theorem Sim.setG {n:Nat}{a:Addr}{o0 o1:Ob}{u0 u1:HO}(s:Sim K ρ S H) (ha:ρ[n]? = some a) (hS:S[n]? = some o0) (hm0:o0.mut=true) (hH:H a=some u0) (hu:zgi u0) (r:ObR K ρ (upd H a u1) o1 a):Sim K ρ (S.set n o1) (upd H a u1):=by
 have hl:n<S.length:=(qme hS).1
 have key:∀(m:Nat) (w:Ob),w.mut=true->(S.set n o1)[m]? = some w->∃w',S[m]? = some w'/\w'.mut=true:=λm w hw h=>by
  by_cases hmn:n=m
  ·subst hmn;exact ⟨_,hS,hm0⟩
  ·rw [List.getElem?_set_ne hmn] at h;exact ⟨_,h,hw⟩
 refine ⟨by rw [List.length_set];exact s.len,λi j b x1 x2 h1 h2 h3 h4 m1 m2=>?_,λm b o h1 h2=>?_⟩
 ·obtain ⟨_,h3,q3⟩:=key i x1 m1 h3
  obtain ⟨_,h4,q4⟩:=key j x2 m2 h4
  exact s.nd i j b _ _ h1 h2 h3 h4 q3 q4
 by_cases hmn:n=m
 ·subst hmn
  rw [ha] at h1;cases h1
  rw [List.getElem?_set_self hl] at h2
  cases h2
  exact r
 ·rw [List.getElem?_set_ne hmn] at h2
  exact (s.at' m b o h1 h2).writtenG hH hu (λe z=>hmn (s.nd n m a _ _ ha (by rw [h1,z]) hS h2 hm0 e))
theorem Sim.set {n:Nat}{a:Addr}{ys:List V}{xs zs:List D}{vs:List V}(s:Sim K ρ S H) (ha:ρ[n]? = some a) (hS:S[n]? = some (.lst zs)) (hH:H a=some (.lst ys)) (r:RDs ρ H xs vs):Sim K ρ (S.set n (.lst xs)) (upd H a (.lst vs)) :=
 s.setG ha hS rfl hH (zpl ys) ⟨vs,zbw,r.mono0 (zh4 hH)⟩
theorem ext0_push {a:Addr}:Ext0 ρ H (ρ++[a]) H :=
 ⟨λn b h=>by rw [List.getElem?_append_left (qme h).1];exact h,λ_ _ h=>h,λ_ _ _ h=>h⟩
theorem zb2 {α:Type}{l:List α}{a b:α}{n:Nat}(h:(l++[a])[n]? = some b):l[n]? = some b\/(n=l.length/\b=a):=by
 by_cases hl:n<l.length
 ·rw [List.getElem?_append_left hl] at h;exact .inl h
 ·rw [List.getElem?_append_right (by omega)] at h
  have:n-l.length=0:=by
   have:=(qme h).1
   simp at this;omega
  rw [this] at h;simp at h
  exact .inr ⟨by omega,h.symm⟩
theorem zpn {a:Addr}{vs:List V}(ha:H a=none):Ext ρ H (ρ++[a]) (upd H a (.lst vs)) :=
 ⟨⟨ext0_push.pre (H:=H),λb us h=>by rw [zar (zbl h ha)];exact h,λb o us h=>by rw [zar (zbl h ha)];exact h⟩,λb us h n=>⟨by rw [zar (zbl h ha)];exact h,λi hi=>by
  rcases zb2 hi with hi|⟨_,e⟩
  ·exact n i hi
  ·rw [e,ha] at h;cases h⟩⟩
theorem zkg {a:Addr}{u:HO}(ha:H a=none):Ext ρ H (ρ++[a]) (upd H a u) :=
 ⟨⟨ext0_push.pre (H:=H),λb us h=>by rw [zar (zbl h ha)];exact h,λb o us h=>by rw [zar (zbl h ha)];exact h⟩,λb us h n=>⟨by rw [zar (zbl h ha)];exact h,λi hi=>by
  rcases zb2 hi with hi|⟨_,e⟩
  ·exact n i hi
  ·rw [e,ha] at h;cases h⟩⟩
theorem Sim.pushG {a:Addr}{o1:Ob}{u:HO}(s:Sim K ρ S H) (ha:H a=none) (r:ObR K (ρ++[a]) (upd H a u) o1 a):Sim K (ρ++[a]) (S++[o1]) (upd H a u):=by
 have no:∀(n:Nat) (o:Ob),o.mut=true->ρ[n]? = some a->S[n]? = some o->False:=λn o hm h1 h2=>by
  have q:=s.at' n a _ h1 h2
  cases o with
  | lst xs=>obtain ⟨vs,e,_⟩:=q;rw [ha] at e;cases e
  | flst xs=>cases hm
  | iset f n=>have q:H a=_:=q;rw [ha] at q;cases q
  | dct kvs=>obtain ⟨vs,e,_⟩:=q;rw [ha] at e;cases e
  | tdct kvs=>obtain ⟨vs,e,_⟩:=q;rw [ha] at e;cases e
  | fdct kvs=>obtain ⟨o,vs,e,_⟩:=q;rw [ha] at e;cases e
  | ftdct kvs=>obtain ⟨o,vs,e,_⟩:=q;rw [ha] at e;cases e
  | tset ks=>obtain ⟨xs,_,e,_⟩:=q;rw [ha] at e;cases e
  | fnc x=>cases hm
  | exc c=>obtain ⟨C,_,e⟩:=q;rw [ha] at e;cases e
  | tab x=>obtain ⟨_,_,_,_,e,_⟩:=q;rw [ha] at e;cases e
  | lam g caps=>cases hm
  | dead=>cases hm
 refine ⟨by simp [s.len],λi j b x1 x2 h1 h2 h3 h4 m1 m2=>?_,λn b o h1 h2=>?_⟩
 ·rcases zb2 h3 with h3|⟨e3,_⟩ <;> rcases zb2 h4 with h4|⟨e4,_⟩
  ·have l1:=(qme h3).1
   have l2:=(qme h4).1
   rcases zb2 h1 with h1|⟨e1,f1⟩ <;> rcases zb2 h2 with h2|⟨e2,f2⟩
   ·exact s.nd i j b _ _ h1 h2 h3 h4 m1 m2
   ·have:=s.len;omega
   ·have:=s.len;omega
   ·have:=s.len;omega
  ·have l1:=(qme h3).1
   rcases zb2 h2 with h2|⟨e2,f2⟩
   ·have:=(qme h2).1;have:=s.len;omega
   ·subst f2
    rcases zb2 h1 with h1|⟨e1,_⟩
    ·exact (no i _ m1 h1 h3).elim
    ·have:=s.len;omega
  ·have l1:=(qme h4).1
   rcases zb2 h1 with h1|⟨e2,f2⟩
   ·have:=(qme h1).1;have:=s.len;omega
   ·subst f2
    rcases zb2 h2 with h2|⟨e1,_⟩
    ·exact (no j _ m2 h2 h4).elim
    ·have:=s.len;omega
  ·omega
 ·rcases zb2 h2 with h2|⟨e2,f2⟩
  ·rcases zb2 h1 with h1|⟨e1,f1⟩
   ·exact ((s.at' n b o h1 h2).laid ha).more ext0_push
   ·have:=(qme h2).1;have:=s.len;omega
  ·rcases zb2 h1 with h1|⟨e1,f1⟩
   ·have:=(qme h1).1;have:=s.len;omega
   ·subst f1 f2
    exact r
theorem Sim.push {a:Addr}{xs:List D}{vs:List V}(s:Sim K ρ S H) (ha:H a=none) (r:RDs ρ H xs vs):Sim K (ρ++[a]) (S++[.lst xs]) (upd H a (.lst vs)) :=
 s.pushG ha ⟨vs,zbw,r.mono (zpn ha)⟩
theorem zfw {α:Type}(l:List α) (a:α):(l++[a])[l.length]? = some a:=by
 rw [List.getElem?_append_right (qlr _)];simp
end
structure RO (ρ:List Addr) (H:Hp) (l:Lo) (σ:St):Prop where
 len:l.length=σ.length
 get:∀(i:Nat) (d:D),l[i]? = some (some d)->∃v,σ[i]? = some (some v)/\RD ρ H d v
theorem RO.mono {ρ ρ':List Addr}{H H':Hp}{l:Lo}{σ:St}(r:RO ρ H l σ) (e:Ext ρ H ρ' H'):RO ρ' H' l σ :=
 ⟨r.len,λi d h=>let ⟨v,h1,h2⟩:=r.get i d h;⟨v,h1,h2.mono e⟩⟩
theorem RO.set {ρ:List Addr}{H:Hp}{l:Lo}{σ:St}{d:D}{v:V}(r:RO ρ H l σ) (i:Nat) (h:RD ρ H d v):RO ρ H (l.set i (some d)) (σ.set i (some v)):=by
 refine ⟨by simp [r.len],λj x hj=>?_⟩
 by_cases hij:i=j
 ·subst hij
  have hl:i<l.length:=by have:=(qme hj).1;simpa using this
  rw [List.getElem?_set_self hl] at hj
  cases hj
  exact ⟨v,List.getElem?_set_self (by rw [<-r.len];exact hl),h⟩
 ·rw [List.getElem?_set_ne hij] at hj
  rw [List.getElem?_set_ne hij]
  exact r.get j x hj
abbrev EM:=Lo->Sto->Option (D × Sto)
abbrev TM:=Lo->Sto->Option (Bool × Sto)
abbrev AM:=Lo->Sto->Option (List D × Sto)
abbrev FM:=List D->Sto->Option (D × Sto)
inductive Fl where
 | nx|bk|ct|rt (d:D)
abbrev SM:=Lo->Sto->Option (Fl × Lo × Sto)
abbrev GM:=D->Lo->Sto->Option (Lo × Sto)
abbrev GsM:=List D->Lo->Sto->Option (Lo × Sto)
def Pv (K:QFg) (ρ:List Addr) (H:Hp) (v:D) (S:Sto) (Q:VK):Prop:=∀ρ' H' v',Ext ρ H ρ' H'->Sim K ρ' S H'->RD ρ' H' v v'->Q v' H'
theorem Pv.ext {K:QFg}{ρ ρ1:List Addr}{H H1:Hp}{v:D}{S:Sto}{Q:VK}(p:Pv K ρ H v S Q) (e:Ext ρ H ρ1 H1):Pv K ρ1 H1 v S Q:=λρ' H' v' e' s r=>p ρ' H' v' (e.trans e') s r
inductive te (K:QFg) (m:EM) (σ:St) (H:Hp) (Q:VK):Prop
 | mk (ρ:_) (l:_) (S:_) (v:_) (S':_) (_:Sim K ρ S H) (_:RO ρ H l σ) (_:m l S=some (v,S')) (_:Pv K ρ H v S' Q)
inductive tt (K:QFg) (m:TM) (σ:St) (H:Hp) (Q:Bool->Hp->Prop):Prop
 | mk (ρ:_) (l:_) (S:_) (v:_) (S':_) (_:Sim K ρ S H) (_:RO ρ H l σ) (_:m l S=some (v,S')) (_:∀ρ' H',Ext ρ H ρ' H'->Sim K ρ' S' H'->Q v H')
inductive ta (K:QFg) (m:AM) (σ:St) (H:Hp) (Q:List V->Hp->Prop):Prop
 | mk (ρ:_) (l:_) (S:_) (v:_) (S':_) (_:Sim K ρ S H) (_:RO ρ H l σ) (_:m l S=some (v,S')) (_:∀ρ' H' vs,Ext ρ H ρ' H'->Sim K ρ' S' H'->RDs ρ' H' v vs->Q vs H')
def zi8 (ρ:List Addr) (H:Hp) (E:Ends) (σ:St):Fl->Prop
 | .nx=>E.nx σ H
 | .bk=>E.bk σ H
 | .ct=>E.ct σ H
 | .rt d=>∀v,RD ρ H d v->E.rt v H
inductive ts (K:QFg) (m:SM) (E:Ends) (σ:St) (H:Hp):Prop
 | mk (ρ:_) (l:_) (S:_) (f:_) (l':_) (S':_) (_:Sim K ρ S H) (_:RO ρ H l σ) (_:m l S=some (f,l',S')) (_:∀ρ' H' σ',Ext ρ H ρ' H'->Sim K ρ' S' H'->RO ρ' H' l' σ'->zi8 ρ' H' E σ' f)
inductive tg (K:QFg) (g:GM) (v:V) (σ:St) (H:Hp) (Q:St->Hp->Prop):Prop
 | mk (ρ:_) (l:_) (S:_) (d:_) (l':_) (S':_) (_:Sim K ρ S H) (_:RO ρ H l σ) (_:RD ρ H d v) (_:g d l S=some (l',S')) (_:∀ρ' H' σ',Ext ρ H ρ' H'->Sim K ρ' S' H'->RO ρ' H' l' σ'->Q σ' H')
inductive tgs (K:QFg) (g:GsM) (vs:List V) (σ:St) (H:Hp) (Q:St->Hp->Prop):Prop
 | mk (ρ:_) (l:_) (S:_) (ds:_) (l':_) (S':_) (_:Sim K ρ S H) (_:RO ρ H l σ) (_:RDs ρ H ds vs) (_:g ds l S=some (l',S')) (_:∀ρ' H' σ',Ext ρ H ρ' H'->Sim K ρ' S' H'->RO ρ' H' l' σ'->Q σ' H')
def PE3 (X:Cx) (e:Expr) (m:EM):Prop:=PE X e (te X.K m)
def PT3 (X:Cx) (e:Expr) (m:TM):Prop:=PT X e (tt X.K m)
def PW3 (X:Cx) (e:Expr) (m:TM):Prop:=PW X e (tt X.K m)
def PA3 (X:Cx) (es:List Expr) (m:AM):Prop:=PA X es (ta X.K m)
def PS3 (X:Cx) (st:Stmt) (m:SM):Prop:=PS X st (ts X.K m)
def zfa (X:Cx) (st:List Stmt) (m:SM):Prop:=PSs X st (ts X.K m)
def PG3 (X:Cx) (tg':Expr) (m:GM):Prop:=PG X tg' (tg X.K m)
def zkh (X:Cx) (ts':List Expr) (m:GsM):Prop:=PGs X ts' (tgs X.K m)
theorem PE.imp {X:Cx}{e:Expr}{t u:TE}(h:PE X e t) (i:∀σ H Q,u σ H Q->t σ H Q):PE X e u:=λpins s σ H Q I q=>h pins s σ H Q I (i _ _ _ q)
theorem PT.imp {X:Cx}{e:Expr}{t u:TT}(h:PT X e t) (i:∀σ H Q,u σ H Q->t σ H Q):PT X e u:=λpins s σ H Q I q=>h pins s σ H Q I (i _ _ _ q)
theorem PW.imp {X:Cx}{e:Expr}{t u:TT}(h:PW X e t) (i:∀σ H Q,u σ H Q->t σ H Q):PW X e u:=λwh pins s σ H Q I q=>h wh pins s σ H Q I (i _ _ _ q)
theorem PA.imp {X:Cx}{e:List Expr}{t u:TA}(h:PA X e t) (i:∀σ H Q,u σ H Q->t σ H Q):PA X e u:=λpos pins s σ H Q I q=>h pos pins s σ H Q I (i _ _ _ q)
theorem PS.imp {X:Cx}{e:Stmt}{t u:TS}(h:PS X e t) (i:∀E σ H,u E σ H->t E σ H):PS X e u:=λpins s σ H Q I q=>h pins s σ H Q I (i _ _ _ q)
theorem PSs.imp {X:Cx}{e:List Stmt}{t u:TS}(h:PSs X e t) (i:∀E σ H,u E σ H->t E σ H):PSs X e u:=λpins s σ H Q I q=>h pins s σ H Q I (i _ _ _ q)
theorem PG.imp {X:Cx}{e:Expr}{t u:TG}(h:PG X e t) (i:∀v σ H Q,u v σ H Q->t v σ H Q):PG X e u:=λpins s σ H v w Q I r q=>h pins s σ H v w Q I r (i _ _ _ _ q)
theorem PGs.imp {X:Cx}{e:List Expr}{t u:TGs}(h:PGs X e t) (i:∀v σ H Q,u v σ H Q->t v σ H Q):PGs X e u:=λpins s σ H v w Q I r q=>h pins s σ H v w Q I r (i _ _ _ _ q)
inductive Bnd {α β:Type} (o:Option α) (f:α->Option β) (b:β):Prop
 | mk (a:α) (_:o=some a) (_:f a=some b)
theorem bnd {α β:Type}{o:Option α}{f:α->Option β}{b:β}(h:o.bind f=some b):Bnd o f b:=by
 obtain ⟨a,h1,h2⟩:=Option.bind_eq_some_iff.mp h
 exact ⟨a,h1,h2⟩
noncomputable def zaa (i:Nat):EM:=λl S=>match l[i]? with
 | some (some d)=>some (d,S)
 | _=>none
noncomputable def eC (d:D):EM:=λ_ S=>some (d,S)
noncomputable def eOp (f:D->D->Sto->Option (D × Sto)) (a b:EM):EM:=λl S=>(a l S).bind λp=>(b l p.2).bind λq=>f p.1 q.1 q.2
noncomputable def eUn (f:D->Sto->Option (D × Sto)) (a:EM):EM:=λl S=>(a l S).bind λp=>f p.1 p.2
noncomputable def zae:AM:=λ_ S=>some ([],S)
noncomputable def zab (a:EM) (r:AM):AM:=λl S=>(a l S).bind λp=>(r l p.2).bind λq=>some (p.1 :: q.1,q.2)
noncomputable def zaf (f:FM) (as:AM):EM:=λl S=>(as l S).bind λp=>f p.1 p.2
noncomputable def tE (a:EM):TM:=λl S=>(a l S).bind λp=>match p.1 with
 | .bl b=>some (b,p.2)
 | _=>none
noncomputable def zc5 (a b:TM):TM:=λl S=>(a l S).bind λp=>if p.1=true then b l p.2 else some (false,p.2)
noncomputable def zd0 (a b:TM):TM:=λl S=>(a l S).bind λp=>if p.1=true then some (true,p.2) else b l p.2
noncomputable def zdm (a:TM):TM:=λl S=>(a l S).bind λp=>some (!p.1,p.2)
noncomputable def zgj (a b:EM):EM:=λl S=>(a l S).bind λp=>match p.1 with
 | .bl true=>b l p.2
 | .bl false=>some (.bl false,p.2)
 | _=>none
noncomputable def zki (a:EM):EM:=λl S=>(a l S).bind λp=>match p.1 with
 | .bl b=>some (.bl (!b),p.2)
 | _=>none
noncomputable def zi9 (c:TM) (a b:EM):EM:=λl S=>(c l S).bind λp=>if p.1=true then a l p.2 else b l p.2
def Op3 (K:QFg) (f:D->D->Sto->Option (D × Sto)) (r:R2):Prop :=
 ∀ρ S H x y x' y' v S' Q,Sim K ρ S H->RD ρ H x x'->RD ρ H y y'->f x y S=some (v,S')->Pv K ρ H v S' Q->r x' y' H Q
def Fn3 (K:QFg) (f:FM) (r:List V->Hp->VK->Prop):Prop :=
 ∀ρ S H xs vs v S' Q,Sim K ρ S H->RDs ρ H xs vs->f xs S=some (v,S')->Pv K ρ H v S' Q->r vs H Q
def Mt3 (K:QFg) (f:D->List D->Sto->Option (D × Sto)) (r:V->List V->Hp->VK->Prop):Prop :=
 ∀ρ S H x x' xs vs v S' Q,Sim K ρ S H->RD ρ H x x'->RDs ρ H xs vs->f x xs S=some (v,S')->Pv K ρ H v S' Q->r x' vs H Q
theorem zkj {K:QFg}{f:D->D->Sto->Option (D × Sto)}{r:R2}(h:Op3 K f r) {a b:EM}(σ:St) (H:Hp) (Q:VK) (q:te K (eOp f a b) σ H Q):tOp r (te K a) (te K b) σ H Q:=by
 obtain ⟨ρ,l,S,v,S',sim,ro,hm,p⟩:=q
 obtain ⟨⟨x,S1⟩,h1,hm⟩:=bnd hm
 obtain ⟨⟨y,S2⟩,h2,hm⟩:=bnd hm
 exact ⟨ρ,l,S,x,S1,sim,ro,h1,λρ1 H1 x' e1 s1 r1=>⟨ρ1,l,S1,y,S2,s1,ro.mono e1,h2,λρ2 H2 y' e2 s2 r2=>h ρ2 S2 H2 x y x' y' v S' Q s2 (r1.mono e2) r2 hm (p.ext (e1.trans e2))⟩⟩
section
variable {X:Cx}{a b c:Expr}{es:List Expr}{ma mb:EM}{mA:AM}{pos:Pos}
theorem zac (i:Nat) {x:Str}(hN:X.N[i]? = some x:=by rfl) (hv:Vis X.env.scope x:=by first|exact Or.inl rfl|exact Or.inr (Or.inl rfl)|exact Or.inr (Or.inr rfl)) (hd:(x == ("__debug__":Str))=false:=by decide)
  (hcd:(x == ("__classdict__":Str))=false:=by decide):PE3 X (.Name x pos) (zaa i) :=
 PE.imp (zt5 hN hv hd hcd) λσ H Q hx1_=>by
  obtain ⟨ρ,l,S,v,S',sim,ro,hm,p⟩:=hx1_
  unfold zaa at hm
  split at hm
  ·rename_i d e
   cases hm
   obtain ⟨w,h1,h2⟩:=ro.get i _ e
   exact ⟨w,h1,p ρ H w (Ext.refl ..) sim h2⟩
  ·cases hm
theorem zkk {K:QFg}{d:D}{v:V}(h:∀ρ H,RD ρ H d v) (σ:St) (H:Hp) (Q:VK) (q:te K (eC d) σ H Q):tC v σ H Q:=by
 obtain ⟨ρ,l,S,w,S',sim,ro,hm,p⟩:=q
 cases hm
 exact p ρ H v (Ext.refl ..) sim (h ρ H)
theorem zah {i j}:PE3 X (.Constant (.int i) j pos) (eC (.int i)):=PE.imp zoc (zkk λ_ _=>.int i)
theorem zc1 {i j}:PE3 X (.Constant (.bool i) j pos) (eC (.bl i)):=PE.imp zt6 (zkk λ_ _=>.bl i)
theorem zby {j}:PE3 X (.Constant .none j pos) (eC .non):=PE.imp zt7 (zkk λ_ _=>.non)
theorem zc8 {i j}:PE3 X (.Constant (.str i) j pos) (eC (.str i)):=PE.imp zt8 (zkk λ_ _=>.str i)
theorem zh5 {op:Operator}{f:D->D->Sto->Option (D × Sto)}{r:R2}(ho:OpR X (binaryOp op) r) (h3:Op3 X.K f r) (ha:PE3 X a ma) (hb:PE3 X b mb):PE3 X (.BinOp a op b pos) (eOp f ma mb):=PE.imp (zvl ho ha hb) (zkj h3)
theorem zpo {op:CmpOp}{f:D->D->Sto->Option (D × Sto)}{r:R2}(ho:OpR X (compareOp op) r) (h3:Op3 X.K f r) (ha:PE3 X a ma) (hb:PE3 X b mb) (hm:behindInMarks op b=false):PE3 X (.Compare a [op] [b] pos) (eOp f ma mb):=PE.imp (zvw ho ha hb hm) (zkj h3)
theorem zma {K:QFg}{m:EM}(σ:St) (H:Hp) (Q:Bool->Hp->Prop) (q:tt K (tE m) σ H Q):te K m σ H λx H'=>∃k,x=.bl k/\Q k H':=by
 obtain ⟨ρ,l,S,v,S',sim,ro,hm,p⟩:=q
 obtain ⟨⟨x,S1⟩,h1,hm⟩:=bnd hm
 refine ⟨ρ,l,S,x,S1,sim,ro,h1,λρ' H' v' e s r=>?_⟩
 cases r with
 | bl k=>cases hm;exact ⟨_,rfl,p ρ' H' e s⟩
 | _=>cases hm
theorem zfb {op:CmpOp}{f:D->D->Sto->Option (D × Sto)}{r:R2}(ho:OpR X (compareOp op) r) (h3:Op3 X.K f r) (ha:PE3 X a ma) (hb:PE3 X b mb) (hm:behindInMarks op b=false):PT3 X (.Compare a [op] [b] pos) (tE (eOp f ma mb)) :=
 PT.imp (zvx ho ha hb hm) λσ H Q q=>zkj h3 σ H _ (zma σ H Q q)
theorem zfk {m:EM}(h:PE3 X a m) (he:∀whole,isTrue a X.env whole=(do let v <-whole;standAt a.pos;holding [v] (truthy v)):=by intro _;rfl):PT3 X a (tE m) :=
 PT.imp (zua h he) λσ H Q q=>zma σ H Q q
noncomputable def zfx (f g:D->D->Sto->Option (D × Sto)) (a b c:EM):EM:=λl S=>(a l S).bind λp=>(b l p.2).bind λq=>(f p.1 q.1 q.2).bind λr=>match r.1 with
 | .bl true=>(c l r.2).bind λs=>g q.1 s.1 s.2
 | .bl false=>some (.bl false,r.2)
 | _=>none
theorem zpp {K:QFg}{f g:D->D->Sto->Option (D × Sto)}{r r':R2}(h:Op3 K f r) (h':Op3 K g r') {a b c:EM}(σ:St) (H:Hp) (Q:VK) (q:te K (zfx f g a b c) σ H Q):zl1 r r' (te K a) (te K b) (te K c) σ H Q:=by
 obtain ⟨ρ,l,S,v,S',sim,ro,hm,p⟩:=q
 obtain ⟨⟨x,S1⟩,h1,hm⟩:=bnd hm
 obtain ⟨⟨y,S2⟩,h2,hm⟩:=bnd hm
 obtain ⟨⟨z,S3⟩,h3,hm⟩:=bnd hm
 refine ⟨ρ,l,S,x,S1,sim,ro,h1,λρ1 H1 x' e1 s1 r1=>⟨ρ1,l,S1,y,S2,s1,ro.mono e1,h2,λρ2 H2 y' e2 s2 r2=>?_⟩⟩
 refine h ρ2 S2 H2 x y x' y' z S3 _ s2 (r1.mono e2) r2 h3 λρ3 H3 z' e3 s3 r3=>?_
 cases r3 with
 | bl k =>
  refine ⟨k,rfl,?_⟩
  cases k with
  | false =>
   cases hm
   exact zgg (p ρ3 H3 _ (e1.trans (e2.trans e3)) s3 (.bl false))
  | true =>
   obtain ⟨⟨w,S4⟩,h4,hm⟩:=bnd hm
   exact zgh ⟨ρ3,l,S3,w,S4,s3,ro.mono (e1.trans (e2.trans e3)),h4,λρ4 H4 w' e4 s4 r4=>h' ρ4 S4 H4 y w y' w' v S' Q s4 (r2.mono (e3.trans e4)) r4 hm (p.ext (e1.trans (e2.trans (e3.trans e4))))⟩
 | _=>cases hm
theorem zxo {op op':CmpOp}{f g:D->D->Sto->Option (D × Sto)}{r r':R2}{mc:EM}(ho:OpR X (compareOp op) r) (ho':OpR X (compareOp op') r') (h3:Op3 X.K f r) (h3':Op3 X.K g r') (ha:PE3 X a ma) (hb:PE3 X b mb) (hc:PE3 X c mc)
  (hm:lastMarks [op,op'] [b,c]=false:=by with_unfolding_all rfl):PE3 X (.Compare a [op,op'] [b,c] pos) (zfx f g ma mb mc):=PE.imp (zvy ho ho' ha hb hc hm) (zpp h3 h3')
theorem zxp {op op':CmpOp}{f g:D->D->Sto->Option (D × Sto)}{r r':R2}{mc:EM}(ho:OpR X (compareOp op) r) (ho':OpR X (compareOp op') r') (h3:Op3 X.K f r) (h3':Op3 X.K g r') (ha:PE3 X a ma) (hb:PE3 X b mb) (hc:PE3 X c mc)
  (hm:lastMarks [op,op'] [b,c]=false:=by with_unfolding_all rfl):PT3 X (.Compare a [op,op'] [b,c] pos) (tE (zfx f g ma mb mc)) :=
 PT.imp (zvz ho ho' ha hb hc hm) λσ H Q q=>zpp h3 h3' σ H _ (zma σ H Q q)
variable {t u:TM}{rest:List Expr}
theorem zxq {K:QFg}(σ:St) (H:Hp) (Q:Bool->Hp->Prop) (q:tt K (zc5 t u) σ H Q):L2.tAnd (tt K t) (tt K u) σ H Q:=by
 obtain ⟨ρ,l,S,v,S',sim,ro,hm,p⟩:=q
 obtain ⟨⟨x,S1⟩,h1,hm⟩:=bnd hm
 refine ⟨ρ,l,S,x,S1,sim,ro,h1,λρ1 H1 e1 s1=>?_⟩
 cases x with
 | true=>exact zgh ⟨ρ1,l,S1,v,S',s1,ro.mono e1,hm,λρ2 H2 e2 s2=>p ρ2 H2 (e1.trans e2) s2⟩
 | false=>cases hm;exact zgg (p ρ1 H1 e1 s1)
theorem zxr {K:QFg}(σ:St) (H:Hp) (Q:Bool->Hp->Prop) (q:tt K (zd0 t u) σ H Q):L2.tOr (tt K t) (tt K u) σ H Q:=by
 obtain ⟨ρ,l,S,v,S',sim,ro,hm,p⟩:=q
 obtain ⟨⟨x,S1⟩,h1,hm⟩:=bnd hm
 refine ⟨ρ,l,S,x,S1,sim,ro,h1,λρ1 H1 e1 s1=>?_⟩
 cases x with
 | false=>exact zgg ⟨ρ1,l,S1,v,S',s1,ro.mono e1,hm,λρ2 H2 e2 s2=>p ρ2 H2 (e1.trans e2) s2⟩
 | true=>cases hm;exact zgh (p ρ1 H1 e1 s1)
theorem zfc (ha:PT3 X a t):PW3 X (.BoolOp .And [a] pos) t:=zuc ha
theorem zja (ha:PT3 X a t):PW3 X (.BoolOp .Or [a] pos) t:=zud ha
theorem zez (ha:PT3 X a t) (hb:PW3 X (.BoolOp .And (b :: rest) pos) u):PW3 X (.BoolOp .And (a :: b :: rest) pos) (zc5 t u):=PW.imp (zue ha hb) zxq
theorem zh6 (ha:PT3 X a t) (hb:PW3 X (.BoolOp .Or (b :: rest) pos) u):PW3 X (.BoolOp .Or (a :: b :: rest) pos) (zd0 t u):=PW.imp (zuf ha hb) zxr
theorem zdf (h:PW3 X a t):PT3 X a t:=PW.pt h
theorem zgk (ha:PT3 X a t):PT3 X (.UnaryOp .Not a pos) (zdm t):=PT.imp (zug ha) λσ H Q hx2_=>by
 obtain ⟨ρ,l,S,v,S',sim,ro,hm,p⟩:=hx2_
 obtain ⟨⟨x,S1⟩,h1,hm⟩:=bnd hm
 cases hm
 exact ⟨ρ,l,S,x,S1,sim,ro,h1,p⟩
theorem zkl {op}(h:PE3 X a ma):PE3 X (.BoolOp op [a] pos) ma:=zuj h
theorem zjb (ha:PE3 X a ma) (hb:PE3 X (.BoolOp .And (b :: rest) pos) mb):PE3 X (.BoolOp .And (a :: b :: rest) pos) (zgj ma mb):=PE.imp (zuk ha hb) λσ H Q hx3_=>by
 obtain ⟨ρ,l,S,v,S',sim,ro,hm,p⟩:=hx3_
 obtain ⟨⟨x,S1⟩,h1,hm⟩:=bnd hm
 refine ⟨ρ,l,S,x,S1,sim,ro,h1,λρ1 H1 x' e1 s1 r1=>?_⟩
 cases r1 with
 | bl k =>
  refine ⟨k,rfl,?_⟩
  cases k with
  | true=>exact zgh ⟨ρ1,l,S1,v,S',s1,ro.mono e1,hm,p.ext e1⟩
  | false=>cases hm;exact zgg (p ρ1 H1 _ e1 s1 (.bl false))
 | _=>cases hm
theorem zxs (ha:PE3 X a ma):PE3 X (.UnaryOp .Not a pos) (zki ma):=PE.imp (zul ha) λσ H Q hx5_=>by
 obtain ⟨ρ,l,S,v,S',sim,ro,hm,p⟩:=hx5_
 obtain ⟨⟨x,S1⟩,h1,hm⟩:=bnd hm
 refine ⟨ρ,l,S,x,S1,sim,ro,h1,λρ1 H1 x' e1 s1 r1=>?_⟩
 cases r1 with
 | bl k=>cases hm;exact ⟨k,rfl,p ρ1 H1 _ e1 s1 (.bl _)⟩
 | _=>cases hm
theorem zxt {mc:TM}(hc:PT3 X c mc) (ha:PE3 X a ma) (hb:PE3 X b mb):PE3 X (.IfExp c a b pos) (zi9 mc ma mb):=PE.imp (zum hc ha hb) λσ H Q hx6_=>by
 obtain ⟨ρ,l,S,v,S',sim,ro,hm,p⟩:=hx6_
 obtain ⟨⟨x,S1⟩,h1,hm⟩:=bnd hm
 refine ⟨ρ,l,S,x,S1,sim,ro,h1,λρ1 H1 e1 s1=>?_⟩
 cases x with
 | true=>exact zgh ⟨ρ1,l,S1,v,S',s1,ro.mono e1,hm,p.ext e1⟩
 | false=>exact zgg ⟨ρ1,l,S1,v,S',s1,ro.mono e1,hm,p.ext e1⟩
theorem zag:PA3 X [] zae:=PA.imp zkc λσ H Q hx7_=>by
 obtain ⟨ρ,l,S,v,S',sim,ro,hm,p⟩:=hx7_
 cases hm
 exact p ρ H [] (Ext.refl ..) sim .nil
theorem zad (ha:PE3 X a ma) (hr:PA3 X es mA) (hs:starEach (a :: es) X.env=(false,eval a X.env) :: starEach es X.env:=by rfl):PA3 X (a :: es) (zab ma mA):=PA.imp (zh1 ha hr hs) λσ H Q hx8_=>by
 obtain ⟨ρ,l,S,v,S',sim,ro,hm,p⟩:=hx8_
 obtain ⟨⟨x,S1⟩,h1,hm⟩:=bnd hm
 obtain ⟨⟨y,S2⟩,h2,hm⟩:=bnd hm
 cases hm
 exact ⟨ρ,l,S,x,S1,sim,ro,h1,λρ1 H1 x' e1 s1 r1=>⟨ρ1,l,S1,y,_,s1,ro.mono e1,h2,λρ2 H2 vs e2 s2 r2=>p ρ2 H2 _ (e1.trans e2) s2 (.cons (r1.mono e2) r2)⟩⟩
noncomputable def zau:FM:=λxs S=>if xs.length<=sizeLine then some (.tup xs,S) else none
noncomputable def zb7:FM:=λxs S=>if xs.length<=sizeLine then some (.ref S.length,S++[.lst xs]) else none
theorem zbd {α:Type}{c:Prop} [Decidable c] {a b:α}(h:(if c then some a else none)=some b):c/\a=b:=by
 by_cases hc:c
 ·rw [if_pos hc] at h;exact ⟨hc,qoi h⟩
 ·rw [if_neg hc] at h;cases h
theorem zjc {K:QFg}{ρ:List Addr}{S:Sto}{H:Hp}{xs:List D}{vs:List V}{Q:VK}(sim:Sim K ρ S H) (r:RDs ρ H xs vs) (p:Pv K ρ H (.tup xs) S Q):∀a,H a=none->Q (.ref a) (upd H a (.tup vs)):=λa ha =>
 p ρ _ _ (zbx ha) (sim.laid ha) (.tup zbw (r.mono (zbx ha)))
theorem zh7 {K:QFg}{ρ:List Addr}{S:Sto}{H:Hp}{xs:List D}{vs:List V}{Q:VK}(sim:Sim K ρ S H) (r:RDs ρ H xs vs) (p:Pv K ρ H (.ref S.length) (S++[.lst xs]) Q):∀a,H a=none->Q (.ref a) (upd H a (.lst vs)):=λa ha =>
 p (ρ++[a]) _ _ (zpn ha) (sim.push ha r) (.ref (by rw [<-sim.len];exact zfw ρ a))
theorem za1 {x1}(h:PA3 X es mA):PE3 X (.Tuple es x1 pos) (zaf zau mA):=PE.imp (zv8 h) λσ H Q hx9_=>by
 obtain ⟨ρ,l,S,v,S',sim,ro,hm,p⟩:=hx9_
 obtain ⟨⟨x,S1⟩,h1,hm⟩:=bnd hm
 obtain ⟨hz,e⟩:=zbd hm
 cases e
 exact ⟨ρ,l,S,x,_,sim,ro,h1,λρ1 H1 vs e1 s1 r1=>⟨by rw [<-r1.length];exact hz,zjc s1 r1 (p.ext e1)⟩⟩
theorem zce (h:PA3 X es mA):PE3 X (.List es pos) (zaf zb7 mA):=PE.imp (zv9 h) λσ H Q hx10_=>by
 obtain ⟨ρ,l,S,v,S',sim,ro,hm,p⟩:=hx10_
 obtain ⟨⟨x,S1⟩,h1,hm⟩:=bnd hm
 obtain ⟨hz,e⟩:=zbd hm
 cases e
 exact ⟨ρ,l,S,x,_,sim,ro,h1,λρ1 H1 vs e1 s1 r1=>⟨by rw [<-r1.length];exact hz,zh7 s1 r1 (p.ext e1)⟩⟩
theorem zpq {K:QFg}{f:FM}{r:List V->Hp->VK->Prop}(h3:Fn3 K f r) (σ:St) (H:Hp) (Q:VK) (q:te K (zaf f mA) σ H Q):tCB r (ta K mA) σ H Q:=by
 obtain ⟨ρ,l,S,v,S',sim,ro,hm,p⟩:=q
 obtain ⟨⟨x,S1⟩,h1,hm⟩:=bnd hm
 exact ⟨ρ,l,S,x,S1,sim,ro,h1,λρ1 H1 vs e1 s1 r1=>h3 ρ1 S1 H1 x vs v S' Q s1 r1 hm (p.ext e1)⟩
theorem zkm {x:Str}{p:Pos}{id:String}{f:FM}{r:List V->Hp->VK->Prop}(hc:CallR X (.builtin id) r) (h3:Fn3 X.K f r) (hg:Gl X x) (hm:X.mg x=none) (hv:bootBuiltins x=some (.builtin id)) (ha:PA3 X (a :: es) mA) (hn:x≠"__name__":=by decide) (hdb:(x == ("__debug__":Str))=false:=by decide)
  (he:starEach (a :: es) X.env=(false,eval a X.env) :: starEach es X.env:=by rfl) (hpl:(backTo pos (starEach es X.env)).any (·.1)=false:=by rfl):PE3 X (.Call (.Name x p) (a :: es) [] pos) (zaf f mA) :=
 PE.imp (zl3 hc hg hm hv ha hn hdb he hpl) (zpq h3)
theorem zkn {x:Str}{p:Pos}{T:String}{f:FM}{r:List V->Hp->VK->Prop}(hc:CallR X (.type T) r) (h3:Fn3 X.K f r) (hg:Gl X x) (hm:X.mg x=none) (hv:bootBuiltins x=some (.type T)) (ha:PA3 X (a :: es) mA) (hn:x≠"__name__":=by decide) (hdb:(x == ("__debug__":Str))=false:=by decide)
  (he:starEach (a :: es) X.env=(false,eval a X.env) :: starEach es X.env:=by rfl) (hpl:(backTo pos (starEach es X.env)).any (·.1)=false:=by rfl):PE3 X (.Call (.Name x p) (a :: es) [] pos) (zaf f mA) :=
 PE.imp (zl4 hc hg hm hv ha hn hdb he hpl) (zpq h3)
end
noncomputable def oI (C:Int->Int->Bool) (g:Int->Int->D):D->D->Sto->Option (D × Sto)
 | .int i,.int j,S=>if C i j=true then some (g i j,S) else none
 | _,_,_=>none
noncomputable def oI0 (g:Int->Int->D):D->D->Sto->Option (D × Sto)
 | .int i,.int j,S=>some (g i j,S)
 | _,_,_=>none
theorem zmb {K:QFg}{C:Int->Int->Bool}{C':Int->Int->Prop}{g:Int->Int->D}{g':Int->Int->V}(hC:∀i j,C i j=true->C' i j) (hg:∀ρ H i j,RD ρ H (g i j) (g' i j)):Op3 K (oI C g) (rI C' g'):=by
 intro ρ S H x y x' y' v S' Q sim rx ry h p
 unfold oI at h
 split at h
 ·rename_i i j
  cases rx;cases ry
  obtain ⟨hc,e⟩:=zbd h
  cases e
  exact ⟨i,j,rfl,rfl,hC i j hc,p ρ H _ (Ext.refl ..) sim (hg ρ H i j)⟩
 ·cases h
theorem zgl {K:QFg}{g:Int->Int->D}{g':Int->Int->V}(hg:∀ρ H i j,RD ρ H (g i j) (g' i j)):Op3 K (oI0 g) (rI0 g'):=by
 intro ρ S H x y x' y' v S' Q sim rx ry h p
 unfold oI0 at h
 split at h
 ·rename_i i j
  cases rx;cases ry
  cases h
  exact ⟨i,j,rfl,rfl,p ρ H _ (Ext.refl ..) sim (hg ρ H i j)⟩
 ·cases h
theorem Op3.or {K:QFg}{f:D->D->Sto->Option (D × Sto)}{g:D->D->Sto->Option (D × Sto)}{r r':R2}(h:Op3 K f r) (h':Op3 K g r'):Op3 K (λx y S=>match f x y S with|some v=>some v|none=>g x y S) (λx y H Q=>r x y H Q\/r' x y H Q):=by
 intro ρ S H x y x' y' v S' Q sim rx ry hm p
 dsimp only at hm
 cases e:f x y S with
 | some w=>rw [e] at hm;cases hm;exact .inl (h ρ S H x y x' y' _ _ Q sim rx ry e p)
 | none=>rw [e] at hm;exact .inr (h' ρ S H x y x' y' _ _ Q sim rx ry hm p)
noncomputable abbrev zmc:=oI0 λi j=>.int (i-j)
noncomputable abbrev zko:=oI (λi j=>decide (0<j/\j<1073741824)) λi j=>.int (i / j)
noncomputable abbrev zd1:=oI (λi j=>decide (0<j)) λi j=>.int (i % j)
noncomputable abbrev zkp:=oI (λi j=>decide (0<=j/\j<=1000000/\i.natAbs<2 ^ 64)) λi j=>.int (i ^ j.toNat)
noncomputable abbrev dLt:=oI0 λi j=>.bl (decide (i<j))
noncomputable abbrev dLe:=oI0 λi j=>.bl (decide (i<=j))
noncomputable abbrev dGt:=oI0 λi j=>.bl (decide (j<i))
noncomputable abbrev dGe:=oI0 λi j=>.bl (decide (j<=i))
section
variable {X:Cx}{a b:Expr}{ma mb:EM}{pos:Pos}
theorem zxu (ha:PE3 X a ma) (hb:PE3 X b mb):PE3 X (.BinOp a .Sub b pos) (eOp zmc ma mb):=zh5 zvm (zgl λ_ _ _ _=>.int _) ha hb
theorem zmd (ha:PE3 X a ma) (hb:PE3 X b mb):PE3 X (.BinOp a .FloorDiv b pos) (eOp zko ma mb):=zh5 zvn (zmb (λi j h=>by first|(unfold CMul;exact of_decide_eq_true h)|(unfold zka;exact of_decide_eq_true h)|(unfold zkb;exact of_decide_eq_true h)|exact of_decide_eq_true h) λ_ _ _ _=>.int _) ha hb
theorem zfd (ha:PE3 X a ma) (hb:PE3 X b mb):PE3 X (.BinOp a .Mod b pos) (eOp zd1 ma mb):=zh5 zvo (zmb (λi j h=>by first|(unfold CMul;exact of_decide_eq_true h)|(unfold zka;exact of_decide_eq_true h)|(unfold zkb;exact of_decide_eq_true h)|exact of_decide_eq_true h) λ_ _ _ _=>.int _) ha hb
theorem zme (ha:PE3 X a ma) (hb:PE3 X b mb):PE3 X (.BinOp a .Pow b pos) (eOp zkp ma mb):=zh5 zvp (zmb (λi j h=>by first|(unfold CMul;exact of_decide_eq_true h)|(unfold zka;exact of_decide_eq_true h)|(unfold zkb;exact of_decide_eq_true h)|exact of_decide_eq_true h) λ_ _ _ _=>.int _) ha hb
theorem zxv (ha:PE3 X a ma) (hb:PE3 X b mb):PE3 X (.Compare a [.Lt] [b] pos) (eOp dLt ma mb):=zpo zi1 (zgl λ_ _ _ _=>.bl _) ha hb (zft b)
theorem zh8 (ha:PE3 X a ma) (hb:PE3 X b mb):PT3 X (.Compare a [.Lt] [b] pos) (tE (eOp dLt ma mb)):=zfb zi1 (zgl λ_ _ _ _=>.bl _) ha hb (zft b)
theorem zmf (ha:PE3 X a ma) (hb:PE3 X b mb):PT3 X (.Compare a [.Gt] [b] pos) (tE (eOp dGt ma mb)):=zfb zvs (zgl λ_ _ _ _=>.bl _) ha hb (zft b)
theorem zmg (ha:PE3 X a ma) (hb:PE3 X b mb):PT3 X (.Compare a [.GtE] [b] pos) (tE (eOp dGe ma mb)):=zfb zvt (zgl λ_ _ _ _=>.bl _) ha hb (zft b)
end
noncomputable def sEq:D->D->Option Bool
 | .non,.non=>some true | .non,.int _=>some false | .int _,.non=>some false | .non,.bl _=>some false | .bl _,.non=>some false | .non,.str _=>some false | .str _,.non=>some false
 | .int i,.int j=>some (decide (i=j)) | .bl i,.bl j=>some (decide (i=j)) | .str i,.str j=>some (decide (i=j))
 | .int _,.str _=>some false | .str _,.int _=>some false | .bl _,.str _=>some false | .str _,.bl _=>some false
 | _,_=>none
noncomputable def dEq:D->D->Sto->Option (D × Sto):=λx y S=>(sEq x y).bind λb=>some (.bl b,S)
noncomputable def dNe:D->D->Sto->Option (D × Sto):=λx y S=>(sEq x y).bind λb=>some (.bl (!b),S)
theorem zpr {ρ:List Addr}{H:Hp}{x y:D}{x' y':V}{b:Bool}(rx:RD ρ H x x') (ry:RD ρ H y y') (h:sEq x y=some b):zl0 x' y' = true/\decide (x' = y')=b:=by
 cases rx <;> cases ry <;> first
  | (cases (show (none:Option Bool)=some b from h))
  | (have h:=qoi h;subst h;exact ⟨rfl,rfl⟩)
  | (have h:=qoi h;subst h;exact ⟨rfl,by simp⟩)
theorem zps {K:QFg}:Op3 K dEq rEq:=by
 intro ρ S H x y x' y' v S' Q sim rx ry h p
 obtain ⟨b,h1,h⟩:=bnd h
 cases h
 obtain ⟨h2,h3⟩:=zpr rx ry h1
 exact ⟨h2,by rw [h3];exact p ρ H _ (Ext.refl ..) sim (.bl b)⟩
theorem zxw {K:QFg}:Op3 K dNe rNe:=by
 intro ρ S H x y x' y' v S' Q sim rx ry h p
 obtain ⟨b,h1,h⟩:=bnd h
 cases h
 obtain ⟨h2,h3⟩:=zpr rx ry h1
 exact ⟨h2,by rw [h3];exact p ρ H _ (Ext.refl ..) sim (.bl _)⟩
noncomputable def ze0:D->Bool
 | .non=>true
 | _=>false
noncomputable def dIs:D->D->Sto->Option (D × Sto)
 | x,.non,S=>some (.bl (ze0 x),S)
 | _,_,_=>none
noncomputable def ze1:D->D->Sto->Option (D × Sto)
 | x,.non,S=>some (.bl (!ze0 x),S)
 | _,_,_=>none
theorem zpt {ρ:List Addr}{H:Hp}{x:D}{x':V}(r:RD ρ H x x'):decide (x' = .non)=ze0 x:=by
 cases r <;> simp [ze0]
theorem zxx {K:QFg}:Op3 K dIs (λx y H Q=>y=.non/\Q (.bl (decide (x=.non))) H):=by
 intro ρ S H x y x' y' v S' Q sim rx ry h p
 unfold dIs at h
 split at h
 ·cases h;cases ry
  exact ⟨rfl,by rw [zpt rx];exact p ρ H _ (Ext.refl ..) sim (.bl _)⟩
 ·cases h
theorem zxy {K:QFg}:Op3 K ze1 (λx y H Q=>y=.non/\Q (.bl (!decide (x=.non))) H):=by
 intro ρ S H x y x' y' v S' Q sim rx ry h p
 unfold ze1 at h
 split at h
 ·cases h;cases ry
  exact ⟨rfl,by rw [zpt rx];exact p ρ H _ (Ext.refl ..) sim (.bl _)⟩
 ·cases h
section
variable {X:Cx}{a b:Expr}{ma mb:EM}{pos:Pos}
theorem zjd (ha:PE3 X a ma) (hb:PE3 X b mb):PE3 X (.Compare a [.Eq] [b] pos) (eOp dEq ma mb):=zpo zop zps ha hb (zft b)
theorem zfl (ha:PE3 X a ma) (hb:PE3 X b mb):PT3 X (.Compare a [.Eq] [b] pos) (tE (eOp dEq ma mb)):=zfb zop zps ha hb (zft b)
theorem zg2 (ha:PE3 X a ma) (hb:PE3 X b mb):PT3 X (.Compare a [.NotEq] [b] pos) (tE (eOp dNe ma mb)):=zfb zvq zxw ha hb (zft b)
theorem zkq (ha:PE3 X a ma) (hb:PE3 X b mb):PT3 X (.Compare a [.Is] [b] pos) (tE (eOp dIs ma mb)):=zfb zvu zxx ha hb (zft b)
theorem zgm (ha:PE3 X a ma) (hb:PE3 X b mb):PT3 X (.Compare a [.IsNot] [b] pos) (tE (eOp ze1 ma mb)):=zfb zvv zxy ha hb (zft b)
end
noncomputable def dIx:D->D->Sto->Option (D × Sto)
 | .tup xs,.int i,S=>(atI xs i).bind λv=>some (v,S)
 | .ref n,.int i,S=>(lstOf S n).bind λxs=>(atI xs i).bind λv=>some (v,S)
 | _,_,_=>none
theorem zpu {ρ:List Addr}{H:Hp}{xs:List D}{vs:List V}{i:Int}{x:D}(r:RDs ρ H xs vs) (h:atI xs i=some x):∃v,atI vs i=some v/\RD ρ H x v:=by
 unfold atI at h ⊢
 rw [<-r.length]
 cases e:ixN xs.length i with
 | none=>rw [e] at h;cases h
 | some j =>
  rw [e] at h
  exact r.get (i:=j) h
theorem zxz {K:QFg}:Op3 K dIx (rIx K):=by
 intro ρ S H x y x' y' v S' Q sim rx ry h p
 unfold dIx at h
 split at h
 ·cases ry
  obtain ⟨w,h1,h⟩:=bnd h
  cases h
  cases rx with
  | tup ha r =>
   obtain ⟨u,h2,r2⟩:=zpu r h1
   exact .inr (.inl ⟨_,_,_,u,rfl,rfl,SqT.of ha,h2,p ρ H u (Ext.refl ..) sim r2⟩)
 ·cases ry
  obtain ⟨xs,h0,h⟩:=bnd h
  obtain ⟨w,h1,h⟩:=bnd h
  cases h
  cases rx with
  | ref hn =>
   obtain ⟨a,vs,ha,sq,r⟩:=sim.lstOf h0
   rw [ha] at hn;cases hn
   obtain ⟨u,h2,r2⟩:=zpu r h1
   exact .inl ⟨_,_,_,u,rfl,rfl,sq,h2,p ρ H u (Ext.refl ..) sim r2⟩
 ·cases h
section
variable {X:Cx}{a b:Expr}{ma mb:EM}{pos:Pos}
end
abbrev OM:=Lo->Sto->Option (Option Int × Sto)
noncomputable def zct:OM:=λ_ S=>some (none,S)
noncomputable def zcl (m:EM):OM:=λl S=>(m l S).bind λp=>match p.1 with
 | .int i=>some (some i,p.2)
 | _=>none
noncomputable def cutD (xs:List D) (lo hi:Option Int):List D:=(xs.drop (HT.sIx xs.length 0 lo)).take (HT.sIx xs.length xs.length hi-HT.sIx xs.length 0 lo)
inductive tO (K:QFg) (m:OM) (σ:St) (H:Hp) (Q:Option Int->Hp->Prop):Prop
 | mk (ρ:_) (l:_) (S:_) (v:_) (S':_) (_:Sim K ρ S H) (_:RO ρ H l σ) (_:m l S=some (v,S')) (_:∀ρ' H',Ext ρ H ρ' H'->Sim K ρ' S' H'->Q v H')
def PO3 (X:Cx) (e:Option Expr) (m:OM):Prop:=PO X e (tO X.K m)
section
variable {X:Cx}{a b:Expr}{ma mb:EM}{pos p2:Pos}{lo hi:Option Expr}{ml mh:OM}
theorem PO.imp {e:Option Expr}{t u:TO}(h:PO X e t) (i:∀σ H Q,u σ H Q->t σ H Q):PO X e u:=λpins s σ H Q I q=>h pins s σ H Q I (i _ _ _ q)
theorem ze2:PO3 X none zct:=PO.imp zwl λσ H Q hx1_=>by
 obtain ⟨ρ,l,S,v,S',sim,ro,hm,p⟩:=hx1_
 cases hm
 exact p ρ H (Ext.refl ..) sim
theorem ze3 (h:PE3 X a ma):PO3 X (some a) (zcl ma):=PO.imp (zwm h) λσ H Q hx2_=>by
 obtain ⟨ρ,l,S,v,S',sim,ro,hm,p⟩:=hx2_
 obtain ⟨⟨x,S1⟩,h1,hm⟩:=bnd hm
 refine ⟨ρ,l,S,x,S1,sim,ro,h1,λρ1 H1 x' e1 s1 r1=>?_⟩
 cases r1 with
 | int i=>cases hm;exact ⟨i,rfl,p ρ1 H1 e1 s1⟩
 | _=>cases hm
end
end L3
namespace HT
open PySem PyProof.Rows
section
variable {prog:Program}{w:World}{A:Around}{E:Value->Shared->Prop}{s:Shared}
theorem getItem_tuple_whole {t sl:Addr}{items:Array Value}{vl vu:Value}{lo hi:Option Int}{Q:Value->Shared->Prop}(ht:IsTup s.heap t items) (hs:s.heap.IsSliceOf sl vl vu .none) (pl:IsPart vl lo) (pu:IsPart vu hi)
  (hw:sIx items.size 0 lo=0/\sIx items.size items.size hi=items.size)
  (h:Q (.ref t) s):wpAny (model prog w) A (getItem (.ref t) (.ref sl)) Q E s:=by
 obtain ⟨os,hos,hcs,hds⟩:=id hs
 have hTs:s.TypeIs (.ref sl) "slice":=⟨os,hos,hcs⟩
 unfold getItem
 try with_reducible refine wpAny_holding ?_
 first|refine qwb (qwp ?_)|skip
 refine qwb (wpAny_sequenceKey ht.typeIs (by decide) ?_)
 refine qwb (wpAny_callSpecial?_slot (name:=Str.ofString "__getitem__") ht.typeIs PyProof.Rows.slot_tuple_getitem
  (wpAny_call_entry PyProof.Rows.slot_tuple_getitem ht.typeIs entry_tuple_getitem ?_ (args_tuple_getitem _ _)))
 show wpAny _ _ (Builtin.Tuple.tupleItemsOf (.ref t) >>= _) _ _ s
 refine qwb (tupleItemsOf_ ht ?_)
 refine qwb (wpAny_typeOf hTs ?_)
 rw [if_pos (by decide)]
 refine qwb (zoz hs pl pu ?_)
 have hyes:((((sIx items.size 0 lo:Nat):Int) == 0 && (1:Int) == 1 && (sIx items.size items.size hi-sIx items.size 0 lo) == items.size)=true):=by
  rw [hw.1,hw.2];simp
 show wpAny _ _ (if (((sIx items.size 0 lo:Nat):Int) == 0 && (1:Int) == 1 && (sIx items.size items.size hi-sIx items.size 0 lo) == items.size)=true then _ else _) _ _ s
 rw [if_pos hyes]
 unfold Builtin.Tuple.tupleIsExact
 refine qwb (qwb (wpAny_typeOf ht.typeIs (qwp ?_)))
 rw [if_pos (by decide)]
 exact qwb (wpAny_rule (qwb (qwp (qwp ⟨_,rfl,qwp h⟩))))
end
end HT
namespace L3
open PySem PySem.Spec PyProof.Rows L2
section
variable {X:Cx}{a b:Expr}{ma mb:EM}{pos p2:Pos}{lo hi:Option Expr}{ml mh:OM}
def zx0 (K:QFg):V->Option Int->Option Int->Hp->VK->Prop:=λx lo hi H Q=>∃a xs,x=.ref a/\SqT K H a xs /\
 (HT.sIx xs.length 0 lo=0/\HT.sIx xs.length xs.length hi=xs.length)/\Q (.ref a) H
theorem zx1:SlR X (zx0 X.K):=by
 intro pins s σ H x v vl vu lo hi sl Q I rx hs pl pu h
 obtain ⟨a,xs,rfl,hx,hw,q⟩:=h
 cases rx
 obtain ⟨its,r,ht,hz⟩:=I.tuple hx
 have hlen:its.toArray.size=xs.length:=by rw [List.size_toArray];exact r.length.symm
 refine ⟨"tuple",_,PyProof.Rows.slot_tuple_getitem.lookup,ht.typeIs,?_⟩
 exact HT.getItem_tuple_whole ht hs pl pu (by rw [hlen];exact hw) ⟨.ref a,H,I,rfl,q⟩
theorem zx2 (xs:List D) (lo hi:Option Int) (h:HT.sIx xs.length 0 lo=0/\HT.sIx xs.length xs.length hi=xs.length):cutD xs lo hi=xs:=by
 unfold cutD;rw [h.1,h.2];simp
end
noncomputable def zmh:D->D->Sto->Option (D × Sto)
 | .tup xs,.tup ys,S=>if xs.length+ys.length<=sizeLine then some (.tup (xs++ys),S) else none
 | _,_,_=>none
def zmi (K:QFg):R2:=λx y H Q=>∃a b ys,x=.ref a/\y=.ref b/\SqT K H a []/\SqT K H b ys/\Q (.ref b) H
theorem zx3 {X:Cx}:OpR X (binaryOp .Add) (zmi X.K):=by
 intro pins s σ H x y v u Q I rx ry h
 obtain ⟨a,b,ys,rfl,rfl,ha,hb,q⟩:=h
 cases rx
 cases ry
 obtain ⟨its,r1,p1,_⟩:=I.tuple ha
 obtain ⟨its2,r2,p2,_⟩:=I.tuple hb
 cases r1
 obtain ⟨⟨cls,dd,data,sl⟩,ho,hc,n,hd⟩:=id p1
 obtain ⟨⟨cls2,dd2,data2,sl2⟩,ho2,hc2,n2,hd2⟩:=id p2
 simp only at hc hd hc2 hd2
 subst hc hd hc2 hd2
 exact concat_meets ⟨_,ho,rfl⟩ ⟨_,ho2,rfl⟩ noFill_tuple_add seq_tuple_add PySem.F.slot_tuple_add PySem.F.entry_tuple_add (PySem.F.args_tuple_add_2 _ _)
   (tuple_addW0 a b ([]:List Value).toArray its2.toArray n n2 dd dd2 sl sl2 (by simp)) ⟨ho,ho2,⟨.ref b,H,I,rfl,q⟩⟩
theorem zx4 {K:QFg}:Op3 K zmh (λx y H Q=>zl5 K x y H Q\/zmi K x y H Q):=by
 intro ρ S H x y x' y' v S' Q sim rx ry h p
 unfold zmh at h
 split at h
 ·obtain ⟨hz,e⟩:=zbd h
  cases e
  cases rx with
  | @tup xs a vs ha r =>
   cases ry with
   | @tup ys b ws hb q =>
    cases r with
    | nil=>exact .inr ⟨a,b,ws,rfl,rfl,SqT.of ha,SqT.of hb,p ρ H _ (Ext.refl ..) sim (.tup hb q)⟩
    | cons r1 r2 =>
     refine .inl ⟨a,b,_,ws,rfl,rfl,SqT.of ha,SqT.of hb,by simp,by rw [<-(RDs.cons r1 r2).length,<-q.length];exact hz,λe=>?_,λ_=>?_⟩
     ·subst e
      cases q
      rw [List.append_nil] at p
      exact p ρ H _ (Ext.refl ..) sim (.tup ha (.cons r1 r2))
     ·exact zjc sim ((RDs.cons r1 r2).append q) p
 ·cases h
section
variable {X:Cx}{a b:Expr}{ma mb:EM}{pos:Pos}
end
noncomputable def zje:FM
 | [.tup xs],S=>some (.int xs.length,S)
 | [.ref n],S=>(lstOf S n).bind λxs=>some (.int xs.length,S)
 | _,_=>none
noncomputable def zho:FM
 | [.int i],S=>some (.int (if i<0 then -i else i),S)
 | _,_=>none
noncomputable def zmj:FM
 | [.int i],S=>some (.int i,S)
 | [.bl b],S=>some (.int (if b then 1 else 0),S)
 | _,_=>none
noncomputable def zfm:FM
 | [.tup xs],S=>some (.tup xs,S)
 | [.ref n],S=>(lstOf S n).bind λxs=>some (.tup xs,S)
 | _,_=>none
noncomputable def zfy:FM
 | [.tup xs],S=>some (.ref S.length,S++[.lst xs])
 | [.ref n],S=>(lstOf S n).bind λxs=>some (.ref S.length,S++[.lst xs])
 | _,_=>none
section
variable {K:QFg}
theorem zx5:Fn3 K zje (λxs H Q=>∃p ys,xs=[.ref p]/\(SqL K H p ys\/SqT K H p ys)/\Q (.int ys.length) H):=by
 intro ρ S H xs vs v S' Q sim r h p
 unfold zje at h
 split at h
 ·cases h
  obtain ⟨w,rfl,rw'⟩:=r.one
  cases rw' with
  | tup ha r2=>exact ⟨_,_,rfl,.inr (SqT.of ha),by rw [<-r2.length];exact p ρ H _ (Ext.refl ..) sim (.int _)⟩
 ·obtain ⟨ys,h1,h⟩:=bnd h
  cases h
  obtain ⟨w,rfl,rw'⟩:=r.one
  obtain ⟨a,us,ha,sq,r2⟩:=sim.lstOf h1
  cases rw' with
  | ref hn =>
   rw [ha] at hn;cases hn
   exact ⟨_,_,rfl,.inl sq,by rw [<-r2.length];exact p ρ H _ (Ext.refl ..) sim (.int _)⟩
 ·cases h
theorem zx6:Fn3 K zho (λxs H Q=>∃i,xs=[.int i]/\Q (.int (if i<0 then -i else i)) H):=by
 intro ρ S H xs vs v S' Q sim r h p
 unfold zho at h
 split at h
 ·cases h
  obtain ⟨w,rfl,rw'⟩:=r.one
  cases rw'
  exact ⟨_,rfl,p ρ H _ (Ext.refl ..) sim (.int _)⟩
 ·cases h
theorem zx7:Fn3 K zmj (λxs H Q=>(∃i,xs=[.int i]/\Q (.int i) H)\/∃k,xs=[.bl k]/\Q (.int (if k then 1 else 0)) H):=by
 intro ρ S H xs vs v S' Q sim r h p
 unfold zmj at h
 split at h
 ·cases h
  obtain ⟨w,rfl,rw'⟩:=r.one
  cases rw'
  exact .inl ⟨_,rfl,p ρ H _ (Ext.refl ..) sim (.int _)⟩
 ·cases h
  obtain ⟨w,rfl,rw'⟩:=r.one
  cases rw'
  exact .inr ⟨_,rfl,p ρ H _ (Ext.refl ..) sim (.int _)⟩
 ·cases h
theorem zx8:Fn3 K zfm (λxs H Q=>∃p ys,xs=[.ref p]/\((SqL K H p ys/\∀l,H l=none->Q (.ref l) (upd H l (.tup ys)))\/(SqT K H p ys/\Q (.ref p) H))):=by
 intro ρ S H xs vs v S' Q sim r h p
 unfold zfm at h
 split at h
 ·cases h
  obtain ⟨w,rfl,rw'⟩:=r.one
  cases rw' with
  | tup ha r2=>exact ⟨_,_,rfl,.inr ⟨SqT.of ha,p ρ H _ (Ext.refl ..) sim (.tup ha r2)⟩⟩
 ·obtain ⟨ys,h1,h⟩:=bnd h
  cases h
  obtain ⟨w,rfl,rw'⟩:=r.one
  obtain ⟨a,us,ha,sq,r2⟩:=sim.lstOf h1
  cases rw' with
  | ref hn =>
   rw [ha] at hn;cases hn
   exact ⟨_,_,rfl,.inl ⟨sq,zjc sim r2 p⟩⟩
 ·cases h
theorem zx9:Fn3 K zfy (λxs H Q=>∃p ys,xs=[.ref p]/\(SqL K H p ys\/SqT K H p ys)/\∀l,H l=none->Q (.ref l) (upd H l (.lst ys))):=by
 intro ρ S H xs vs v S' Q sim r h p
 unfold zfy at h
 split at h
 ·cases h
  obtain ⟨w,rfl,rw'⟩:=r.one
  cases rw' with
  | tup ha r2=>exact ⟨_,_,rfl,.inr (SqT.of ha),zh7 sim r2 p⟩
 ·obtain ⟨ys,h1,h⟩:=bnd h
  cases h
  obtain ⟨w,rfl,rw'⟩:=r.one
  obtain ⟨a,us,ha,sq,r2⟩:=sim.lstOf h1
  cases rw' with
  | ref hn =>
   rw [ha] at hn;cases hn
   exact ⟨_,_,rfl,.inl sq,zh7 sim r2 p⟩
 ·cases h
end
noncomputable def tyD (S:Sto):D->Option String
 | .non=>some "NoneType" | .bl _=>some "bool" | .int _=>some "int" | .str _=>some "str" | .tup _=>some "tuple"
 | .ref n=>match S[n]? with
  | some (.lst _)=>some "list"
  | some (.dct _)=>some "dict"
  | _=>none
 | .fn _=>none
noncomputable def isI (T U:String):Bool:=T == U || (T == "bool" && U == "int")
noncomputable def zd2 (U:String):D->Sto->Option (D × Sto):=λx S=>(tyD S x).bind λT=>some (.bl (isI T U),S)
noncomputable def zfe:D->List D->Sto->Option (D × Sto)
 | .ref n,[x],S=>match S[n]? with
  | some (.lst xs)=>if xs.length<sizeLine then some (.non,S.set n (.lst (xs++[x]))) else none
  | _=>none
 | _,_,_=>none
noncomputable def zh9:D->List D->Sto->Option (D × Sto)
 | .ref n,[],S=>match S[n]? with
  | some (.lst xs)=>(xs[xs.length-1]?).bind λy=>some (y,S.set n (.lst xs.dropLast))
  | _=>none
 | _,_,_=>none
theorem RDs.dropLast {ρ:List Addr}{H:Hp}{xs:List D}{vs:List V}(h:RDs ρ H xs vs):RDs ρ H xs.dropLast vs.dropLast:=by
 rw [List.dropLast_eq_take,List.dropLast_eq_take,h.length]
 exact h.take _
section
variable {K:QFg}
theorem zya:Mt3 K zfe zpa:=by
 intro ρ S H x x' xs vs v S' Q sim rx r h p
 unfold zfe at h
 split at h
 ·split at h
  ·rename_i n y S ys e
   obtain ⟨hz,e2⟩:=zbd h
   cases e2
   obtain ⟨w,rfl,rw'⟩:=r.one
   obtain ⟨a,us,ha,hH,r2⟩:=sim.lst e
   cases rx with
   | ref hn =>
    rw [ha] at hn;cases hn
    exact ⟨a,us,w,rfl,rfl,hH,by rw [<-r2.length];exact hz,p ρ _ _ (zhn ha hH) (sim.set ha e hH (r2.append (.cons rw' .nil))) .non⟩
  ·cases h
 ·cases h
theorem zyb:Mt3 K zh9 zpb:=by
 intro ρ S H x x' xs vs v S' Q sim rx r h p
 unfold zh9 at h
 split at h
 ·split at h
  ·rename_i n S ys e
   obtain ⟨y,h1,h⟩:=bnd h
   cases h
   cases r
   obtain ⟨a,us,ha,hH,r2⟩:=sim.lst e
   obtain ⟨w,hw,rw'⟩:=r2.get h1
   cases rx with
   | ref hn =>
    rw [ha] at hn;cases hn
    exact ⟨a,us,w,rfl,rfl,hH,by rw [<-r2.length];exact hw,p ρ _ _ (zhn ha hH) (sim.set ha e hH r2.dropLast) (rw'.mono (zhn ha hH))⟩
  ·cases h
 ·cases h
end
noncomputable def zia:D->Sto->Option (List D)
 | .ref n,S=>lstOf S n
 | _,_=>none
noncomputable def zc9 (f:D->List D->Sto->Option (D × Sto)) (o:EM) (as:AM):EM:=λl S=>(o l S).bind λp=>(zia p.1 p.2).bind λ_=>(as l p.2).bind λq=>f p.1 q.1 q.2
section
variable {X:Cx}{a o e:Expr}{es:List Expr}{mo:EM}{mA:AM}{name:Str}{apos cpos pos:Pos}{id:String}{f:D->List D->Sto->Option (D × Sto)}{r:V->List V->Hp->VK->Prop}
theorem zpv {K:QFg}{ρ:List Addr}{S:Sto}{H:Hp}{x:D}{x':V}{xs:List D}(sim:Sim K ρ S H) (rx:RD ρ H x x') (h:zia x S=some xs):tyV K "list" x' H:=by
 unfold zia at h
 split at h
 ·obtain ⟨a,us,ha,sq,r2⟩:=sim.lstOf h
  cases rx with
  | ref hn =>
   rw [ha] at hn;cases hn
   exact .inl ⟨rfl,us,sq⟩
 ·cases h
theorem zmk (slot:Slot "list" name id) (hty:typeOf (.builtin id)=pure (.type "method_descriptor")) (hm:MtM X id r) (h3:Mt3 X.K f r) (ho:PE3 X o mo) (ha:PA3 X (e :: es) mA)
  (hbase:attributeBase o name X.env (eval o X.env)=eval o X.env:=by rfl)
  (hfew:((backTo cpos (starEach (e :: es) X.env)).all (λx=>!x.1) && (backToKw cpos (keywordEach [] X.env)).all (λx=>x.1.isSome)
   && decide ((e :: es).length+([]:List Keyword).length+(if ([]:List Keyword).isEmpty then 0 else 1)<30))=true:=by rfl)
  (hline:(apos.endLine == cpos.line)=true:=by rfl) (hs:starEach (e :: es) X.env=(false,eval e X.env) :: starEach es X.env:=by rfl) (hplain:(backTo cpos (starEach es X.env)).any (·.1)=false:=by rfl) :
  PE3 X (.Call (.Attribute o name apos) (e :: es) [] cpos) (zc9 f mo mA) :=
 PE.imp (zw6 PySem.F.plainAttrs_list slot hty hm ho ha hbase hfew hline hs hplain) λσ H Q hx1_=>by
  obtain ⟨ρ,l,S,v,S',sim,ro,hq,p⟩:=hx1_
  obtain ⟨⟨x,S1⟩,h1,hq⟩:=bnd hq
  obtain ⟨xs,h2,hq⟩:=bnd hq
  obtain ⟨⟨ys,S2⟩,h4,hq⟩:=bnd hq
  exact ⟨ρ,l,S,x,S1,sim,ro,h1,λρ1 H1 x' e1 s1 r1=>⟨zpv s1 r1 h2,ρ1,l,S1,ys,S2,s1,ro.mono e1,h4,λρ2 H2 vs e2 s2 r2=>h3 ρ2 S2 H2 x x' ys vs v S' Q s2 (r1.mono e2) r2 hq (p.ext (e1.trans e2))⟩⟩
theorem zyc (slot:Slot "list" name id) (hty:typeOf (.builtin id)=pure (.type "method_descriptor")) (hm:MtM X id r) (h3:Mt3 X.K f r) (ho:PE3 X o mo)
  (hbase:attributeBase o name X.env (eval o X.env)=eval o X.env:=by rfl) (hline:(apos.endLine == cpos.line)=true:=by rfl) :
  PE3 X (.Call (.Attribute o name apos) [] [] cpos) (zc9 f mo zae) :=
 PE.imp (zw5 PySem.F.plainAttrs_list slot hty hm ho hbase hline) λσ H Q hx2_=>by
  obtain ⟨ρ,l,S,v,S',sim,ro,hq,p⟩:=hx2_
  obtain ⟨⟨x,S1⟩,h1,hq⟩:=bnd hq
  obtain ⟨xs,h2,hq⟩:=bnd hq
  obtain ⟨⟨ys,S2⟩,h4,hq⟩:=bnd hq
  cases h4
  exact ⟨ρ,l,S,x,S1,sim,ro,h1,λρ1 H1 x' e1 s1 r1=>⟨zpv s1 r1 h2,h3 ρ1 S1 H1 x x' [] [] v S' Q s1 r1 .nil hq (p.ext e1)⟩⟩
theorem zib {m:EM}(ho:PE3 X o mo) (he:PE3 X e m)
  (hbase:attributeBase o "append" X.env (eval o X.env)=eval o X.env:=by rfl)
  (hfew:((backTo cpos (starEach [e] X.env)).all (λx=>!x.1) && (backToKw cpos (keywordEach [] X.env)).all (λx=>x.1.isSome)
   && decide ([e].length+([]:List Keyword).length+(if ([]:List Keyword).isEmpty then 0 else 1)<30))=true:=by rfl)
  (hline:(apos.endLine == cpos.line)=true:=by rfl) (hs:starEach [e] X.env=(false,eval e X.env) :: starEach [] X.env:=by rfl) :
  PE3 X (.Call (.Attribute o "append" apos) [e] [] cpos) (zc9 zfe mo (zab m zae)) :=
 zmk PySem.F.slot_list_append PySem.F.type_list_append zl7 zya ho (zad he zag hs) hbase hfew hline hs
theorem zyd (ho:PE3 X o mo) (hbase:attributeBase o "pop" X.env (eval o X.env)=eval o X.env:=by rfl) (hline:(apos.endLine == cpos.line)=true:=by rfl) :
  PE3 X (.Call (.Attribute o "pop" apos) [] [] cpos) (zc9 zh9 mo zae):=zyc PySem.F.slot_list_pop PySem.F.type_list_pop zw8 zyb ho hbase hline
end
section
variable {X:Cx}{a:Expr}{ma:EM}{pos p p2:Pos}
theorem zpw {K:QFg}{T U:String}(hT:T∈["NoneType","bool","int","str","tuple","list","dict"]) (hU:U∈["bool","int","str","tuple","list"]):PySem.W.kitOne K (.type T) (.type U)=some (isI T U):=by
 simp only [List.mem_cons,List.not_mem_nil,or_false] at hT hU
 rcases hT with rfl|rfl|rfl|rfl|rfl|rfl|rfl <;> rcases hU with rfl|rfl|rfl|rfl|rfl <;> rfl
theorem zic {U:String}{y:Str}(hg:Gl X "isinstance") (hm:X.mg "isinstance" = none) (hgy:Gl X y) (hmy:X.mg y=none) (hv:bootBuiltins y=some (.type U)) (hU:U∈["bool","int","str","tuple","list"]) (ha:PE3 X a ma)
  (hn:y≠"__name__":=by decide) (hdb:(y == ("__debug__":Str))=false:=by decide)
  (he:starEach (a :: [.Name y p2]) X.env=(false,eval a X.env) :: starEach [.Name y p2] X.env:=by rfl) (he2:starEach [.Name y p2] X.env=(false,eval (.Name y p2) X.env) :: starEach [] X.env:=by rfl) (hpl:(backTo pos (starEach [.Name y p2] X.env)).any (·.1)=false:=by rfl) :
  PE3 X (.Call (.Name "isinstance" p) [a,.Name y p2] [] pos) (eUn (zd2 U) ma):=by
 have hy:PE X (.Name y p2) (tC (.ty U)):=zod hgy hmy hv rfl hn hdb
 refine PE.imp (zl3 (id:="isinstance") (r:=λxs H Q=>∃x T,xs=[x,.ty U]/\TyOf X.K H x (.type T)/\T∈["NoneType","bool","int","str","tuple","list","dict"]/\Q (.bl (isI T U)) H) ?_ hg hm (by decide +kernel) (zh1 ha (zh1 hy zkc he2) he) (by decide) (by decide) he hpl) ?_
 ·intro pins s σ H xs us Q I r h
  obtain ⟨x,T,rfl,ty,hT,q⟩:=h
  obtain ⟨u1,u2,rfl,r1,r2⟩:=r.two
  cases r2
  exact zor I r1 ty (zpw hT hU) λtk=>⟨.bl _,H,I.tok tk,rfl,q⟩
 ·rintro σ H Q ⟨ρ,l,S,v,S',sim,ro,hq,p⟩
  obtain ⟨⟨x,S1⟩,h1,hq⟩:=bnd hq
  obtain ⟨T,h2,hq⟩:=bnd hq
  cases hq
  refine ⟨ρ,l,S,x,_,sim,ro,h1,λρ1 H1 x' e1 s1 r1=>⟨x',T,rfl,?_⟩⟩
  have fin:=p ρ1 H1 _ e1 s1 (.bl (isI T U))
  cases r1 with
  | non=>cases h2;exact ⟨.non,by decide,fin⟩
  | bl b=>cases h2;exact ⟨.bl b,by decide,fin⟩
  | int b=>cases h2;exact ⟨.int b,by decide,fin⟩
  | str b=>cases h2;exact ⟨.str b,by decide,fin⟩
  | tup hh rr=>cases h2;exact ⟨.tup hh,by decide,fin⟩
  | @ref n b hn =>
   unfold tyD at h2
   dsimp only at h2
   split at h2
   ·rename_i ys ey
    cases h2
    obtain ⟨a',us,ha',hH,r2⟩:=s1.lst ey
    rw [ha'] at hn;cases hn
    exact ⟨.lst hH,by decide,fin⟩
   ·rename_i kvs ey
    cases h2
    obtain ⟨us,hH,r2⟩:=s1.at' n b _ hn ey
    exact ⟨.dK hH,by decide,fin⟩
   ·cases h2
  | fn b=>cases h2
end
def sp3 (K:QFg) (n:Nat) (f:FM):Sp:=λvs H Q _=>vs.length=n/\∃ρ ds S v S',Sim K ρ S H/\RDs ρ H ds vs/\f ds S=some (v,S')/\Pv K ρ H v S' Q
section
variable {X:Cx}{a:Expr}{es:List Expr}{mA:AM}{pos p:Pos}{x:Str}{k:Nat}{f:Addr}{fd:FuncData}{ps:List Str}{m:FM}
theorem zye {n:Nat}(F:FnOk X.prog X.w X.K X.mg X.base CX0 k f fd ps (sp3 X.K n m)) (hr:Room k X.A) (hg:Gl X x) (hm:X.mg x=some (.ref f)) (hk:PySem.W.keepIn X.K (.ref f)=true) (hb:Binds X.K fd ps [])
  (ha:PA3 X (a :: es) mA) (hl:∀l S v S',mA l S=some (v,S')->v.length=n) (hdb:(x == ("__debug__":Str))=false:=by decide) (he:starEach (a :: es) X.env=(false,eval a X.env) :: starEach es X.env:=by rfl) (hpl:(backTo pos (starEach es X.env)).any (·.1)=false:=by rfl) :
  PE3 X (.Call (.Name x p) (a :: es) [] pos) (zaf m mA) :=
 PE.imp (zwc F hr hg hm hk hb .nil zxf ha hdb he hpl) λσ H Q hx3_=>by
  obtain ⟨ρ,l,S,v,S',sim,ro,hq,p⟩:=hx3_
  obtain ⟨⟨xs,S1⟩,h1,hq⟩:=bnd hq
  exact ⟨ρ,l,S,xs,S1,sim,ro,h1,λρ1 H1 vs e1 s1 r1=>⟨by rw [List.append_nil,<-r1.length];exact hl _ _ _ _ h1,ρ1,xs,S1,v,S',s1,by rw [List.append_nil];exact r1,hq,p.ext e1⟩⟩
theorem zaw:∀l S v S',zae l S=some (v,S')->v.length=0:=λl S v S' h=>by cases h;rfl
theorem zai {n:Nat}{m:EM}{mA:AM}(h:∀l S v S',mA l S=some (v,S')->v.length=n):∀l S v S',zab m mA l S=some (v,S')->v.length=n+1:=λl S v S' q=>by
 obtain ⟨⟨x,S1⟩,h1,q⟩:=bnd q
 obtain ⟨⟨y,S2⟩,h2,q⟩:=bnd q
 cases q
 rw [List.length_cons,h _ _ _ _ h2]
end
noncomputable def zbn:SM:=λl S=>some (.nx,l,S)
noncomputable def zam (a b:SM):SM:=λl S=>(a l S).bind λp=>match p.1 with
 | .nx=>b p.2.1 p.2.2
 | f=>some (f,p.2)
noncomputable def ze4 (e:EM):SM:=λl S=>(e l S).bind λp=>some (.nx,l,p.2)
noncomputable def za5 (e:EM):SM:=λl S=>(e l S).bind λp=>some (.rt p.1,l,p.2)
noncomputable def sIf (c:TM) (a b:SM):SM:=λl S=>(c l S).bind λp=>if p.1=true then a l p.2 else b l p.2
noncomputable def zaq (e:EM) (g:GM):SM:=λl S=>(e l S).bind λp=>(g p.1 l p.2).bind λq=>some (.nx,q)
noncomputable def zal (i:Nat):GM:=λd l S=>some (l.set i (some d),S)
noncomputable def ze5:GsM
 | [],l,S=>some (l,S)
 | _,_,_=>none
noncomputable def zb8 (g:GM) (r:GsM):GsM
 | x :: xs,l,S=>(g x l S).bind λp=>r xs p.1 p.2
 | _,_,_=>none
noncomputable def ze6 (n:Nat) (g:GsM):GM
 | .tup xs,l,S=>if xs.length=n then g xs l S else none
 | _,_,_=>none
noncomputable def zd3:D->D->D->Sto->Option Sto
 | .ref n,.int i,v,S=>match S[n]? with
  | some (.lst xs)=>(ixN xs.length i).bind λj=>some (S.set n (.lst (xs.set j v)))
  | _=>none
 | _,_,_,_=>none
noncomputable def zfz (o i:EM):GM:=λv l S=>(o l S).bind λp=>(i l p.2).bind λq=>(zd3 p.1 q.1 v q.2).bind λS'=>some (l,S')
section
variable {X:Cx}{st:Stmt}{rest:List Stmt}{m n:SM}{e c:Expr}{me:EM}{pos:Pos}
theorem zbp:zfa X [] zbn:=PSs.imp zuq λE σ H hx1_=>by
 obtain ⟨ρ,l,S,f,l',S',sim,ro,hm,p⟩:=hx1_
 cases hm
 exact p ρ H σ (Ext.refl ..) sim ro
theorem zan (h1:PS3 X st m) (h2:zfa X rest n):zfa X (st :: rest) (zam m n):=PSs.imp (zur h1 h2) λE σ H hx2_=>by
 obtain ⟨ρ,l,S,f,l',S',sim,ro,hm,p⟩:=hx2_
 obtain ⟨⟨g,l1,S1⟩,q1,hm⟩:=bnd hm
 refine ⟨ρ,l,S,g,l1,S1,sim,ro,q1,λρ1 H1 σ1 e1 s1 r1=>?_⟩
 cases g with
 | nx=>exact ⟨ρ1,l1,S1,f,l',S',s1,r1,hm,λρ2 H2 σ2 e2 s2 r2=>p ρ2 H2 σ2 (e1.trans e2) s2 r2⟩
 | bk=>cases hm;exact p ρ1 H1 σ1 e1 s1 r1
 | ct=>cases hm;exact p ρ1 H1 σ1 e1 s1 r1
 | rt d=>cases hm;exact p ρ1 H1 σ1 e1 s1 r1
theorem zap (h1:PS3 X st m):zfa X [st] m:=zus h1
theorem zf0 (he:PE3 X e me) (hs:swapsWith e none pos.line X.env=pure false:=by rfl):PS3 X (.Expr e pos) (ze4 me):=PS.imp (zuu he hs) λE σ H hx6_=>by
 obtain ⟨ρ,l,S,f,l',S',sim,ro,hm,p⟩:=hx6_
 obtain ⟨⟨x,S1⟩,q1,hm⟩:=bnd hm
 cases hm
 exact ⟨ρ,l,S,x,_,sim,ro,q1,λρ1 H1 x' e1 s1 _=>p ρ1 H1 σ e1 s1 (ro.mono e1)⟩
theorem za8 (he:PE3 X e me):PS3 X (.Return (some e) pos) (za5 me):=PS.imp (zuw he) λE σ H hx7_=>by
 obtain ⟨ρ,l,S,f,l',S',sim,ro,hm,p⟩:=hx7_
 obtain ⟨⟨x,S1⟩,q1,hm⟩:=bnd hm
 cases hm
 exact ⟨ρ,l,S,x,_,sim,ro,q1,λρ1 H1 x' e1 s1 r1=>p ρ1 H1 σ e1 s1 (ro.mono e1) x' r1⟩
theorem za9 {c:Expr}{a b:List Stmt}{mc:TM}(hc:PT3 X c mc) (ha:zfa X a m) (hb:zfa X b n):PS3 X (.If c a b pos) (sIf mc m n):=PS.imp (zuy hc ha hb) λE σ H hx9_=>by
 obtain ⟨ρ,l,S,f,l',S',sim,ro,hm,p⟩:=hx9_
 obtain ⟨⟨x,S1⟩,q1,hm⟩:=bnd hm
 refine ⟨ρ,l,S,x,S1,sim,ro,q1,λρ1 H1 e1 s1=>?_⟩
 cases x with
 | true=>exact zgh ⟨ρ1,l,S1,f,l',S',s1,ro.mono e1,hm,λρ2 H2 σ2 e2 s2 r2=>p ρ2 H2 σ2 (e1.trans e2) s2 r2⟩
 | false=>exact zgg ⟨ρ1,l,S1,f,l',S',s1,ro.mono e1,hm,λρ2 H2 σ2 e2 s2 r2=>p ρ2 H2 σ2 (e1.trans e2) s2 r2⟩
noncomputable def zpx:SM:=λ_ _=>none
theorem zyf:PS3 X st zpx:=PS.imp zu0 λE σ H hx10_=>by obtain ⟨ρ,l,S,f,l',S',sim,ro,hm,p⟩:=hx10_;cases hm
variable {tgt o i:Expr}{g:GM}{gs:GsM}{ts':List Expr}{mo mi:EM}
theorem zbf (j:Nat) {x:Str}(hN:X.N.Nodup) (hi:X.N[j]? = some x:=by rfl) (hx:Loc X.env.scope x:=by first|exact Or.inl rfl|exact Or.inr rfl) (hf:X.fn x=true\/X.env.scope.names.lookup x=some .local:=by first|exact .inl rfl|exact .inr rfl|assumption):PG3 X (.Name x pos) (zal j) :=
 PG.imp (zu1 hN hi hx hf) λv σ H Q hx11_=>by
  obtain ⟨ρ,l,S,d,l',S',sim,ro,rd,hm,p⟩:=hx11_
  cases hm
  exact p ρ H _ (Ext.refl ..) sim (ro.set j rd)
theorem zfn:zkh X [] ze5:=PGs.imp zu4 λv σ H Q hx12_=>by
 obtain ⟨ρ,l,S,d,l',S',sim,ro,rd,hm,p⟩:=hx12_
 cases rd with
 | nil=>cases hm;exact ⟨rfl,p ρ H _ (Ext.refl ..) sim ro⟩
 | cons _ _=>cases hm
theorem zcm (h1:PG3 X tgt g) (h2:zkh X ts' gs) (hs:(assignEach (tgt :: ts') X.env).map (·.2)=assign tgt X.env :: (assignEach ts' X.env).map (·.2):=by rfl):zkh X (tgt :: ts') (zb8 g gs):=PGs.imp (zu5 h1 h2 hs) λv σ H Q hx13_=>by
 obtain ⟨ρ,l,S,d,l',S',sim,ro,rd,hm,p⟩:=hx13_
 cases rd with
 | nil=>cases hm
 | @cons x v' xs vs r1 r2 =>
  obtain ⟨⟨l1,S1⟩,q1,hm⟩:=bnd hm
  exact ⟨v',vs,rfl,ρ,l,S,x,l1,S1,sim,ro,r1,q1,λρ1 H1 σ1 e1 s1 ro1=>⟨ρ1,l1,S1,xs,l',S',s1,ro1,r2.mono e1,hm,λρ2 H2 σ2 e2 s2 ro2=>p ρ2 H2 σ2 (e1.trans e2) s2 ro2⟩⟩
theorem zfo {es:List Expr}{k n:Nat}(hc:X.calm=true) (h:zkh X es gs) (hn:(assignEach es X.env).length=n:=by rfl) (hst:(assignEach es X.env).findIdx? (·.1)=none:=by rfl):PG3 X (.Tuple es k pos) (ze6 n gs) :=
 PG.imp (zu7 hc h hn hst) λv σ H Q hx14_=>by
  obtain ⟨ρ,l,S,d,l',S',sim,ro,rd,hm,p⟩:=hx14_
  cases rd with
  | @tup xs a vs ha r =>
   have hm:(if xs.length=n then gs xs l S else none)=some (l',S'):=hm
   by_cases hl:xs.length=n
   ·rw [if_pos hl] at hm
    exact ⟨a,vs,rfl,SqT.of ha,by rw [<-r.length];exact hl,ρ,l,S,xs,l',S',sim,ro,r,hm,p⟩
   ·rw [if_neg hl] at hm;cases hm
  | _=>cases hm
theorem zyg {K:QFg}{ρ:List Addr}{S S':Sto}{H:Hp}{x y z:D}{x' y' z':V}{Q:Hp->Prop}(sim:Sim K ρ S H) (rx:RD ρ H x x') (ry:RD ρ H y y') (rz:RD ρ H z z') (h:zd3 x y z S=some S') (q:∀H',Ext ρ H ρ H'->Sim K ρ S' H'->Q H'):zo5 x' y' z' H Q:=by
 unfold zd3 at h
 split at h
 ·split at h
  ·rename_i hx
   obtain ⟨j,hj,h⟩:=bnd h
   cases h
   cases ry
   obtain ⟨a,us,ha',hH,r3⟩:=sim.lst hx
   cases rx with
   | ref hn =>
    rw [ha'] at hn;cases hn
    exact ⟨a,us,_,j,rfl,rfl,hH,by rw [<-r3.length];exact hj,q _ (zhn ha' hH) (sim.set ha' hx hH (r3.set rz j))⟩
  ·cases h
 ·cases h
theorem zhp (ho:PE3 X o mo) (hi:PE3 X i mi)
  (ha:∀v,assign (.Subscript o i pos) X.env v=(do
   let ov <-holding [v] (eval o X.env)
   let iv <-holding [v,ov] (eval i X.env)
   standAt pos
   holding [v,ov,iv] (setItem ov iv v)
   release [v,ov,iv] []):=by intro _;rfl):PG3 X (.Subscript o i pos) (zfz mo mi) :=
 PG.imp (zu9 ho hi zwt ha) λv σ H Q hx15_=>by
  obtain ⟨ρ,l,S,d,l',S',sim,ro,rd,hm,p⟩:=hx15_
  obtain ⟨⟨x,S1⟩,q1,hm⟩:=bnd hm
  obtain ⟨⟨y,S2⟩,q2,hm⟩:=bnd hm
  obtain ⟨S3,q3,hm⟩:=bnd hm
  cases hm
  exact ⟨ρ,l,S,x,S1,sim,ro,q1,λρ1 H1 x' e1 s1 r1=>⟨ρ1,l,S1,y,S2,s1,ro.mono e1,q2,λρ2 H2 y' e2 s2 r2=>zyg s2 (r1.mono e2) r2 (rd.mono (e1.trans e2)) q3 λH3 e3 s3=>p ρ2 H3 σ (e1.trans (e2.trans e3)) s3 (ro.mono (e1.trans (e2.trans e3)))⟩⟩
theorem zg3 (he:PE3 X e me) (hg:PG3 X tgt g) (hs:swapsWithSole [tgt] e pos.line X.env=pure false:=by rfl) (hw:swappedStores [tgt] e X.env=pure none:=by rfl)
  (h1:(assignEach [tgt] X.env).map (·.2)=[assign tgt X.env]:=by rfl):PS3 X (.Assign [tgt] e pos) (zaq me g):=PS.imp (zva he hg hs hw h1) λE σ H hx16_=>by
 obtain ⟨ρ,l,S,f,l',S',sim,ro,hm,p⟩:=hx16_
 obtain ⟨⟨x,S1⟩,q1,hm⟩:=bnd hm
 obtain ⟨⟨l2,S2⟩,q2,hm⟩:=bnd hm
 cases hm
 exact ⟨ρ,l,S,x,S1,sim,ro,q1,λρ1 H1 x' e1 s1 r1=>⟨ρ1,l,S1,x,_,_,s1,ro.mono e1,r1,q2,λρ2 H2 σ2 e2 s2 r2=>p ρ2 H2 σ2 (e1.trans e2) s2 r2⟩⟩
theorem zav (j:Nat) {x:Str}{pos':Pos}(hN:X.N.Nodup) (he:PE3 X e me) (hi:X.N[j]? = some x:=by rfl) (hx:Loc X.env.scope x:=by first|exact Or.inl rfl|exact Or.inr rfl) (hs:swapsWith e (some (.Name x pos')) pos.line X.env=pure false:=by rfl) (hf:X.fn x=true\/X.env.scope.names.lookup x=some .local:=by first|exact .inl rfl|exact .inr rfl|assumption) :
  PS3 X (.Assign [.Name x pos'] e pos) (zaq me (zal j)):=PS.imp (zvb hN hi hx he hs hf) λE σ H hx17_=>by
 obtain ⟨ρ,l,S,f,l',S',sim,ro,hm,p⟩:=hx17_
 obtain ⟨⟨x,S1⟩,q1,hm⟩:=bnd hm
 cases hm
 exact ⟨ρ,l,S,x,_,sim,ro,q1,λρ1 H1 x' e1 s1 r1=>p ρ1 H1 _ e1 s1 ((ro.mono e1).set j r1)⟩
end
noncomputable def zff (g:GM) (b:SM):List D->SM
 | [],l,S=>some (.nx,l,S)
 | x :: xs,l,S=>(g x l S).bind λp=>(b p.1 p.2).bind λq=>match q.1 with
  | .nx=>zff g b xs q.2.1 q.2.2
  | .ct=>zff g b xs q.2.1 q.2.2
  | .bk=>some (.nx,q.2)
  | .rt d=>some (.rt d,q.2)
noncomputable def zg4 (g:GM) (b:SM) (n:Nat):Nat->Nat->SM
 | 0,_,_,_=>none
 | k+1,i,l,S=>(lstOf S n).bind λxs=>match xs[i]? with
  | none=>some (.nx,l,S)
  | some x=>(g x l S).bind λp=>(b p.1 p.2).bind λq=>match q.1 with
   | .nx=>zg4 g b n k (i+1) q.2.1 q.2.2
   | .ct=>zg4 g b n k (i+1) q.2.1 q.2.2
   | .bk=>some (.nx,q.2)
   | .rt d=>some (.rt d,q.2)
noncomputable def zjf (e:EM) (g:GM) (b:SM):SM:=λl S=>(e l S).bind λp=>match p.1 with
 | .tup xs=>zff g b xs l p.2
 | .ref n=>(lstOf p.2 n).bind λxs=>zg4 g b n (xs.length+1) 0 l p.2
 | _=>none
noncomputable def zb3 (lo:Int) (n:Nat):List D:=(List.range n).map λ(i:Nat)=>.int (lo+i)
noncomputable def zb9 (as:AM):Lo->Sto->Option ((Int × Nat) × Sto):=λl S=>(as l S).bind λp=>match p.1 with
 | [.int j]=>if -(2 ^ 62)<=j/\j<2 ^ 62 then some ((0,j.toNat),p.2) else none
 | _=>none
noncomputable def zfg (r:Lo->Sto->Option ((Int × Nat) × Sto)) (g:GM) (b:SM):SM:=λl S=>(r l S).bind λp=>zff g b (zb3 p.1.1 p.1.2) l p.2
section
variable {K:QFg}{g:GM}{b:SM}{E:Ends}
theorem zml {next:SM}{x:D}{v:V}{ρ:List Addr}{l:Lo}{S:Sto}{H:Hp}{σ:St}{f:Fl}{l':Lo}{S':Sto}(sim:Sim K ρ S H) (ro:RO ρ H l σ) (rx:RD ρ H x v)
  (hm:((g x l S).bind λp=>(b p.1 p.2).bind λq=>match q.1 with
   | .nx=>next q.2.1 q.2.2
   | .ct=>next q.2.1 q.2.2
   | .bk=>some (.nx,q.2)
   | .rt d=>some (.rt d,q.2))=some (f,l',S')) (p:∀ρ' H' σ',Ext ρ H ρ' H'->Sim K ρ' S' H'->RO ρ' H' l' σ'->zi8 ρ' H' E σ' f)
  {N:St->Hp->Prop} (hN:∀ρ1 H1 σ1 l1 S1,Ext ρ H ρ1 H1->Sim K ρ1 S1 H1->RO ρ1 H1 l1 σ1->next l1 S1=some (f,l',S')->N σ1 H1) :
  tg K g v σ H λσ2 H2=>ts K b { E with nx:=N,ct:=N,bk:=E.nx } σ2 H2:=by
 obtain ⟨⟨l1,S1⟩,q1,hm⟩:=bnd hm
 obtain ⟨⟨fl,l2,S2⟩,q2,hm⟩:=bnd hm
 refine ⟨ρ,l,S,x,l1,S1,sim,ro,rx,q1,λρ1 H1 σ1 e1 s1 r1=>⟨ρ1,l1,S1,fl,l2,S2,s1,r1,q2,λρ2 H2 σ2 e2 s2 r2=>?_⟩⟩
 cases fl with
 | nx=>exact hN ρ2 H2 σ2 l2 S2 (e1.trans e2) s2 r2 hm
 | ct=>exact hN ρ2 H2 σ2 l2 S2 (e1.trans e2) s2 r2 hm
 | bk=>cases hm;exact p ρ2 H2 σ2 (e1.trans e2) s2 r2
 | rt d=>cases hm;exact p ρ2 H2 σ2 (e1.trans e2) s2 r2
end
section
variable {X:Cx}{tgt iter:Expr}{body:List Stmt}{g:GM}{b:SM}{m:EM}{pos:Pos}
theorem zpy {K:QFg}{J:It}{vs:List V}{xs:List D}{ρ:List Addr}{l:Lo}{S:Sto}{H:Hp}{σ:St}{f:Fl}{l':Lo}{S':Sto}{E:Ends}(R:List Addr->Hp->Prop) (hR:∀ρ H ρ' H',Ext ρ H ρ' H'->R ρ H->R ρ' H')
  (hgo:∀(i:Nat) ρ H v,R ρ H->vs[i]? = some v->J.go i H) (hy:∀(i:Nat) ρ H v H',R ρ H->i<vs.length->J.yld i H v H'->H' = H/\vs[i]? = some v) (hst:∀ρ H,R ρ H->J.stop vs.length H)
  (hv:∀ρ H,R ρ H->RDs ρ H xs vs) (r0:R ρ H)
  (sim:Sim K ρ S H) (ro:RO ρ H l σ) (hm:zff g b xs l S=some (f,l',S')) (p:∀ρ' H' σ',Ext ρ H ρ' H'->Sim K ρ' S' H'->RO ρ' H' l' σ'->zi8 ρ' H' E σ' f) :
  ∃W:Nat->Nat->St->Hp->Prop,(∃m,W 0 m σ H)/\∀i m σ H,W i m σ H ->
   (J.stop i H/\E.nx σ H)\/(J.go i H/\∃N:St->Hp->Prop,(∀σ' H',N σ' H'->∃m',m' < m/\W (i+1) m' σ' H')/\∀x H',J.yld i H x H'->tg K g x σ H' λσ2 H2=>ts K b { E with nx:=N,ct:=N,bk:=E.nx } σ2 H2):=by
 refine ⟨λi m σ1 H1=>m=xs.length-i/\i<=xs.length/\∃ρ1 l1 S1,Ext ρ H ρ1 H1/\Sim K ρ1 S1 H1/\RO ρ1 H1 l1 σ1/\zff g b (xs.drop i) l1 S1=some (f,l',S'),⟨xs.length,by simp,Nat.zero_le _,ρ,l,S,Ext.refl ..,sim,ro,hm⟩,?_⟩
 rintro i m σ1 H1 ⟨rfl,hi,ρ1,l1,S1,e1,s1,ro1,hm1⟩
 have R1:=hR _ _ _ _ e1 r0
 have hlen:=(hv _ _ r0).length
 by_cases hlt:i<xs.length
 ·have hx:xs[i]? = some xs[i]:=qge hlt
  obtain ⟨v,hvi,rv⟩:=(hv _ _ R1).get hx
  rw [List.drop_eq_getElem_cons hlt] at hm1
  refine .inr ⟨hgo i ρ1 H1 v R1 hvi,_,λσ' H' h=>h,λy H' hyl=>?_⟩
  obtain ⟨e,hy2⟩:=hy i ρ1 H1 y H' R1 (by omega) hyl
  subst e
  rw [hvi] at hy2;cases hy2
  refine zml (next:=zff g b (xs.drop (i+1))) s1 ro1 rv hm1 (λρ' H' σ' e'=>p ρ' H' σ' (e1.trans e')) λρ2 H2 σ2 l2 S2 e2 s2 ro2 hm2=>?_
  exact ⟨xs.length-(i+1),by omega,rfl,hlt,ρ2,l2,S2,e1.trans e2,s2,ro2,hm2⟩
 ·have hil:i=xs.length:=by omega
  subst hil
  rw [List.drop_length] at hm1
  cases hm1
  exact .inl ⟨by rw [hlen];exact hst _ _ R1,p ρ1 H1 σ1 e1 s1 ro1⟩
theorem zpz (ρ:List Addr) (H:Hp) (lo:Int) (n:Nat):RDs ρ H (zb3 lo n) ((List.range n).map λ(i:Nat)=>V.int (lo+i)):=by
 unfold zb3
 generalize List.range n=l
 induction l with
 | nil=>exact .nil
 | cons a r ih=>exact .cons (.int _) ih
theorem zyh {lo:Int}{n i:Nat}{v:V}(h:i<n) (hv:v=.int (lo+i)):((List.range n).map λ(i:Nat)=>V.int (lo+i))[i]? = some v:=by
 rw [qgm,List.getElem?_range h,hv];rfl
theorem PI.or {wi wj:TI}(h:PI X tgt iter wi) (h':PI X tgt iter wj):PI X tgt iter (λσ H R=>wi σ H R\/wj σ H R):=by
 intro pins s σ H R I q
 rcases q with q|q
 ·exact h pins s σ H R I q
 ·exact h' pins s σ H R I q
theorem zyi {K:QFg}{n:Nat}{a:Addr}{ρ:List Addr}{l:Lo}{S:Sto}{H:Hp}{σ:St}{f:Fl}{l':Lo}{S':Sto}{E:Ends}{k:Nat}(ha:ρ[n]? = some a)
  (sim:Sim K ρ S H) (ro:RO ρ H l σ) (hm:zg4 g b n k 0 l S=some (f,l',S')) (p:∀ρ' H' σ',Ext ρ H ρ' H'->Sim K ρ' S' H'->RO ρ' H' l' σ'->zi8 ρ' H' E σ' f) :
  ∃W:Nat->Nat->St->Hp->Prop,(∃m,W 0 m σ H)/\∀i m σ H,W i m σ H ->
   ((Itl K a).stop i H/\E.nx σ H)\/((Itl K a).go i H/\∃N:St->Hp->Prop,(∀σ' H',N σ' H'->∃m',m' < m/\W (i+1) m' σ' H')/\∀x H',(Itl K a).yld i H x H'->tg K g x σ H' λσ2 H2=>ts K b { E with nx:=N,ct:=N,bk:=E.nx } σ2 H2):=by
 refine ⟨λi m σ1 H1=>∃ρ1 l1 S1,Ext ρ H ρ1 H1/\Sim K ρ1 S1 H1/\RO ρ1 H1 l1 σ1/\zg4 g b n m i l1 S1=some (f,l',S'),⟨k,ρ,l,S,Ext.refl ..,sim,ro,hm⟩,?_⟩
 rintro i m σ1 H1 ⟨ρ1,l1,S1,e1,s1,ro1,hm1⟩
 cases m with
 | zero=>cases hm1
 | succ m =>
  have ha1:=e1.pre n a ha
  unfold zg4 at hm1
  obtain ⟨xs,hx,hm1⟩:=bnd hm1
  obtain ⟨a',vs,ha',sq,rv⟩:=s1.lstOf hx
  rw [ha1] at ha';cases ha'
  cases hi:xs[i]? with
  | none =>
   rw [hi] at hm1
   cases hm1
   have hl:xs.length<=i:=List.getElem?_eq_none_iff.mp hi
   exact .inl ⟨⟨vs,sq,by rw [<-rv.length];exact hl⟩,p ρ1 H1 σ1 e1 s1 ro1⟩
  | some x =>
   rw [hi] at hm1
   obtain ⟨v,hvi,r⟩:=rv.get hi
   refine .inr ⟨⟨vs,v,sq,hvi⟩,_,λσ' H' h=>h,λy H' hyl=>?_⟩
   obtain ⟨e,hy2⟩:=hyl
   subst e
   have hy3:=hy2 vs sq
   rw [hvi] at hy3;cases hy3
   refine zml (next:=zg4 g b n m (i+1)) s1 ro1 r hm1 (λρ' H' σ' e'=>p ρ' H' σ' (e1.trans e')) λρ2 H2 σ2 l2 S2 e2 s2 ro2 hm2=>?_
   exact ⟨m,Nat.lt_succ_self m,ρ2,l2,S2,e1.trans e2,s2,ro2,hm2⟩
theorem zyj (hp:PassesOwn (model X.prog X.w) X.A X.env X.xe) (hc:X.calm=true) (hi:PE3 X iter m) (hg:PG3 X tgt g) (hb:zfa X body b)
  (hs:∀x,foldedSetIterable iter X.env x=pure x:=by intro _;rfl):PS3 X (.For tgt iter body [] pos) (zjf m g b) :=
 PS.imp (zly hp hc (PI.or (zof hi) (zog hi)) hg hb hs) λE σ H hx18_=>by
  obtain ⟨ρ,l,S,f,l',S',sim,ro,hm,p⟩:=hx18_
  obtain ⟨⟨x,S1⟩,q1,hm⟩:=bnd hm
  dsimp only at hm
  split at hm
  ·rename_i xs
   refine .inr ⟨ρ,l,S,.tup xs,S1,sim,ro,q1,λρ1 H1 x' e1 s1 r1=>?_⟩
   cases r1 with
   | @tup xs a vs ha r =>
    refine ⟨a,rfl,⟨vs,SqT.of ha⟩,zpy (vs:=vs) (λρ' H'=>H' a=some (.tup vs)/\RDs ρ' H' xs vs) (λρ H ρ' H' e ⟨h1,h2⟩=>⟨e.tup _ _ h1,h2.mono e⟩)
     (λi ρ H v ⟨h1,_⟩ hv=>⟨vs,v,SqT.of h1,hv⟩) (λi ρ H v H' ⟨h1,_⟩ _ hy=>⟨hy.1,hy.2 vs (SqT.of h1)⟩) (λρ H ⟨h1,_⟩=>⟨vs,SqT.of h1,qlr _⟩) (λρ H h=>h.2) ⟨ha,r⟩ s1 (ro.mono e1) hm λρ' H' σ' e'=>p ρ' H' σ' (e1.trans e')⟩
  ·rename_i n
   obtain ⟨xs,hx,hm⟩:=bnd hm
   refine .inl ⟨ρ,l,S,.ref n,S1,sim,ro,q1,λρ1 H1 x' e1 s1 r1=>?_⟩
   obtain ⟨a,vs,ha,sq,rv⟩:=s1.lstOf hx
   cases r1 with
   | ref hn =>
    rw [ha] at hn;cases hn
    exact ⟨a,rfl,⟨vs,sq⟩,zyi ha s1 (ro.mono e1) hm (λρ' H' σ' e'=>p ρ' H' σ' (e1.trans e'))⟩
  ·cases hm
theorem zg5 {a:Expr}{mA:AM}{p0 pos':Pos}(hp:PassesOwn (model X.prog X.w) X.A X.env X.xe) (hc:X.calm=true) (hgl:Gl X "range") (hmg:X.mg "range" = none) (ha:PA3 X [a] mA) (hg:PG3 X tgt g) (hb:zfa X body b)
  (hs:∀x,foldedSetIterable (.Call (.Name "range" p0) [a] [] pos') X.env x=pure x:=by intro _;rfl) (hst:starEach [a] X.env=[(false,eval a X.env)]:=by rfl):PS3 X (.For tgt (.Call (.Name "range" p0) [a] [] pos') body [] pos) (zfg (zb9 mA) g b) :=
 PS.imp (zly hp hc (zoh hgl hmg ha hst) hg hb hs) λE σ H hx19_=>by
  obtain ⟨ρ,l,S,f,l',S',sim,ro,hm,p⟩:=hx19_
  obtain ⟨⟨⟨lo,n⟩,S1⟩,q1,hm⟩:=bnd hm
  obtain ⟨⟨xs,S2⟩,q2,q1⟩:=bnd q1
  dsimp only at q1 hm
  split at q1
  ·rename_i j
   obtain ⟨hz,e⟩:=zbd q1
   cases e
   refine ⟨ρ,l,S,[.int j],S1,sim,ro,q2,λρ1 H1 vs e1 s1 r1=>?_⟩
   obtain ⟨v,rfl,rv⟩:=r1.one
   cases rv
   refine ⟨j,rfl,hz.1,hz.2,zpy (vs:=(List.range j.toNat).map λ(i:Nat)=>V.int (0+i)) (λ_ _=>True) (λ_ _ _ _ _ h=>h) (λi ρ H v _ hv=>?_) (λi ρ H v H' _ hl hy=>⟨hy.1,?_⟩) (λρ H _=>?_) (λρ H _=>zpz ρ H 0 j.toNat) trivial s1 (ro.mono e1) hm λρ' H' σ' e'=>p ρ' H' σ' (e1.trans e')⟩
   ·have:=(qme hv).1
    simp at this
    show i<j.toNat
    omega
   ·obtain ⟨_,hy⟩:=hy
    exact zyh (by simpa using hl) hy
   ·show j.toNat<=_
    simp
  ·cases q1
end
noncomputable def zbz (n:Nat) (b:SM):FM:=λds S=>(b (ds.map some++List.replicate (n-ds.length) none) S).bind λp=>match p.1 with
 | .rt d=>some (d,p.2.2)
 | .nx=>some (.non,p.2.2)
 | _=>none
theorem RDs.locals {ρ:List Addr}{H:Hp}{ds:List D}{vs:List V}(r:RDs ρ H ds vs) (N:List Str):RO ρ H (ds.map some++List.replicate (N.length-ds.length) none) (L2.start N vs):=by
 unfold L2.start
 rw [<-r.length]
 refine ⟨by simp [r.length],λi d h=>?_⟩
 by_cases hl:i<ds.length
 ·rw [List.getElem?_append_left (by simpa using hl),qgm] at h
  cases e:ds[i]? with
  | none=>rw [e] at h;cases h
  | some d' =>
   rw [e] at h
   have h':some (some d')=some (some d):=h
   cases h'
   obtain ⟨v,h1,h2⟩:=r.get e
   exact ⟨v,by rw [List.getElem?_append_left (by rw [qlm,<-r.length];exact hl),qgm,h1];rfl,h2⟩
 ·rw [List.getElem?_append_right (by simpa using hl),List.getElem?_replicate] at h
  split at h
  ·cases h
  ·cases h
theorem zp0 {P:Program}{w:World}{K:QFg}{mg:Str->Option Value}{base:Heap}{x qual:Str}{st:Stmt}{f:Addr}{fd:FuncData}{N ps:List Str}{k n:Nat}{b:SM}(F:Fun K x qual st f fd) (S:FnScope N ps (za3 st)) (hn:ps.length=n)
  (hbody:∀(cdv:Value),PySem.W.codeIn K cdv qual=true->∀(A:Around) (outer:List Env) (s:Shared) (H:Hp) (E:XK),Room k (A.deeper (envOfC qual (za3 st) s.heap.objs.size f cdv)) ->
   zfa (zg1 CX0 P w K mg base N qual (za3 st) f cdv A outer s H E).nox (zgf st) b):FnOk P w K mg base CX0 (k+1) f fd ps (sp3 K n (zbz N.length b)):=by
 obtain ⟨oc,od,kV,doc,pm,an,cdv,ct,osl,rfl,lk,hcd⟩:=F.ex
 refine zwe lk hcd S (λvs H Q E h=>by rw [h.1,hn]) λA outer s H vs Q E hr h=>?_
 obtain ⟨hl,ρ,ds,S0,v,S',sim,rd,hm,p⟩:=h
 refine ⟨_,PSs.nox (hbody cdv hcd A outer s H E hr),?_⟩
 obtain ⟨⟨fl,l',S1⟩,q,hm⟩:=bnd hm
 refine ⟨ρ,_,S0,fl,l',S1,sim,rd.locals N,q,λρ' H' σ' e' s' r'=>?_⟩
 cases fl with
 | nx=>cases hm;exact p ρ' H' _ e' s' .non
 | rt d=>cases hm;exact λv' rv=>p ρ' H' v' e' s' rv
 | bk=>cases hm
 | ct=>cases hm
noncomputable def zb4 (env:Env):List (Str × NameKind)->List (Str × Addr)->List (Str × Addr)
 | [],cs=>cs
 | (n,k) :: r,cs=>if k == .free then (match env.cells.lookup n with|some c=>zb4 env r ((n,c) :: cs)|none=>zb4 env r cs) else zb4 env r cs
theorem zp6 (env:Env):∀(names:List (Str × NameKind)) (cs:List (Str × Addr)),(∀x∈names,x.2=.free->∃c,env.cells.lookup x.1=some c) ->
  (forIn names cs (λx r=>if (x.2 == NameKind.free)=true then do let c <-cellOf env x.1;pure (ForInStep.yield ((x.1,c) :: r)) else pure (ForInStep.yield r)):Sem (List (Str × Addr)))=pure (zb4 env names cs)
 | [],cs,_=>rfl
 | (n,k) :: r,cs,h=>by
  have ih:=λcs=>zp6 env r cs λx hx=>h x (List.mem_cons_of_mem _ hx)
  rw [List.forIn_cons]
  by_cases hk:k=.free
  ·subst hk
   obtain ⟨c,hc⟩:=h (n,.free) List.mem_cons_self rfl
   simp only [beq_self_eq_true,if_true,cellOf,hc,zb4,pure_bind,bind_assoc]
   exact ih _
  ·have hb:(k == NameKind.free)=false:=by simpa using hk
   simp only [hb,qbf,if_false,zb4,pure_bind]
   exact ih _
theorem zmm (scope:Scope) (env:Env) (h:∀x∈scope.names,x.2=.free->∃c,env.cells.lookup x.1=some c):closureFor scope env=pure (zb4 env scope.names []):=by
 have e:=zp6 env scope.names [] h
 unfold closureFor
 show (forIn scope.names ([]:List (Str × Addr)) (λ(x:Str × NameKind) (r:List (Str × Addr))=>if (x.2 == NameKind.free)=true then do let c <-cellOf env x.1;pure (ForInStep.yield ((x.1,c) :: r)) else pure (ForInStep.yield r)) >>= λcs=>pure cs)=_
 rw [e,pure_bind]
theorem zid (env:Env):∀(names:List (Str × NameKind)) (cs:List (Str × Addr)),(∀x c,cs.lookup x=some c->env.cells.lookup x=some c)->∀x c,(zb4 env names cs).lookup x=some c->env.cells.lookup x=some c
 | [],cs,h,x,c,q=>h x c q
 | (n,k) :: r,cs,h,x,c,q=>by
  unfold zb4 at q
  split at q
  ·split at q
   ·rename_i c' e
    refine zid env r _ (λy d hy=>?_) x c q
    rw [List.lookup_cons] at hy
    split at hy
    ·rename_i hb
     have:y=n:=by simpa using hb
     cases hy
     rw [this];exact e
    ·exact h y d hy
   ·exact zid env r cs h x c q
  ·exact zid env r cs h x c q
theorem zgn (env:Env):∀(names:List (Str × NameKind)) (cs:List (Str × Addr)) (x:Str),((x,NameKind.free)∈names\/∃c,cs.lookup x=some c)->(∃c,env.cells.lookup x=some c)->∃c,(zb4 env names cs).lookup x=some c
 | [],cs,x,h,_=>by
  rcases h with h|h
  ·cases h
  ·exact h
 | (n,k) :: r,cs,x,h,hx=>by
  unfold zb4
  by_cases hk:(k == NameKind.free)=true
  ·rw [if_pos hk]
   split
   ·rename_i c' e
    refine zgn env r _ x ?_ hx
    by_cases hxn:x=n
    ·exact .inr ⟨c',by rw [hxn,List.lookup_cons];simp⟩
    ·rcases h with h|⟨c,h⟩
     ·rcases List.mem_cons.mp h with h|h
      ·cases h;exact absurd rfl hxn
      ·exact .inl h
     ·exact .inr ⟨c,by
       rw [List.lookup_cons]
       have:(x == n)=false:=by simpa using hxn
       rw [this];exact h⟩
   ·rename_i e
    refine zgn env r _ x ?_ hx
    rcases h with h|h
    ·rcases List.mem_cons.mp h with h|h
     ·cases h
      obtain ⟨c,hc⟩:=hx
      rw [hc] at e;cases e
     ·exact .inl h
    ·exact .inr h
  ·rw [if_neg hk]
   refine zgn env r _ x ?_ hx
   rcases h with h|h
   ·rcases List.mem_cons.mp h with h|h
    ·cases h;exact absurd rfl hk
    ·exact .inl h
   ·exact .inr h
noncomputable def cxC (X:Cx) (N':List Str) (scope:Scope) (C:Addr) (s:Shared) (H:Hp) (fp:List Addr) (pins:List (Addr × Obj)):Cx where
 prog:=X.prog
 w:=X.w
 K:=X.K
 mg:=X.mg
 base:=X.base
 A:=X.A
 N:=N'
 s₀:=s
 H₀:=H
 env:=compEnvC scope (zb4 X.env scope.names []) C X.env
 outer:=X.stack
 stack:=X.stack
 ex:=fp
 fn:=λ_=>false
 calm:=X.calm
 pn:=X.pn++pins
 xe:=λ_ _=>False
section
variable {prog:Program}{w:World}{A:Around}{R:Result->Shared->Prop}{s:Shared}
theorem zp7 {elt target iter:Expr}{ifs:List Expr}{scope:Scope}{pos:Pos}{it acc:Value}{env:Env}(I:Nat->Shared->Prop)
  (turn:∀n s,I n s->wpAny (model prog w) A (pyNext it) (λr s₁=>match r with
   | none=>R (.ok .next) s₁
   | some v=>wpAny (model prog w) A (letOwnedTupleGo target it v) (λ_ s₁'=>wpAny (model prog w) A (assign target env v) (λ_ s₂ =>
     wpAny (model prog w) A (forIn ifs true λc r=>if r=true then do let ok <-isTrue c env (eval c env);pure (ForInStep.yield ok) else pure (ForInStep.yield r)) (λok s₃ =>
      if ok=true then wpAny (model prog w) A (eval elt env) (λx s₄ =>
       wpAny (model prog w) A (call (.builtin "list.append") [acc,x]) (λ_ s₅=>∃m,m<n/\I m s₅) (notedBy (model prog w) A env λe s'=>R (.error e) s') s₄) (notedBy (model prog w) A env λe s'=>R (.error e) s') s₃
      else ∃m,m<n/\I m s₃) (notedBy (model prog w) A env λe s'=>R (.error e) s') s₂) (notedBy (model prog w) A env λe s'=>R (.error e) s') s₁') (notedBy (model prog w) A env λe s'=>R (.error e) s') s₁) (notedBy (model prog w) A env λe s'=>R (.error e) s') s)
  (n:Nat) (h:I n s) :
  codeAny (model prog w) A (.compLoop (.ListComp elt [⟨target,iter,ifs,0⟩] scope pos) 0 it acc env) R s:=by
 refine codeAny_loop rfl I (λn s hI=>?_) n h
 show wpAny _ A ((compTurn (.ListComp elt [⟨target,iter,ifs,0⟩] scope pos) 0 it acc env).onRaise (λx=>do noteFrame x env;theTreesLotGoes x)) _ _ s
 refine wpAny_noted ?_
 rw [compTurn_list]
 refine qwb (wpAny_standAt (qwb (wpAny_mono (turn n s hI) (λr s₁ h₁=>?_) λ_ _ h'=>h')))
 cases r with
 | none=>exact qwp h₁
 | some v =>
  refine qwb (wpAny_mono h₁ (λ_ s₁' h₁=>?_) λ_ _ h'=>h')
  refine qwb (wpAny_mono h₁ (λ_ s₂ h₂=>qwb (wpAny_mono h₂ (λok s₃ h₃=>?_) λ_ _ h'=>h')) λ_ _ h'=>h')
  cases ok with
  | false=>exact qwp ⟨rfl,h₃⟩
  | true =>
   exact qwb (qwb (wpAny_mono h₃ (λx s₄ h₄=>qwb (wpAny_mono h₄ (λ_ s₅ h₅=>qwp (qwp ⟨rfl,h₅⟩)) λ_ _ h'=>h')) λ_ _ h'=>h'))
end
def PTs (X:Cx) (ifs:List Expr) (t:TT):Prop:=∀(pins:List (Addr × Obj)) (s:Shared) (σ:St) (H:Hp) (Q:Bool->Hp->Prop),Inv X pins σ H s->t σ H Q ->
 wpAny (model X.prog X.w) X.A (forIn ifs true λc r=>if r=true then do let ok <-isTrue c X.env (eval c X.env);pure (ForInStep.yield ok) else pure (ForInStep.yield r)) (TP X pins σ Q) X.xe s
theorem zyk {X:Cx}:PTs X [] (λ_ H Q=>Q true H):=λ_ _ _ H _ I h=>wpAny_tests_nil ⟨H,I,h⟩
theorem zyl {X:Cx}{c:Expr}{t:TT}(h:PT X c t):PTs X [c] t:=λpins s σ H Q I q=>wpAny_tests_one (h pins s σ H Q I q)
def zhq (K:QFg) (wi:TI) (src:St->St) (g:TG) (tts:TT) (t:TE):TE:=λσ H Q=>wi σ H λJ H1=>∀D,H1 D=none->K.lookup D=none->∃W:Nat->Nat->St->Hp->Prop,
 (∃m,W 0 m (src σ) (upd H1 D (.lst [])))/\∀i m σ' H',W i m σ' H' ->
  (J.stop i H'/\Q (.ref D) H')\/(J.go i H'/\∃N:St->Hp->Prop,(∀σ' H',N σ' H'->∃m',m' < m/\W (i+1) m' σ' H') /\
   ∀x H'',J.yld i H' x H''->g x σ' H'' λσ2 H2=>tts σ2 H2 λb H3=>if b=true then t σ2 H3 (λv H4=>∃ys,H4 D=some (.lst ys)/\ys.length<sizeLine/\N σ2 (upd H4 D (.lst (ys++[v])))) else N σ2 H3)
theorem zkr {scope:Scope}{env:Env}:∀{names:List (Str × NameKind)}{x:Str},names.lookup x=some .free ->
  ((names.map λ(n,k)=>if (k == NameKind.free && env.scope.kind == .function && env.kindOf n == some .cell) then (n,NameKind.cell) else (n,k)).lookup x=some .cell \/
   (names.map λ(n,k)=>if (k == NameKind.free && env.scope.kind == .function && env.kindOf n == some .cell) then (n,NameKind.cell) else (n,k)).lookup x=some .free)
 | [],x,h=>by simp at h
 | (n,k) :: r,x,h=>by
  have ih:=@zkr scope env r x
  show List.lookup x ((if (k == NameKind.free && env.scope.kind == .function && env.kindOf n == some .cell)=true then (n,NameKind.cell) else (n,k)) :: _)=_\/List.lookup x ((if (k == NameKind.free && env.scope.kind == .function && env.kindOf n == some .cell)=true then (n,NameKind.cell) else (n,k)) :: _)=_
  cases hx:x == n with
  | true =>
   simp only [List.lookup_cons,hx] at h
   cases h
   by_cases hc:(NameKind.free == NameKind.free && env.scope.kind == .function && env.kindOf n == some .cell)=true
   ·rw [if_pos hc];simp [List.lookup_cons,hx]
   ·rw [if_neg hc];simp [List.lookup_cons,hx]
  | false =>
   simp only [List.lookup_cons,hx] at h
   by_cases hc:(k == NameKind.free && env.scope.kind == .function && env.kindOf n == some .cell)=true
   ·rw [if_pos hc];simp only [List.lookup_cons,hx];exact ih h
   ·rw [if_neg hc];simp only [List.lookup_cons,hx];exact ih h
structure CompSc (X:Cx) (N':List Str) (scope:Scope) (src:St->St):Prop where
 kind:scope.kind=.function
 nocell:∀y∈scope.names,y.2≠.cell
 names:∀y∈scope.names,y.2=.local->scope.names.lookup y.1=some .local
 free:∀y∈scope.names,y.2=.free->X.env.kindOf y.1=some .cell\/X.env.kindOf y.1=some .free
 rel:∀y,(relabel scope X.env).names.lookup y=some .cell\/(relabel scope X.env).names.lookup y=some .free->(y,NameKind.free)∈scope.names
 len:∀σ,(src σ).length=N'.length
 src:∀σ (i:Nat) v x,(src σ)[i]? = some (some v)->N'[i]? = some x->∃j:Nat,X.N[j]? = some x/\σ[j]? = some (some v)/\scope.names.lookup x=some .free
theorem zym {X:Cx}{N':List Str}{elt iter tgt:Expr}{ifs:List Expr}{scope:Scope}{pos pos':Pos}{use:Option (Value->Sem Unit)}{R:Value->Shared->Prop}{pins:List (Addr × Obj)}{s:Shared}{σ:St}{H:Hp}{Q:VK}{wi:TI}{src:St->St}{g:TG}{tts:TT}{t:TE}{xb:Addr->Value->Shared->Prop}{B:Addr->Shared->Hp->List Addr->List (Addr × Obj)->Prop}(hcalm:X.calm=true) (sc:CompSc X N' scope src)
  (hi:PI X tgt iter wi) (hg:∀C s H fp pins,PG ((cxC X N' scope C s H fp pins).wish (xb C)) tgt g) (ht:∀C s H fp pins,PTs ((cxC X N' scope C s H fp pins).wish (xb C)) ifs tts) (he:∀C s H fp pins,B C s H fp pins->PE ((cxC X N' scope C s H fp pins).wish (xb C)) elt t)
  (hxb:∀D C x s',xb C x s'->notedBy (model X.prog X.w) X.A (compEnvC scope (zb4 X.env scope.names []) C X.env) (λx s''=>compPost (model X.prog X.w) X.A X.xe use R (.ref D) C (.error x) s'') x s')
  (hB:∀s3 H3 fp,Inv X pins σ H3 s3->(∀b∈fp,zcz X pins H3 b)->B s3.heap.objs.size s3 H3 fp pins)
  (hs:∀x,foldedSetIterable iter X.env x=pure x) (I:Inv X pins σ H s) (h:zhq X.K wi src g tts t σ H Q)
  (fin:∀D H5 s6 C mC,Inv X pins σ H5 s6->zcz X pins H5 C->s6.heap.Ns C mC->Q (.ref D) H5->compPost (model X.prog X.w) X.A X.xe use R (.ref D) C (.ok .next) s6) :
  wpAny (model X.prog X.w) X.A (comprehension (.ListComp elt [⟨tgt,iter,ifs,0⟩] scope pos) scope X.env pos' (newList []) false (eval iter X.env) use) R X.xe s:=by
 have hasC:∀x∈scope.names,x.2=.free->∃c,X.env.cells.lookup x.1=some c:=λx hx hf=>I.ok.has x.1 (sc.free x hx hf)
 refine wpAny_comprehension_free (use:=use) (env:=X.env) rfl hs (zmm scope X.env hasC) sc.kind sc.names ?_
 show wpAny (model X.prog X.w) X.A (eval iter X.env) _ _ s
 refine wpAny_mono (hi pins s σ H _ I h) (λv s1 h1=>wpAny_mono h1 (λitv s2 h2=>?_) λ_ _ z=>z) λ_ _ z=>z
 obtain ⟨it,fp,tn,J,H2,rfl,I2,T,st2,f2,q⟩:=h2
 refine wpAny_newObj_type ?_ (by show 0<=sizeLine;exact Nat.zero_le _)
 have hD:H2 s2.heap.objs.size=none:=I2.hok.fresh (qlr _)
 have I3:Inv X pins σ (upd H2 s2.heap.objs.size (.lst [])) { s2 with heap:=s2.heap.push { cls:=.type "list",data:=.seq ([]:List Value).toArray } }:=I2.lnew (t':=s2.toks) .nil (Nat.zero_le _)
 obtain ⟨W,⟨m0,w0⟩,turn⟩:=q s2.heap.objs.size hD (by
  cases e:X.K.lookup s2.heap.objs.size with
  | none=>rfl
  | some o=>exact absurd (Heap.lt_size (I2.kIn _ o e)) (Nat.lt_irrefl _))
 refine wpAny_newFunctionEnv sc.nocell (by intro y hy;simp at hy) (λh' hns hsb=>?_) sc.kind
 have fpIn:∀b∈fp,∃o,s2.heap.get? b=some o/\∀v,o.data≠.cell v:=T.obj 0 s2.heap st2
 have fpD:∀b∈fp,b≠s2.heap.objs.size:=λb hb=>let ⟨o,e,_⟩:=fpIn b hb;Nat.ne_of_lt (Heap.lt_size e)
 have f3:∀b∈fp,zcz X pins (upd H2 s2.heap.objs.size (.lst [])) b:=λb hb=>⟨by rw [zar (fpD b hb)];exact (f2 b hb).1,(f2 b hb).2⟩
 have st3:tn 0 (s2.heap.push { cls:=.type "list",data:=.seq ([]:List Value).toArray }):=T.keep _ _ _ st2 λb hb o e=>qps _ e
 clear q hD h st2 f2 fpD
 generalize upd H2 s2.heap.objs.size (.lst [])=H3 at *
 generalize hDe:s2.heap.objs.size=D at *
 have fpIn3:∀b∈fp,∃o,(s2.heap.push { cls:=.type "list",data:=.seq ([]:List Value).toArray }).get? b=some o/\∀v,o.data≠.cell v:=T.obj 0 _ st3
 clear fpIn
 generalize s2.heap.push { cls:=.type "list",data:=.seq ([]:List Value).toArray }=h3 at *
 have old:∀b o,h3.get? b=some o->h'.get? b=some o:=λb o e=>hsb.extBut b o (Nat.ne_of_lt (Heap.lt_size e)) (qps _ e)
 have stkNo:∀b,b≠X.env.locals->b ∉ X.fs->b ∉ frs X.stack:=λb h1 h2 hb=>by
  rcases List.mem_cons.mp (I3.stkSub b hb) with z|z
  ·exact h1 z
  ·exact h2 z
 have sub:=zid X.env scope.names [] (λx c z=>by simp at z)
 have cNe:∀b o,h3.get? b=some o->b≠h3.objs.size:=λb o e=>Nat.ne_of_lt (Heap.lt_size e)
 have I4:Inv (cxC X N' scope h3.objs.size { s2 with heap:=h3 } H3 fp pins) [] (src σ) H3 { s2 with heap:=h',toks:=s2.toks+([]:List (Str × Value)).length }:=by
  refine ⟨⟨I3.ok.mod,sc.kind,I3.ok.glob,I3.ok.blt,qlr _,λx y c h1 h2=>I3.ok.inj x y c (sub x c h1) (sub y c h2),λx hx=>?_,λx c z=>absurd (show false=true from z) Bool.false_ne_true,I3.ok.hd,I3.ok.frames,.inl rfl,λb hb=>⟨?_,λx c z=>(f3 b hb).2.2.2.2.1 x c (sub x c z)⟩,λb o e=>I3.bs b o e,Nat.le_trans I3.ok.bsz I3.sz,λb o e hb=>?_,λb hb=>stkNo b (f3 b hb).2.1 (f3 b hb).2.2.1,I3.stack,I3.stkFree⟩,
   rfl,I3.bare,Un.kept old,⟨_,hns,λi x v h1 h2 h3'=>?_⟩,λx c z=>?_,I3.hok.fresh (qlr _),λx c z=>I3.freeC x c (sub x c z),λp hp=>?_,I3.hok.kept old,sc.len σ⟩
  ·have hm:=sc.rel x hx
   exact zgn X.env scope.names [] x (.inl hm) (hasC _ hm rfl)
  ·obtain ⟨o,e,_⟩:=fpIn3 b hb
   exact cNe b o e
  ·rcases (f3 b hb).2.2.2.1 with z|z
   ·exact I3.ok.noex b o e z
   ·have:=Heap.lt_size (I3.ok.bs b o e).1
    exact absurd (Nat.lt_of_lt_of_le this z) (Nat.lt_irrefl _)
  ·obtain ⟨j,e1,e2,e3⟩:=sc.src σ i v x h2 h1
   obtain ⟨m,hn,hl⟩:=I3.loc
   have hmem:=PySem.mem_of_lookup e3
   have hk:=sc.free (x,.free) hmem rfl
   have vis:Vis X.env.scope x:=by
    rcases hk with k|k
    ·exact .inr (.inl k)
    ·exact .inr (.inr k)
   obtain ⟨u,r,lk⟩:=hl j x v e1 e2 vis
   refine ⟨u,r,.inr ⟨?_,?_⟩⟩
   ·exact zkr (scope:=scope) e3
   ·rcases lk with ⟨k,_⟩|⟨_,c,hc,hcell⟩
    ·rcases hk with k' | k' <;> (rw [k] at k';cases k')
    ·obtain ⟨c',hc'⟩:=zgn X.env scope.names [] x (.inl hmem) ⟨c,hc⟩
     have:=sub x c' hc'
     rw [hc] at this;cases this
     obtain ⟨o,ho,hd⟩:=hcell
     exact ⟨c,hc',o,old _ _ ho,hd⟩
  ·obtain ⟨v,o,ho,hd⟩:=I3.cell x c (sub x c z)
   exact ⟨v,o,old _ _ ho,hd⟩
  ·have hp':p∈X.pn++pins:=by simpa [cxC] using hp
   obtain ⟨e,n,ne,nf,d⟩:=I3.pin p hp'
   exact ⟨old _ _ e,n,cNe _ _ e,stkNo _ ne nf,d⟩
 have I4:=I4.wish (xb h3.objs.size)
 have hb:B h3.objs.size { s2 with heap:=h3 } H3 fp pins:=hB { s2 with heap:=h3 } H3 fp I3 f3
 have st4:tn 0 h':=T.keep _ _ _ st3 λb hb o e=>old b o e
 have fr4:∀b∈fp,H3 b=none:=λb hb=>(f3 b hb).1
 have stat:∀{H':Hp},(∀b∈fp,H' b=none)->∀b∈fp,zcz ((cxC X N' scope h3.objs.size { s2 with heap:=h3 } H3 fp pins).wish (xb h3.objs.size)) [] H' b:=λhn b hb=>by
  obtain ⟨g0,g1,g2,g3,g4,g5⟩:=f3 b hb
  obtain ⟨o,e,_⟩:=fpIn3 b hb
  exact ⟨hn b hb,cNe b o e,stkNo b g1 g2,.inl hb,λx c z=>g4 x c (sub x c z),λp hp=>g5 p (by simpa [cxC,Cx.wish] using hp)⟩
 have loop:codeAny (model X.prog X.w) X.A (.compLoop (.ListComp elt [⟨tgt,iter,ifs,0⟩] scope pos) 0 (.ref it) (.ref D) (compEnvC scope (zb4 X.env scope.names []) h3.objs.size X.env))
   (compPost (model X.prog X.w) X.A X.xe use R (.ref D) h3.objs.size) { s2 with heap:=h',toks:=s2.toks+([]:List (Str × Value)).length }:=by
  refine zp7 (λn s'=>∃i σ' H',Inv ((cxC X N' scope h3.objs.size { s2 with heap:=h3 } H3 fp pins).wish (xb h3.objs.size)) [] σ' H' s'/\tn i s'.heap/\(∀b∈fp,H' b=none)/\W i n σ' H') ?_ m0 ⟨0,src σ,H3,I4,st4,fr4,w0⟩
  rintro n s5 ⟨i,σ5,H5,I5,st5,fr5,w5⟩
  rcases turn i n σ5 H5 w5 with ⟨stop,qn⟩|⟨go,N,hN,step⟩
  ·refine wpAny_mono (T.done ((cxC X N' scope h3.objs.size { s2 with heap:=h3 } H3 fp pins).wish (xb h3.objs.size)) rfl rfl rfl hcalm i [] s5 σ5 H5 _ I5 (stat fr5) st5 stop) (λr s6 hr=>?_) λ_ _ z=>z
   obtain ⟨hr,I6⟩:=hr
   subst hr
   obtain ⟨mC,hnC,_⟩:=I6.loc
   have IX:Inv X pins σ H5 s6:=I3.call' (s':=s6) (ch:=fp) I6.os I6.base I6.hok I6.bare λb hb=>⟨(f3 b hb).2.2.2.1,(f3 b hb).2.1,(f3 b hb).2.2.2.2.1,(f3 b hb).2.2.2.2.2⟩
   exact fin D H5 s6 h3.objs.size mC IX (I3.fpOk (qlr _) I6.free) hnC qn
  ·refine wpAny_mono (T.item ((cxC X N' scope h3.objs.size { s2 with heap:=h3 } H3 fp pins).wish (xb h3.objs.size)) rfl rfl rfl hcalm i [] s5 σ5 H5 _ I5 (stat fr5) st5 go) (λr s6 hr=>?_) λ_ _ z=>z
   obtain ⟨u,hr,h6⟩:=hr
   subst hr
   refine wpAny_mono h6 (λ_ s7 h7=>?_) λ_ _ z=>z
   obtain ⟨x,H7,I7,r7,y7,st7,fr7⟩:=h7
   have I7':=I7.pinned (stat fr7) (T.obj _ _ st7)
   refine wpAny_mono (hg _ _ _ _ _ _ s7 σ5 H7 x u _ I7' r7 (step x H7 y7)) (λ_ s8 h8=>?_) λx s' z=>hxb D _ x s' z
   obtain ⟨σ8,H8,I8,q8⟩:=h8
   have again:∀{H9:Hp} {s9:Shared},Inv ((cxC X N' scope h3.objs.size { s2 with heap:=h3 } H3 fp pins).wish (xb h3.objs.size)) ([]++zhm fp s7.heap) σ8 H9 s9->N σ8 H9->∃m,m<n/\∃i σ' H',Inv ((cxC X N' scope h3.objs.size { s2 with heap:=h3 } H3 fp pins).wish (xb h3.objs.size)) [] σ' H' s9/\tn i s9.heap/\(∀b∈fp,H' b=none)/\W i m σ' H':=λ{H9 s9} I9 n9=>by
    obtain ⟨m',hm,w9⟩:=hN σ8 H9 n9
    refine ⟨m',hm,i+1,σ8,H9,I9.unpinned,T.keep _ _ _ st7 λb hb o e=>(I9.pin (b,o) (List.mem_append_right _ (List.mem_append_right _ (zg0 hb e)))).1,λb hb=>?_,w9⟩
    obtain ⟨o,e,d⟩:=T.obj _ _ st7 b hb
    exact (I9.pin (b,o) (List.mem_append_right _ (List.mem_append_right _ (zg0 hb e)))).2.1
   refine wpAny_mono (ht _ _ _ _ _ _ s8 σ8 H8 _ I8 q8) (λok s9 h9=>?_) λx s' z=>hxb D _ x s' z
   obtain ⟨H9,I9,q9⟩:=h9
   cases ok with
   | false=>exact again I9 q9
   | true =>
    refine wpAny_mono (he _ _ _ _ _ hb _ s9 σ8 H9 _ I9 q9) (λy s10 h10=>?_) λx s' z=>hxb D _ x s' z
    obtain ⟨vy,H10,I10,r10,ys,hys,hz,nx⟩:=h10
    refine wpAny_mono (zl7 (X:=(cxC X N' scope h3.objs.size { s2 with heap:=h3 } H3 fp pins).wish (xb h3.objs.size)) _ s10 σ8 H10 (.ref D) [vy] (.ref D) [y] (λ_ H'=>N σ8 H') I10 rfl (.cons r10 .nil) ⟨D,ys,vy,rfl,rfl,hys,hz,nx⟩) (λ_ s11 h11=>?_) λx s' z=>hxb D _ x s' z
    obtain ⟨_,H11,I11,_,n11⟩:=h11
    exact again I11 n11
 exact codeAny_compStart_list loop (T.self _ 0 _ _ _ st4 loop)
theorem zyn {X:Cx}{N':List Str}{elt iter tgt:Expr}{ifs:List Expr}{scope:Scope}{pos:Pos}{wi:TI}{src:St->St}{g:TG}{tts:TT}{t:TE}(hcalm:X.calm=true) (sc:CompSc X N' scope src)
  (hi:PI X tgt iter wi) (hg:∀C s H fp pins,PG (cxC X N' scope C s H fp pins) tgt g) (ht:∀C s H fp pins,PTs (cxC X N' scope C s H fp pins) ifs tts) (he:∀C s H fp pins,PE (cxC X N' scope C s H fp pins) elt t)
  (hs:∀x,foldedSetIterable iter X.env x=pure x:=by intro _;rfl):PE X (.ListComp elt [⟨tgt,iter,ifs,0⟩] scope pos) (zhq X.K wi src g tts t):=by
 intro pins s σ H Q I h
 rw [eval_ListComp]
 refine zym (xb:=λ_ _ _=>False) (B:=λ_ _ _ _ _=>True) (use:=none) hcalm sc hi hg ht (λC s H fp pins _=>he C s H fp pins) (λ_ _ _ _ z=>z.elim) (λ_ _ _ _ _=>trivial) hs I h λD H5 s6 C mC IX fp hn q=>⟨mC,hn,λh'' sb=>⟨.ref D,H5,?_,rfl,q⟩⟩
 exact IX.turned (t':=s6.toks) (λb o hb e=>sb.extBut b o hb e) fp.1 fp.2.1 fp.2.2.2.1 fp.2.2.2.2.1 fp.2.2.2.2.2
section
variable {K:QFg}{ρ ρ':List Addr}{H H':Hp}{S:Sto}
theorem Sim.notin {a:Addr}(s:Sim K ρ S H) (h1:H a=none) (h2:K.lookup a=none):∀n:Nat,ρ[n]?≠some a:=λn hn=>by
 have hl:n<S.length:=by rw [<-s.len];exact (qme hn).1
 have q:=s.at' n a _ hn (qge hl)
 cases e:S[n] with
 | lst xs=>rw [e] at q;obtain ⟨vs,z,_⟩:=q;rw [h1] at z;cases z
 | flst xs =>
  rw [e] at q
  obtain ⟨vs,z,_⟩:=q
  rcases z with ⟨o,z⟩|⟨o,_,_,z,_⟩
  ·rw [h1] at z;cases z
  ·rw [h2] at z;cases z
 | iset g m=>rw [e] at q;have q:H a=_:=q;rw [h1] at q;cases q
 | dct kvs=>rw [e] at q;obtain ⟨vs,z,_⟩:=q;rw [h1] at z;cases z
 | tdct kvs=>rw [e] at q;obtain ⟨vs,z,_⟩:=q;rw [h1] at z;cases z
 | fdct kvs=>rw [e] at q;obtain ⟨o,vs,z,_⟩:=q;rw [h1] at z;cases z
 | ftdct kvs=>rw [e] at q;obtain ⟨o,vs,z,_⟩:=q;rw [h1] at z;cases z
 | tset ks=>rw [e] at q;obtain ⟨xs,_,z,_⟩:=q;rw [h1] at z;cases z
 | fnc x=>rw [e] at q;obtain ⟨_,o,z⟩:=q;rw [h2] at z;cases z
 | exc c=>rw [e] at q;obtain ⟨C,_,z⟩:=q;rw [h1] at z;cases z
 | tab x=>rw [e] at q;obtain ⟨_,_,_,_,z,_⟩:=q;rw [h1] at z;cases z
 | lam g caps=>rw [e] at q;obtain ⟨_,_,_,_,z,_⟩:=q;rw [h1] at z;cases z
 | dead=>rw [e] at q;obtain ⟨_,z⟩:=q;rw [h1] at z;cases z
theorem Sim.adopt {a:Addr}{xs:List D}{vs:List V}(s:Sim K ρ S H) (ha:H a=some (.lst vs)) (hn:∀n:Nat,ρ[n]?≠some a) (r:RDs ρ H xs vs):Sim K (ρ++[a]) (S++[.lst xs]) H:=by
 refine ⟨by simp [s.len],λi j b x1 x2 h1 h2 h3 h4 m1 m2=>?_,λn b o h1 h2=>?_⟩
 ·rcases zb2 h1 with g1|⟨e1,f1⟩ <;> rcases zb2 h2 with g2|⟨e2,f2⟩
  ·rcases zb2 h3 with h3|⟨e3,_⟩ <;> rcases zb2 h4 with h4|⟨e4,_⟩
   ·exact s.nd i j b _ _ g1 g2 h3 h4 m1 m2
   ·have:=(qme g2).1;have:=s.len;omega
   ·have:=(qme g1).1;have:=s.len;omega
   ·omega
  ·subst f2;exact absurd g1 (hn i)
  ·subst f1;exact absurd g2 (hn j)
  ·omega
 ·rcases zb2 h1 with h1|⟨e1,f1⟩
  ·rcases zb2 h2 with h2|⟨e2,f2⟩
   ·exact (s.at' n b o h1 h2).more ext0_push
   ·have:=(qme h1).1;have:=s.len;omega
  ·subst f1
   rcases zb2 h2 with h2|⟨e2,f2⟩
   ·have:=(qme h2).1;have:=s.len;omega
   ·subst f2
    exact ⟨vs,ha,r.mono0 ext0_push⟩
theorem Sim.beside {a:Addr}{ys:List V}{u:HO}(s:Sim K ρ S H) (ha:H a=some (.lst ys)) (hn:∀n:Nat,ρ[n]?≠some a):Sim K ρ S (upd H a u) :=
 ⟨s.len,s.nd,λn b o h1 h2=>(s.at' n b o h1 h2).written ha λ_ z=>hn n (by rw [h1,z])⟩
theorem Ext.beside {a:Addr}{ys:List V}{u:HO}{ρ0:List Addr}{H0:Hp}(e:Ext ρ0 H0 ρ H) (h0:H0 a=none) (ha:H a=some (.lst ys)):Ext ρ0 H0 ρ (upd H a u) :=
 ⟨⟨e.pre,λb vs h=>by rw [zar (zdl (e.tup b vs h) ha (by intro z;cases z))];exact e.tup b vs h,λb o vs h=>by rw [zar (zdl (e.frz b o vs h) ha (by intro z;cases z))];exact e.frz b o vs h⟩,λb vs h n=>⟨by rw [zar (zbl h h0)];exact (e.out b vs h n).1,(e.out b vs h n).2⟩⟩
theorem Ext.adopt {a:Addr}{ρ0:List Addr}{H0:Hp}(e:Ext ρ0 H0 ρ H) (h0:H0 a=none):Ext ρ0 H0 (ρ++[a]) H :=
 ⟨⟨λn b h=>(ext0_push (H:=H)).pre n b (e.pre n b h),e.tup,e.frz⟩,λb vs h n=>⟨(e.out b vs h n).1,λi hi=>by
  rcases zb2 hi with hi|⟨_,z⟩
  ·exact (e.out b vs h n).2 i hi
  ·rw [z,h0] at h;cases h⟩⟩
end
abbrev ItM:=Nat->Sto->Option (Option D)
abbrev IM:=Lo->Sto->Option (ItM × Nat × Sto)
def zgo (K:QFg) (ρ:List Addr) (H:Hp) (it:ItM) (J:It):Prop:=∀(i:Nat) ρ' S' H',Ext ρ H ρ' H'->Sim K ρ' S' H' ->
 (it i S' = some none->J.stop i H')/\∀x,it i S' = some (some x)->J.go i H'/\∀y H'',J.yld i H' y H''->H'' = H'/\RD ρ' H' x y
inductive ti (K:QFg) (im:IM) (σ:St) (H:Hp) (R:It->Hp->Prop):Prop
 | mk (ρ:_) (l:_) (S:_) (it:_) (k:_) (S':_) (_:Sim K ρ S H) (_:RO ρ H l σ) (_:im l S=some (it,k,S')) (_:∀ρ' H' J,Ext ρ H ρ' H'->Sim K ρ' S' H'->zgo K ρ' H' it J->R J H')
def PI3 (X:Cx) (tgt iter:Expr) (im:IM):Prop:=PI X tgt iter (ti X.K im)
theorem PI.imp {X:Cx}{tgt iter:Expr}{t u:TI}(h:PI X tgt iter t) (i:∀σ H R,u σ H R->t σ H R):PI X tgt iter u:=λpins s σ H Q I q=>h pins s σ H Q I (i _ _ _ q)
noncomputable def itX (xs:List D):ItM:=λi _=>some xs[i]?
noncomputable def itL (n:Nat):ItM:=λi S=>(lstOf S n).bind λxs=>some xs[i]?
noncomputable def zdg (e:EM):IM:=λl S=>(e l S).bind λp=>match p.1 with
 | .tup xs=>some (itX xs,xs.length+1,p.2)
 | .ref n=>(lstOf p.2 n).bind λxs=>some (itL n,xs.length+1,p.2)
 | _=>none
noncomputable def zjg (r:Lo->Sto->Option ((Int × Nat) × Sto)):IM:=λl S=>(r l S).bind λp=>some (itX (zb3 p.1.1 p.1.2),p.1.2+1,p.2)
section
variable {K:QFg}
theorem zmn {ρ:List Addr}{H:Hp}{a:Addr}{xs:List D}{vs:List V}(ha:H a=some (.tup vs)) (r:RDs ρ H xs vs):zgo K ρ H (itX xs) (Itt K a):=by
 intro i ρ' S' H' e s
 have ha':=SqT.of (K:=K) (e.tup _ _ ha)
 have r':=r.mono e
 refine ⟨λh=>?_,λx h=>?_⟩
 ·have h:xs[i]? = none:=qoi h
  exact ⟨vs,ha',by rw [<-r.length];exact List.getElem?_eq_none_iff.mp h⟩
 ·have h:xs[i]? = some x:=qoi h
  obtain ⟨v,hv,rv⟩:=r'.get h
  refine ⟨⟨vs,v,ha',hv⟩,λy H'' ⟨e1,e2⟩=>⟨e1,?_⟩⟩
  have:=e2 vs ha'
  rw [hv] at this;cases this
  exact rv
theorem zmo {ρ:List Addr}{H:Hp}{a:Addr}{n:Nat}(ha:ρ[n]? = some a):zgo K ρ H (itL n) (Itl K a):=by
 intro i ρ' S' H' e s
 have ha':=e.pre _ _ ha
 refine ⟨λh=>?_,λx h=>?_⟩
 ·obtain ⟨xs,h1,h⟩:=bnd h
  have h:xs[i]? = none:=qoi h
  obtain ⟨b,vs,hb,sq,r⟩:=s.lstOf h1
  rw [ha'] at hb;cases hb
  exact ⟨vs,sq,by rw [<-r.length];exact List.getElem?_eq_none_iff.mp h⟩
 ·obtain ⟨xs,h1,h⟩:=bnd h
  have h:xs[i]? = some x:=qoi h
  obtain ⟨b,vs,hb,sq,r⟩:=s.lstOf h1
  rw [ha'] at hb;cases hb
  obtain ⟨v,hv,rv⟩:=r.get h
  refine ⟨⟨vs,v,sq,hv⟩,λy H'' ⟨e1,e2⟩=>⟨e1,?_⟩⟩
  have:=e2 vs sq
  rw [hv] at this;cases this
  exact rv
theorem zyo {ρ:List Addr}{H:Hp}{lo:Int}{n:Nat}:zgo K ρ H (itX (zb3 lo n)) (Itr lo n):=by
 intro i ρ' S' H' e s
 refine ⟨λh=>?_,λx h=>?_⟩
 ·have h:(zb3 lo n)[i]? = none:=qoi h
  have:=List.getElem?_eq_none_iff.mp h
  simp [zb3] at this
  exact this
 ·have h:(zb3 lo n)[i]? = some x:=qoi h
  have hl:=(qme h).1
  simp only [zb3,qlm,List.length_range] at hl
  refine ⟨hl,λy H'' ⟨e1,e2⟩=>⟨e1,?_⟩⟩
  unfold zb3 at h
  rw [qgm,List.getElem?_range hl] at h
  cases h
  rw [e2]
  exact .int _
end
section
variable {X:Cx}{tgt iter:Expr}{m:EM}{mA:AM}{p0 pos':Pos}{a a2:Expr}
theorem zgp (hi:PE3 X iter m):PI3 X tgt iter (zdg m):=PI.imp (PI.or (zof hi) (zog hi)) λσ H R hx1_=>by
 obtain ⟨ρ,l,S,it,k,S',sim,ro,hm,p⟩:=hx1_
 obtain ⟨⟨x,S1⟩,q1,hm⟩:=bnd hm
 dsimp only at hm
 split at hm
 ·rename_i xs
  cases hm
  refine .inr ⟨ρ,l,S,.tup xs,_,sim,ro,q1,λρ1 H1 x' e1 s1 r1=>?_⟩
  cases r1 with
  | @tup xs a vs ha r=>exact ⟨a,rfl,⟨vs,SqT.of ha⟩,p ρ1 H1 _ e1 s1 (zmn ha r)⟩
 ·rename_i n
  obtain ⟨xs,hx,hm⟩:=bnd hm
  cases hm
  refine .inl ⟨ρ,l,S,.ref n,_,sim,ro,q1,λρ1 H1 x' e1 s1 r1=>?_⟩
  obtain ⟨a,vs,ha,sq,rv⟩:=s1.lstOf hx
  cases r1 with
  | ref hn =>
   rw [ha] at hn;cases hn
   exact ⟨a,rfl,⟨vs,sq⟩,p ρ1 H1 _ e1 s1 (zmo ha)⟩
 ·cases hm
theorem zp8 (hgl:Gl X "range") (hmg:X.mg "range" = none) (ha:PA3 X [a] mA) (hst:starEach [a] X.env=[(false,eval a X.env)]:=by rfl):PI3 X tgt (.Call (.Name "range" p0) [a] [] pos') (zjg (zb9 mA)) :=
 PI.imp (zoh hgl hmg ha hst) λσ H R hx2_=>by
  obtain ⟨ρ,l,S,it,k,S',sim,ro,hm,p⟩:=hx2_
  obtain ⟨⟨⟨lo,n⟩,S1⟩,q1,hm⟩:=bnd hm
  cases hm
  obtain ⟨⟨xs,S2⟩,q2,q1⟩:=bnd q1
  dsimp only at q1
  split at q1
  ·rename_i j
   obtain ⟨hz,e⟩:=zbd q1
   cases e
   refine ⟨ρ,l,S,[.int j],_,sim,ro,q2,λρ1 H1 vs e1 s1 r1=>?_⟩
   obtain ⟨v,rfl,rv⟩:=r1.one
   cases rv
   exact ⟨j,rfl,hz.1,hz.2,p ρ1 H1 _ e1 s1 zyo⟩
  ·cases q1
end
noncomputable def zc2 (it:ItM) (g:GM) (t:TM) (e:EM):Nat->Nat->Lo->Sto->Option (List D × Sto)
 | 0,_,_,_=>none
 | k+1,i,l,S=>(it i S).bind λo=>match o with
  | none=>some ([],S)
  | some x=>(g x l S).bind λp=>(t p.1 p.2).bind λq=>if q.1=true then (e p.1 q.2).bind λr=>(zc2 it g t e k (i+1) p.1 r.2).bind λz=>some (r.1 :: z.1,z.2) else zc2 it g t e k (i+1) p.1 q.2
noncomputable def zbu {α:Type}(ixs:List (Option Nat)) (l:List (Option α)):List (Option α):=ixs.map λo=>match o with
 | some j=>(l[j]?).join
 | none=>none
noncomputable def zcn (im:IM) (ixs:List (Option Nat)) (g:GM) (t:TM) (e:EM):EM:=λl S=>(im l S).bind λp=>(zc2 p.1 g t e p.2.1 0 (zbu ixs l) p.2.2).bind λz=>if z.1.length<=sizeLine then some (.ref z.2.length,z.2++[.lst z.1]) else none
noncomputable def zcu:TM:=λ_ S=>some (true,S)
theorem zmp {ρ:List Addr}{H:Hp}{l:Lo}{σ:St}(ixs:List (Option Nat)) (r:RO ρ H l σ):RO ρ H (zbu ixs l) (zbu ixs σ):=by
 refine ⟨by simp [zbu],λi d h=>?_⟩
 unfold zbu at h ⊢
 rw [qgm] at h ⊢
 cases e:ixs[i]? with
 | none=>rw [e] at h;cases h
 | some o =>
  rw [e] at h
  cases o with
  | none=>cases h
  | some j =>
   have h:((l[j]?).join:Option D)=some d:=qoi h
   cases e2:l[j]? with
   | none=>rw [e2] at h;cases h
   | some o2 =>
    rw [e2] at h
    have h:o2=some d:=h
    subst h
    obtain ⟨v,h1,h2⟩:=r.get j d e2
    exact ⟨v,by show some ((σ[j]?).join)=_;rw [h1];rfl,h2⟩
inductive CI3 (K:QFg) (it:ItM) (g:GM) (t:TM) (e:EM) (S2:Sto) (all:List D) (ρ1:List Addr) (H1:Hp) (Da:Addr) (i m:Nat) (σ':St) (H':Hp):Prop
 | mk (ρ':List Addr) (l':Lo) (S':Sto) (ds:List D) (vs:List V) (rest:List D) (_:Ext ρ1 H1 ρ' H') (_:Sim K ρ' S' H') (_:RO ρ' H' l' σ') (_:H' Da=some (.lst vs)) (_:(∀n:Nat,ρ'[n]?≠some Da)) (_:RDs ρ' H' ds vs) (_:zc2 it g t e m i l' S' = some (rest,S2)) (_:ds++rest=all)
theorem zp9 {K:QFg}{im:IM}{ixs:List (Option Nat)}{g:GM}{t:TM}{e:EM}(σ:St) (H:Hp) (Q:VK) (q:te K (zcn im ixs g t e) σ H Q):zhq K (ti K im) (zbu ixs) (tg K g) (tt K t) (te K e) σ H Q:=by
 obtain ⟨ρ,l,S,v,S',sim,ro,hm,p⟩:=q
 obtain ⟨⟨it,k,S1⟩,q1,hm⟩:=bnd hm
 obtain ⟨⟨all,S2⟩,q2,hm⟩:=bnd hm
 obtain ⟨hz,he⟩:=zbd hm
 cases he
 refine ⟨ρ,l,S,it,k,S1,sim,ro,q1,λρ1 H1 J e1 s1 io D hD hK=>?_⟩
 dsimp only at q2 hz p
 refine ⟨λi m σ' H'=>CI3 K it g t e S2 all ρ1 H1 D i m σ' H',⟨k,?_⟩,?_⟩
 ·exact ⟨ρ1,zbu ixs l,S1,[],[],all,zbx hD,s1.laid hD,(zmp ixs (ro.mono e1)).mono (zbx hD),zbw,s1.notin hD hK,.nil,q2,rfl⟩
 ·rintro i m σ' H' ⟨ρ',l',S',ds,vs,rest,e2,s2,ro2,hD2,hn2,rd2,hc,hall⟩
  cases m with
  | zero=>cases hc
  | succ m =>
   unfold zc2 at hc
   obtain ⟨o,ho,hc⟩:=bnd hc
   obtain ⟨iStop,iGo⟩:=io i ρ' S' H' e2 s2
   cases o with
   | none =>
    cases hc
    rw [List.append_nil] at hall
    subst hall
    refine .inl ⟨iStop ho,p (ρ'++[D]) H' (.ref D) (e1.trans (e2.adopt hD)) (s2.adopt hD2 hn2 rd2) (.ref ?_)⟩
    rw [<-s2.len];exact zfw ρ' D
   | some x =>
    obtain ⟨⟨l3,S3⟩,q3,hc⟩:=bnd hc
    obtain ⟨⟨b,S4⟩,q4,hc⟩:=bnd hc
    obtain ⟨hgo,hy⟩:=iGo x ho
    refine .inr ⟨hgo,_,λσ' H' h=>h,λy H'' hyl=>?_⟩
    obtain ⟨rfl,ry⟩:=hy y H'' hyl
    refine ⟨ρ',l',S',x,l3,S3,s2,ro2,ry,q3,λρ3 H3 σ3 e3 s3 ro3=>⟨ρ3,l3,S3,b,S4,s3,ro3,q4,λρ4 H4 e4 s4=>?_⟩⟩
    obtain ⟨hD3,hn3⟩:=e3.out D _ hD2 hn2
    obtain ⟨hD4,hn4⟩:=e4.out D _ hD3 hn3
    cases b with
    | false=>exact zgg ⟨m,Nat.lt_succ_self m,ρ4,l3,S4,ds,vs,rest,e2.trans (e3.trans e4),s4,ro3.mono e4,hD4,hn4,rd2.mono (e3.trans e4),hc,hall⟩
    | true =>
     have hc:((e l3 S4).bind λr=>(zc2 it g t e m (i+1) l3 r.2).bind λz=>some (r.1 :: z.1,z.2))=some (rest,S2):=hc
     obtain ⟨⟨y5,S5⟩,q5,hc⟩:=bnd hc
     obtain ⟨⟨rest',S6⟩,q6,hc⟩:=bnd hc
     cases hc
     refine zgh ⟨ρ4,l3,S4,y5,S5,s4,ro3.mono e4,q5,λρ5 H5 v5 e5 s5 r5=>?_⟩
     obtain ⟨hD5,hn5⟩:=e5.out D _ hD4 hn4
     have e25:=e2.trans (e3.trans (e4.trans e5))
     have rd5:=rd2.mono (e3.trans (e4.trans e5))
     have hlen:vs.length<sizeLine:=by
      have h1:=rd5.length
      have h2:=congrArg List.length hall
      rw [qla,List.length_cons] at h2
      omega
     refine ⟨vs,hD5,hlen,m,Nat.lt_succ_self m,ρ5,l3,S5,ds++[y5],vs++[v5],rest',e25.beside hD hD5,s5.beside hD5 hn5,?_,zbw,hn5,((rd5.append (.cons r5 .nil)).mono0 (zh4 hD5)),q6,by rw [<-hall];simp⟩
     have r0:=(ro3.mono e4).mono e5
     exact ⟨r0.len,λi d h=>let ⟨w,h1,h2⟩:=r0.get i d h;⟨w,h1,h2.mono0 (zh4 hD5)⟩⟩
theorem zfp {X:Cx}:PTs X [] (tt X.K zcu):=λpins s σ H Q I hx4_=>by
 obtain ⟨ρ,l,S,v,S',sim,ro,hm,p⟩:=hx4_
 cases hm
 exact zyk pins s σ H Q I (p ρ H (Ext.refl ..) sim)
theorem zyp {X:Cx}{c:Expr}{t:TM}(h:PT3 X c t):PTs X [c] (tt X.K t):=zyl h
noncomputable def zmq:D->D->Sto->Option (D × Sto)
 | .int i,.int j,S=>some (.int (i+j),S)
 | .tup xs,.tup ys,S=>if xs.length+ys.length<=sizeLine then some (.tup (xs++ys),S) else none
 | .ref n,.ref m,S=>match S[n]?,S[m]? with
  | some (.lst xs),some (.lst ys)=>if xs.length+ys.length<=sizeLine then some (.ref S.length,S++[.lst (xs++ys)]) else none
  | _,_=>none
 | _,_,_=>none
theorem zyq {K:QFg}:Op3 K zmq (λx y H Q=>rI0 (λi j=>.int (i+j)) x y H Q\/(zl5 K x y H Q\/zmi K x y H Q)\/zpd x y H Q):=by
 intro ρ S H x y x' y' v S' Q sim rx ry h p
 unfold zmq at h
 split at h
 ·cases rx;cases ry;cases h
  exact .inl ⟨_,_,rfl,rfl,p ρ H _ (Ext.refl ..) sim (.int _)⟩
 ·refine .inr (.inl (zx4 ρ S H _ _ x' y' v S' Q sim rx ry ?_ p))
  unfold zmh
  exact h
 ·split at h
  ·rename_i xs ys e1 e2
   obtain ⟨hz,e⟩:=zbd h
   cases e
   obtain ⟨a,us,ha,hH,r2⟩:=sim.lst e1
   obtain ⟨b,ws,hb,hH2,r3⟩:=sim.lst e2
   cases rx with
   | ref hn =>
    rw [ha] at hn;cases hn
    cases ry with
    | ref hm =>
     rw [hb] at hm;cases hm
     exact .inr (.inr ⟨a,b,us,ws,rfl,rfl,hH,hH2,by rw [<-r2.length,<-r3.length];exact hz,zh7 sim (r2.append r3) p⟩)
  ·cases h
 ·cases h
section
variable {X:Cx}{a b:Expr}{ma mb:EM}{pos:Pos}
end
def Has (P:Program) (w:World) (K:QFg) (mg:Str->Option Value) (base:Heap) (x:Str) (k n:Nat) (m:FM):Prop :=
 ∃(f:Addr) (fd:FuncData) (ps:List Str),FnOk P w K mg base CX0 k f fd ps (sp3 K n m)/\mg x=some (.ref f)/\PySem.W.keepIn K (.ref f)=true/\Binds K fd ps []
section
variable {X:Cx}{a:Expr}{es:List Expr}{mA:AM}{pos p:Pos}{x:Str}{k j n:Nat}{m:FM}
theorem zax (F:Has X.prog X.w X.K X.mg X.base x k n m) (hr:Room j X.A) (hkj:k<=j) (hg:Gl X x)
  (ha:PA3 X (a :: es) mA) (hl:∀l S v S',mA l S=some (v,S')->v.length=n) (hdb:(x == ("__debug__":Str))=false:=by decide) (he:starEach (a :: es) X.env=(false,eval a X.env) :: starEach es X.env:=by rfl) (hpl:(backTo pos (starEach es X.env)).any (·.1)=false:=by rfl) :
  PE3 X (.Call (.Name x p) (a :: es) [] pos) (zaf m mA):=by
 obtain ⟨f,fd,ps,F,hm,hk,hb⟩:=F
 exact zye F (hr.mono hkj) hg hm hk hb ha hl hdb he hpl
theorem zyr:bootBuiltins "abs" = some (.builtin "abs"):=by decide +kernel
theorem zmr:bootBuiltins "int" = some (.type "int"):=by decide +kernel
theorem zms:bootBuiltins "tuple" = some (.type "tuple"):=by decide +kernel
theorem zks:bootBuiltins "list" = some (.type "list"):=by decide +kernel
theorem zqa:bootBuiltins "bool" = some (.type "bool"):=by decide +kernel
theorem zmt (hg:Gl X "abs") (hm:X.mg "abs" = none) (ha:PA3 X (a :: es) mA) (he:starEach (a :: es) X.env=(false,eval a X.env) :: starEach es X.env:=by rfl) (hpl:(backTo pos (starEach es X.env)).any (·.1)=false:=by rfl):PE3 X (.Call (.Name "abs" p) (a :: es) [] pos) (zaf zho mA) :=
 zkm zv0 zx6 hg hm zyr ha (by decide) (by decide) he hpl
theorem zhr (hg:Gl X "tuple") (hm:X.mg "tuple" = none) (ha:PA3 X (a :: es) mA) (he:starEach (a :: es) X.env=(false,eval a X.env) :: starEach es X.env:=by rfl) (hpl:(backTo pos (starEach es X.env)).any (·.1)=false:=by rfl):PE3 X (.Call (.Name "tuple" p) (a :: es) [] pos) (zaf zfm mA) :=
 zkn zw3 zx8 hg hm zms ha (by decide) (by decide) he hpl
theorem zmu (hg:Gl X "list") (hm:X.mg "list" = none) (ha:PA3 X (a :: es) mA) (he:starEach (a :: es) X.env=(false,eval a X.env) :: starEach es X.env:=by rfl) (hpl:(backTo pos (starEach es X.env)).any (·.1)=false:=by rfl):PE3 X (.Call (.Name "list" p) (a :: es) [] pos) (zaf zfy mA) :=
 zkn zw2 zx9 hg hm zks ha (by decide) (by decide) he hpl
end
theorem zys {P:Program}{w:World}{K:QFg}{mg:Str->Option Value}{base:Heap}{x:Str}{st:Stmt}{f:Addr}{fd:FuncData}{N ps:List Str}{k n:Nat}{b:SM}(F:Fun K x x st f fd) (hm:mg x=some (.ref f)) (S:FnScope N ps (za3 st)) (hn:ps.length=n) (hb:Binds K fd ps [])
  (hbody:∀(cdv:Value),PySem.W.codeIn K cdv x=true->∀(A:Around) (outer:List Env) (s:Shared) (H:Hp) (E:XK),Room k (A.deeper (envOfC x (za3 st) s.heap.objs.size f cdv)) ->
   zfa (zg1 CX0 P w K mg base N x (za3 st) f cdv A outer s H E).nox (zgf st) b):Has P w K mg base x (k+1) n (zbz N.length b) :=
 ⟨f,fd,ps,zp0 F S hn hbody,hm,F.kp,hb⟩
noncomputable def chk (scO scope:Scope) (NO N':List Str) (ixs:List (Option Nat)):Bool :=
 decide (scope.kind=.function) && (scope.names.all λy=>y.2 != .cell) && (scope.names.all λy=>y.2 != .local || scope.names.lookup y.1 == some .local) &&
 (scope.names.all λy=>y.2 != .free || (scO.names.lookup y.1 == some .cell || scO.names.lookup y.1 == some .free)) && (ixs.length == N'.length) &&
 ((List.range ixs.length).all λi=>match ixs[i]? with|some (some j)=>(NO[j]? == N'[i]? && (match N'[i]? with|some x=>scope.names.lookup x == some .free|none=>false))|_=>true)
theorem zqb {X:Cx}{scO scope:Scope}{NO N':List Str}{ixs:List (Option Nat)}(hX:X.env.scope=scO) (hN:X.N=NO) (h:chk scO scope NO N' ixs=true):CompSc X N' scope (zbu ixs):=by
 unfold chk at h
 simp only [Bool.and_eq_true,decide_eq_true_eq,List.all_eq_true,beq_iff_eq,Bool.or_eq_true,bne_iff_ne,ne_eq] at h
 obtain ⟨⟨⟨⟨⟨h1,h2⟩,h3⟩,h4⟩,h5⟩,h6⟩:=h
 refine ⟨h1,h2,λy hy hl=>?_,λy hy hl=>?_,λy hy=>?_,λσ=>by simp [zbu,h5],λσ i v x hv hx=>?_⟩
 ·rcases h3 y hy with z|z
  ·exact absurd hl z
  ·exact z
 ·show X.env.scope.names.lookup y.1=_\/X.env.scope.names.lookup y.1=_
  rw [hX]
  rcases h4 y hy with z|z
  ·exact absurd hl z
  ·exact z
 ·have mem:∃k,(k=NameKind.cell\/k=NameKind.free)/\(y,k)∈(relabel scope X.env).names:=by
   rcases hy with z|z
   ·exact ⟨_,.inl rfl,PySem.mem_of_lookup z⟩
   ·exact ⟨_,.inr rfl,PySem.mem_of_lookup z⟩
  obtain ⟨k,hk,hm⟩:=mem
  unfold relabel at hm
  obtain ⟨⟨n,k'⟩,hm1,hm2⟩:=List.mem_map.mp hm
  dsimp only at hm2
  split at hm2
  ·rename_i hc
   have:k' = .free:=by
    rw [Bool.and_eq_true,Bool.and_eq_true] at hc
    exact eq_of_beq hc.1.1
   cases hm2
   rw [<-this];exact hm1
  ·cases hm2
   rcases hk with z|z
   ·exact absurd z (h2 _ hm1)
   ·rw [<-z];exact hm1
 ·have hl:i<ixs.length:=by
   have:=(qme hv).1
   simpa [zbu] using this
  unfold zbu at hv
  rw [qgm] at hv
  have q:=h6 i (List.mem_range.mpr hl)
  cases e:ixs[i]? with
  | none=>rw [e] at hv;cases hv
  | some o =>
   rw [e] at hv
   cases o with
   | none=>cases hv
   | some j =>
    rw [e] at q
    dsimp only at q
    rw [hx] at q
    simp only [Bool.and_eq_true,beq_iff_eq] at q
    have hv:((σ[j]?).join:Option V)=some v:=qoi hv
    refine ⟨j,by rw [hN];exact q.1,?_,q.2⟩
    cases e2:σ[j]? with
    | none=>rw [e2] at hv;cases hv
    | some o2=>rw [e2] at hv;have hv:o2=some v:=hv;rw [hv]
theorem zyt {K:QFg}{H:Hp}{a:Addr}{ns:List Int}{m:FM}(hO:zkd H) (hS:SqL K H a (ns.map V.int)) (h:∃S',m [.ref 0] [.flst (ns.map D.int)]=some (.bl true,S')):sp3 K 1 m [.ref a] H (λv _=>v=.bl true) λ_ _ _=>False:=by
 obtain ⟨S',h⟩:=h
 have rn:∀ns:List Int,RDs [a] H (ns.map D.int) (ns.map V.int):=λns=>by
  induction ns with
  | nil=>exact .nil
  | cons x r ih=>exact .cons (.int x) ih
 refine ⟨rfl,[a],[.ref 0],_,_,S',⟨rfl,λi j b o1 o2 h1 h2 h3 h4 m1 m2=>?_,λn b o h1 h2=>?_⟩,.cons (.ref rfl) .nil,h,λρ' H' v' e s r=>?_⟩
 ·cases i with
  | zero=>cases h3;cases m1
  | succ i=>cases h3
 ·cases n with
  | succ n=>cases h1
  | zero =>
   cases h1;cases h2
   refine ⟨_,?_,rn ns⟩
   rcases hS with (z|⟨o,z⟩)|z
   ·rcases hO a with y|⟨o,xs,y⟩ <;> (rw [z] at y;cases y)
   ·exact .inl ⟨o,z⟩
   ·exact .inr z
 ·cases r;rfl
noncomputable def top (b:List Stmt) (i:Nat):Stmt:=b.getD i (.Pass ⟨0,0,0,0⟩)
def We (m:EM) (l:Lo) (S:Sto) (Q:D->Sto->Prop):Prop:=∃v S',m l S=some (v,S')/\Q v S'
def Wt (m:TM) (l:Lo) (S:Sto) (Q:Bool->Sto->Prop):Prop:=∃v S',m l S=some (v,S')/\Q v S'
def Wa (m:AM) (l:Lo) (S:Sto) (Q:List D->Sto->Prop):Prop:=∃v S',m l S=some (v,S')/\Q v S'
def Wo (o:Option (D × Sto)) (Q:D->Sto->Prop):Prop:=∃v S',o=some (v,S')/\Q v S'
def Wg (o:Option (Lo × Sto)) (Q:Lo->Sto->Prop):Prop:=∃l S',o=some (l,S')/\Q l S'
def Wr (o:Option (Fl × Lo × Sto)) (Q:Fl->Lo->Sto->Prop):Prop:=∃f l S',o=some (f,l,S')/\Q f l S'
abbrev Ws (m:SM) (l:Lo) (S:Sto) (Q:Fl->Lo->Sto->Prop):Prop:=Wr (m l S) Q
section
variable {a b c:EM}{t u:TM}{l:Lo}{S:Sto}{Q:D->Sto->Prop}{QB:Bool->Sto->Prop}{QA:List D->Sto->Prop}{QS:Fl->Lo->Sto->Prop}{QG:Lo->Sto->Prop}
theorem zak {i:Nat}:We (zaa i) l S Q = ∃d,l[i]? = some (some d)/\Q d S:=by
 apply propext;unfold We zaa
 constructor
 ·rintro ⟨v,S',h,q⟩
  split at h
  ·rename_i d e;cases h;exact ⟨_,e,q⟩
  ·cases h
 ·rintro ⟨d,e,q⟩
  exact ⟨d,S,by rw [e],q⟩
theorem zbv {d:D}:We (eC d) l S Q=Q d S:=by
 apply propext;unfold We eC
 exact ⟨λhx1_=>by obtain ⟨v,S',h,q⟩:=hx1_;cases h;exact q,λq=>⟨_,_,rfl,q⟩⟩
theorem zbt {f:D->D->Sto->Option (D × Sto)}:We (eOp f a b) l S Q=We a l S λx S1=>We b l S1 λy S2=>Wo (f x y S2) Q:=by
 apply propext
 constructor
 ·rintro ⟨v,S',h,q⟩
  obtain ⟨⟨x,S1⟩,h1,h⟩:=bnd h
  obtain ⟨⟨y,S2⟩,h2,h⟩:=bnd h
  exact ⟨x,S1,h1,y,S2,h2,v,S',h,q⟩
 ·rintro ⟨x,S1,h1,y,S2,h2,v,S',h,q⟩
  exact ⟨v,S',by unfold eOp;rw [h1];show (b l S1).bind _=_;rw [h2];exact h,q⟩
theorem zb5 {f:D->Sto->Option (D × Sto)}:We (eUn f a) l S Q=We a l S λx S1=>Wo (f x S1) Q:=by
 apply propext
 constructor
 ·rintro ⟨v,S',h,q⟩
  obtain ⟨⟨x,S1⟩,h1,h⟩:=bnd h
  exact ⟨x,S1,h1,v,S',h,q⟩
 ·rintro ⟨x,S1,h1,v,S',h,q⟩
  exact ⟨v,S',by unfold eUn;rw [h1];exact h,q⟩
theorem zbk:Wa zae l S QA=QA [] S:=by
 apply propext
 exact ⟨λhx2_=>by obtain ⟨v,S',h,q⟩:=hx2_;cases h;exact q,λq=>⟨_,_,rfl,q⟩⟩
theorem za6 {r:AM}:Wa (zab a r) l S QA=We a l S λx S1=>Wa r l S1 λxs S2=>QA (x :: xs) S2:=by
 apply propext
 constructor
 ·rintro ⟨v,S',h,q⟩
  obtain ⟨⟨x,S1⟩,h1,h⟩:=bnd h
  obtain ⟨⟨y,S2⟩,h2,h⟩:=bnd h
  cases h
  exact ⟨x,S1,h1,y,_,h2,q⟩
 ·rintro ⟨x,S1,h1,y,S2,h2,q⟩
  exact ⟨x :: y,S2,by unfold zab;rw [h1];show (r l S1).bind _=_;rw [h2];rfl,q⟩
theorem zbe {f:FM}{r:AM}:We (zaf f r) l S Q=Wa r l S λxs S1=>Wo (f xs S1) Q:=by
 apply propext
 constructor
 ·rintro ⟨v,S',h,q⟩
  obtain ⟨⟨x,S1⟩,h1,h⟩:=bnd h
  exact ⟨x,S1,h1,v,S',h,q⟩
 ·rintro ⟨x,S1,h1,v,S',h,q⟩
  exact ⟨v,S',by unfold zaf;rw [h1];exact h,q⟩
theorem zca {f:D->List D->Sto->Option (D × Sto)}{r:AM}:We (zc9 f a r) l S Q=We a l S λx S1=>(∃xs,zia x S1=some xs)/\Wa r l S1 λys S2=>Wo (f x ys S2) Q:=by
 apply propext
 constructor
 ·rintro ⟨v,S',h,q⟩
  obtain ⟨⟨x,S1⟩,h1,h⟩:=bnd h
  obtain ⟨xs,h2,h⟩:=bnd h
  obtain ⟨⟨y,S2⟩,h3,h⟩:=bnd h
  exact ⟨x,S1,h1,⟨xs,h2⟩,y,S2,h3,v,S',h,q⟩
 ·rintro ⟨x,S1,h1,⟨xs,h2⟩,y,S2,h3,v,S',h,q⟩
  refine ⟨v,S',?_,q⟩
  unfold zc9;rw [h1];show (zia x S1).bind _=_;rw [h2];show (r l S1).bind _=_;rw [h3];exact h
theorem zco:Wt (tE a) l S QB=We a l S λx S1=>∃k,x=.bl k/\QB k S1:=by
 apply propext
 constructor
 ·rintro ⟨v,S',h,q⟩
  obtain ⟨⟨x,S1⟩,h1,h⟩:=bnd h
  refine ⟨x,S1,h1,?_⟩
  cases x with
  | bl k=>cases h;exact ⟨_,rfl,q⟩
  | _=>cases h
 ·rintro ⟨x,S1,h1,k,rfl,q⟩
  exact ⟨k,S1,by unfold tE;rw [h1];rfl,q⟩
theorem zd4:Wt (zc5 t u) l S QB=Wt t l S λk S1=>if k=true then Wt u l S1 QB else QB false S1:=by
 apply propext
 constructor
 ·rintro ⟨v,S',h,q⟩
  obtain ⟨⟨x,S1⟩,h1,h⟩:=bnd h
  refine ⟨x,S1,h1,?_⟩
  cases x with
  | true=>exact ⟨v,S',h,q⟩
  | false=>cases h;exact q
 ·rintro ⟨x,S1,h1,h⟩
  cases x with
  | true=>obtain ⟨v,S',h,q⟩:=h;exact ⟨v,S',by unfold zc5;rw [h1];exact h,q⟩
  | false=>exact ⟨false,S1,by unfold zc5;rw [h1];rfl,h⟩
theorem zcv:Wt (zd0 t u) l S QB=Wt t l S λk S1=>if k=true then QB true S1 else Wt u l S1 QB:=by
 apply propext
 constructor
 ·rintro ⟨v,S',h,q⟩
  obtain ⟨⟨x,S1⟩,h1,h⟩:=bnd h
  refine ⟨x,S1,h1,?_⟩
  cases x with
  | false=>exact ⟨v,S',h,q⟩
  | true=>cases h;exact q
 ·rintro ⟨x,S1,h1,h⟩
  cases x with
  | false=>obtain ⟨v,S',h,q⟩:=h;exact ⟨v,S',by unfold zd0;rw [h1];exact h,q⟩
  | true=>exact ⟨true,S1,by unfold zd0;rw [h1];rfl,h⟩
theorem zcw:Wt (zdm t) l S QB=Wt t l S λk S1=>QB (!k) S1:=by
 apply propext
 constructor
 ·rintro ⟨v,S',h,q⟩
  obtain ⟨⟨x,S1⟩,h1,h⟩:=bnd h
  cases h
  exact ⟨x,_,h1,q⟩
 ·rintro ⟨x,S1,h1,q⟩
  exact ⟨!x,S1,by unfold zdm;rw [h1];rfl,q⟩
theorem zkt:Wt zcu l S QB=QB true S:=by
 apply propext
 exact ⟨λhx3_=>by obtain ⟨v,S',h,q⟩:=hx3_;cases h;exact q,λq=>⟨_,_,rfl,q⟩⟩
theorem zc6:We (zgj a b) l S Q=We a l S λx S1=>∃k,x=.bl k/\if k=true then We b l S1 Q else Q (.bl false) S1:=by
 apply propext
 constructor
 ·rintro ⟨v,S',h,q⟩
  obtain ⟨⟨x,S1⟩,h1,h⟩:=bnd h
  refine ⟨x,S1,h1,?_⟩
  cases x with
  | bl k =>
   cases k with
   | true=>exact ⟨true,rfl,v,S',h,q⟩
   | false=>cases h;exact ⟨false,rfl,q⟩
  | _=>cases h
 ·rintro ⟨x,S1,h1,k,rfl,h⟩
  cases k with
  | true=>obtain ⟨v,S',h,q⟩:=h;exact ⟨v,S',by unfold zgj;rw [h1];exact h,q⟩
  | false=>exact ⟨_,S1,by unfold zgj;rw [h1];rfl,h⟩
theorem zd5:We (zki a) l S Q=We a l S λx S1=>∃k,x=.bl k/\Q (.bl (!k)) S1:=by
 apply propext
 constructor
 ·rintro ⟨v,S',h,q⟩
  obtain ⟨⟨x,S1⟩,h1,h⟩:=bnd h
  refine ⟨x,S1,h1,?_⟩
  cases x with
  | bl k=>cases h;exact ⟨k,rfl,q⟩
  | _=>cases h
 ·rintro ⟨x,S1,h1,k,rfl,h⟩
  exact ⟨_,S1,by unfold zki;rw [h1];rfl,h⟩
theorem zej:We (zi9 t a b) l S Q=Wt t l S λk S1=>if k=true then We a l S1 Q else We b l S1 Q:=by
 apply propext
 constructor
 ·rintro ⟨v,S',h,q⟩
  obtain ⟨⟨x,S1⟩,h1,h⟩:=bnd h
  refine ⟨x,S1,h1,?_⟩
  cases x with
  | true=>exact ⟨v,S',h,q⟩
  | false=>exact ⟨v,S',h,q⟩
 ·rintro ⟨x,S1,h1,h⟩
  cases x with
  | true=>obtain ⟨v,S',h,q⟩:=h;exact ⟨v,S',by unfold zi9;rw [h1];exact h,q⟩
  | false=>obtain ⟨v,S',h,q⟩:=h;exact ⟨v,S',by unfold zi9;rw [h1];exact h,q⟩
variable {m n:SM}
theorem zek:Ws zbn l S QS=QS .nx l S:=by
 apply propext
 exact ⟨λhx4_=>by obtain ⟨f,v,S',h,q⟩:=hx4_;cases h;exact q,λq=>⟨_,_,_,rfl,q⟩⟩
theorem zc3:Ws (zam m n) l S QS=Ws m l S λf l1 S1=>match f with | .nx=>Ws n l1 S1 QS|f=>QS f l1 S1:=by
 apply propext
 constructor
 ·rintro ⟨f,v,S',h,q⟩
  obtain ⟨⟨g,l1,S1⟩,h1,h⟩:=bnd h
  refine ⟨g,l1,S1,h1,?_⟩
  cases g with
  | nx=>exact ⟨f,v,S',h,q⟩
  | _=>cases h;exact q
 ·rintro ⟨g,l1,S1,h1,h⟩
  cases g with
  | nx=>obtain ⟨f,v,S',h,q⟩:=h;exact ⟨f,v,S',by unfold zam;rw [h1];exact h,q⟩
  | bk=>exact ⟨_,_,_,by unfold zam;rw [h1];rfl,h⟩
  | ct=>exact ⟨_,_,_,by unfold zam;rw [h1];rfl,h⟩
  | rt d=>exact ⟨_,_,_,by unfold zam;rw [h1];rfl,h⟩
theorem zaz (R:Lo->Sto->Prop) (h1:Ws m l S λf l1 S1=>f=.nx/\R l1 S1) (h2:∀l1 S1,R l1 S1->Ws n l1 S1 QS):Ws (zam m n) l S QS:=by
 rw [zc3]
 obtain ⟨f,l1,S1,e,rfl,r⟩:=h1
 exact ⟨_,_,_,e,h2 l1 S1 r⟩
theorem zbm:Ws (sIf t m n) l S QS=Wt t l S λk S1=>if k=true then Ws m l S1 QS else Ws n l S1 QS:=by
 apply propext
 constructor
 ·rintro ⟨f,v,S',h,q⟩
  obtain ⟨⟨x,S1⟩,h1,h⟩:=bnd h
  refine ⟨x,S1,h1,?_⟩
  cases x with
  | true=>exact ⟨f,v,S',h,q⟩
  | false=>exact ⟨f,v,S',h,q⟩
 ·rintro ⟨x,S1,h1,h⟩
  cases x with
  | true=>obtain ⟨f,v,S',h,q⟩:=h;exact ⟨f,v,S',by unfold sIf;rw [h1];exact h,q⟩
  | false=>obtain ⟨f,v,S',h,q⟩:=h;exact ⟨f,v,S',by unfold sIf;rw [h1];exact h,q⟩
theorem zcb:Ws (ze4 a) l S QS=We a l S λ_ S1=>QS .nx l S1:=by
 apply propext
 constructor
 ·rintro ⟨f,v,S',h,q⟩
  obtain ⟨⟨x,S1⟩,h1,h⟩:=bnd h
  cases h
  exact ⟨x,_,h1,q⟩
 ·rintro ⟨x,S1,h1,q⟩
  exact ⟨_,_,_,by unfold ze4;rw [h1];rfl,q⟩
theorem zcc:Ws (za5 a) l S QS=We a l S λx S1=>QS (.rt x) l S1:=by
 apply propext
 constructor
 ·rintro ⟨f,v,S',h,q⟩
  obtain ⟨⟨x,S1⟩,h1,h⟩:=bnd h
  cases h
  exact ⟨x,_,h1,q⟩
 ·rintro ⟨x,S1,h1,q⟩
  exact ⟨_,_,_,by unfold za5;rw [h1];rfl,q⟩
theorem zbg {g:GM}:Ws (zaq a g) l S QS=We a l S λx S1=>Wg (g x l S1) λl2 S2=>QS .nx l2 S2:=by
 apply propext
 constructor
 ·rintro ⟨f,v,S',h,q⟩
  obtain ⟨⟨x,S1⟩,h1,h⟩:=bnd h
  obtain ⟨⟨l2,S2⟩,h2,h⟩:=bnd h
  cases h
  exact ⟨x,S1,h1,_,_,h2,q⟩
 ·rintro ⟨x,S1,h1,l2,S2,h2,q⟩
  refine ⟨_,_,_,?_,q⟩
  unfold zaq;rw [h1];show (g x l S1).bind _=_;rw [h2];rfl
theorem za0 {i:Nat}{d:D}:Wg (zal i d l S) QG=QG (l.set i (some d)) S:=by
 apply propext
 exact ⟨λhx7_=>by obtain ⟨v,S',h,q⟩:=hx7_;cases h;exact q,λq=>⟨_,_,rfl,q⟩⟩
theorem zcf {k:Nat}{gs:GsM}{xs:List D}:Wg (ze6 k gs (.tup xs) l S) QG=(xs.length=k/\Wg (gs xs l S) QG):=by
 apply propext
 constructor
 ·rintro ⟨v,S',h,q⟩
  have h:(if xs.length=k then gs xs l S else none)=some (v,S'):=h
  by_cases hl:xs.length=k
  ·rw [if_pos hl] at h;exact ⟨hl,v,S',h,q⟩
  ·rw [if_neg hl] at h;cases h
 ·rintro ⟨hl,v,S',h,q⟩
  exact ⟨v,S',by show (if xs.length=k then gs xs l S else none)=_;rw [if_pos hl];exact h,q⟩
theorem zcg:Wg (ze5 [] l S) QG=QG l S:=by
 apply propext
 exact ⟨λhx8_=>by obtain ⟨v,S',h,q⟩:=hx8_;cases h;exact q,λq=>⟨_,_,rfl,q⟩⟩
theorem zch {g:GM}{gs:GsM}{x:D}{xs:List D}:Wg (zb8 g gs (x :: xs) l S) QG=Wg (g x l S) λl1 S1=>Wg (gs xs l1 S1) QG:=by
 apply propext
 constructor
 ·rintro ⟨v,S',h,q⟩
  obtain ⟨⟨l1,S1⟩,h1,h⟩:=bnd h
  exact ⟨l1,S1,h1,v,S',h,q⟩
 ·rintro ⟨l1,S1,h1,v,S',h,q⟩
  exact ⟨v,S',by show (g x l S).bind _=_;rw [h1];exact h,q⟩
theorem zdn {o i:EM}{v:D}:Wg (zfz o i v l S) QG=We o l S λx S1=>We i l S1 λy S2=>∃S',zd3 x y v S2=some S'/\QG l S':=by
 apply propext
 constructor
 ·rintro ⟨l',S',h,q⟩
  obtain ⟨⟨x,S1⟩,h1,h⟩:=bnd h
  obtain ⟨⟨y,S2⟩,h2,h⟩:=bnd h
  obtain ⟨S3,h3,h⟩:=bnd h
  cases h
  exact ⟨x,S1,h1,y,S2,h2,_,h3,q⟩
 ·rintro ⟨x,S1,h1,y,S2,h2,S3,h3,q⟩
  refine ⟨l,S3,?_,q⟩
  unfold zfz;rw [h1];show (i l S1).bind _=_;rw [h2];show (zd3 x y v S2).bind _=_;rw [h3];rfl
theorem zbb {d:D}:Wo (some (d,S)) Q=Q d S:=by
 apply propext
 exact ⟨λhx9_=>by obtain ⟨v,S',h,q⟩:=hx9_;cases h;exact q,λq=>⟨_,_,rfl,q⟩⟩
theorem zg6 {α:Type}{o:Option α}{f:α->Option (D × Sto)}:Wo (o.bind f) Q = ∃x,o=some x/\Wo (f x) Q:=by
 cases o with
 | none=>simp [Wo]
 | some x=>simp [Wo]
theorem zg7 {p:Prop} [Decidable p] {x:D × Sto}:Wo (if p then some x else none) Q=(p/\Q x.1 x.2):=by
 obtain ⟨a,b⟩:=x
 by_cases hp:p
 ·rw [if_pos hp]
  apply propext
  exact ⟨λhx10_=>by obtain ⟨v,S',h,q⟩:=hx10_;cases h;exact ⟨hp,q⟩,λq=>⟨a,b,rfl,q.2⟩⟩
 ·simp [hp,Wo]
theorem zd6 {g:Int->Int->D}{i j:Int}:Wo (oI0 g (.int i) (.int j) S) Q=Q (g i j) S:=zbb
theorem zd7 {C:Int->Int->Bool}{g:Int->Int->D}{i j:Int}:Wo (oI C g (.int i) (.int j) S) Q=(C i j=true/\Q (g i j) S):=zg7
theorem zd8 {xs:List D}{i:Int}:Wo (dIx (.tup xs) (.int i) S) Q = ∃v,L2.atI xs i=some v/\Q v S:=by
 show Wo ((L2.atI xs i).bind λv=>some (v,S)) Q=_
 rw [zg6];simp only [zbb]
theorem zd9 {k:Nat}{i:Int}:Wo (dIx (.ref k) (.int i) S) Q = ∃xs,lstOf S k=some xs/\∃v,L2.atI xs i=some v/\Q v S:=by
 show Wo ((lstOf S k).bind λxs=>(L2.atI xs i).bind λv=>some (v,S)) Q=_
 rw [zg6];simp only [zg6,zbb]
theorem zea {xs:List D}:Wo (zje [.tup xs] S) Q=Q (.int xs.length) S:=zbb
theorem zeb {k:Nat}:Wo (zje [.ref k] S) Q = ∃xs,lstOf S k=some xs/\Q (.int xs.length) S:=by
 show Wo ((lstOf S k).bind λxs=>some (.int xs.length,S)) Q=_
 rw [zg6];simp only [zbb]
theorem zel {i:Int}:Wo (zho [.int i] S) Q=Q (.int (if i<0 then -i else i)) S:=zbb
theorem zc7 {xs:List D}:Wo (zau xs S) Q=(xs.length<=sizeLine/\Q (.tup xs) S):=zg7
theorem zcp {xs:List D}:Wo (zb7 xs S) Q=(xs.length<=sizeLine/\Q (.ref S.length) (S++[.lst xs])):=zg7
theorem zdh {k:Nat}:Wo (zfm [.ref k] S) Q = ∃xs,lstOf S k=some xs/\Q (.tup xs) S:=by
 show Wo ((lstOf S k).bind λxs=>some (.tup xs,S)) Q=_
 rw [zg6];simp only [zbb]
theorem zem {i j:Int}:Wo (dEq (.int i) (.int j) S) Q=Q (.bl (decide (i=j))) S:=zbb
theorem zen {i j:Str}:Wo (dNe (.str i) (.str j) S) Q=Q (.bl (!decide (i=j))) S:=zbb
theorem zeo {x:D}:Wo (dIs x .non S) Q=Q (.bl (ze0 x)) S:=by
 cases x <;> exact zbb
theorem zep {x:D}:Wo (ze1 x .non S) Q=Q (.bl (!ze0 x)) S:=by
 cases x <;> exact zbb
theorem zyu {k:Nat}{x:D}:Wo (zfe (.ref k) [x] S) Q = ∃xs,S[k]? = some (.lst xs)/\xs.length<sizeLine/\Q .non (S.set k (.lst (xs++[x]))):=by
 show Wo (match S[k]? with|some (.lst xs)=>if xs.length<sizeLine then some (.non,S.set k (.lst (xs++[x]))) else none|_=>none) Q=_
 cases e:S[k]? with
 | none=>simp [Wo]
 | some o =>
  cases o with
  | lst xs=>simp [zg7]
  | flst xs=>simp [Wo]
  | iset f n=>simp [Wo]
  | dct kvs=>simp [Wo]
  | fdct kvs=>simp [Wo]
  | ftdct kvs=>simp [Wo]
  | tset ks=>simp [Wo]
  | fnc x=>simp [Wo]
  | tdct kvs=>simp [Wo]
  | exc c=>simp [Wo]
  | tab x=>simp [Wo]
  | lam g caps=>simp [Wo]
  | dead=>simp [Wo]
theorem zbc {k:Nat}{b:SM}{ds:List D}:Wo (zbz k b ds S) Q=Ws b (ds.map some++List.replicate (k-ds.length) none) S λf _ S1=>match f with | .rt d=>Q d S1 | .nx=>Q .non S1|_=>False:=by
 apply propext
 constructor
 ·rintro ⟨v,S',h,q⟩
  obtain ⟨⟨f,l1,S1⟩,h1,h⟩:=bnd h
  refine ⟨f,l1,S1,h1,?_⟩
  cases f with
  | rt d=>cases h;exact q
  | nx=>cases h;exact q
  | bk=>cases h
  | ct=>cases h
 ·rintro ⟨f,l1,S1,h1,q⟩
  cases f with
  | rt d=>exact ⟨_,_,by unfold zbz;rw [h1];rfl,q⟩
  | nx=>exact ⟨_,_,by unfold zbz;rw [h1];rfl,q⟩
  | bk=>cases q
  | ct=>cases q
end
theorem Wo.mono {o:Option (D × Sto)}{Q Q':D->Sto->Prop}(h:Wo o Q) (i:∀v S,Q v S->Q' v S):Wo o Q':=let ⟨v,S,e,q⟩:=h;⟨v,S,e,i v S q⟩
theorem Wr.mono {o:Option (Fl × Lo × Sto)}{Q Q':Fl->Lo->Sto->Prop}(h:Wr o Q) (i:∀f v S,Q f v S->Q' f v S):Wr o Q':=let ⟨f,v,S,e,q⟩:=h;⟨f,v,S,e,i f v S q⟩
section
variable {g:GM}{b:SM}{l:Lo}{S:Sto}{QS:Fl->Lo->Sto->Prop}
theorem zyv {as:AM}:Ws (zfg (zb9 as) g b) l S QS=Wa as l S λxs S1=>∃j,xs=[.int j]/\(-(2 ^ 62)<=j/\j<2 ^ 62)/\Wr (zff g b (zb3 0 j.toNat) l S1) QS:=by
 apply propext
 constructor
 ·rintro ⟨f,v,S',h,q⟩
  obtain ⟨⟨⟨lo,n⟩,S1⟩,h1,h⟩:=bnd h
  obtain ⟨⟨xs,S2⟩,h2,h1⟩:=bnd h1
  dsimp only at h1
  split at h1
  ·rename_i j
   obtain ⟨hz,e⟩:=zbd h1
   cases e
   exact ⟨_,_,h2,j,rfl,hz,f,v,S',h,q⟩
  ·cases h1
 ·rintro ⟨xs,S1,h1,j,rfl,hz,f,v,S',h,q⟩
  refine ⟨f,v,S',?_,q⟩
  have:zb9 as l S=some ((0,j.toNat),S1):=by
   unfold zb9;rw [h1];show (if _ then _ else _)=_;rw [if_pos hz]
  unfold zfg;show (zb9 as l S).bind _=_;rw [this];exact h
theorem zyw {e:EM}:Ws (zjf e g b) l S QS=We e l S λx S1=>Wr (match x with | .tup xs=>zff g b xs l S1 | .ref n=>(lstOf S1 n).bind λxs=>zg4 g b n (xs.length+1) 0 l S1|_=>none) QS:=by
 apply propext
 constructor
 ·rintro ⟨f,v,S',h,q⟩
  obtain ⟨⟨x,S1⟩,h1,h⟩:=bnd h
  exact ⟨x,S1,h1,f,v,S',h,q⟩
 ·rintro ⟨x,S1,h1,f,v,S',h,q⟩
  exact ⟨f,v,S',by unfold zjf;rw [h1];exact h,q⟩
theorem zmv {lo:Int}{n i:Nat}{x:D}(h:(zb3 lo n)[i]? = some x):i<n/\x=.int (lo+i):=by
 have hl:=(qme h).1
 simp only [zb3,qlm,List.length_range] at hl
 unfold zb3 at h
 rw [qgm,List.getElem?_range hl] at h
 exact ⟨hl,(qoi h).symm⟩
theorem zjh (lo:Int) (n:Nat):(zb3 lo n).length=n:=by simp [zb3]
end
mutual
noncomputable def zat (S:Sto):Nat->D->Option PyData
 | 0,_=>none
 | _+1,.non=>some .none
 | _+1,.bl b=>some (.bool b)
 | _+1,.int i=>if i.natAbs.log2<1920 then some (.int i) else none
 | _+1,.str x=>some (.str x)
 | k+1,.tup xs=>(pyAll S k xs).bind λds=>some (.tuple ds)
 | k+1,.ref n=>(lstOf S n).bind λxs=>(pyAll S k xs).bind λds=>some (.list ds)
 | _+1,.fn _=>none
termination_by k=>(k,0)
noncomputable def pyAll (S:Sto):Nat->List D->Option (List PyData)
 | _,[]=>some []
 | k,x :: xs=>(zat S k x).bind λd=>(pyAll S k xs).bind λds=>some (d :: ds)
termination_by k xs=>(k,xs.length+1)
end
noncomputable def zgq:FM
 | [x],S=>(zat S 140 x).bind λd=>if d.shown.length<=sizeLine then some (.str d.shown,S) else none
 | _,_=>none
section
variable {X:Cx}{pins:List (Addr × Obj)}{σ:St}{H:Hp}{s:Shared}{ρ:List Addr}{S:Sto}
theorem zmw (I:Inv X pins σ H s) (sim:Sim X.K ρ S H) {k:Nat}(ih:∀(d:D) (v:V) (u:Value) (p:PyData),RD ρ H d v->RelV v u->zat S k d=some p->(∃as,Reads s.heap u p as)/\p.showable=true/\p.hasDict=false/\p.depth<=k):∀(xs:List D) (vs:List V) (us:List Value) (ds:List PyData),RDs ρ H xs vs->Vals vs us->pyAll S k xs=some ds->(∃as,ReadsAll s.heap us ds as)/\PyData.showableAll ds=true/\PyData.hasDictAll ds=false/\PyData.depthAll ds<=k:=by
 intro xs
 induction xs with
 | nil =>
  intro vs us ds r e h
  unfold pyAll at h;cases h;cases r;cases e
  exact ⟨⟨_,.nil⟩,rfl,rfl,Nat.zero_le _⟩
 | cons x xs ihx =>
  intro vs us ds r e h
  unfold pyAll at h
  obtain ⟨d,h1,h⟩:=bnd h
  obtain ⟨ds',h2,h⟩:=bnd h
  cases h
  cases r with
  | cons r1 r2 =>
   cases e with
   | cons e1 e2 =>
    obtain ⟨⟨as,q1⟩,q2,q3,q4⟩:=ih x _ _ d r1 e1 h1
    obtain ⟨⟨bs,p1⟩,p2,p3,p4⟩:=ihx _ _ ds' r2 e2 h2
    refine ⟨⟨_,.cons q1 p1⟩,?_,?_,?_⟩
    ·unfold PyData.showableAll;rw [q2,p2];rfl
    ·unfold PyData.hasDictAll;rw [q3,p3];rfl
    ·unfold PyData.depthAll;omega
theorem zji (I:Inv X pins σ H s) (sim:Sim X.K ρ S H):∀(k:Nat) (d:D) (v:V) (u:Value) (p:PyData),RD ρ H d v->RelV v u->zat S k d=some p->(∃as,Reads s.heap u p as)/\p.showable=true/\p.hasDict=false/\p.depth<=k:=by
 intro k
 induction k with
 | zero=>intro d v u p _ _ h;unfold zat at h;cases h
 | succ k ih =>
  intro d v u p r e h
  cases d with
  | non  =>
   unfold zat at h;cases h;cases r;cases e
   exact ⟨⟨_,.none⟩,rfl,rfl,Nat.zero_le _⟩
  | bl b =>
   unfold zat at h;cases h;cases r;cases e
   exact ⟨⟨_,.bool b⟩,rfl,rfl,Nat.zero_le _⟩
  | int i =>
   unfold zat at h
   obtain ⟨hz,e2⟩:=zbd h
   cases e2;cases r
   obtain ⟨t,rfl⟩:=e
   exact ⟨⟨_,.int i t⟩,by unfold PyData.showable;exact decide_eq_true hz,rfl,Nat.zero_le _⟩
  | str x =>
   unfold zat at h;cases h;cases r
   obtain ⟨t,rfl⟩:=e
   exact ⟨⟨_,.str x t⟩,rfl,rfl,Nat.zero_le _⟩
  | fn _=>unfold zat at h;cases h
  | tup xs =>
   unfold zat at h
   obtain ⟨ds,h1,h⟩:=bnd h
   cases h
   cases r with
   | tup ha r =>
    cases e
    obtain ⟨its,rv,⟨o,ho,hc,n,hd⟩,hz⟩:=I.tuple (SqT.of ha)
    obtain ⟨⟨as,h2⟩,h3,h4,h5⟩:=zmw I sim ih xs _ _ ds r rv h1
    refine ⟨⟨as,.tuple ho hc hd (by simpa using h2)⟩,?_,?_,?_⟩
    ·unfold PyData.showable;exact h3
    ·unfold PyData.hasDict;exact h4
    ·unfold PyData.depth;omega
  | ref n =>
   unfold zat at h
   obtain ⟨xs,h0,h⟩:=bnd h
   obtain ⟨ds,h1,h⟩:=bnd h
   cases h
   obtain ⟨a,vs,ha,sq,rd⟩:=sim.lstOf h0
   cases r with
   | ref hn =>
    rw [ha] at hn;cases hn
    cases e
    obtain ⟨its,rv,pl,hz⟩:=I.list sq
    obtain ⟨o,ho,hc,m,hd⟩:=pl.isList
    obtain ⟨⟨as,h2⟩,h3,h4,h5⟩:=zmw I sim ih xs _ _ ds rd rv h1
    refine ⟨⟨_,.list ho hc hd (by simpa using h2)⟩,?_,?_,?_⟩
    ·unfold PyData.showable;exact h3
    ·unfold PyData.hasDict;exact h4
    ·unfold PyData.depth;omega
theorem zyx (I:Inv X pins σ H s) (sim:Sim X.K ρ S H):∀(k:Nat) (xs:List D) (vs:List V) (us:List Value) (ds:List PyData),RDs ρ H xs vs->Vals vs us->pyAll S k xs=some ds->(∃as,ReadsAll s.heap us ds as)/\PyData.showableAll ds=true/\PyData.hasDictAll ds=false/\PyData.depthAll ds<=k
 | k=>zmw I sim (zji I sim k)
end
section
variable {X:Cx}{a:Expr}{es:List Expr}{mA:AM}{pos p:Pos}
theorem zyy {k:Nat}(hr:Room k X.A):CallR X (.builtin "repr") (λxs H Q=>∃v ρ S d pd,xs=[v]/\Sim X.K ρ S H/\RD ρ H d v/\zat S 140 d=some pd/\pd.shown.length<=sizeLine/\Q (.str pd.shown) H):=by
 intro pins s σ H xs us Q I r h
 obtain ⟨v,ρ,S,d,pd,rfl,sim,rd,hp,hz,q⟩:=h
 obtain ⟨u,rfl,ru⟩:=ze9 r
 have key:=zji I sim 140 d v u pd rd ru hp
 have byRef:∀a,u=.ref a->wpAny (model X.prog X.w) X.A (call (.builtin "repr") [u]) (EP X pins σ Q) X.xe s:=λb hb=>by
  subst hb
  obtain ⟨⟨as,h1⟩,h2,h3,h4⟩:=key
  have hu:X.A.units+(pd.depth+1)<cLine:=by have:=hr.un;omega
  refine repr_of_reads' h1 h2 (λz=>by rw [h3] at z;cases z) hr.gd hu (λ_ _ e=>e) (λh' u tk hk=>?_) hz
  exact ⟨.str pd.shown,H,I.kept hk,⟨u,rfl⟩,q⟩
 have hp':=hp
 cases rd with
 | non=>cases ru;unfold zat at hp';cases hp';exact P.repr_of_none ⟨.str _,H,I.tok _,⟨_,rfl⟩,q⟩
 | bl b=>cases ru;unfold zat at hp';cases hp';exact P.repr_of_bool ⟨.str _,H,I.tok _,⟨_,by cases b <;> rfl⟩,q⟩
 | int i =>
  obtain ⟨t,rfl⟩:=ru
  unfold zat at hp'
  obtain ⟨hi,e⟩:=zbd hp'
  cases e
  exact P.repr_of_int hi ⟨.str _,H,I.tok _,⟨_,rfl⟩,q⟩
 | str x=>obtain ⟨t,rfl⟩:=ru;unfold zat at hp';cases hp';exact P.repr_of_str ⟨.str _,H,I.tok _,⟨_,rfl⟩,q⟩ hz
 | tup ha r=>exact byRef _ ru
 | ref hn=>exact byRef _ ru
 | fn b=>unfold zat at hp';cases hp'
theorem zyz {K:QFg}:Fn3 K zgq (λxs H Q=>∃v ρ S d pd,xs=[v]/\Sim K ρ S H/\RD ρ H d v/\zat S 140 d=some pd/\pd.shown.length<=sizeLine/\Q (.str pd.shown) H):=by
 intro ρ S H xs vs v S' Q sim r h p
 unfold zgq at h
 split at h
 ·obtain ⟨pd,h1,h⟩:=bnd h
  obtain ⟨hz,e⟩:=zbd h
  cases e
  obtain ⟨w,rfl,rw'⟩:=r.one
  exact ⟨w,ρ,_,_,pd,rfl,sim,rw',h1,hz,p ρ H _ (Ext.refl ..) sim (.str _)⟩
 ·cases h
theorem zy0:bootBuiltins "repr" = some (.builtin "repr"):=by decide +kernel
end
theorem zy1:fillsNumberSlot (.type "tuple") "mul" = pure false :=
 PySem.fillsNumberSlot_seq (id:="tuple.__mul__") (r:=some (.builtin "tuple.__rmul__")) PySem.F.slot_tuple_mul.lookup (by decide +kernel) PySem.F.slot_tuple_rmul.lookup (by decide +kernel)
theorem zy2:seqRepeat? (.type "tuple")=pure (some (.builtin "tuple.__mul__")):=by
 unfold seqRepeat?
 rw [PySem.seqSlot_of (T:="tuple") (name:="__mul__") (id:="tuple.__mul__") PySem.F.slot_tuple_mul.lookup (by decide +kernel),PySem.seqSlot_of (T:="tuple") (name:="__rmul__") (id:="tuple.__rmul__") PySem.F.slot_tuple_rmul.lookup (by decide +kernel)]
 rfl
open PySem.AutoSeq1 (wpAny_loadPart')
theorem zy3 (a:Int) (t:Tok) (l:Addr) (items:Array Value) (n:Nat) (dd:Option Addr) (sl:Array (Option Value)) :
  Meets (Builtin.«int.__rmul__» ⟨[.int a t,.ref l],[]⟩) (λ_ R s=>s.heap.get? l=some { cls:=.type "tuple",dict:=dd,data:=.seq items n,slots:=sl }/\R (.ok (.ret Value.notImplemented)) s) :=
 .of_wp λprog w A R s h=>by obtain ⟨hp,g,d,tk,os⟩:=s;obtain ⟨hl,h⟩:=h;wp_walk;exact ⟨_,rfl,h⟩
section
variable {prog:Program}{w:World}{A:Around}{E:Value->Shared->Prop}{s:Shared}
theorem zy4 {t:Addr}{items:Array Value}{k:Int}{u:Tok}{Q:Value->Shared->Prop}(ht:IsTup s.heap t items) (k0:2<=k) (k1:k<2 ^ 31) (hi:items.isEmpty=false) (hz:items.size*k.toNat<=sizeLine)
  (h:Q (.ref s.heap.objs.size) { s with heap:=s.heap.push { cls:=.type "tuple",data:=.seq ((List.replicate k.toNat items).foldl (·++·) #[]) } }) (h6:((List.replicate k.toNat items).foldl (·++·) #[]).size<=sizeLine) :
  wpAny (model prog w) A (call (.builtin "tuple.__mul__") [.ref t,.int k u]) Q E s:=by
 refine wpAny_call_entry PySem.F.slot_tuple_mul ht.typeIs PySem.F.entry_tuple_mul ?_ (PySem.F.args_tuple_mul_2 _ _)
 show wpAny _ _ (asIndex (.int k u) >>= _) _ _ s
 refine qwb ?_
 show wpAny _ _ (pure k) _ _ s
 refine qwp ?_
 have e1:(decide (k < -(2 ^ 63)) || decide (k ≥ 2 ^ 63))=false:=by
  rw [Bool.or_eq_false_iff];exact ⟨decide_eq_false (by omega),decide_eq_false (by omega)⟩
 have e2:(items.isEmpty || k == 1)=false:=by rw [hi,Bool.false_or];exact beq_false_of_ne (by omega)
 have e3:(decide (k<=0) || items.isEmpty)=false:=by rw [hi,Bool.or_false];exact decide_eq_false (by omega)
 show wpAny _ _ (if (decide (k < -(2 ^ 63)) || decide (k ≥ 2 ^ 63))=true then _ else _) _ _ s
 rw [if_neg (by rw [e1];exact Bool.false_ne_true)]
 refine qwb (tupleItemsOf_ ht ?_)
 show wpAny _ _ (if (items.isEmpty || k == 1)=true then _ else _) _ _ s
 rw [if_neg (by rw [e2];exact Bool.false_ne_true)]
 show wpAny _ _ (if (decide (k<=0) || items.isEmpty)=true then _ else _) _ _ s
 rw [if_neg (by rw [e3];exact Bool.false_ne_true)]
 have hk:(items.size:Int)*k=((items.size*k.toNat:Nat):Int):=by rw [Int.natCast_mul,Int.toNat_of_nonneg (by omega)]
 have hs:(sizeLine:Nat)=16777216:=by decide
 show wpAny _ _ (if (items.size:Int)*k > (2 ^ 63-1) / 8 then _ else _) _ _ s
 rw [if_neg (by rw [hk];omega)]
 show wpAny _ _ (if Builtin.Tuple.tupleTooMany ((items.size:Int)*k)=true then _ else _) _ _ s
 rw [if_neg (by unfold Builtin.Tuple.tupleTooMany;rw [hk];simp only [decide_eq_true_eq];omega)]
 first
  | exact qwb (m:=Builtin.Tuple.tupleExact _) (wpAny_newObj_type (qwp ⟨_,rfl,h⟩) h6)
  | exact qwb (m:=Builtin.Tuple.tupleExact _) (wpAny_newObj_type (qwp ⟨_,rfl,qwp h⟩) h6)
theorem zy5 {t:Addr}{items:Array Value}{u:Tok}{Q:Value->Shared->Prop}(ht:IsTup s.heap t items) (h:Q (.ref t) s) :
  wpAny (model prog w) A (call (.builtin "tuple.__mul__") [.ref t,.int 1 u]) Q E s:=by
 refine wpAny_call_entry PySem.F.slot_tuple_mul ht.typeIs PySem.F.entry_tuple_mul ?_ (PySem.F.args_tuple_mul_2 _ _)
 show wpAny _ _ (asIndex (.int 1 u) >>= _) _ _ s
 refine qwb ?_
 show wpAny _ _ (pure (1:Int)) _ _ s
 refine qwp ?_
 show wpAny _ _ (if (decide ((1:Int) < -(2 ^ 63)) || decide ((1:Int) ≥ 2 ^ 63))=true then _ else _) _ _ s
 rw [if_neg (by decide)]
 refine qwb (tupleItemsOf_ ht ?_)
 show wpAny _ _ (if (items.isEmpty || (1:Int) == 1)=true then _ else _) _ _ s
 rw [if_pos (by simp)]
 unfold Builtin.Tuple.tupleIsExact
 refine qwb (qwb (wpAny_typeOf ht.typeIs (qwp ?_)))
 rw [if_pos (by decide)]
 exact qwb (wpAny_rule (qwp ⟨_,rfl,h⟩))
theorem zy6 {t:Addr}{items:Array Value}{k:Int}{u:Tok}{Q:Value->Shared->Prop}(ht:IsTup s.heap t items) (k0:k=0) (hi:items.isEmpty=false)
  (h:Q (.ref s.heap.objs.size) { s with heap:=s.heap.push { cls:=.type "tuple",data:=.seq #[] } }) :
  wpAny (model prog w) A (call (.builtin "tuple.__mul__") [.ref t,.int k u]) Q E s:=by
 subst k0
 refine wpAny_call_entry PySem.F.slot_tuple_mul ht.typeIs PySem.F.entry_tuple_mul ?_ (PySem.F.args_tuple_mul_2 _ _)
 show wpAny _ _ (asIndex (.int 0 u) >>= _) _ _ s
 refine qwb ?_
 show wpAny _ _ (pure (0:Int)) _ _ s
 refine qwp ?_
 show wpAny _ _ (if (decide ((0:Int) < -(2 ^ 63)) || decide ((0:Int) ≥ 2 ^ 63))=true then _ else _) _ _ s
 rw [if_neg (by decide)]
 refine qwb (tupleItemsOf_ ht ?_)
 show wpAny _ _ (if (items.isEmpty || (0:Int) == 1)=true then _ else _) _ _ s
 rw [if_neg (by rw [hi];decide)]
 show wpAny _ _ (if (decide ((0:Int)<=0) || items.isEmpty)=true then _ else _) _ _ s
 rw [if_pos (by simp)]
 first
  | exact qwb (m:=Builtin.Tuple.tupleExact _) (wpAny_newObj_type (qwp ⟨_,rfl,h⟩) (Nat.zero_le _))
  | exact qwb (m:=Builtin.Tuple.tupleExact _) (wpAny_newObj_type (qwp ⟨_,rfl,h⟩) (by decide))
end
def zqc (K:QFg):R2:=λx y H Q=>∃a k xs,x=.ref a/\y=.int k/\SqT K H a xs/\xs≠[]/\0<=k/\k<2 ^ 31/\xs.length*k.toNat<=sizeLine /\
 (k=1->Q (.ref a) H)/\(k≠1->∀p,H p=none->Q (.ref p) (upd H p (.tup (List.replicate k.toNat xs).flatten)))
theorem zy7 {X:Cx}:OpR X (binaryOp .Mult) (zqc X.K):=by
 intro pins s σ H x y v u Q I rx ry h
 obtain ⟨a,k,xs,rfl,rfl,hx,hne,k0,k1,hz,q1,q2⟩:=h
 cases rx
 obtain ⟨t,rfl⟩:=ry
 obtain ⟨its,r,pt,_⟩:=I.tuple hx
 have hne':its≠[]:=λz=>hne (r.nil_iff.mp z)
 have hie:its.toArray.isEmpty=false:=by cases its with
  | nil=>exact absurd rfl hne'
  | cons _ _=>simp
 obtain ⟨⟨cls,dd,data,sl⟩,ho,hc,n,hd⟩:=id pt
 simp only at hc hd
 subst hc hd
 refine wpAny_binaryOp_repeat_ref (T:="tuple") (U:="int") (by decide) ⟨_,ho,rfl⟩ (λs'=>typeIs_int s' k t) zy1 PySem.F.fills_int_mul PySem.F.slot_int_rmul zy2 PySem.F.slot_int_index.lookup
  (call_meets PySem.F.slot_int_rmul (typeIs_int s k t) PySem.F.entry_int_rmul (PySem.F.args_int_rmul_2 _ _) (zy3 k t a its.toArray n dd sl) ⟨ho,rfl,⟨_,ho,rfl⟩,?_⟩)
 have f0:∀m:Nat,List.foldl (λx1 x2=>x1++x2) #[] (List.replicate m its.toArray)=(List.replicate m its).flatten.toArray:=λm=>by
  have:=zo9 its m []
  rw [List.nil_append] at this
  exact this
 have hl:xs.length=its.length:=r.length
 by_cases e1:k=1
 ·subst e1
  exact zy5 pt ⟨.ref a,H,I,rfl,q1 rfl⟩
 ·by_cases e0:k=0
  ·refine zy6 pt e0 hie ?_
   have hv:Vals ([]:List V) ([]:List Value):=.nil
   refine ⟨.ref s.heap.objs.size,_,I.laid (t':=s.toks) (o:=.tup []) (λb ob q=>qps _ q) (qlr _) ?_,rfl,?_⟩
   ·exact ⟨Nat.zero_le _,[],.nil,IsTD.new _ _⟩
   ·have:=q2 e1 _ (I.hok.fresh (qlr _))
    subst e0
    exact this
  ·have hlen:(List.replicate k.toNat its).flatten.length=k.toNat*its.length:=zpe its k.toNat
   refine zy4 pt (by omega) k1 hie (by rw [List.size_toArray,<-hl];exact hz) ?_ ?_
   ·rw [f0]
    refine ⟨.ref s.heap.objs.size,_,I.laid (t':=s.toks) (o:=.tup (List.replicate k.toNat xs).flatten) (λb ob q=>qps _ q) (qlr _) ?_,rfl,q2 e1 _ (I.hok.fresh (qlr _))⟩
    exact ⟨by rw [zpe,Nat.mul_comm];exact hz,_,r.rep k.toNat,IsTD.new _ _⟩
   ·rw [f0,List.size_toArray,hlen,Nat.mul_comm,<-hl];exact hz
noncomputable def zdi:D->D->Sto->Option (D × Sto)
 | .int i,.int j,S=>if (-(2 ^ 64)<i/\i<2 ^ 64)\/(-(2 ^ 64)<j/\j<2 ^ 64) then some (.int (i*j),S) else none
 | .tup (x :: xs),.int k,S=>if 0<=k/\k<2 ^ 31/\(xs.length+1)*k.toNat<=sizeLine then some (.tup (List.replicate k.toNat (x :: xs)).flatten,S) else none
 | _,_,_=>none
theorem zy8 {K:QFg}:Op3 K zdi (λx y H Q=>rI CMul (λi j=>.int (i*j)) x y H Q\/zqc K x y H Q):=by
 intro ρ S H x y x' y' v S' Q sim rx ry h p
 unfold zdi at h
 split at h
 ·obtain ⟨hc,e⟩:=zbd h
  cases e;cases rx;cases ry
  exact .inl ⟨_,_,rfl,rfl,hc,p ρ H _ (Ext.refl ..) sim (.int _)⟩
 ·rename_i x xs k
  obtain ⟨⟨k0,k1,hz⟩,e⟩:=zbd h
  cases e;cases ry
  cases rx with
  | @tup _ a vs ha r =>
   have hl:=r.length
   refine .inr ⟨a,k,vs,rfl,rfl,SqT.of ha,?_,k0,k1,by rw [<-hl];exact hz,λe=>?_,λ_=>zjc sim (r.rep k.toNat) p⟩
   ·intro z;rw [z] at hl;cases hl
   ·subst e
    have e2:(List.replicate (1:Int).toNat (x :: xs)).flatten=x :: xs:=by simp
    rw [e2] at p
    exact p ρ H _ (Ext.refl ..) sim (.tup ha r)
 ·cases h
section
variable {X:Cx}{a b:Expr}{ma mb:EM}{pos:Pos}
theorem zgr (ha:PE3 X a ma) (hb:PE3 X b mb):PE3 X (.BinOp a .Mult b pos) (eOp zdi ma mb):=zh5 (op_mul.or zy7) zy8 ha hb
end
section
variable {X:Cx}{c:Expr}{body:List Stmt}{mc:TM}{mb:SM}{pos:Pos}
end
section
variable {X:Cx}
variable {a b:Expr}{ma mb:EM}{pos:Pos}
end
noncomputable def zie:D->D->Sto->Option (D × Sto):=λx y S=>(zat S 60 x).bind λp=>(zat S 60 y).bind λq=>if p.canLay0=true/\q.canLay0=true then some (.bl (!p.eqv q),S) else none
def zqd (K:QFg) (neg:Bool):R2:=λx y H Q=>∃ρ S dx dy p q,Sim K ρ S H/\RD ρ H dx x/\RD ρ H dy y/\zat S 60 dx=some p/\zat S 60 dy=some q/\p.canLay0=true/\q.canLay0=true/\Q (.bl (if neg then !p.eqv q else p.eqv q)) H
section
variable {X:Cx}
theorem zy9 {k:Nat}(hr:Room k X.A):OpR X (compareOp .NotEq) (zqd X.K true):=by
 intro pins s σ H x y v u Q I rx ry h
 obtain ⟨ρ,S,dx,dy,p,q,sim,r1,r2,h1,h2,c1,c2,hq⟩:=h
 obtain ⟨⟨as,k1⟩,_,_,k2⟩:=zji I sim 60 dx x v p r1 rx h1
 obtain ⟨⟨bs,k3⟩,_,_,k4⟩:=zji I sim 60 dy y u q r2 ry h2
 have hu:X.A.units+min p.depth q.depth<cLine:=by have:=hr.un;have:min p.depth q.depth<=p.depth:=Nat.min_le_left _ _;omega
 exact PySem.SeqAt.compareNe_reads k1 k3 c1 c2 hu ⟨.bl _,H,I,rfl,hq⟩
theorem zza {K:QFg}:Op3 K zie (zqd K true):=by
 intro ρ S H x y x' y' v S' Q sim rx ry h p
 obtain ⟨d1,h1,h⟩:=bnd h
 obtain ⟨d2,h2,h⟩:=bnd h
 obtain ⟨hc,e⟩:=zbd h
 cases e
 exact ⟨ρ,_,x,y,d1,d2,sim,rx,ry,h1,h2,hc.1,hc.2,p ρ H _ (Ext.refl ..) sim (.bl _)⟩
variable {a b:Expr}{ma mb:EM}{pos:Pos}{k:Nat}
theorem zzb (hr:Room k X.A) (ha:PE3 X a ma) (hb:PE3 X b mb):PT3 X (.Compare a [.NotEq] [b] pos) (tE (eOp zie ma mb)):=zfb (zy9 hr) zza ha hb (zft b)
end
noncomputable def zjj:D->Bool
 | .non=>true | .bl _=>true | .int _=>true | .str _=>true
 | _=>false
noncomputable def zjk:D->D->Bool
 | .non,.non=>true
 | .bl a,.bl b=>a == b
 | .bl a,.int b=>(if a then 1 else 0) == b
 | .int a,.bl b=>a == (if b then 1 else 0)
 | .int a,.int b=>a == b
 | .str a,.str b=>a == b
 | _,_=>false
noncomputable def zzc (S:Sto):D->Option (List D)
 | .tup xs=>some xs
 | .ref n=>lstOf S n
 | _=>none
noncomputable def zku (neg:Bool):D->D->Sto->Option (D × Sto):=λx y S=>(zzc S y).bind λxs=>if zjj x=true/\xs.all zjj=true then some (.bl (if neg then !(xs.any λy=>zjk y x) else xs.any λy=>zjk y x),S) else none
theorem zqe {ρ:List Addr}{H:Hp}{x:D}{x':V}(r:RD ρ H x x'):zfv x' = zjj x:=by
 cases r <;> rfl
theorem zzd {ρ:List Addr}{H:Hp}{x y:D}{x' y':V}(r:RD ρ H x x') (r':RD ρ H y y'):eqV x' y' = zjk x y:=by
 cases r <;> cases r' <;> rfl
theorem zqf {ρ:List Addr}{H:Hp}:∀{xs:List D}{vs:List V},RDs ρ H xs vs->vs.all zfv=xs.all zjj
 | _,_,.nil=>rfl
 | _,_,.cons r q=>by rw [List.all_cons,List.all_cons,zqe r,zqf q]
theorem zqg {ρ:List Addr}{H:Hp}{x:D}{x':V}(rx:RD ρ H x x'):∀{xs:List D}{vs:List V},RDs ρ H xs vs->inV x' vs=xs.any λy=>zjk y x
 | _,_,.nil=>rfl
 | _,_,.cons r q=>by
  have ih:=zqg rx q
  unfold inV at ih ⊢
  rw [List.any_cons,List.any_cons,zzd r rx,ih]
theorem zqh {K:QFg}{neg:Bool}:Op3 K (zku neg) (rIn K neg):=by
 intro ρ S H x y x' y' v S' Q sim rx ry h p
 obtain ⟨xs,h1,h⟩:=bnd h
 obtain ⟨hc,e⟩:=zbd h
 cases e
 have fin:∀a vs,y' = .ref a->(SqL K H a vs\/SqT K H a vs)->RDs ρ H xs vs->rIn K neg x' y' H Q:=λa vs e1 e2 r=>by
  refine ⟨a,vs,e1,e2,by rw [zqe rx];exact hc.1,by rw [zqf r];exact hc.2,?_⟩
  rw [zqg rx r]
  exact p ρ H _ (Ext.refl ..) sim (.bl _)
 cases ry with
 | tup ha r=>cases h1;exact fin _ _ rfl (.inr (SqT.of ha)) r
 | ref hn =>
  obtain ⟨a,vs,ha,sq,r⟩:=sim.lstOf h1
  rw [ha] at hn;cases hn
  exact fin _ _ rfl (.inl sq) r
 | _=>cases h1
noncomputable def zmx:Sto->D->Option ((Int->Bool) × Nat)
 | S,.ref n=>match S[n]? with
  | some (.iset f k)=>some (f,k)
  | _=>none
 | _,_=>none
theorem Sim.isetOf {K:QFg}{ρ:List Addr}{S:Sto}{H:Hp}{x:D}{v:V}{f:Int->Bool}{k:Nat}(s:Sim K ρ S H) (r:RD ρ H x v) (h:zmx S x=some (f,k)):∃n a,x=.ref n/\v=.ref a/\ρ[n]? = some a/\S[n]? = some (.iset f k)/\H a=some (.set f k):=by
 unfold zmx at h
 split at h
 ·rename_i n
  split at h
  ·rename_i f' k' e
   cases h
   cases r with
   | @ref _ a hn=>exact ⟨n,a,rfl,rfl,hn,e,s.at' n a _ hn e⟩
  ·cases h
 ·cases h
noncomputable def zmy (neg:Bool):D->D->Sto->Option (D × Sto)
 | .int i,y,S=>(zmx S y).bind λp=>some (.bl (if neg then !p.1 i else p.1 i),S)
 | _,_,_=>none
def zmz (neg:Bool):R2:=λx y H Q=>∃i a f n,x=.int i/\y=.ref a/\H a=some (.set f n)/\Q (.bl (if neg then !f i else f i)) H
section
variable {X:Cx}
theorem op_inI:OpR X (compareOp .In) (zmz false):=by
 intro pins s σ H x y v u Q I rx ry h
 obtain ⟨i,a,f,n,rfl,rfl,hH,q⟩:=h
 obtain ⟨t,rfl⟩:=rx
 cases ry
 exact PySem.wpAny_inSet_of (knd:=intKind X.prog X.w) (k:=i) (PySem.intKind_is X.prog X.w i t) rfl (I.hok a _ hH) ⟨.bl _,H,I.tok _,rfl,q⟩
theorem op_notInI:OpR X (compareOp .NotIn) (zmz true):=by
 intro pins s σ H x y v u Q I rx ry h
 obtain ⟨i,a,f,n,rfl,rfl,hH,q⟩:=h
 obtain ⟨t,rfl⟩:=rx
 cases ry
 exact PySem.wpAny_notInSet_of (knd:=intKind X.prog X.w) (k:=i) (PySem.intKind_is X.prog X.w i t) rfl (I.hok a _ hH) ⟨.bl _,H,I.tok _,rfl,q⟩
theorem op3_inI {K:QFg}{neg:Bool}:Op3 K (zmy neg) (zmz neg):=by
 intro ρ S H x y x' y' v S' Q sim rx ry h p
 unfold zmy at h
 split at h
 ·obtain ⟨⟨f,k⟩,h1,h⟩:=bnd h
  cases h
  cases rx
  obtain ⟨n,a,rfl,rfl,_,_,hH⟩:=sim.isetOf ry h1
  exact ⟨_,a,f,k,rfl,rfl,hH,p ρ H _ (Ext.refl ..) sim (.bl _)⟩
 ·cases h
noncomputable def dIn (neg:Bool):D->D->Sto->Option (D × Sto):=λx y S=>match zmy neg x y S with|some v=>some v|none=>zku neg x y S
variable {a b:Expr}{ma mb:EM}{pos:Pos}
theorem zze (ha:PE3 X a ma) (hb:PE3 X b mb) (hm:behindInMarks .In b=false:=by rfl):PT3 X (.Compare a [.In] [b] pos) (tE (eOp (dIn false) ma mb)):=zfb (op_inI.or zwz) (op3_inI.or zqh) ha hb hm
theorem zzf (ha:PE3 X a ma) (hb:PE3 X b mb) (hm:behindInMarks .NotIn b=false:=by rfl):PT3 X (.Compare a [.NotIn] [b] pos) (tE (eOp (dIn true) ma mb)):=zfb (op_notInI.or zw0) (op3_inI.or zqh) ha hb hm
end
section
variable {X:Cx}
variable {o e:Expr}{mo m:EM}{apos cpos:Pos}
end
section
variable {prog:Program}{w:World}{A:Around}{E:Value->Shared->Prop}{s:Shared}
end
section
variable {X:Cx}
end
noncomputable def zg8:D->List D->Sto->Option (D × Sto)
 | .ref n,[.int i],S=>match S[n]? with
  | some (.lst xs)=>(seqIndex? i xs.length).bind λk=>(xs[k]?).bind λy=>if -(2 ^ 63)<=i/\i<2 ^ 63 then some (y,S.set n (.lst (xs.eraseIdx k))) else none
  | _=>none
 | _,_,_=>none
theorem RDs.eraseIdx {ρ:List Addr}{H:Hp}:∀{xs:List D}{vs:List V}(k:Nat),RDs ρ H xs vs->RDs ρ H (xs.eraseIdx k) (vs.eraseIdx k)
 | _,_,_,.nil=>.nil
 | _,_,0,.cons _ q=>q
 | _,_,k+1,.cons r q=>.cons r (RDs.eraseIdx k q)
theorem zzg {K:QFg}:Mt3 K zg8 zpc:=by
 intro ρ S H x x' xs vs v S' Q sim rx r h p
 unfold zg8 at h
 split at h
 ·split at h
  ·rename_i n i S ys e
   obtain ⟨k,h1,h⟩:=bnd h
   obtain ⟨y,h2,h⟩:=bnd h
   obtain ⟨hz,e2⟩:=zbd h
   cases e2
   obtain ⟨w,rfl,rw'⟩:=r.one
   cases rw'
   obtain ⟨a,us,ha,hH,r2⟩:=sim.lst e
   obtain ⟨w2,hw,rw2⟩:=r2.get h2
   cases rx with
   | ref hn =>
    rw [ha] at hn;cases hn
    exact ⟨a,us,i,k,w2,rfl,rfl,hH,hz.1,hz.2,by rw [<-r2.length];exact h1,hw,p ρ _ _ (zhn ha hH) (sim.set ha e hH (r2.eraseIdx k)) (rw2.mono (zhn ha hH))⟩
  ·cases h
 ·cases h
section
variable {X:Cx}{o e:Expr}{mo m:EM}{apos cpos:Pos}
theorem zqi (ho:PE3 X o mo) (he:PE3 X e m)
  (hbase:attributeBase o "pop" X.env (eval o X.env)=eval o X.env:=by rfl)
  (hfew:((backTo cpos (starEach [e] X.env)).all (λx=>!x.1) && (backToKw cpos (keywordEach [] X.env)).all (λx=>x.1.isSome)
   && decide ([e].length+([]:List Keyword).length+(if ([]:List Keyword).isEmpty then 0 else 1)<30))=true:=by rfl)
  (hline:(apos.endLine == cpos.line)=true:=by rfl) (hs:starEach [e] X.env=(false,eval e X.env) :: starEach [] X.env:=by rfl) :
  PE3 X (.Call (.Attribute o "pop" apos) [e] [] cpos) (zc9 zg8 mo (zab m zae)) :=
 zmk PySem.F.slot_list_pop PySem.F.type_list_pop zw9 zzg ho (zad he zag hs) hbase hfew hline hs
end
section
variable {X:Cx}{o e:Expr}{mo m:EM}{apos cpos:Pos}
end
noncomputable def zif (lo:Int) (n:Nat):List V:=(List.range n).map λ(i:Nat)=>V.int (lo+i)
theorem zqj:∀{xs:List V}{us:List Value},xs.length=us.length->(∀(j:Nat) x u,xs[j]? = some x->us[j]? = some u->RelV x u)->Vals xs us
 | [],[],_,_=>.nil
 | [],_ :: _,h,_=>by simp at h
 | _ :: _,[],h,_=>by simp at h
 | x :: xs,u :: us,h,q=>.cons (q 0 x u rfl rfl) (zqj (by simpa using h) λj y w h1 h2=>q (j+1) y w (by simpa using h1) (by simpa using h2))
section
variable {X:Cx}
theorem zzh:CallR X (.type "range") (λxs H Q=>∃j,xs=[.int j]/\∀r,H r=none->Q (.ref r) (upd H r (.rng 0 j))):=by
 intro pins s σ H xs us Q I r h
 obtain ⟨j,rfl,q⟩:=h
 obtain ⟨u1,rfl,r1⟩:=r.one
 obtain ⟨t,rfl⟩:=r1
 exact call_range_1 ⟨.ref _,_,I.laid (o:=.rng 0 j) (λb o e=>qps _ e) (qlr _) ⟨_,_,_,Heap.get?_push_size _ rfl⟩,rfl,q _ I.fresh⟩
theorem zzi (hc:X.calm=true):CallR X (.type "list") (λxs H Q=>∃p lo hi,xs=[.ref p]/\H p=some (.rng lo hi)/\(-(2 ^ 62)<=lo/\lo<2 ^ 62/\-(2 ^ 62)<=hi/\hi<2 ^ 62)/\(hi-lo).toNat<=sizeLine/\∀l,H l=none->Q (.ref l) (upd H l (.lst (zif lo (hi-lo).toNat)))):=by
 intro pins s σ H xs us Q I r h
 obtain ⟨p,lo,hi,rfl,hH,⟨b1,b2,b3,b4⟩,hz,q⟩:=h
 obtain ⟨u1,rfl,r1⟩:=r.one
 cases r1
 obtain ⟨t,u,v,e⟩:=I.hok p _ hH
 have hn:Builtin.Range.rangeSize lo hi 1=((hi-lo).toNat:Nat):=by rw [rangeSize_one];split <;> omega
 have hz2:(hi-lo).toNat<=2 ^ 24:=Nat.le_trans hz (by decide)
 refine PySem.call_list_range (n:=(hi-lo).toNat) (I.ok.hd hc) e (small_one b1 b2 b3 b4) (by rw [hn]) hz2 λh' tk acc c' k he hi'=>?_
 obtain ⟨h1,h2⟩:=hi'
 refine ⟨.ref _,_,I.laid (o:=.lst (zif lo (hi-lo).toNat)) k (qlr _) ⟨by unfold zif;rw [qlm,List.length_range];exact hz,acc.toList,c',zqj (by simp [zif,h1]) λj x w e1 e2=>?_,he⟩,rfl,q _ I.fresh⟩
 rw [Array.getElem?_toList] at e2
 obtain ⟨t',rfl⟩:=h2 j w e2
 unfold zif at e1
 rw [qgm] at e1
 cases e3:(List.range (hi-lo).toNat)[j]? with
 | none=>rw [e3] at e1;cases e1
 | some i =>
  rw [e3] at e1
  cases e1
  have:=(qme e3).2
  simp at this
  subst this
  exact ⟨t',by rw [Int.mul_one]⟩
theorem zzj (ρ:List Addr) (H:Hp) (lo:Int) (n:Nat):RDs ρ H (zb3 lo n) (zif lo n):=zpz ρ H lo n
theorem zzk:bootBuiltins "range" = some (.type "range"):=by decide +kernel
noncomputable def zm0 (r:Lo->Sto->Option ((Int × Nat) × Sto)):EM:=λl S=>(r l S).bind λp=>if p.1.2<=sizeLine then some (.ref p.2.length,p.2++[.lst (zb3 p.1.1 p.1.2)]) else none
variable {a a2:Expr}{mA:AM}{p p0 pos pos':Pos}
theorem zzl (hc:X.calm=true) (hg:Gl X "list") (hm:X.mg "list" = none) (hgr:Gl X "range") (hmr:X.mg "range" = none) (ha:PA3 X [a] mA)
  (he:starEach [.Call (.Name "range" p0) [a] [] pos'] X.env=[(false,eval (.Call (.Name "range" p0) [a] [] pos') X.env)]:=by rfl)
  (he2:starEach [a] X.env=(false,eval a X.env) :: starEach [] X.env:=by rfl) :
  PE3 X (.Call (.Name "list" p) [.Call (.Name "range" p0) [a] [] pos'] [] pos) (zm0 (zb9 mA)) :=
 PE.imp (zl4 (zzi hc) hg hm zks (zh1 (zl4 zzh hgr hmr zzk ha (by decide) (by decide) he2 rfl) zkc he) (by decide) (by decide) he rfl) λσ H Q hx2_=>by
  obtain ⟨ρ,l,S,v,S',sim,ro,hm,p⟩:=hx2_
  obtain ⟨⟨⟨lo,n⟩,S1⟩,q1,hm⟩:=bnd hm
  obtain ⟨⟨xs,S2⟩,q2,q1⟩:=bnd q1
  dsimp only at q1 hm
  obtain ⟨hz,e⟩:=zbd hm
  cases e
  split at q1
  ·rename_i j
   obtain ⟨hb,e⟩:=zbd q1
   cases e
   refine ⟨ρ,l,S,[.int j],S1,sim,ro,q2,λρ1 H1 vs e1 s1 r1=>?_⟩
   obtain ⟨v,rfl,rv⟩:=r1.one
   cases rv
   refine ⟨j,rfl,λr hr=>⟨r,0,j,rfl,zbw,⟨by decide,by decide,hb.1,hb.2⟩,by simpa using hz,?_⟩⟩
   have:=zh7 (s1.laid (u:=.rng 0 j) hr) (zzj ρ1 _ 0 j.toNat) (p.ext (e1.trans (zbx hr)))
   simpa using this
  ·cases q1
end
noncomputable def isT:D->Bool
 | .bl b=>b
 | _=>false
noncomputable def zig:D->Bool
 | .bl _=>true
 | _=>false
noncomputable def vT:V->Bool
 | .bl b=>b
 | _=>false
noncomputable def zkv:V->Bool
 | .bl _=>true
 | _=>false
noncomputable def zjl:FM
 | [.ref n],S=>(lstOf S n).bind λxs=>if xs.all zig=true then some (.bl (xs.all isT),S) else none
 | _,_=>none
theorem zzm {ρ:List Addr}{H:Hp}{x:D}{x':V}(r:RD ρ H x x'):vT x' = isT x/\zkv x' = zig x:=by
 cases r <;> exact ⟨rfl,rfl⟩
theorem zqk {ρ:List Addr}{H:Hp}:∀{xs:List D}{vs:List V},RDs ρ H xs vs->vs.all vT=xs.all isT/\vs.any vT=xs.any isT/\vs.all zkv=xs.all zig
 | _,_,.nil=>⟨rfl,rfl,rfl⟩
 | _,_,.cons r q=>by
  obtain ⟨h1,h2⟩:=zzm r
  obtain ⟨h3,h4,h5⟩:=zqk q
  simp only [List.all_cons,List.any_cons,h1,h2,h3,h4,h5,and_self]
section
variable {X:Cx}
theorem zzn {ys:List V}(tr:Nat->Bool) (h:∀(i:Nat) y,ys[i]? = some y->tr i=vT y):(List.range ys.length).all tr=ys.all vT/\(List.range ys.length).any tr=ys.any vT:=by
 have e:(List.range ys.length).map tr=ys.map vT:=by
  apply List.ext_getElem?
  intro i
  rw [qgm,qgm]
  by_cases hi:i<ys.length
  ·rw [List.getElem?_range hi,qge hi]
   simp [h i _ (qge hi)]
  ·rw [List.getElem?_eq_none_iff.mpr (by simpa using hi),List.getElem?_eq_none_iff.mpr (by simpa using hi)];rfl
 have a1:(List.range ys.length).all tr=((List.range ys.length).map tr).all id:=by rw [List.all_map];rfl
 have a2:ys.all vT=(ys.map vT).all id:=by rw [List.all_map];rfl
 have a3:(List.range ys.length).any tr=((List.range ys.length).map tr).any id:=by rw [List.any_map];rfl
 have a4:ys.any vT=(ys.map vT).any id:=by rw [List.any_map];rfl
 exact ⟨by rw [a1,a2,e],by rw [a3,a4,e]⟩
def zql (K:QFg) (f:List V->Bool):List V->Hp->VK->Prop:=λxs H Q=>∃p ys,xs=[.ref p]/\SqL K H p ys/\ys.all zkv=true/\Q (.bl (f ys)) H
theorem zzo {pins:List (Addr × Obj)}{s:Shared}{σ:St}{H:Hp}{p:Addr}{ys:List V}{E:Value->Shared->Prop}{R:Bool->Bool->Shared->Prop}(hc:X.calm=true) (I:Inv X pins σ H s) (hq:SqL X.K H p ys) (hb:ys.all zkv=true)
  (h:∀s',Inv X pins σ H s'->R (ys.all vT) (ys.any vT) s') :
  wpAny (model X.prog X.w) X.A.in1 (pyIter (.ref p)) (λit s₂=>∃I fp wr n P St tr,it=.ref I/\Walks X.prog X.w X.A.in1 I fp wr n P St/\St 0 s₂.heap/\TruthOf X.prog X.w X.A.in1 P tr /\
   ∀h' tk,(∀b o,b ∉ wr->s₂.heap.get? b=some o->h'.get? b=some o)->R ((List.range n).all tr) ((List.range n).any tr) { s₂ with heap:=h',toks:=tk }) E s:=by
 obtain ⟨its,rv,pl,hz⟩:=I.list hq
 refine wpAny_pyIter_list pl.isList ?_
 have hne:p≠s.heap.objs.size:=by
  obtain ⟨o,ho,_⟩:=pl.isList
  exact Nat.ne_of_lt (Heap.lt_size ho)
 have I1:Inv X pins σ H { s with heap:=s.heap.push { cls:=.type "list_iterator",data:=.fields #[.ref p,rawInt 0] } }:=I.kept (t':=s.toks) λb o e=>qps _ e
 have fp:=I.fpOk (qlr s.heap.objs.size) I.fresh
 refine ⟨_,_,_,its.toArray.size,_,_,λi=>match its[i]? with|some (.bool b)=>b|_=>false,rfl,Walks.list (A:=X.A.in1) (I.ok.hd hc) s.heap.objs.size p hne its.toArray,?_,?_,?_⟩
 ·obtain ⟨o,ho,hc',n,hd⟩:=pl.isList
  exact ⟨⟨_,Heap.get?_push_size _ rfl,rfl,rfl⟩,⟨o,qps _ ho,hc',n,hd⟩⟩
 ·intro i v s' Q E' hP hQ
  have e1:its[i]? = some v:=by simpa using hP
  have hl:=rv.length
  have hi:i<ys.length:=by rw [hl];exact (qme e1).1
  obtain ⟨u,hu,ru⟩:=rv.get (qge hi)
  rw [e1] at hu;cases hu
  have hb2:=List.all_eq_true.mp hb _ (List.getElem_mem hi)
  dsimp only at hQ
  rw [e1] at hQ
  revert ru hb2
  generalize ys[i]=y
  intro ru hb2
  cases y with
  | bl b=>cases ru;exact wpAny_truthy_bool hQ
  | _=>exact absurd (show false=true from hb2) Bool.false_ne_true
 ·intro h' tk k
  have hs:its.toArray.size=ys.length:=by rw [List.size_toArray,rv.length]
  obtain ⟨a1,a2⟩:=zzn (ys:=ys) (λi=>match its[i]? with|some (.bool b)=>b|_=>false) (λi y hy=>by
   obtain ⟨u,hu,ru⟩:=rv.get hy
   have hb2:=List.all_eq_true.mp hb _ (qmg hy)
   rw [hu]
   cases y with
   | bl b=>cases ru;rfl
   | _=>exact absurd (show false=true from hb2) Bool.false_ne_true)
  rw [hs,a1,a2]
  exact h _ (I1.turned (t':=tk) (λb o hb' e=>k b o (by simpa using hb') e) fp.1 fp.2.1 fp.2.2.2.1 fp.2.2.2.2.1 fp.2.2.2.2.2)
theorem zzp (hc:X.calm=true):CallR X (.builtin "all") (zql X.K λys=>ys.all vT):=by
 intro pins s σ H xs us Q I r h
 obtain ⟨p,ys,rfl,hq,hb,q⟩:=h
 obtain ⟨u1,rfl,r1⟩:=r.one
 cases r1
 exact PySem.call_all_walk (zzo (R:=λa _ s'=>EP X pins σ Q (.bool a) s') hc I hq hb λs' I'=>⟨.bl _,H,I',rfl,q⟩)
theorem zzq {K:QFg}:Fn3 K zjl (zql K λys=>ys.all vT):=by
 intro ρ S H xs vs v S' Q sim r h p
 unfold zjl at h
 split at h
 ·obtain ⟨ys,h1,h⟩:=bnd h
  obtain ⟨hb,e⟩:=zbd h
  cases e
  obtain ⟨w,rfl,rw'⟩:=r.one
  obtain ⟨a,us,ha,sq,r2⟩:=sim.lstOf h1
  obtain ⟨t1,t2,t3⟩:=zqk r2
  cases rw' with
  | ref hn =>
   rw [ha] at hn;cases hn
   exact ⟨_,us,rfl,sq,by rw [t3];exact hb,by dsimp only;rw [t1];exact p ρ H _ (Ext.refl ..) sim (.bl _)⟩
 ·cases h
theorem zzr:bootBuiltins "all" = some (.builtin "all"):=by decide +kernel
variable {a:Expr}{es:List Expr}{mA:AM}{p pos:Pos}
theorem zzs (hc:X.calm=true) (hg:Gl X "all") (hm:X.mg "all" = none) (ha:PA3 X (a :: es) mA) (he:starEach (a :: es) X.env=(false,eval a X.env) :: starEach es X.env:=by rfl) (hpl:(backTo pos (starEach es X.env)).any (·.1)=false:=by rfl):PE3 X (.Call (.Name "all" p) (a :: es) [] pos) (zaf zjl mA) :=
 zkm (zzp hc) zzq hg hm zzr ha (by decide) (by decide) he hpl
end
noncomputable def zg9:D->Sto->Option (D × Sto)
 | .int i,S=>some (.int (-i),S)
 | _,_=>none
theorem zkw {X:Cx}{a:Expr}{ma:EM}{pos:Pos}(ha:PE3 X a ma):PE3 X (.UnaryOp .USub a pos) (eUn zg9 ma):=PE.imp (zoi zok ha) λσ H Q hx1_=>by
 obtain ⟨ρ,l,S,v,S',sim,ro,hm,p⟩:=hx1_
 obtain ⟨⟨x,S1⟩,h1,hm⟩:=bnd hm
 refine ⟨ρ,l,S,x,S1,sim,ro,h1,λρ1 H1 x' e1 s1 r1=>?_⟩
 cases r1 with
 | int i=>cases hm;exact ⟨i,rfl,p ρ1 H1 _ e1 s1 (.int _)⟩
 | _=>cases hm
theorem zqm {X:Cx}{pins:List (Addr × Obj)}{σ:St}{H:Hp}{s:Shared}(I:Inv X pins σ H s):sysModules<s.heap.objs.size:=by
 have h:mainGlobals<s.heap.objs.size:=(I.mod.glob.keeps I.bk).lt
 exact Nat.lt_trans (by decide) h
section
variable {X:Cx}{pos:Pos}
theorem zzt:PE X (.Dict [] [] pos) (λ_ H Q=>∀p,H p=none->Q (.ref p) (upd H p (.dK []))):=λpins s σ H Q I h =>
 wpAny_Dict_empty ⟨.ref s.heap.objs.size,_,I.laid (a:=s.heap.objs.size) (o:=.dK []) (t':=s.toks) (λ_ _ q=>qps _ q) (qlr _)
  ⟨Nat.zero_le _,beq_eq_false_iff_ne.mpr (Ne.symm (Nat.ne_of_lt (zqm I))),[],.nil,Heap.DictOf.new s.heap⟩,rfl,h _ I.fresh⟩
noncomputable def zjm:EM:=λ_ S=>some (.ref S.length,S++[.dct []])
theorem zm1:PE3 X (.Dict [] [] pos) zjm:=PE.imp zzt λσ H Q hx1_=>by
 obtain ⟨ρ,l,S,v,S',sim,ro,hm,p⟩:=hx1_
 cases hm
 intro a ha
 exact p (ρ++[a]) _ _ (zkg ha) (sim.pushG ha ⟨[],zbw,.nil⟩) (.ref (by rw [<-sim.len];exact zfw ρ a))
end
section
variable {X:Cx}{a b:Expr}{ma mb:EM}{pos:Pos}{k:Nat}
end
mutual
noncomputable def pyT (S:Sto):Nat->D->Option PyData
 | 0,_=>none
 | _+1,.non=>some .none
 | _+1,.bl b=>some (.bool b)
 | _+1,.int i=>if i.natAbs.log2<1920 then some (.int i) else none
 | _+1,.str x=>some (.str x)
 | k+1,.tup xs=>(pyTs S k xs).bind λds=>some (.tuple ds)
 | k+1,.ref n=>match S[n]? with
  | some (.dct [])=>some (.dict [])
  | some (.dct [(Sum.inl i,d)])=>if i.natAbs.log2<1920 then (pyT S k d).bind λp=>some (.dict [(.int i,p)]) else none
  | _=>none
 | _+1,.fn _=>none
termination_by k=>(k,0)
noncomputable def pyTs (S:Sto):Nat->List D->Option (List PyData)
 | _,[]=>some []
 | k,x :: xs=>(pyT S k x).bind λd=>(pyTs S k xs).bind λds=>some (d :: ds)
termination_by k xs=>(k,xs.length+1)
end
mutual
theorem zqn (S:Sto):∀(k:Nat) (d:D) (p q:PyData),pyT S k d=some p->zat S k d=some q->p=q
 | 0,d,p,q,h,_=>by unfold pyT at h;cases h
 | k+1,.non,p,q,h,h'=>by unfold pyT at h;unfold zat at h';cases h;cases h';rfl
 | k+1,.bl b,p,q,h,h'=>by unfold pyT at h;unfold zat at h';cases h;cases h';rfl
 | k+1,.int i,p,q,h,h'=>by
  unfold pyT at h;unfold zat at h'
  obtain ⟨_,rfl⟩:=zbd h
  obtain ⟨_,rfl⟩:=zbd h'
  rfl
 | k+1,.str x,p,q,h,h'=>by unfold pyT at h;unfold zat at h';cases h;cases h';rfl
 | k+1,.fn a,p,q,h,h'=>by unfold pyT at h;cases h
 | k+1,.tup xs,p,q,h,h'=>by
  unfold pyT at h;unfold zat at h'
  obtain ⟨ds,h1,h⟩:=bnd h
  obtain ⟨es,h2,h'⟩:=bnd h'
  cases h;cases h'
  rw [py_agrees S k xs ds es h1 h2]
 | k+1,.ref n,p,q,h,h'=>by
  unfold pyT at h;unfold zat at h'
  obtain ⟨xs,h1,h'⟩:=bnd h'
  unfold lstOf at h1
  split at h
  ·rename_i e;rw [e] at h1;cases h1
  ·rename_i e;rw [e] at h1;cases h1
  ·cases h
termination_by k=>(k,0)
theorem py_agrees (S:Sto):∀(k:Nat) (xs:List D) (p q:List PyData),pyTs S k xs=some p->pyAll S k xs=some q->p=q
 | k,[],p,q,h,h'=>by unfold pyTs at h;unfold pyAll at h';cases h;cases h';rfl
 | k,x :: xs,p,q,h,h'=>by
  unfold pyTs at h;unfold pyAll at h'
  obtain ⟨d,h1,h⟩:=bnd h
  obtain ⟨ds,h2,h⟩:=bnd h
  obtain ⟨e,h3,h'⟩:=bnd h'
  obtain ⟨es,h4,h'⟩:=bnd h'
  cases h;cases h'
  rw [zqn S k x d e h1 h3,py_agrees S k xs ds es h2 h4]
termination_by k xs=>(k,xs.length+1)
end
section
variable {X:Cx}{pins:List (Addr × Obj)}{σ:St}{H:Hp}{s:Shared}{ρ:List Addr}{S:Sto}
mutual
theorem zkx (I:Inv X pins σ H s) (sim:Sim X.K ρ S H):∀(k:Nat) (d:D) (v:V) (u:Value) (p:PyData),RD ρ H d v->RelV v u->pyT S k d=some p->(∃as,Reads s.heap u p as/\sysModules ∉ as)/\p.showable=true/\p.depth<=k
 | 0,d,v,u,p,_,_,h=>by unfold pyT at h;cases h
 | k+1,.non,v,u,p,r,e,h=>by
  unfold pyT at h;cases h;cases r;cases e
  exact ⟨⟨_,.none,by simp⟩,rfl,Nat.zero_le _⟩
 | k+1,.bl b,v,u,p,r,e,h=>by
  unfold pyT at h;cases h;cases r;cases e
  exact ⟨⟨_,.bool b,by simp⟩,rfl,Nat.zero_le _⟩
 | k+1,.int i,v,u,p,r,e,h=>by
  unfold pyT at h
  obtain ⟨hz,e2⟩:=zbd h
  cases e2;cases r
  obtain ⟨t,rfl⟩:=e
  exact ⟨⟨_,.int i t,by simp⟩,by unfold PyData.showable;exact decide_eq_true hz,Nat.zero_le _⟩
 | k+1,.str x,v,u,p,r,e,h=>by
  unfold pyT at h;cases h;cases r
  obtain ⟨t,rfl⟩:=e
  exact ⟨⟨_,.str x t,by simp⟩,rfl,Nat.zero_le _⟩
 | k+1,.fn _,v,u,p,r,e,h=>by unfold pyT at h;cases h
 | k+1,.tup xs,v,u,p,r,e,h=>by
  unfold pyT at h
  obtain ⟨ds,h1,h⟩:=bnd h
  cases h
  cases r with
  | tup ha r =>
   cases e
   obtain ⟨its,rv,⟨o,ho,hc,n,hd⟩,hz⟩:=I.tuple (SqT.of ha)
   obtain ⟨⟨as,h2,hn⟩,h3,h5⟩:=readsTs_of I sim k xs _ _ ds r rv h1
   refine ⟨⟨as,.tuple ho hc hd (by simpa using h2),hn⟩,?_,?_⟩
   ·unfold PyData.showable;exact h3
   ·unfold PyData.depth;omega
 | k+1,.ref n,v,u,p,r,e,h=>by
  unfold pyT at h
  split at h
  ·rename_i e0
   cases h
   cases r with
   | @ref _ a hn =>
    cases e
    obtain ⟨vs,hH,r2⟩:=sim.at' n a _ hn e0
    obtain ⟨_,hd,ws,r0,o,es,ep,ho,hx,hdt,_,hp,_⟩:=I.hok a _ hH
    cases r0
    cases hes:es.toList with
    | nil =>
     refine ⟨⟨_,.dict (kvs:=[]) ho hx.1 hdt (by rw [hes];exact .nil) (by rw [hes];exact .nil),?_⟩,rfl,by unfold PyData.depth PyData.depthKv;omega⟩
     simp only [List.append_nil,List.mem_singleton]
     exact λz=>by subst z;simp at hd
    | cons e1 e2=>rw [hes] at hp;cases hp
  ·rename_i i d0 e0
   obtain ⟨hi,h⟩:i.natAbs.log2<1920/\((pyT S k d0).bind λp=>some (PyData.dict [(.int i,p)]))=some p:=by
    by_cases hi:i.natAbs.log2<1920
    ·rw [if_pos hi] at h;exact ⟨hi,h⟩
    ·rw [if_neg hi] at h;cases h
   obtain ⟨p0,h1,h⟩:=bnd h
   cases h
   cases r with
   | @ref _ a hn =>
    cases e
    obtain ⟨vs,hH,r2⟩:=sim.at' n a _ hn e0
    obtain ⟨w,rfl,rw'⟩:=r2.one
    obtain ⟨_,hd,ws,r0,o,es,ep,ho,hx,hdt,_,hp,_⟩:=I.hok a _ hH
    cases r0 with
    | @cons _ q0 _ _ hq t =>
     cases t
     obtain ⟨q1,q2⟩:=q0
     obtain ⟨hq1,hq2⟩:=hq
     cases hes:es.toList with
     | nil=>rw [hes] at hp;cases hp
     | cons e1 e2 =>
      rw [hes] at hp
      cases hp with
      | cons hk hval ht =>
       cases ht
       have hq1:Sum.inl i=q1:=hq1
       subst hq1
       have hval:e1.val=q2:=hval
       obtain ⟨⟨as,k1,k2⟩,k3,k4⟩:=zkx I sim k d0 w q2 p0 rw' hq2 h1
       obtain ⟨i',t',e3,e4⟩|⟨x',t',e3,e4⟩:=ze8 (show zgd (Sum.inl i) e1.key=true from hk)
       ·cases e3
        refine ⟨⟨_,.dict (kvs:=[(.int i,p0)]) ho hx.1 hdt (as:=[]) (bs:=as++[]) ?_ ?_,?_⟩,?_,?_⟩
        ·rw [hes]
         simp only [List.map_cons,List.map_nil]
         rw [e4]
         have:=ReadsAll.cons (h:=s.heap) (Reads.int i t') ReadsAll.nil
         simpa using this
        ·rw [hes]
         simp only [List.map_cons,List.map_nil]
         rw [hval]
         exact .cons k1 .nil
        ·simp only [List.append_nil,List.mem_append,List.mem_cons,List.not_mem_nil,or_false,not_or]
         exact ⟨λz=>by subst z;simp at hd,k2⟩
        ·unfold PyData.showable PyData.showableKv PyData.showableKv
         rw [k3]
         have:(PyData.int i).showable=true:=by unfold PyData.showable;exact decide_eq_true hi
         rw [this];rfl
        ·unfold PyData.depth PyData.depthKv PyData.depthKv
         have:(PyData.int i).depth=0:=rfl
         omega
       ·cases e3
  ·cases h
termination_by k=>(k,0)
theorem readsTs_of (I:Inv X pins σ H s) (sim:Sim X.K ρ S H):∀(k:Nat) (xs:List D) (vs:List V) (us:List Value) (ds:List PyData),RDs ρ H xs vs->Vals vs us->pyTs S k xs=some ds->(∃as,ReadsAll s.heap us ds as/\sysModules ∉ as)/\PyData.showableAll ds=true/\PyData.depthAll ds<=k
 | k,[],vs,us,ds,r,e,h=>by
  unfold pyTs at h;cases h;cases r;cases e
  exact ⟨⟨_,.nil,by simp⟩,rfl,Nat.zero_le _⟩
 | k,x :: xs,vs,us,ds,r,e,h=>by
  unfold pyTs at h
  obtain ⟨d,h1,h⟩:=bnd h
  obtain ⟨ds',h2,h⟩:=bnd h
  cases h
  cases r with
  | cons r1 r2 =>
   cases e with
   | cons e1 e2 =>
    obtain ⟨⟨as,q1,q5⟩,q2,q4⟩:=zkx I sim k x _ _ d r1 e1 h1
    obtain ⟨⟨bs,p1,p5⟩,p2,p4⟩:=readsTs_of I sim k xs _ _ ds' r2 e2 h2
    refine ⟨⟨_,.cons q1 p1,by simp only [List.mem_append,not_or];exact ⟨q5,p5⟩⟩,?_,?_⟩
    ·unfold PyData.showableAll;rw [q2,p2];rfl
    ·unfold PyData.depthAll;omega
termination_by k xs=>(k,xs.length+1)
end
end
noncomputable def zec:FM
 | [x],S=>(pyT S 140 x).bind λd=>if d.shown.length<=sizeLine then some (.str d.shown,S) else none
 | _,_=>none
section
variable {X:Cx}{a:Expr}{es:List Expr}{mA:AM}{pos p:Pos}
theorem zzu {k:Nat}(hr:Room k X.A):CallR X (.builtin "repr") (λxs H Q=>∃v ρ S d pd,xs=[v]/\Sim X.K ρ S H/\RD ρ H d v/\pyT S 140 d=some pd/\pd.shown.length<=sizeLine/\Q (.str pd.shown) H):=by
 intro pins s σ H xs us Q I r h
 obtain ⟨v,ρ,S,d,pd,rfl,sim,rd,hp,hz,q⟩:=h
 obtain ⟨u,rfl,ru⟩:=ze9 r
 have key:=zkx I sim 140 d v u pd rd ru hp
 have byRef:∀a,u=.ref a->wpAny (model X.prog X.w) X.A (call (.builtin "repr") [u]) (EP X pins σ Q) X.xe s:=λb hb=>by
  subst hb
  obtain ⟨⟨as,h1,hn⟩,h2,h4⟩:=key
  have hu:X.A.units+(pd.depth+1)<cLine:=by have:=hr.un;omega
  refine repr_of_reads' h1 h2 (λ_=>hn) hr.gd hu (λ_ _ e=>e) (λh' u tk hk=>?_) hz
  exact ⟨.str pd.shown,H,I.kept hk,⟨u,rfl⟩,q⟩
 have hp':=hp
 cases rd with
 | non=>cases ru;unfold pyT at hp';cases hp';exact P.repr_of_none ⟨.str _,H,I.tok _,⟨_,rfl⟩,q⟩
 | bl b=>cases ru;unfold pyT at hp';cases hp';exact P.repr_of_bool ⟨.str _,H,I.tok _,⟨_,by cases b <;> rfl⟩,q⟩
 | int i =>
  obtain ⟨t,rfl⟩:=ru
  unfold pyT at hp'
  obtain ⟨hi,e⟩:=zbd hp'
  cases e
  exact P.repr_of_int hi ⟨.str _,H,I.tok _,⟨_,rfl⟩,q⟩
 | str x=>obtain ⟨t,rfl⟩:=ru;unfold pyT at hp';cases hp';exact P.repr_of_str ⟨.str _,H,I.tok _,⟨_,rfl⟩,q⟩ hz
 | tup ha r=>exact byRef _ ru
 | ref hn=>exact byRef _ ru
 | fn b=>unfold pyT at hp';cases hp'
theorem zzv {K:QFg}:Fn3 K zec (λxs H Q=>∃v ρ S d pd,xs=[v]/\Sim K ρ S H/\RD ρ H d v/\pyT S 140 d=some pd/\pd.shown.length<=sizeLine/\Q (.str pd.shown) H):=by
 intro ρ S H xs vs v S' Q sim r h p
 unfold zec at h
 split at h
 ·obtain ⟨pd,h1,h⟩:=bnd h
  obtain ⟨hz,e⟩:=zbd h
  cases e
  obtain ⟨w,rfl,rw'⟩:=r.one
  exact ⟨w,ρ,_,_,pd,rfl,sim,rw',h1,hz,p ρ H _ (Ext.refl ..) sim (.str _)⟩
 ·cases h
theorem CallR.or3 {f:Value}{r r':List V->Hp->VK->Prop}(h:CallR X f r) (h':CallR X f r'):CallR X f (λxs H Q=>r xs H Q\/r' xs H Q):=by
 intro pins s σ H xs us Q I rr q
 rcases q with q|q
 ·exact h pins s σ H xs us Q I rr q
 ·exact h' pins s σ H xs us Q I rr q
noncomputable def zf1:FM:=λxs S=>match zec xs S with|some v=>some v|none=>zgq xs S
theorem zzw {K:QFg}{r r':List V->Hp->VK->Prop}(h:Fn3 K zec r) (h':Fn3 K zgq r'):Fn3 K zf1 (λxs H Q=>r xs H Q\/r' xs H Q):=by
 intro ρ S H xs vs v S' Q sim rr hm p
 unfold zf1 at hm
 cases e:zec xs S with
 | some w=>rw [e] at hm;cases hm;exact .inl (h ρ S H xs vs _ _ Q sim rr e p)
 | none=>rw [e] at hm;exact .inr (h' ρ S H xs vs _ _ Q sim rr hm p)
end
theorem zzx {S:Sto}{x:D}{p:PyData}{Q:D->Sto->Prop}(h:zat S 140 x=some p\/pyT S 140 x=some p) (hz:p.shown.length<=sizeLine):Wo (zf1 [x] S) Q=Q (.str p.shown) S:=by
 have:zf1 [x] S=some (.str p.shown,S):=by
  unfold zf1
  rcases h with h|h
  ·cases e:pyT S 140 x with
   | some q =>
    have:=zqn S 140 x q p e h
    subst this
    have:zec [x] S=some (.str q.shown,S):=by unfold zec;dsimp only;rw [e];show (if _ then _ else _)=_;rw [if_pos hz]
    rw [this]
   | none =>
    have:zec [x] S=none:=by unfold zec;dsimp only;rw [e];rfl
    rw [this]
    unfold zgq;dsimp only;rw [h];show (if _ then _ else _)=_;rw [if_pos hz]
  ·have:zec [x] S=some (.str p.shown,S):=by unfold zec;dsimp only;rw [h];show (if _ then _ else _)=_;rw [if_pos hz]
   rw [this]
 rw [this];exact zbb
section
variable {prog:Program}{w:World}{A:Around}{E:Value->Shared->Prop}{s:Shared}
theorem zzy {b t:Addr}{n:Nat}{vs:Array Value}{u:Value}{Q:Value->Shared->Prop}(hb:s.heap.IsTupleIter b t n) (ht:s.heap.IsTuple t vs) (hu:vs[n]? = some u)
  (q:∀h1,h1.IsTupleIter b t (n+1)->Heap.SameBut b s.heap h1->Q u { s with heap:=h1 }):wpAny (model prog w) A (Builtin.SmallTypes.nextOf (.ref b)) Q E s:=by
 obtain ⟨ob,gb,cb,db⟩:=id hb
 obtain ⟨ot,gt,_,nt,dt⟩:=ht
 unfold Builtin.SmallTypes.nextOf
 refine qwb (wpAny_callSpecial?_slot (name:=Str.ofString "__next__") hb.typeIs F.slot_tuple_iterator_next (wpAny_call_entry F.slot_tuple_iterator_next hb.typeIs F.entry_tuple_iterator_next ?_ (F.args_tuple_iterator_next_1 _)))
 show wpAny _ _ (field (.ref b) 0 >>= _) _ _ s
 refine qwb (wpAny_field gb db (x:=.ref t) rfl ?_)
 show wpAny _ _ (if (Value.ref t == Value.none)=true then _ else _) _ _ s
 rw [if_neg (by intro z;cases z)]
 show wpAny _ _ (field (.ref b) 1 >>= _) _ _ s
 refine qwb (wpAny_field gb db (x:=.int n 0) rfl ?_)
 show wpAny _ _ (seqItems? (.ref t) >>= _) _ _ s
 refine qwb (wpAny_seqItems gt dt ?_)
 simp only [Int.toNat_natCast,hu]
 refine qwb (wpAny_setField gb db (by simp) (qwp ⟨u,rfl,qwp (q _ ⟨_,Heap.get?_update_self _ gb (Obj.isFreed_of_fields (Obj.data_mapFields db _)),(Obj.cls_mapFields ..).trans cb,by rw [Obj.data_mapFields db];simp [rawInt]⟩ (Heap.SameBut.update ..))⟩))
theorem zm2 {b t:Addr}{n:Nat}{vs:Array Value}{Q:Value->Shared->Prop}(hA:A.handled=none) (hb:s.heap.IsTupleIter b t n) (ht:s.heap.IsTuple t vs) (hu:vs[n]? = none)
  (q:∀h1 x,Heap.ExtBut b s.heap h1->(∃o,h1.get? x=some o/\o.cls=.type "StopIteration")->E (.ref x) { s with heap:=h1 }):wpAny (model prog w) A (Builtin.SmallTypes.nextOf (.ref b)) Q E s:=by
 obtain ⟨ob,gb,cb,db⟩:=id hb
 obtain ⟨ot,gt,_,nt,dt⟩:=ht
 unfold Builtin.SmallTypes.nextOf
 refine qwb (wpAny_callSpecial?_slot (name:=Str.ofString "__next__") hb.typeIs F.slot_tuple_iterator_next (wpAny_call_entry F.slot_tuple_iterator_next hb.typeIs F.entry_tuple_iterator_next ?_ (F.args_tuple_iterator_next_1 _)))
 show wpAny _ _ (field (.ref b) 0 >>= _) _ _ s
 refine qwb (wpAny_field gb db (x:=.ref t) rfl ?_)
 show wpAny _ _ (if (Value.ref t == Value.none)=true then _ else _) _ _ s
 rw [if_neg (by intro z;cases z)]
 show wpAny _ _ (field (.ref b) 1 >>= _) _ _ s
 refine qwb (wpAny_field gb db (x:=.int n 0) rfl ?_)
 show wpAny _ _ (seqItems? (.ref t) >>= _) _ _ s
 refine qwb (wpAny_seqItems gt dt ?_)
 simp only [Int.toNat_natCast,hu]
 refine qwb (wpAny_rule (qwb (wpAny_setField gb db (by simp) ?_)))
 show wpAny _ _ (newExc (.type "StopIteration") [] >>= _) _ _ _
 refine qwb ?_
 simp only [newExc,newTuple]
 refine qwb (wpAny_newObj_type ?_ (by size_fits))
 refine qwb (m:=firstArgMember _ _) (wpAny_of_eq (a:=Value.none) (by first|rfl|(simp only [firstArgMember];rfl)) ?_)
 refine wpAny_newObj_type ?_ (by size_fits)
 simp only [raiseNew]
 refine qwb (wpAny_handled ?_)
 first|rw [show A.in1.handled=none from hA]|rw [hA]
 refine qwb (qwp (wpAny_throw ?_))
 exact q _ _ (((Heap.SameBut.update ..).extBut.push _).push _) ⟨_,Heap.get?_push_size _ rfl,rfl⟩
end
theorem zqo {prog:Program}{w:World}{A:Around}(hA:A.handled=none) (b t:Addr) (hne:t≠b) (vs:Array Value) :
  Draws prog w A b [b,t] vs.size (λi v=>vs[i]? = some v) (λi h=>h.IsTupleIter b t i/\h.IsTuple t vs) where
 live:=λ_ _ st=>let ⟨o,ho,_⟩:=st.1;⟨o,ho⟩
 frame:=λ_ _ _ st hk=>⟨let ⟨o,ho,r⟩:=st.1;⟨o,hk b (by simp) o ho,r⟩,let ⟨o,ho,r⟩:=st.2;⟨o,hk t (by simp) o ho,r⟩⟩
 item:=λi s Q E hi st hQ=>zzy st.1 st.2 (u:=vs[i]) (by simp [hi]) λh1 hb1 hs1=>hQ _ h1 s.toks (by simp [hi]) ⟨hb1,st.2.extBut hs1.extBut hne⟩ hs1
 done:=λs Q E st hE=>zm2 hA st.1 st.2 (by simp) hE
theorem Inv.dealt {X:Cx}{pins:List (Addr × Obj)}{σ:L2.St}{H:Hp}{s:Shared}{h1:Heap}{t1:Nat}{ch:List Addr}{xs:List V}{us:List Value}(I:Inv X pins σ H s) (hf:∀b∈ch,zcz X pins H b)
  (k:∀b o,b ∉ ch->s.heap.get? b=some o->h1.get? b=some o) (g:IsTD h1 s.heap.objs.size us.toArray) (r:Vals xs us) (hz:xs.length<=sizeLine) :
  Inv X pins σ (upd H s.heap.objs.size (.tup xs)) { s with heap:=h1,toks:=t1 }:=by
 have hn:H s.heap.objs.size=none:=I.hok.fresh (qlr _)
 have ne:∀b o,s.heap.get? b=some o->b≠s.heap.objs.size:=λb o e=>Nat.ne_of_lt (Heap.lt_size e)
 have nf:∀b u,H b=some u->b ∉ ch:=λb u e z=>by rw [(hf b z).1] at e;cases e
 refine I.step (g':=s.gens) (d':=s.drawn) (ch:=ch) (λb hb=>?_) (λb o _ _ hc e _=>k b o hc e) (λb o _ _ hc e _=>⟨o.slots,k b o hc e⟩) (λb o _ e n=>by rw [zar (ne b o e)];exact n)
  (λb o hc e=>⟨o,k b o hc e⟩) (λb ys e=>by rw [zar (zbl e hn)];exact e) (λb o u e=>by rw [zar (zbl e hn)];exact e) (λb ps e=>⟨#[],by rw [zar (zbl e hn),e];simp⟩) (λm hm=>?_) (λb u e=>?_) I.bare
 ·obtain ⟨_,q1,_,q3,q4,q5⟩:=hf b hb
  exact ⟨q3,q1,q4,q5⟩
 ·obtain ⟨o,es,ep,ho,q⟩:=hm
  exact ⟨o,es,ep,k _ o (λz=>(hf _ z).2.1 rfl) ho,q⟩
 ·by_cases hb:b=s.heap.objs.size
  ·subst hb;rw [zbw] at e;cases e;exact ⟨hz,us,r,g⟩
  ·rw [zar hb] at e
   refine (I.hok b u e).stay (λc v hc q=>k c v ?_ q) (λc q=>by rw [zar (zbl q hn)];exact q) λc xs q=>by rw [zar (zbl q hn)];exact q
   rcases hc with z|z
   ·rw [z];exact nf b u e
   ·exact nf c _ z
noncomputable def Itn (J:It):It:=⟨J.go,λi H x H1=>∃y p,J.yld i H y H/\H p=none/\x=.ref p/\H1=upd H p (.tup [.int i,y]),J.stop⟩
section
variable {P:Program}{w:World}{K:QFg}{elts:List Expr}{z:Nat}{tp:Pos}
theorem zm3 {e b:Addr}{T:Heap->Prop}(hT:∀h,T h->∃o,h.get? b=some o/\∀v,o.data≠.cell v) (i:Nat) (h:Heap) (st:(∃old,IsEnum h e b i old)/\T h):∀c∈[e,b],∃o,h.get? c=some o/\∀v,o.data≠.cell v:=λc hc=>by
 have hc:c=e\/c=b:=by simpa using hc
 rcases hc with rfl|rfl
 ·obtain ⟨⟨old,q⟩,_⟩:=st
  exact ⟨_,q,λv z=>by
   have z:Data.fields _=Data.cell v:=z
   cases z⟩
 ·exact hT h st.2
theorem zky {h:Heap}{a b:Addr}{c d:Value}{p q:Obj->Prop}(ha:∃o,h.get? a=some o/\o.cls=c/\p o) (hb:∃o,h.get? b=some o/\o.cls=d/\q o) (n:c≠d):a≠b:=by
 rintro rfl
 obtain ⟨o,e,c1,_⟩:=ha
 obtain ⟨o2,e2,c2,_⟩:=hb
 rw [e] at e2;cases e2
 exact n (c1.symm.trans c2)
theorem zm4 {X:Cx}{pins:List (Addr × Obj)}{σ:L2.St}{H:Hp}{s:Shared}{e b:Addr}{i tk:Nat}{x:V}{u:Value}{h1 h2:Heap}{J:It}{T:Heap->Prop}(I:Inv X pins σ H s) (hf:∀c∈[e,b],zcz X pins H c) (ru:RelV x u)
  (le:e<s.heap.objs.size) (lb:b<s.heap.objs.size) (hk:∀c o,c≠e->c≠b->s.heap.get? c=some o->h1.get? c=some o) (hT:h1.get? s.heap.objs.size=some { cls:=.type "tuple",data:=.seq #[.int i tk,u] })
  (he2:IsEnum h2 e b ((i:Int)+1) u) (hs2:Heap.SameBut e h1 h2) (t2:T h2) (y:J.yld i H x H) :
  ∃x1 H1,Inv X pins σ H1 { s with heap:=h2,toks:=tk+1 }/\RelV x1 (.ref s.heap.objs.size)/\(Itn J).yld i H x1 H1/\((∃old,IsEnum h2 e b ((i+1:Nat):Int) old)/\T h2)/\∀c∈[e,b],H1 c=none:=by
 have hn:H s.heap.objs.size=none:=I.hok.fresh (qlr _)
 refine ⟨.ref s.heap.objs.size,upd H s.heap.objs.size (.tup [.int i,x]),?_,rfl,⟨x,s.heap.objs.size,y,hn,rfl,rfl⟩,⟨⟨u,by simpa using he2⟩,t2⟩,λc hc=>?_⟩
 ·refine Inv.dealt (us:=[.int i tk,u]) I hf (λc o hc q=>?_) ⟨_,(hs2.2 _ (Nat.ne_of_gt le)).trans hT,rfl,_,rfl,rfl⟩ (.cons ⟨tk,rfl⟩ (.cons ru .nil)) (by show 2<=sizeLine;decide)
  have h3:c≠e/\c≠b:=⟨λz=>hc (by simp [z]),λz=>hc (by simp [z])⟩
  exact (hs2.2 c h3.1).trans (hk c o h3.1 h3.2 q)
 ·have:c≠s.heap.objs.size:=by
   have hc:c=e\/c=b:=by simpa using hc
   rcases hc with rfl|rfl
   ·exact Nat.ne_of_lt le
   ·exact Nat.ne_of_lt lb
  rw [zar this];exact (hf c hc).1
theorem zzz (a e b:Addr) (heb:e≠b):Turn P w K (.Tuple elts z tp) (Itn (Itl K a)) [e,b] e (λi h=>(∃old,IsEnum h e b i old)/\h.IsListIter b a i) where
 mem:=by simp
 obj:=λi h st=>zm3 (T:=λh=>h.IsListIter b a i) (λh ⟨o,q,c,d⟩=>⟨o,q,λv z=>by rw [d] at z;cases z⟩) i h st
 keep:=λi h h1 st k=>⟨let ⟨old,q⟩:=st.1;⟨old,k e (by simp) _ q⟩,st.2.at λo q=>k b (by simp) o q⟩
 item:=by
  intro X hP hw hK hc i pins s σ H E I hf st hg
  subst hP hw hK
  obtain ⟨xs,x,hq,hx⟩:=hg
  obtain ⟨its,rv,p,hz⟩:=I.list hq
  obtain ⟨u,hu,ru⟩:=rv.get hx
  obtain ⟨⟨old,he⟩,hb⟩:=st
  have nab:a≠b:=zky p.isList hb (by decide)
  have nae:a≠e:=zky (d:=.type "enumerate") (q:=λ_=>True) p.isList ⟨_,he,rfl,trivial⟩ (by decide)
  have hlt:i<its.toArray.size:=by simpa using (qme hu).1
  refine wpAny_pyNext_enum_itemD (Draws.list (A:=X.A.in1) (I.ok.hd hc) b a nab its.toArray) he ⟨hb,p.isList⟩ hlt heb (by simp [heb,nae.symm]) λx1 h1 tk hP ho hs1 hT hsz hk=>?_
  have hx1:x1=u:=by
   have:its.toArray[i]? = some u:=by simpa using hu
   rw [this] at hP;exact (qoi hP).symm
  subst hx1
  obtain ⟨ob,gb,_⟩:=id hb
  refine ⟨_,rfl,wpAny_letOwnedTupleGo_enum ho λh2 he2 hs2=>?_⟩
  replace hs2:Heap.SameBut e h1 h2:=hs2
  exact zm4 (J:=Itl X.K a) (T:=λh=>h.IsListIter b a (i+1)) I hf ru (Heap.lt_size he) (Heap.lt_size gb) hk hT he2 hs2 (hs1.1.at λo q=>(hs2.2 b heb.symm).trans q) ⟨rfl,λys hy=>by rw [I.list_inj hy hq];exact hx⟩
 done:=by
  intro X hP hw hK hc i pins s σ H E I hf st hg
  subst hP hw hK
  obtain ⟨xs,hq,hx⟩:=hg
  obtain ⟨its,rv,p,hz⟩:=I.list hq
  obtain ⟨⟨old,he⟩,hb⟩:=st
  obtain ⟨f0,f1,f2,f3,f4,f5⟩:=hf b (by simp)
  have hl:=rv.length
  exact wpAny_pyNext_enum_end (I.ok.hd hc) he hb p.isList (by simp;omega) λh1 eb=>⟨rfl,I.turned (t':=s.toks) (λc o hb q=>eb c o hb q) f0 f1 f3 f4 f5⟩
 self:=λA i s Q E st h=>let ⟨old,q⟩:=st.1;wpAny_pyIter_enum q h
theorem zz0 {A:Around}{E:Value->Shared->Prop}{s:Shared}{e b t:Addr}{n:Nat}{vs:Array Value}{old:Value}{Q:Option Value->Shared->Prop}(hA:A.handled=none) (he:IsEnum s.heap e b n old) (hb:s.heap.IsTupleIter b t n)
  (ht:s.heap.IsTuple t vs) (hu:vs[n]? = none) (q:∀h1,Heap.ExtBut b s.heap h1->Q none { s with heap:=h1 }):wpAny (model P w) A (pyNext (.ref e)) Q E s:=by
 have ty:s.TypeIs (.ref e) "enumerate":=⟨_,he,rfl⟩
 unfold pyNext
 refine qwb (wpAny_attempt (wpAny_callSpecial?_slot (name:=Str.ofString "__next__") ty F.slot_enumerate_next (wpAny_call_entry F.slot_enumerate_next ty F.entry_enumerate_next ?_ (F.args_enumerate_next_1 _))))
 show wpAny _ _ (field (.ref e) 2 >>= _) _ _ _
 refine qwb (wpAny_field he rfl (x:=.ref b) rfl ?_)
 refine qwb (zm2 hA hb ht hu λh1 x q1 ⟨o,g,c⟩=>?_)
 exact qwb (wpAny_isInstance (T:="StopIteration") (b:=true) ⟨o,g,c⟩ isSubtype_stop (qwp (q _ q1)))
theorem zz1 (a e b:Addr) (heb:e≠b):Turn P w K (.Tuple elts z tp) (Itn (Itt K a)) [e,b] e (λi h=>(∃old,IsEnum h e b i old)/\h.IsTupleIter b a i) where
 mem:=by simp
 obj:=λi h st=>zm3 (T:=λh=>h.IsTupleIter b a i) (λh ⟨o,q,c,d⟩=>⟨o,q,λv z=>by rw [d] at z;cases z⟩) i h st
 keep:=λi h h1 st k=>⟨let ⟨old,q⟩:=st.1;⟨old,k e (by simp) _ q⟩,let ⟨o,q,r⟩:=st.2;⟨o,k b (by simp) o q,r⟩⟩
 item:=by
  intro X hP hw hK hc i pins s σ H E I hf st hg
  subst hP hw hK
  obtain ⟨xs,x,hq,hx⟩:=hg
  obtain ⟨its,rv,p,hz⟩:=I.tuple hq
  obtain ⟨u,hu,ru⟩:=rv.get hx
  obtain ⟨⟨old,he⟩,hb⟩:=st
  have p:s.heap.IsTuple a its.toArray:=p
  have nab:a≠b:=zky p hb (by decide)
  have nae:a≠e:=zky (d:=.type "enumerate") (q:=λ_=>True) p ⟨_,he,rfl,trivial⟩ (by decide)
  have hlt:i<its.toArray.size:=by simpa using (qme hu).1
  refine wpAny_pyNext_enum_itemD (zqo (A:=X.A.in1) (I.ok.hd hc) b a nab its.toArray) he ⟨hb,p⟩ hlt heb (by simp [heb,nae.symm]) λx1 h1 tk hP ho hs1 hT hsz hk=>?_
  have hx1:x1=u:=by
   have:its.toArray[i]? = some u:=by simpa using hu
   rw [this] at hP;exact (qoi hP).symm
  subst hx1
  obtain ⟨ob,gb,_⟩:=id hb
  refine ⟨_,rfl,wpAny_letOwnedTupleGo_enum ho λh2 he2 hs2=>?_⟩
  replace hs2:Heap.SameBut e h1 h2:=hs2
  exact zm4 (J:=Itt X.K a) (T:=λh=>h.IsTupleIter b a (i+1)) I hf ru (Heap.lt_size he) (Heap.lt_size gb) hk hT he2 hs2 (hs1.1.extBut hs2.extBut heb.symm) ⟨rfl,λys hy=>by rw [I.tuple_inj hy hq];exact hx⟩
 done:=by
  intro X hP hw hK hc i pins s σ H E I hf st hg
  subst hP hw hK
  obtain ⟨xs,hq,hx⟩:=hg
  obtain ⟨its,rv,p,hz⟩:=I.tuple hq
  obtain ⟨⟨old,he⟩,hb⟩:=st
  obtain ⟨f0,f1,f2,f3,f4,f5⟩:=hf b (by simp)
  have hl:=rv.length
  exact zz0 (I.ok.hd hc) he hb p (by simp;omega) λh1 eb=>⟨rfl,I.turned (t':=s.toks) (λc o hb q=>eb c o hb q) f0 f1 f3 f4 f5⟩
 self:=λA i s Q E st h=>let ⟨old,q⟩:=st.1;wpAny_pyIter_enum q h
end
open AutoSeq1
theorem zz2 (t:Addr) (vs:Array Value) (m:Nat) (dc:Option Addr) (sl:Array (Option Value)) :
  Meets (Builtin.«enumerate.__new__» ⟨[.type "enumerate",.ref t],[]⟩) (λ_ R s=>s.heap.get? t=some { cls:=.type "tuple",dict:=dc,data:=.seq vs m,slots:=sl } /\
   R (.ok (.ret (.ref (s.heap.push { cls:=.type "tuple_iterator",data:=.fields #[.ref t,.int 0 0] }).objs.size)))
    { s with heap:=(s.heap.push { cls:=.type "tuple_iterator",data:=.fields #[.ref t,.int 0 0] }).push { cls:=.type "enumerate",data:=.fields #[.none,.bool false,.ref s.heap.objs.size,rawInt 0,.none,.none] } }) :=
 .of_wp λprog w A R s hx1_=>by
  obtain ⟨ht,h⟩:=hx1_
  have sub1:=sub_enumerate
  obtain ⟨hp,g,d,tk,os⟩:=s
  have tt:Heap.IsTuple (Shared.heap ⟨hp,g,d,tk,os⟩) t vs:=⟨_,ht,rfl,m,rfl⟩
  wp_walk using wpAny_loadPart' ht
  refine wpAny_stack_any λ_=>qwp ?_
  split
  ·rename_i c _ _ _ _ _
   cases (c == Value.type "enumerate") <;> (wp_walk using wpAny_loadPart' ht,wpAny_pyIter_tuple tt;exact ⟨_,rfl,h⟩)
  ·wp_walk using wpAny_loadPart' ht,wpAny_pyIter_tuple tt
   exact ⟨_,rfl,h⟩
section
variable {prog:Program}{w:World}{A:Around}{E:Value->Shared->Prop}{s:Shared}
theorem zz3 {t:Addr}{vs:Array Value}{Q:Value->Shared->Prop}(ht:s.heap.IsTuple t vs)
  (q:∀h1,IsEnum h1 (s.heap.objs.size+1) s.heap.objs.size 0 .none->h1.IsTupleIter s.heap.objs.size t 0->(∀b o,s.heap.get? b=some o->h1.get? b=some o)->Q (.ref (s.heap.objs.size+1)) { s with heap:=h1 }) :
  wpAny (model prog w) A (call (.type "enumerate") [.ref t]) Q E s:=by
 obtain ⟨⟨c,dc,dt,sl⟩,gt,hc,m,hd⟩:=ht
 replace hc:c=.type "tuple":=hc
 replace hd:dt=.seq vs m:=hd
 subst hc hd
 refine callType_new F.called_enumerate (by decide) (F.typeCall_enumerate_1 _) (F.newCall_enumerate_1 _) (λo=>F.args_object_init_2 o _) F.entry_enumerate_new (zz2 t vs m dc sl) ⟨gt,?_⟩
 have hz:(s.heap.push { cls:=.type "tuple_iterator",data:=.fields #[.ref t,.int 0 0] }).objs.size=s.heap.objs.size+1:=Heap.size_push ..
 show _/\_
 rw [hz]
 have he:IsEnum ((s.heap.push { cls:=.type "tuple_iterator",data:=.fields #[.ref t,.int 0 0] }).push { cls:=.type "enumerate",data:=.fields #[.none,.bool false,.ref s.heap.objs.size,rawInt 0,.none,.none] }) (s.heap.objs.size+1) s.heap.objs.size 0 .none:=by
  rw [<-hz];exact Heap.get?_push_size _ rfl
 exact ⟨⟨_,he,rfl⟩,q _ he ⟨_,qps _ (Heap.get?_push_size _ rfl),rfl,rfl⟩ λb o x=>qps _ (qps _ x)⟩
end
theorem zm5:bootBuiltins "enumerate" = some (.type "enumerate"):=by decide +kernel
section
variable {X:Cx}{elts:List Expr}{z:Nat}{tp:Pos}
def zz4 (K:QFg) (ta:TA):TI:=λσ H R=>ta σ H λvs H1=>∃a,vs=[.ref a]/\(∃xs,SqL K H1 a xs)/\R (Itn (Itl K a)) H1
def zz5 (K:QFg) (ta:TA):TI:=λσ H R=>ta σ H λvs H1=>∃a,vs=[.ref a]/\(∃xs,SqT K H1 a xs)/\R (Itn (Itt K a)) H1
theorem zkz {pins:List (Addr × Obj)}{σ:L2.St}{H:Hp}{s:Shared}{R:It->Hp->Prop}{E:Value->Shared->Prop}{J:It}{T:Nat->Heap->Prop}{h1:Heap}(I:Inv X pins σ H s) (tu:Turn X.prog X.w X.K (.Tuple elts z tp) J [s.heap.objs.size+1,s.heap.objs.size] (s.heap.objs.size+1) (λi h=>(∃old,IsEnum h (s.heap.objs.size+1) s.heap.objs.size i old)/\T i h))
  (he:IsEnum h1 (s.heap.objs.size+1) s.heap.objs.size 0 .none) (t0:T 0 h1) (hk:∀b o,s.heap.get? b=some o->h1.get? b=some o) (q:R J H):wpAny (model X.prog X.w) X.A (pyIter (.ref (s.heap.objs.size+1))) (PIE X pins σ (.Tuple elts z tp) R) E { s with heap:=h1 }:=by
 refine wpAny_pyIter_enum (s:={ s with heap:=h1 }) he ⟨_,_,_,J,H,rfl,I.kept (t':=s.toks) hk,tu,⟨⟨_,he⟩,t0⟩,λc hc=>?_,q⟩
 have:s.heap.objs.size<=c:=by
  have hc:c=s.heap.objs.size+1\/c=s.heap.objs.size:=by simpa using hc
  rcases hc with rfl|rfl
  ·exact Nat.le_succ _
  ·exact qlr _
 exact I.fpOk this (I.hok.fresh this)
theorem zz6 {a:Expr}{ta:TA}{p pos:Pos}(hg:Gl X "enumerate") (hm:X.mg "enumerate" = none) (ha:PA X [a] ta) (hs:starEach [a] X.env=[(false,eval a X.env)]:=by rfl):PI X (.Tuple elts z tp) (.Call (.Name "enumerate" p) [a] [] pos) (zz4 X.K ta):=by
 intro pins s σ H R I h
 refine Call_ (zgz I hg hm zm5 (PyProof.Rows.callWith_type1 (thn (ha pos pins s σ H _ I h) λus s1 ⟨vs,H1,I1,r1,q1⟩=>?_) hs rfl))
 obtain ⟨b,rfl,⟨xs,hq⟩,q⟩:=q1
 cases r1 with
 | cons r rr =>
  cases rr
  cases r
  obtain ⟨its,rv,pl,hz⟩:=I1.list hq
  exact call_enumerate_list pl.isList λh1 he hb _ hk=>zkz (T:=λi h=>h.IsListIter s1.heap.objs.size b i) I1 (zzz b _ _ (Nat.succ_ne_self _)) he hb hk q
theorem zz7 {a:Expr}{ta:TA}{p pos:Pos}(hg:Gl X "enumerate") (hm:X.mg "enumerate" = none) (ha:PA X [a] ta) (hs:starEach [a] X.env=[(false,eval a X.env)]:=by rfl):PI X (.Tuple elts z tp) (.Call (.Name "enumerate" p) [a] [] pos) (zz5 X.K ta):=by
 intro pins s σ H R I h
 refine Call_ (zgz I hg hm zm5 (PyProof.Rows.callWith_type1 (thn (ha pos pins s σ H _ I h) λus s1 ⟨vs,H1,I1,r1,q1⟩=>?_) hs rfl))
 obtain ⟨b,rfl,⟨xs,hq⟩,q⟩:=q1
 cases r1 with
 | cons r rr =>
  cases rr
  cases r
  obtain ⟨its,rv,pl,hz⟩:=I1.tuple hq
  exact zz3 (show s1.heap.IsTuple b its.toArray from pl) λh1 he hb hk=>zkz (T:=λi h=>h.IsTupleIter s1.heap.objs.size b i) I1 (zz1 b _ _ (Nat.succ_ne_self _)) he hb hk q
end
noncomputable def zfq (it:ItM) (g:GM) (b:SM):Nat->Nat->SM
 | 0,_,_,_=>none
 | k+1,i,l,S=>(it i S).bind λo=>match o with
  | none=>some (.nx,l,S)
  | some x=>(g x l S).bind λp=>(b p.1 p.2).bind λq=>match q.1 with
   | .nx=>zfq it g b k (i+1) q.2.1 q.2.2
   | .ct=>zfq it g b k (i+1) q.2.1 q.2.2
   | .bk=>some (.nx,q.2)
   | .rt d=>some (.rt d,q.2)
noncomputable def zha (im:IM) (g:GM) (b:SM):SM:=λl S=>(im l S).bind λp=>zfq p.1 g b p.2.1 0 l p.2.2
def zk0 (K:QFg) (ρ:List Addr) (H:Hp) (it:ItM) (J:It):Prop:=∀(i:Nat) ρ' S' H',Ext ρ H ρ' H'->Sim K ρ' S' H' ->
 (it i S' = some none->J.stop i H')/\∀x,it i S' = some (some x)->J.go i H'/\∀y H'',J.yld i H' y H''->Ext ρ' H' ρ' H''/\Sim K ρ' S' H''/\RD ρ' H'' x y
noncomputable def itN (it:ItM):ItM:=λi S=>(it i S).map λo=>o.map λx=>.tup [.int i,x]
section
variable {K:QFg}
theorem zm6 {ρ:List Addr}{H:Hp}{it:ItM}{J:It}(h:zgo K ρ H it J):zk0 K ρ H (itN it) (Itn J):=by
 intro i ρ1 S1 H1 e s
 obtain ⟨h1,h2⟩:=h i ρ1 S1 H1 e s
 unfold itN
 refine ⟨λq=>?_,λx q=>?_⟩
 ·cases hi:it i S1 with
  | none=>rw [hi] at q;cases q
  | some o =>
   cases o with
   | none=>exact h1 hi
   | some x=>rw [hi] at q;cases q
 ·cases hi:it i S1 with
  | none=>rw [hi] at q;cases q
  | some o =>
   cases o with
   | none=>rw [hi] at q;cases q
   | some y =>
    rw [hi] at q;cases q
    obtain ⟨q1,q2⟩:=h2 y hi
    refine ⟨q1,λv H2 ⟨y2,p,hy1,hp,e1,e2⟩=>?_⟩
    subst e1 e2
    obtain ⟨_,r⟩:=q2 y2 H1 hy1
    exact ⟨zbx hp,s.laid hp,.tup zbw (.cons (.int _) (.cons (r.mono (zbx hp)) .nil))⟩
theorem zz8 {g:GM}{b:SM}{it:ItM}{J:It}{ρ:List Addr}{l:Lo}{S:Sto}{H:Hp}{σ:L2.St}{f:Fl}{l':Lo}{S':Sto}{E:Ends}{k:Nat}(ok:zk0 K ρ H it J)
  (sim:Sim K ρ S H) (ro:RO ρ H l σ) (hm:zfq it g b k 0 l S=some (f,l',S')) (p:∀ρ' H' σ',Ext ρ H ρ' H'->Sim K ρ' S' H'->RO ρ' H' l' σ'->zi8 ρ' H' E σ' f) :
  ∃W:Nat->Nat->L2.St->Hp->Prop,(∃m,W 0 m σ H)/\∀i m σ H,W i m σ H ->
   (J.stop i H/\E.nx σ H)\/(J.go i H/\∃N:L2.St->Hp->Prop,(∀σ' H',N σ' H'->∃m',m' < m/\W (i+1) m' σ' H')/\∀x H',J.yld i H x H'->tg K g x σ H' λσ2 H2=>ts K b { E with nx:=N,ct:=N,bk:=E.nx } σ2 H2):=by
 refine ⟨λi m σ1 H1=>∃ρ1 l1 S1,Ext ρ H ρ1 H1/\Sim K ρ1 S1 H1/\RO ρ1 H1 l1 σ1/\zfq it g b m i l1 S1=some (f,l',S'),⟨k,ρ,l,S,Ext.refl ..,sim,ro,hm⟩,?_⟩
 rintro i m σ1 H1 ⟨ρ1,l1,S1,e1,s1,ro1,hm1⟩
 cases m with
 | zero=>cases hm1
 | succ m =>
  unfold zfq at hm1
  obtain ⟨o,hi,hm1⟩:=bnd hm1
  obtain ⟨k1,k2⟩:=ok i ρ1 S1 H1 e1 s1
  cases o with
  | none=>cases hm1;exact .inl ⟨k1 hi,p ρ1 H1 σ1 e1 s1 ro1⟩
  | some x =>
   obtain ⟨k3,k4⟩:=k2 x hi
   refine .inr ⟨k3,_,λσ' H' h=>h,λy H2 hyl=>?_⟩
   obtain ⟨x2,s2,r2⟩:=k4 y H2 hyl
   refine zml (next:=zfq it g b m (i+1)) s2 (ro1.mono x2) r2 hm1 (λρ' H' σ' e'=>p ρ' H' σ' ((e1.trans x2).trans e')) λρ3 H3 σ3 l3 S3 e3 s3 ro3 hm3=>?_
   exact ⟨m,Nat.lt_succ_self m,ρ3,l3,S3,(e1.trans x2).trans e3,s3,ro3,hm3⟩
end
section
variable {X:Cx}{elts:List Expr}{z:Nat}{tp:Pos}{a:Expr}{mA:AM}{g:GM}{b:SM}{body:List Stmt}{p0 pos' pos:Pos}
end
theorem zz9 {α:Type}{c:Prop} [Decidable c] {a:Option α}{v:α}(h:(if c then a else none)=some v):c/\a=some v:=by
 by_cases hc:c
 ·rw [if_pos hc] at h;exact ⟨hc,h⟩
 ·rw [if_neg hc] at h;cases h
section
variable {prog:Program}{w:World}{A:Around}{E:Value->Shared->Prop}{s:Shared}
end
section
variable {X:Cx}{gs:GsM}{es:List Expr}{k n:Nat}{pos:Pos}
end
section
variable {X:Cx}{a:Expr}{ma:EM}{lo hi:Option Expr}{ml mh:OM}{p2 pos:Pos}
end
section
variable {X:Cx}{a b:Expr}{ma mb:EM}{mA:AM}{es:List Expr}{pos p:Pos}
end
noncomputable def zm7:D->D->Sto->Option (D × Sto)
 | .str z,.int i,S=>if z.length<=sizeLine then (atI z.cps.toList i).bind λc=>some (.str ⟨#[c]⟩,S) else none
 | _,_,_=>none
noncomputable def zaj:D->D->Sto->Option (D × Sto):=λx y S=>match dIx x y S with|some v=>some v|none=>zm7 x y S
theorem yaa {K:QFg}:Op3 K zm7 zl6:=by
 intro ρ S H x y x' y' v S' Q sim rx ry h p
 unfold zm7 at h
 split at h
 ·cases rx;cases ry
  split at h
  ·rename_i hz
   obtain ⟨c,h1,h⟩:=bnd h
   cases h
   exact ⟨_,_,c,rfl,rfl,hz,h1,p ρ H _ (Ext.refl ..) sim (.str _)⟩
  ·cases h
 ·cases h
theorem yab {K:QFg}:Op3 K zaj (rIx K):=by
 intro ρ S H x y x' y' v S' Q sim rx ry hm p
 unfold zaj at hm
 cases e:dIx x y S with
 | some w=>rw [e] at hm;cases hm;exact zxz ρ S H x y x' y' _ _ Q sim rx ry e p
 | none=>rw [e] at hm;exact .inr (.inr (yaa ρ S H x y x' y' _ _ Q sim rx ry hm p))
noncomputable def zbh:FM
 | [.str z],S=>if z.length<=sizeLine then some (.int z.length,S) else none
 | xs,S=>zje xs S
section
variable {X:Cx}{a b:Expr}{ma mb:EM}{mA:AM}{es:List Expr}{pos p:Pos}{K:QFg}
theorem zao (ha:PE3 X a ma) (hb:PE3 X b mb) (hs:zo2 b:=by intro _ _;rfl):PE3 X (.Subscript a b pos) (eOp zaj ma mb):=PE.imp (zwp zwr ha hb hs) (zkj yab)
theorem yac:Fn3 K zbh (λxs H Q=>(∃p ys,xs=[.ref p]/\(SqL K H p ys\/SqT K H p ys)/\Q (.int ys.length) H)\/∃z,xs=[.str z]/\z.length<=sizeLine/\Q (.int z.length) H):=by
 intro ρ S H xs vs v S' Q sim r h p
 unfold zbh at h
 split at h
 ·obtain ⟨hz,e⟩:=zbd h
  cases e
  obtain ⟨w,rfl,rw'⟩:=r.one
  cases rw'
  exact .inr ⟨_,rfl,hz,p ρ H _ (Ext.refl ..) sim (.int _)⟩
 ·exact .inl (zx5 ρ S H _ vs v S' Q sim r h p)
theorem zci (hg:Gl X "len") (hm:X.mg "len" = none) (ha:PA3 X (a :: es) mA) (he:starEach (a :: es) X.env=(false,eval a X.env) :: starEach es X.env:=by rfl) (hpl:(backTo pos (starEach es X.env)).any (·.1)=false:=by rfl):PE3 X (.Call (.Name "len" p) (a :: es) [] pos) (zaf zbh mA) :=
 zkm (call_len_seq.or zw1) yac hg hm PySem.boot_len ha (by decide) (by decide) he hpl
end
noncomputable def zih:D->Option Key
 | .int i=>some (.inl i)
 | .str x=>some (.inr x)
 | _=>none
noncomputable def zgs (kvs:List (Key × D)) (k:Key):Option D:=(kvs.find? λkv=>decide (kv.1=k)).map (·.2)
noncomputable def zk1 (kvs:List (Key × D)) (k:Key) (v:D):List (Key × D):=if (kvs.any λkv=>decide (kv.1=k))=true then kvs.map (λkv=>if kv.1=k then (kv.1,v) else kv) else kvs++[(k,v)]
section
variable {K:QFg}{ρ:List Addr}{H:Hp}{S:Sto}
theorem zm8 {k:Key}:∀{kvs:List (Key × D)}{vs:List V},RDs ρ H (kvs.map (·.2)) vs->(zgs kvs k=none->zc0 ((kvs.map (·.1)).zip vs) k=none)/\∀d,zgs kvs k=some d->∃v,zc0 ((kvs.map (·.1)).zip vs) k=some v/\RD ρ H d v
 | [],vs,r=>by
  cases r
  exact ⟨λ_=>rfl,λd h=>by cases h⟩
 | (k',d') :: kvs,vs,r=>by
  cases r with
  | @cons _ v _ vs r1 r2 =>
   by_cases e:k' = k
   ·have e1:zgs ((k',d') :: kvs) k=some d':=by simp [zgs,e]
    have e2:zc0 ((((k',d') :: kvs).map (·.1)).zip (v :: vs)) k=some v:=zi4 (p:=(k',v)) e
    rw [e1,e2]
    exact ⟨λz=>(by cases z),λd h=>(by cases h;exact ⟨v,rfl,r1⟩)⟩
   ·have e1:zgs ((k',d') :: kvs) k=zgs kvs k:=by simp [zgs,e]
    have e2:zc0 ((((k',d') :: kvs).map (·.1)).zip (v :: vs)) k=zc0 ((kvs.map (·.1)).zip vs) k:=zi5 (p:=(k',v)) e
    rw [e1,e2]
    exact zm8 r2
theorem zqp (k:Key):∀{kvs:List (Key × D)}{vs:List V},RDs ρ H (kvs.map (·.2)) vs->(((kvs.map (·.1)).zip vs).any λkv=>decide (kv.1=k))=kvs.any λkv=>decide (kv.1=k)
 | [],vs,r=>by cases r;rfl
 | (k',d') :: kvs,vs,r=>by
  cases r with
  | @cons _ v _ vs r1 r2 =>
   show (decide (k' = k) || (((kvs.map (·.1)).zip vs).any λkv=>decide (kv.1=k)))=(decide (k' = k) || _)
   rw [zqp k r2]
theorem yad {k:Key}{d:D}{v:V}(rv:RD ρ H d v) {kvs:List (Key × D)}{vs:List V}(r:RDs ρ H (kvs.map (·.2)) vs):∃ws,zb1 ((kvs.map (·.1)).zip vs) k v=((zk1 kvs k d).map (·.1)).zip ws/\RDs ρ H ((zk1 kvs k d).map (·.2)) ws:=by
 unfold zb1 zk1
 rw [zqp k r]
 by_cases e:(kvs.any λkv=>decide (kv.1=k))=true
 ·rw [if_pos e,if_pos e]
  clear e
  induction kvs generalizing vs with
  | nil=>cases r;exact ⟨[],rfl,.nil⟩
  | cons p kvs ih =>
   obtain ⟨k',d'⟩:=p
   cases r with
   | @cons _ u _ us r1 r2 =>
    obtain ⟨ws,h1,h2⟩:=ih r2
    by_cases e:k' = k
    ·refine ⟨v :: ws,?_,?_⟩
     ·simp only [List.map_cons,List.zip_cons_cons,if_pos e];rw [<-h1]
     ·simp only [List.map_cons,if_pos e];exact .cons rv h2
    ·refine ⟨u :: ws,?_,?_⟩
     ·simp only [List.map_cons,List.zip_cons_cons,if_neg e];rw [<-h1]
     ·simp only [List.map_cons,if_neg e];exact .cons r1 h2
 ·rw [if_neg e,if_neg e]
  refine ⟨vs++[v],?_,?_⟩
  ·rw [List.map_append,List.zip_append (by rw [qlm];have:=r.length;rw [qlm] at this;exact this)];rfl
  ·rw [List.map_append];exact r.append (.cons rv .nil)
theorem zk2 {d:D}{v:V}{k:Key}(h:zih d=some k) (r:RD ρ H d v):v=kV k:=by
 cases r <;> first|(cases h;rfl)|cases h
end
section
variable {X:Cx}{a b e:Expr}{ma mb me:EM}{pos pos':Pos}{k:Nat}
theorem zk3 (hr:Room k X.A):X.A.units+1<cLine:=by have:=hr.un;omega
theorem yae (hr:Room k X.A):OpR X (compareOp .NotIn) (λy x H Q=>∃a o,x=.ref a/\zkf H a y o/\Q (.bl (!o.isSome)) H):=by
 intro pins s σ H y x v u Q I ry rx h
 obtain ⟨a,o,rfl,g,q⟩:=h
 cases rx
 exact zxi (zk3 hr) I g ry λs' I'=>⟨.bl _,H,I',rfl,q⟩
end
theorem zqq (kvs:List (Key × V)):zgi (.dK kvs):=⟨λ_ z=>(by cases z),λ_ _ z=>(by cases z)⟩
section
variable {X:Cx}{o i value:Expr}{mo mi mv:EM}{pos pos':Pos}{k:Nat}
end
section
variable {X:Cx}{pos:Pos}
end
section
variable {X:Cx}
variable {o e:Expr}{mo m:EM}{apos cpos:Pos}
end
noncomputable def sgn (z:Str):List D:=z.cps.toList.map λc=>.str ⟨#[c]⟩
noncomputable def Its (z:Str):It:=⟨λi _=>i<z.cps.size,λi H x H'=>H' = H/\∃c,z.cps[i]? = some c/\x=.str ⟨#[c]⟩,λi _=>z.cps.size<=i⟩
theorem zqr (z:Str):(sgn z).length=z.cps.size:=by simp [sgn]
theorem yaf {K:QFg}{ρ:List Addr}{H:Hp}{z:Str}:zgo K ρ H (itX (sgn z)) (Its z):=by
 intro i ρ' S' H' e s
 refine ⟨λh=>?_,λx h=>?_⟩
 ·have h:(sgn z)[i]? = none:=qoi h
  have:=List.getElem?_eq_none_iff.mp h
  rw [zqr] at this
  exact this
 ·have h:(sgn z)[i]? = some x:=qoi h
  have hl:=(qme h).1
  rw [zqr] at hl
  refine ⟨hl,λy H'' ⟨e1,c,e2,e3⟩=>⟨e1,?_⟩⟩
  subst e3
  unfold sgn at h
  rw [qgm] at h
  have e4:z.cps.toList[i]? = some c:=by simpa using e2
  rw [e4] at h
  cases h
  exact .str _
section
variable {P:Program}{w:World}{K:QFg}{elts:List Expr}{z:Nat}{tp:Pos}
theorem zqs (x:Str) (t:Tok) (T:String) (e b:Addr) (heb:e≠b) (Dr:∀A:Around,A.handled=none->Draws P w A b [b] x.cps.size (λi v=>∃c u,x.cps[i]? = some c/\v=.str ⟨#[c]⟩ u) (λi h=>h.IsStrIter b T x t i)) :
  Turn P w K (.Tuple elts z tp) (Itn (Its x)) [e,b] e (λi h=>(∃old,IsEnum h e b i old)/\(h.IsStrIter b T x t i/\i<=x.cps.size)) where
 mem:=by simp
 obj:=λi h st=>zm3 (T:=λh=>h.IsStrIter b T x t i/\i<=x.cps.size) (λh ⟨⟨o,q,c,d⟩,_⟩=>⟨o,q,λv z=>by rw [d] at z;cases z⟩) i h st
 keep:=λi h h1 st k=>⟨let ⟨old,q⟩:=st.1;⟨old,k e (by simp) _ q⟩,let ⟨⟨o,q,r⟩,l⟩:=st.2;⟨⟨o,k b (by simp) o q,r⟩,l⟩⟩
 item:=by
  intro X hP hw hK hc i pins s σ H E I hf st hg
  subst hP hw hK
  obtain ⟨⟨old,he⟩,hb,hle⟩:=st
  have hlt:i<x.cps.size:=hg
  refine wpAny_pyNext_enum_itemD (Dr X.A.in1 (I.ok.hd hc)) he hb hlt heb (by simp [heb]) λx1 h1 tk hP ho hs1 hT hsz hk=>?_
  obtain ⟨c,u,hc1,rfl⟩:=hP
  obtain ⟨ob,gb,_⟩:=id hb
  refine ⟨_,rfl,wpAny_letOwnedTupleGo_enum ho λh2 he2 hs2=>?_⟩
  replace hs2:Heap.SameBut e h1 h2:=hs2
  exact zm4 (J:=Its x) (x:=.str ⟨#[c]⟩) (T:=λh=>h.IsStrIter b T x t (i+1)/\i+1<=x.cps.size) I hf ⟨u,rfl⟩ (Heap.lt_size he) (Heap.lt_size gb) hk hT he2 hs2 ⟨let ⟨o,q,r⟩:=hs1;⟨o,(hs2.2 b heb.symm).trans q,r⟩,hlt⟩ ⟨rfl,c,hc1,rfl⟩
 done:=by
  intro X hP hw hK hc i pins s σ H E I hf st hg
  subst hP hw hK
  obtain ⟨⟨old,he⟩,hb,hle⟩:=st
  have hge:x.cps.size<=i:=hg
  have hi:i=x.cps.size:=by omega
  subst hi
  obtain ⟨f0,f1,f2,f3,f4,f5⟩:=hf b (by simp)
  exact wpAny_pyNext_enum_endD (Dr X.A.in1 (I.ok.hd hc)) he hb λh1 eb=>⟨rfl,I.turned (t':=s.toks) (λc o hb q=>eb c o hb q) f0 f1 f3 f4 f5⟩
 self:=λA i s Q E st h=>let ⟨old,q⟩:=st.1;wpAny_pyIter_enum q h
end
section
variable {X:Cx}{elts:List Expr}{z:Nat}{tp:Pos}
def yag (ta:TA):TI:=λσ H R=>ta σ H λvs H1=>∃x,vs=[.str x]/\R (Itn (Its x)) H1
theorem yah {a:Expr}{ta:TA}{p pos:Pos}(hg:Gl X "enumerate") (hm:X.mg "enumerate" = none) (ha:PA X [a] ta) (hs:starEach [a] X.env=[(false,eval a X.env)]:=by rfl):PI X (.Tuple elts z tp) (.Call (.Name "enumerate" p) [a] [] pos) (yag ta):=by
 intro pins s σ H R I h
 refine Call_ (zgz I hg hm zm5 (PyProof.Rows.callWith_type1 (thn (ha pos pins s σ H _ I h) λus s1 ⟨vs,H1,I1,r1,q1⟩=>?_) hs rfl))
 obtain ⟨x,rfl,q⟩:=q1
 cases r1 with
 | cons r rr =>
  cases rr
  obtain ⟨t,rfl⟩:=r
  refine call_enumerate_str λh1 he hb _ hk=>?_
  cases hall:x.cps.all (· < 128)
  ·have hb':h1.IsStrIter s1.heap.objs.size "str_iterator" x t 0:=by simpa [strIterType,hall] using hb
   exact zkz (T:=λi h=>h.IsStrIter s1.heap.objs.size "str_iterator" x t i/\i<=x.cps.size) I1 (zqs x t _ _ _ (Nat.succ_ne_self _) λA hA=>Draws.strWide hA _ x t) he ⟨hb',Nat.zero_le _⟩ hk q
  ·have hb':h1.IsStrIter s1.heap.objs.size "str_ascii_iterator" x t 0:=by simpa [strIterType,hall] using hb
   exact zkz (T:=λi h=>h.IsStrIter s1.heap.objs.size "str_ascii_iterator" x t i/\i<=x.cps.size) I1 (zqs x t _ _ _ (Nat.succ_ne_self _) λA hA=>Draws.strAscii hA _ x t) he ⟨hb',Nat.zero_le _⟩ hk q
end
inductive tiL (K:QFg) (im:IM) (σ:St) (H:Hp) (R:It->Hp->Prop):Prop
 | mk (ρ:_) (l:_) (S:_) (it:_) (k:_) (S':_) (_:Sim K ρ S H) (_:RO ρ H l σ) (_:im l S=some (it,k,S')) (_:∀ρ' H' J,Ext ρ H ρ' H'->Sim K ρ' S' H'->zk0 K ρ' H' it J->R J H')
def zii (X:Cx) (tgt iter:Expr) (im:IM):Prop:=PI X tgt iter (tiL X.K im)
noncomputable def zhb (m:AM):IM:=λl S=>(m l S).bind λp=>match p.1 with
 | [.tup xs]=>some (itN (itX xs),xs.length+1,p.2)
 | [.ref n]=>(lstOf p.2 n).bind λxs=>some (itN (itL n),xs.length+1,p.2)
 | [.str z]=>some (itN (itX (sgn z)),z.cps.size+1,p.2)
 | _=>none
section
variable {X:Cx}{elts:List Expr}{z:Nat}{tp:Pos}{a:Expr}{mA:AM}{g:GM}{b:SM}{body:List Stmt}{p0 pos' pos:Pos}
theorem zm9 (hgl:Gl X "enumerate") (hmg:X.mg "enumerate" = none) (ha:PA3 X [a] mA) (hst:starEach [a] X.env=[(false,eval a X.env)]:=by rfl):zii X (.Tuple elts z tp) (.Call (.Name "enumerate" p0) [a] [] pos') (zhb mA) :=
 PI.imp (PI.or (PI.or (zz6 hgl hmg ha hst) (zz7 hgl hmg ha hst)) (yah hgl hmg ha hst)) λσ H R hx1_=>by
  obtain ⟨ρ,l,S,it,k,S',sim,ro,hm,p⟩:=hx1_
  obtain ⟨⟨xs,S2⟩,q2,q1⟩:=bnd hm
  dsimp only at q1
  split at q1
  ·rename_i ys
   cases q1
   refine .inl (.inr ⟨ρ,l,S,[.tup ys],_,sim,ro,q2,λρ1 H1 vs e1 s1 r1=>?_⟩)
   obtain ⟨v,rfl,rv⟩:=r1.one
   cases rv with
   | @tup _ c us hc' r=>exact ⟨c,rfl,⟨us,SqT.of hc'⟩,p ρ1 H1 _ e1 s1 (zm6 (zmn hc' r))⟩
  ·rename_i n
   obtain ⟨ys,hx,q1⟩:=bnd q1
   cases q1
   refine .inl (.inl ⟨ρ,l,S,[.ref n],_,sim,ro,q2,λρ1 H1 vs e1 s1 r1=>?_⟩)
   obtain ⟨v,rfl,rv⟩:=r1.one
   obtain ⟨c,us,hc',sq,rv'⟩:=s1.lstOf hx
   cases rv with
   | ref hn =>
    rw [hc'] at hn;cases hn
    exact ⟨c,rfl,⟨us,sq⟩,p ρ1 H1 _ e1 s1 (zm6 (zmo hc'))⟩
  ·rename_i y
   cases q1
   refine .inr ⟨ρ,l,S,[.str y],_,sim,ro,q2,λρ1 H1 vs e1 s1 r1=>?_⟩
   obtain ⟨v,rfl,rv⟩:=r1.one
   cases rv
   exact ⟨y,rfl,p ρ1 H1 _ e1 s1 (zm6 yaf)⟩
  ·cases q1
theorem zjn {tgt iter:Expr}{im:IM}(hp:PassesOwn (model X.prog X.w) X.A X.env X.xe) (hc:X.calm=true) (hi:zii X tgt iter im) (hg:PG3 X tgt g) (hb:zfa X body b) (hs:∀x,foldedSetIterable iter X.env x=pure x:=by intro _;rfl) :
  PS3 X (.For tgt iter body [] pos) (zha im g b) :=
 PS.imp (zly hp hc hi hg hb hs) λE σ H hx2_=>by
  obtain ⟨ρ,l,S,f,l',S',sim,ro,hm,p⟩:=hx2_
  obtain ⟨⟨it,k,S1⟩,q1,hm⟩:=bnd hm
  exact ⟨ρ,l,S,it,k,S1,sim,ro,q1,λρ1 H1 J e1 s1 ok=>zz8 ok s1 (ro.mono e1) hm λρ' H' σ' e'=>p ρ' H' σ' (e1.trans e')⟩
end
theorem yai {K:QFg}{im:IM}{ixs:List (Option Nat)}{g:GM}{t:TM}{e:EM}(σ:St) (H:Hp) (Q:VK) (q:te K (zcn im ixs g t e) σ H Q):zhq K (tiL K im) (zbu ixs) (tg K g) (tt K t) (te K e) σ H Q:=by
 obtain ⟨ρ,l,S,v,S',sim,ro,hm,p⟩:=q
 obtain ⟨⟨it,k,S1⟩,q1,hm⟩:=bnd hm
 obtain ⟨⟨all,S2⟩,q2,hm⟩:=bnd hm
 obtain ⟨hz,he⟩:=zbd hm
 cases he
 refine ⟨ρ,l,S,it,k,S1,sim,ro,q1,λρ1 H1 J e1 s1 io D hD hK=>?_⟩
 dsimp only at q2 hz p
 refine ⟨λi m σ' H'=>CI3 K it g t e S2 all ρ1 H1 D i m σ' H',⟨k,?_⟩,?_⟩
 ·exact ⟨ρ1,zbu ixs l,S1,[],[],all,zbx hD,s1.laid hD,(zmp ixs (ro.mono e1)).mono (zbx hD),zbw,s1.notin hD hK,.nil,q2,rfl⟩
 ·rintro i m σ' H' ⟨ρ',l',S',ds,vs,rest,e2,s2,ro2,hD2,hn2,rd2,hc,hall⟩
  cases m with
  | zero=>cases hc
  | succ m =>
   unfold zc2 at hc
   obtain ⟨o,ho,hc⟩:=bnd hc
   obtain ⟨iStop,iGo⟩:=io i ρ' S' H' e2 s2
   cases o with
   | none =>
    cases hc
    rw [List.append_nil] at hall
    subst hall
    refine .inl ⟨iStop ho,p (ρ'++[D]) H' (.ref D) (e1.trans (e2.adopt hD)) (s2.adopt hD2 hn2 rd2) (.ref ?_)⟩
    rw [<-s2.len];exact zfw ρ' D
   | some x =>
    obtain ⟨⟨l3,S3⟩,q3,hc⟩:=bnd hc
    obtain ⟨⟨b,S4⟩,q4,hc⟩:=bnd hc
    obtain ⟨hgo,hy⟩:=iGo x ho
    refine .inr ⟨hgo,_,λσ' H' h=>h,λy H'' hyl=>?_⟩
    obtain ⟨ex,sx,ry⟩:=hy y H'' hyl
    refine ⟨ρ',l',S',x,l3,S3,sx,ro2.mono ex,ry,q3,λρ3 H3 σ3 e3' s3 ro3=>⟨ρ3,l3,S3,b,S4,s3,ro3,q4,λρ4 H4 e4 s4=>?_⟩⟩
    have e3:=ex.trans e3'
    obtain ⟨hD3,hn3⟩:=e3.out D _ hD2 hn2
    obtain ⟨hD4,hn4⟩:=e4.out D _ hD3 hn3
    cases b with
    | false=>exact zgg ⟨m,Nat.lt_succ_self m,ρ4,l3,S4,ds,vs,rest,e2.trans (e3.trans e4),s4,ro3.mono e4,hD4,hn4,rd2.mono (e3.trans e4),hc,hall⟩
    | true =>
     have hc:((e l3 S4).bind λr=>(zc2 it g t e m (i+1) l3 r.2).bind λz=>some (r.1 :: z.1,z.2))=some (rest,S2):=hc
     obtain ⟨⟨y5,S5⟩,q5,hc⟩:=bnd hc
     obtain ⟨⟨rest',S6⟩,q6,hc⟩:=bnd hc
     cases hc
     refine zgh ⟨ρ4,l3,S4,y5,S5,s4,ro3.mono e4,q5,λρ5 H5 v5 e5 s5 r5=>?_⟩
     obtain ⟨hD5,hn5⟩:=e5.out D _ hD4 hn4
     have e25:=e2.trans (e3.trans (e4.trans e5))
     have rd5:=rd2.mono (e3.trans (e4.trans e5))
     have hlen:vs.length<sizeLine:=by
      have h1:=rd5.length
      have h2:=congrArg List.length hall
      rw [qla,List.length_cons] at h2
      omega
     refine ⟨vs,hD5,hlen,m,Nat.lt_succ_self m,ρ5,l3,S5,ds++[y5],vs++[v5],rest',e25.beside hD hD5,s5.beside hD5 hn5,?_,zbw,hn5,((rd5.append (.cons r5 .nil)).mono0 (zh4 hD5)),q6,by rw [<-hall];simp⟩
     have r0:=(ro3.mono e4).mono e5
     exact ⟨r0.len,λi d h=>let ⟨w,h1,h2⟩:=r0.get i d h;⟨w,h1,h2.mono0 (zh4 hD5)⟩⟩
theorem yaj {X:Cx}{N':List Str}{elt iter tgt:Expr}{ifs:List Expr}{scope:Scope}{pos:Pos}{im:IM}{ixs:List (Option Nat)}{g:GM}{t:TM}{e:EM}(hcalm:X.calm=true) (sc:CompSc X N' scope (zbu ixs))
  (hi:zii X tgt iter im) (hg:∀C s H fp pins,PG3 (cxC X N' scope C s H fp pins) tgt g) (ht:∀C s H fp pins,PTs (cxC X N' scope C s H fp pins) ifs (tt X.K t)) (he:∀C s H fp pins,PE3 (cxC X N' scope C s H fp pins) elt e)
  (hs:∀x,foldedSetIterable iter X.env x=pure x:=by intro _;rfl):PE3 X (.ListComp elt [⟨tgt,iter,ifs,0⟩] scope pos) (zcn im ixs g t e) :=
 PE.imp (zyn (g:=tg X.K g) (tts:=tt X.K t) (t:=te X.K e) hcalm sc hi hg ht he hs) yai
section
variable {X:Cx}{a b:Expr}{ma mb:EM}{pos:Pos}{k:Nat}
end
def yak:V->Option Int->Option Int->Hp->VK->Prop:=λx lo hi H Q=>∃z,x=.str z/\z.length<=sizeLine/\Q (.str (Txt.slice z lo hi)) H
theorem zqt {v:Value}{o:Option Int}(h:IsPart v o):∃l:Option (Int × Tok),v=partValue l/\o=l.map (·.1):=by
 cases h with
 | none=>exact ⟨none,rfl,rfl⟩
 | int i t=>exact ⟨some (i,t),rfl,rfl⟩
theorem yal {X:Cx}:SlR X yak:=by
 intro pins s σ H x v vl vu lo hi sl Q I rx hs pl pu h
 obtain ⟨z,rfl,hz,q⟩:=h
 obtain ⟨t,rfl⟩:=rx
 obtain ⟨l,rfl,rfl⟩:=zqt pl
 obtain ⟨u,rfl,rfl⟩:=zqt pu
 refine ⟨"str",_,F.slot_str_getitem.lookup,typeIs_str _ _ _,?_⟩
 refine wpAny_getItem_str_slice (l:=l) (u:=u) (st:=none) hs rfl ?_
 refine post_val_or_str ⟨Nat.le_trans (Txt.slice_le z _ _) hz,λt' k=>?_⟩
 exact ⟨.str _,H,I.tok _,⟨t',rfl⟩,q⟩
noncomputable def zcq (m:EM) (lo hi:OM):EM:=λl S=>(m l S).bind λp=>(lo l p.2).bind λq=>(hi l q.2).bind λr=>match p.1 with
 | .tup xs=>some (.tup (cutD xs q.1 r.1),r.2)
 | .ref n=>(lstOf r.2 n).bind λxs=>some (.ref r.2.length,r.2++[.lst (cutD xs q.1 r.1)])
 | .str z=>if z.length<=sizeLine then some (.str (Txt.slice z q.1 r.1),r.2) else none
 | _=>none
section
variable {X:Cx}{a:Expr}{ma:EM}{lo hi:Option Expr}{ml mh:OM}{p2 pos:Pos}
theorem ze7 (he:PE3 X a ma) (hl:PO3 X lo ml) (hu:PO3 X hi mh):PE3 X (.Subscript a (.Slice lo hi none p2) pos) (zcq ma ml mh):=PE.imp (zwn (((sl_tup.or zx1).or zwx).or yal) he hl hu) λσ H Q hx1_=>by
 obtain ⟨ρ,l,S,v,S',sim,ro,hm,p⟩:=hx1_
 obtain ⟨⟨x,S1⟩,h1,hm⟩:=bnd hm
 obtain ⟨⟨y,S2⟩,h2,hm⟩:=bnd hm
 obtain ⟨⟨z,S3⟩,h3,hm⟩:=bnd hm
 refine ⟨ρ,l,S,x,S1,sim,ro,h1,λρ1 H1 x' e1 s1 r1=>⟨ρ1,l,S1,y,S2,s1,ro.mono e1,h2,λρ2 H2 e2 s2=>⟨ρ2,l,S2,z,S3,s2,ro.mono (e1.trans e2),h3,λρ3 H3 e3 s3=>?_⟩⟩⟩
 have e13:=e1.trans (e2.trans e3)
 cases r1 with
 | @tup xs a vs ha r =>
  cases hm
  have ha3:=(e2.trans e3).tup _ _ ha
  have r3:=r.mono (e2.trans e3)
  have hlen:=r.length
  by_cases hw:HT.sIx vs.length 0 y=0/\HT.sIx vs.length vs.length z=vs.length
  ·refine .inl (.inl (.inr ⟨a,vs,rfl,SqT.of ha3,hw,?_⟩))
   have:=zx2 xs y z (by rw [hlen];exact hw)
   dsimp only at p
   rw [this] at p
   exact p ρ3 H3 _ e13 s3 (.tup ha3 r3)
  ·refine .inl (.inl (.inl ⟨a,vs,rfl,SqT.of ha3,hw,?_⟩))
   have rc:RDs ρ3 H3 (cutD xs y z) (zfu vs y z):=by
    unfold cutD zfu
    rw [hlen]
    exact (r3.drop _).take _
   exact zjc s3 rc (Pv.ext p e13)
 | @ref j b hj =>
  obtain ⟨xs,hx,hm⟩:=bnd (show (lstOf S3 j).bind (λxs=>some (D.ref S3.length,S3++[.lst (cutD xs y z)]))=some (v,S') from hm)
  cases hm
  obtain ⟨c,us,hc,sq,rv⟩:=s3.lstOf hx
  have:=(e2.trans e3).pre _ _ hj
  rw [this] at hc;cases hc
  have rc:RDs ρ3 H3 (cutD xs y z) (zfu us y z):=by
   unfold cutD zfu
   rw [rv.length]
   exact (rv.drop _).take _
  exact .inl (.inr ⟨b,us,rfl,sq,zh7 s3 rc (Pv.ext p e13)⟩)
 | str t =>
  obtain ⟨hz,e⟩:=zbd (show (if t.length<=sizeLine then some (D.str (Txt.slice t y z),S3) else none)=some (v,S') from hm)
  cases e
  exact .inr ⟨t,rfl,hz,p ρ3 H3 _ e13 s3 (.str _)⟩
 | _=>cases hm
end
noncomputable def zna:D->D->Sto->Option (D × Sto)
 | .str i,.str j,S=>if i.length+j.length<=sizeLine then some (.str (i++j),S) else none
 | _,_,_=>none
noncomputable def za2:D->D->Sto->Option (D × Sto):=λx y S=>match zna x y S with|some v=>some v|none=>zmq x y S
theorem op3_plusS {K:QFg}:Op3 K zna (λx y H Q=>∃i j,x=.str i/\y=.str j/\i.length+j.length<=sizeLine/\Q (.str (i++j)) H):=by
 intro ρ S H x y x' y' v S' Q sim rx ry h p
 unfold zna at h
 split at h
 ·obtain ⟨hz,e⟩:=zbd h
  cases e;cases rx;cases ry
  exact ⟨_,_,rfl,rfl,hz,p ρ H _ (Ext.refl ..) sim (.str _)⟩
 ·cases h
theorem zbi {X:Cx}{a b:Expr}{ma mb:EM}{pos:Pos}(ha:PE3 X a ma) (hb:PE3 X b mb):PE3 X (.BinOp a .Add b pos) (eOp za2 ma mb):=zh5 (op_add_str.or (op_add.or ((op_catT.or zx3).or zxa))) (op3_plusS.or zyq) ha hb
noncomputable def zij:FM
 | [.str z],S=>(intText? z).bind λn=>if z.length<=640 then some (.int n,S) else none
 | xs,S=>zmj xs S
section
variable {X:Cx}{a:Expr}{es:List Expr}{mA:AM}{pos p:Pos}{K:QFg}
theorem call_int_text:CallR X (.type "int") (λxs H Q=>∃z n,xs=[.str z]/\intText? z=some n/\z.length<=640/\Q (.int n) H):=by
 intro pins s σ H xs us Q I r h
 obtain ⟨z,n,rfl,h1,h2,q⟩:=h
 obtain ⟨u,rfl,ru⟩:=ze9 r
 obtain ⟨t,rfl⟩:=ru
 exact PySem.W.KIN.call_text h1 h2 ⟨.int n,H,I.tok _,⟨_,rfl⟩,q⟩
theorem yam:Fn3 K zij (λxs H Q=>(∃z n,xs=[.str z]/\intText? z=some n/\z.length<=640/\Q (.int n) H)\/((∃i,xs=[.int i]/\Q (.int i) H)\/∃k,xs=[.bl k]/\Q (.int (if k then 1 else 0)) H)):=by
 intro ρ S H xs vs v S' Q sim r h p
 unfold zij at h
 split at h
 ·obtain ⟨n,h1,h⟩:=bnd h
  obtain ⟨hz,e⟩:=zbd h
  cases e
  obtain ⟨w,rfl,rw'⟩:=r.one
  cases rw'
  exact .inl ⟨_,_,rfl,h1,hz,p ρ H _ (Ext.refl ..) sim (.int _)⟩
 ·exact .inr (zx7 ρ S H _ vs v S' Q sim r h p)
theorem zqu (hg:Gl X "int") (hm:X.mg "int" = none) (ha:PA3 X (a :: es) mA) (he:starEach (a :: es) X.env=(false,eval a X.env) :: starEach es X.env:=by rfl) (hpl:(backTo pos (starEach es X.env)).any (·.1)=false:=by rfl):PE3 X (.Call (.Name "int" p) (a :: es) [] pos) (zaf zij mA) :=
 zkn (call_int_text.or zv1) yam hg hm zmr ha (by decide) (by decide) he hpl
end
noncomputable def zhs:D->List D->Sto->Option (D × Sto)
 | .ref n,[.int i,x],S=>match S[n]? with
  | some (.lst xs)=>if 0<=i/\i<=xs.length/\xs.length<sizeLine then some (.non,S.set n (.lst (xs.take i.toNat++[x]++xs.drop i.toNat))) else none
  | _=>none
 | _,_,_=>none
def zqv:V->List V->Hp->VK->Prop:=λx vs H Q=>∃l xs i y,x=.ref l/\vs=[.int i,y]/\H l=some (.lst xs)/\0<=i/\i<=xs.length/\xs.length<sizeLine/\Q .non (upd H l (.lst (xs.take i.toNat++[y]++xs.drop i.toNat)))
section
variable {X:Cx}
theorem yan:MtM X "list.insert" zqv:=by
 intro pins s σ H x vs v us Q I rx rv h
 obtain ⟨l,xs,i,y,rfl,rfl,hH,h1,h2,hz,q⟩:=h
 cases rx
 obtain ⟨u,w,rfl,ru,rw'⟩:=rv.two
 obtain ⟨t,rfl⟩:=ru
 obtain ⟨z,its,n,r,hl,e⟩:=I.lstM hH
 have hsz:(16777216:Nat)=sizeLine:=by decide
 have hfit:¬(!Builtin.List.listFitsIndex i)=true:=by
  unfold Builtin.List.listFitsIndex
  simp only [Bool.not_eq_true',Bool.not_eq_false]
  simp;omega
 refine call_meets F.slot_list_insert ⟨_,e,rfl⟩ F.entry_list_insert (F.args_list_insert_3 _ _ _) (PySem.AutoListH.list_insert_list_int_val_1 l its.toArray n i t w hfit (by rw [List.size_toArray];omega)) ⟨e,?_⟩
 refine ⟨.non,_,I.lset (its':=its.take i.toNat++[w]++its.drop i.toNat) hH e ?_ (((r.take _).append (.cons rw' .nil)).append (r.drop _)) ?_,rfl,q⟩
 ·have hk:(if i<0 then (i+((its.toArray.size:Nat):Int)).toNat else min i.toNat its.toArray.size)=i.toNat:=by
   rw [if_neg (by omega),List.size_toArray];omega
  show (its.toArray.extract 0 (if i<0 then (i+((its.toArray.size:Nat):Int)).toNat else min i.toNat its.toArray.size)).push w++its.toArray.extract (if i<0 then (i+((its.toArray.size:Nat):Int)).toNat else min i.toNat its.toArray.size)=_
  rw [hk]
  apply Array.toList_inj.mp
  simp
  rw [<-List.drop_take]
  simp
 ·simp only [qla,List.length_take,List.length_drop,List.length_cons,List.length_nil];omega
theorem yao {K:QFg}:Mt3 K zhs zqv:=by
 intro ρ S H x x' xs vs v S' Q sim rx r h p
 unfold zhs at h
 split at h
 ·split at h
  ·rename_i n i y S ys e
   obtain ⟨hz,e2⟩:=zbd h
   cases e2
   obtain ⟨w,u,rfl,rw',ru⟩:=r.two
   cases rw'
   obtain ⟨a,us,ha,hH,r2⟩:=sim.lst e
   cases rx with
   | ref hn =>
    rw [ha] at hn;cases hn
    have hl:=r2.length
    refine ⟨_,us,i,u,rfl,rfl,hH,hz.1,by rw [<-hl];exact hz.2.1,by rw [<-hl];exact hz.2.2,p ρ _ _ (zhn ha hH) (sim.set ha e hH (((r2.take _).append (.cons ru .nil)).append (r2.drop _))) .non⟩
  ·cases h
 ·cases h
variable {o e f:Expr}{mo m m':EM}{apos cpos:Pos}
theorem yap (ho:PE3 X o mo) (he:PE3 X e m) (hf:PE3 X f m')
  (hbase:attributeBase o "insert" X.env (eval o X.env)=eval o X.env:=by rfl)
  (hfew:((backTo cpos (starEach [e,f] X.env)).all (λx=>!x.1) && (backToKw cpos (keywordEach [] X.env)).all (λx=>x.1.isSome)
   && decide ([e,f].length+([]:List Keyword).length+(if ([]:List Keyword).isEmpty then 0 else 1)<30))=true:=by rfl)
  (hline:(apos.endLine == cpos.line)=true:=by rfl) (hs:starEach [e,f] X.env=(false,eval e X.env) :: starEach [f] X.env:=by rfl) (hs2:starEach [f] X.env=(false,eval f X.env) :: starEach [] X.env:=by rfl) (hpl:(backTo cpos (starEach [f] X.env)).any (·.1)=false:=by rfl) :
  PE3 X (.Call (.Attribute o "insert" apos) [e,f] [] cpos) (zc9 zhs mo (zab m (zab m' zae))) :=
 zmk PySem.F.slot_list_insert PySem.F.type_list_insert yan yao ho (zad he (zad hf zag hs2) hs) hbase hfew hline hs hpl
end
section
variable {X:Cx}
variable {a:Expr}{es:List Expr}{mA:AM}{p pos:Pos}
end
section
variable {prog:Program}{w:World}{A:Around}{E:Value->Shared->Prop}{s:Shared}
end
section
variable {P:Program}{w:World}{K:QFg}{tg:Expr}
end
section
variable {X:Cx}{tg:Expr}
end
section
variable {X:Cx}{tgt:Expr}{a:Expr}{mA:AM}{p0 pos':Pos}
end
section
variable {X:Cx}
variable {a:Expr}{es:List Expr}{mA:AM}{pos p:Pos}
end
section
variable {X:Cx}{a b:Expr}{ma mb:EM}{pos:Pos}
end
section
variable {prog:Program}{w:World}{A:Around}{R:Result->Shared->Prop}{s:Shared}
theorem yaq {elt vx target iter:Expr}{ifs:List Expr}{scope:Scope}{pos:Pos}{it:Value}{D:Addr}{env:Env}(I:Nat->Shared->Prop)
  (turn:∀n s,I n s->wpAny (model prog w) A (pyNext it) (λr s₁=>match r with
   | none=>R (.ok .next) s₁
   | some v=>wpAny (model prog w) A (letOwnedTupleGo target it v) (λ_ s₁'=>wpAny (model prog w) A (assign target env v) (λ_ s₂ =>
     wpAny (model prog w) A (forIn ifs true λc r=>if r=true then do let ok <-isTrue c env (eval c env);pure (ForInStep.yield ok) else pure (ForInStep.yield r)) (λok s₃ =>
      if ok=true then wpAny (model prog w) A (eval elt env) (λkv s₄=>wpAny (model prog w) A (eval vx env) (λvv s₅ =>
       wpAny (model prog w) A (dictSet D kv vv) (λ_ s₆=>∃m,m<n/\I m s₆) (λ_ _=>False) s₅) (λ_ _=>False) s₄) (λ_ _=>False) s₃
      else ∃m,m<n/\I m s₃) (λ_ _=>False) s₂) (λ_ _=>False) s₁') (λ_ _=>False) s₁) (λ_ _=>False) s)
  (n:Nat) (h:I n s) :
  codeAny (model prog w) A (.compLoop (.DictComp elt vx [⟨target,iter,ifs,0⟩] scope pos) 0 it (.ref D) env) R s:=by
 refine codeAny_loop rfl I (λn s hI=>?_) n h
 show wpAny _ A ((compTurn (.DictComp elt vx [⟨target,iter,ifs,0⟩] scope pos) 0 it (.ref D) env).onRaise (λx=>do noteFrame x env;theTreesLotGoes x)) _ _ s
 refine wpAny_noted ?_
 rw [compTurn_dict]
 refine qwb (wpAny_standAt (qwb (wpAny_mono (turn n s hI) (λr s₁ h₁=>?_) λ_ _ h'=>h'.elim)))
 cases r with
 | none=>exact qwp h₁
 | some v =>
  refine qwb (wpAny_mono h₁ (λ_ s₁' h₁=>?_) λ_ _ h'=>h'.elim)
  refine qwb (wpAny_mono h₁ (λ_ s₂ h₂=>qwb (wpAny_mono h₂ (λok s₃ h₃=>?_) λ_ _ h'=>h'.elim)) λ_ _ h'=>h'.elim)
  cases ok with
  | false=>exact qwp ⟨rfl,h₃⟩
  | true =>
   exact qwb (qwb (wpAny_mono h₃ (λkv s₄ h₄=>qwb (wpAny_holding (wpAny_mono h₄ (λvv s₅ h₅=>qwb (wpAny_standAt (wpAny_holding (wpAny_mono h₅ (λ_ s₆ h₆=>qwp ⟨rfl,h₆⟩) λ_ _ h'=>h'.elim)))) λ_ _ h'=>h'.elim))) λ_ _ h'=>h'.elim))
end
noncomputable def zht (k v:EM):EM:=λl S=>(k l S).bind λp=>(v l p.2).bind λq=>some (.tup [p.1,q.1],q.2)
section
variable {K:QFg}{ρ:List Addr}{H:Hp}{S:Sto}
theorem Sim.besideG {a:Addr}{u0 u:HO}(s:Sim K ρ S H) (ha:H a=some u0) (hu:zgi u0) (hn:∀n:Nat,ρ[n]?≠some a):Sim K ρ S (upd H a u) :=
 ⟨s.len,s.nd,λn b o h1 h2=>(s.at' n b o h1 h2).writtenG ha hu λ_ z=>hn n (by rw [h1,z])⟩
theorem Ext.besideG {a:Addr}{u0 u:HO}{ρ0:List Addr}{H0:Hp}(e:Ext ρ0 H0 ρ H) (h0:H0 a=none) (ha:H a=some u0) (hu:zgi u0):Ext ρ0 H0 ρ (upd H a u) :=
 ⟨⟨e.pre,λb vs h=>by rw [zar (zdl (e.tup b vs h) ha (λz=>hu.1 vs z.symm))];exact e.tup b vs h,λb o vs h=>by rw [zar (zdl (e.frz b o vs h) ha (λz=>hu.2 o vs z.symm))];exact e.frz b o vs h⟩,λb vs h n=>⟨by rw [zar (zbl h h0)];exact (e.out b vs h n).1,(e.out b vs h n).2⟩⟩
theorem Sim.adoptG {a:Addr}{o1:Ob}(s:Sim K ρ S H) (ha:ObR K ρ H o1 a) (hn:∀n:Nat,ρ[n]?≠some a):Sim K (ρ++[a]) (S++[o1]) H:=by
 refine ⟨by simp [s.len],λi j b x1 x2 h1 h2 h3 h4 m1 m2=>?_,λn b o h1 h2=>?_⟩
 ·have hl:=s.len
  rcases zb2 h1 with g1|⟨e1,f1⟩ <;> rcases zb2 h2 with g2|⟨e2,f2⟩
  ·have l1:=(qme g1).1
   have l2:=(qme g2).1
   rcases zb2 h3 with g3|⟨e3,_⟩ <;> rcases zb2 h4 with g4|⟨e4,_⟩
   ·exact s.nd i j b x1 x2 g1 g2 g3 g4 m1 m2
   ·omega
   ·omega
   ·omega
  ·subst f2;exact absurd g1 (hn i)
  ·subst f1;exact absurd g2 (hn j)
  ·omega
 ·rcases zb2 h1 with h1|⟨e1,f1⟩
  ·rcases zb2 h2 with h2|⟨e2,f2⟩
   ·exact (s.at' n b o h1 h2).more ext0_push
   ·have:=(qme h1).1;have:=s.len;omega
  ·subst f1
   rcases zb2 h2 with h2|⟨e2,f2⟩
   ·have:=(qme h2).1;have:=s.len;omega
   ·subst f2
    exact ha.more ext0_push
end
theorem yar {ρ:List Addr}{H:Hp}{kvs:List (Key × D)}{vs:List V}(r:RDs ρ H (kvs.map (·.2)) vs):((kvs.map (·.1)).zip vs).length=kvs.length:=by
 rw [List.length_zip,qlm];have:=r.length;rw [qlm] at this;omega
noncomputable def kD:Key->D
 | .inl i=>.int i
 | .inr x=>.str x
section
variable {X:Cx}{tg:Expr}
end
section
variable {X:Cx}{tgt iter:Expr}{m:EM}
end
section
variable {X:Cx}{a b:Expr}{ma mb:EM}{pos:Pos}{k:Nat}
end
open PySem.W
section
variable {M:Model}{A:Around}{E:Value->Shared->Prop}{s:Shared}{base:Heap}{env:Env}{outer:List Env}{L e C T:Addr}{Q:Unit->Shared->Prop}
end
section
variable {P:Program}{w:World}{K:QFg}{mg:Str->Option Value}{base:Heap}{N:List Str}{qual:Str}{scope:Scope}{f:Addr}{cd:Value}{A:Around}{outer:List Env}{s:Shared}{H:Hp}{E:XK}
end
abbrev ZM:=Lo->Sto->Option (Str × Sto)
abbrev ZF:=List D->Sto->Option (Str × Sto)
section
variable {X:Cx}{E:XK}{CA:Str->Addr}{e:Expr}{es:List Expr}{st:Stmt}{rest:List Stmt}{r q:ZM}{m:EM}{b:SM}{pos:Pos}
end
section
variable {X:Cx}{E:XK}{CA:Str->Addr}{a:Expr}{es:List Expr}{mA:AM}{pos p:Pos}{x:Str}{k j n:Nat}{rx:ZF}
end
section
variable {P:Program}{w:World}{K:QFg}{mg:Str->Option Value}{base:Heap}{N:List Str}{qual:Str}{scope:Scope}{f:Addr}{cd:Value}{A:Around}{outer:List Env}{s:Shared}{H:Hp}{E:XK}{CA:Str->Addr}
end
section
variable {M:Model}{A:Around}{E:Value->Shared->Prop}{s:Shared}{base:Heap}{env:Env}{outer l:List Env}{L e C T:Addr}{Q:Unit->Shared->Prop}
end
section
variable {X:Cx}{pins:List (Addr × Obj)}{σ:L2.St}{H:Hp}{s:Shared}{h':Heap}{a T:Addr}{t':Nat}
end
section
variable {M:Model}{A:Around}{E:Value->Shared->Prop}{h:Heap}{g:Array GenState}{d:Drawn}{t:Nat}{os:OsState}
variable {nm q nm' q':Str}{C N D N':Addr}{bs bm bs' bm':List Value}{hdct hdct':Bool}{sn sn':List Str}{sub sub':List Value}{ab ab':Bool}{col col':Option Bool}{dd dd':Option Addr}{k0 k1 k2 k3 k5 k0' k1' k2' k3' k5':Option Value}{newId newId':String}
end
section
variable {X:Cx}{pins:List (Addr × Obj)}{σ:L2.St}{H:Hp}{s:Shared}{a C T:Addr}{e:Value}
end
section
variable {X:Cx}{pins:List (Addr × Obj)}{σ:L2.St}{tS:TS}{i:Nat}{Dh:Addr}{n hx:Str}{np hpos:Pos}{b0:Stmt}{suite:List Stmt}
end
section
variable {X:Cx}{E:XK}{CA:Str->Addr}{a:Expr}{es:List Expr}{mA:AM}{cpos p apos py tpos:Pos}{x y:Str}{k j n:Nat}{rx:ZF}
variable {tN tS:TS}{i:Nat}{Dh:Addr}{nm hx:Str}{np hpos:Pos}{b0:Stmt}{suite:List Stmt}
end
section
variable {X:Cx}{E:XK}{CA:Str->Addr}{a:Expr}{es:List Expr}{mA:AM}{cpos p apos py tpos:Pos}{x y:Str}{k j n:Nat}{rx:ZF}{i:Nat}{Dh:Addr}{nm hx:Str}{np hpos:Pos}{b0:Stmt}{suite:List Stmt}{mN mS:SM}{ok:Str->Bool}
end
open PySem.Builtin PySem.Builtin.ObjectAttr PySem.Builtin.Getset_descriptor
section
variable {prog:Program}{w:World}{A:Around}{E:Value->Shared->Prop}{h:Heap}{g:Array GenState}{d:Drawn}{t:Nat}{os:OsState}{a:Addr}{o:Obj}{K:QFg}{C:Addr}
end
section
variable {prog:Program}{w:World}{A:Around}{E:Value->Shared->Prop}{h:Heap}{g:Array GenState}{d:Drawn}{t:Nat}{os:OsState}{a:Addr}{o:Obj}{K:QFg}{C:Addr}
end
section
variable {X:Cx}{es:List Expr}{Cs:List Addr}{y:Str}{C:Addr}{p:Pos}
end
section
variable {X:Cx}{a:Expr}{ma:EM}{pos p tp p2:Pos}{es:List Expr}{Cs:List Addr}{x1:Nat}{tab:List (Str × Bool)}{y:Str}{D0:Addr}
end
section
variable {X:Cx}{o e:Expr}{es:List Expr}{to:TE}{t:TA}{name:Str}{apos cpos:Pos}{T id:String}{r:V->List V->Hp->VK->Prop}{ty:V->Hp->Prop}
end
section
variable {X:Cx}{j:Nat}
end
section
variable {X:Cx}{j:Nat}{o e:Expr}{mo m:EM}{apos cpos:Pos}
variable {a b:Expr}{ma mb:EM}{pos:Pos}
end
noncomputable def zjo:List D->Option (List Key)
 | []=>some []
 | x :: r=>(zih x).bind λk=>(zjo r).bind λks=>some (k :: ks)
noncomputable def zf2:D->Option (List Key)
 | .tup xs=>zjo xs
 | _=>none
theorem zqw {ρ:List Addr}{H:Hp}:∀{xs:List D}{ks:List Key}{vs:List V},zjo xs=some ks->RDs ρ H xs vs->vs=ks.map kV
 | [],ks,vs,h,r=>by cases h;cases r;rfl
 | x :: xs,ks,vs,h,r=>by
  cases r with
  | cons r1 r2 =>
   obtain ⟨k,h1,h⟩:=bnd (show (zih x).bind (λk=>(zjo xs).bind λks=>some (k :: ks))=some ks from h)
   obtain ⟨ks',h2,h⟩:=bnd h
   cases h
   rw [zqw h2 r2,zk2 h1 r1];rfl
theorem zik {ρ:List Addr}{H:Hp}{d:D}{v:V}{k:List Key}(h:zf2 d=some k) (r:RD ρ H d v):∃b,v=.ref b/\H b=some (.tup (k.map kV)):=by
 cases r with
 | @tup xs b vs hb rs =>
  have:=zqw (show zjo xs=some k from h) rs
  subst this
  exact ⟨b,rfl,hb⟩
 | _=>cases h
noncomputable def zbq (kvs:List (List Key × D)) (k:List Key):Option D:=(kvs.find? λkv=>decide (kv.1=k)).map (·.2)
noncomputable def zda (kvs:List (List Key × D)) (k:List Key) (v:D):List (List Key × D):=if (kvs.any λkv=>decide (kv.1=k))=true then kvs.map (λkv=>if kv.1=k then (kv.1,v) else kv) else kvs++[(k,v)]
section
variable {K:QFg}{ρ:List Addr}{H:Hp}{S:Sto}
theorem znb {k:List Key}:∀{kvs:List (List Key × D)}{vs:List V},RDs ρ H (kvs.map (·.2)) vs->(zbq kvs k=none->zc0 ((kvs.map (·.1)).zip vs) k=none)/\∀d,zbq kvs k=some d->∃v,zc0 ((kvs.map (·.1)).zip vs) k=some v/\RD ρ H d v
 | [],vs,r=>by
  cases r
  exact ⟨λ_=>rfl,λd h=>by cases h⟩
 | (k',d') :: kvs,vs,r=>by
  cases r with
  | @cons _ v _ vs r1 r2 =>
   by_cases e:k' = k
   ·have e1:zbq ((k',d') :: kvs) k=some d':=by simp [zbq,e]
    have e2:zc0 ((((k',d') :: kvs).map (·.1)).zip (v :: vs)) k=some v:=zi4 (p:=(k',v)) e
    rw [e1,e2]
    exact ⟨λz=>(by cases z),λd h=>(by cases h;exact ⟨v,rfl,r1⟩)⟩
   ·have e1:zbq ((k',d') :: kvs) k=zbq kvs k:=by simp [zbq,e]
    have e2:zc0 ((((k',d') :: kvs).map (·.1)).zip (v :: vs)) k=zc0 ((kvs.map (·.1)).zip vs) k:=zi5 (p:=(k',v)) e
    rw [e1,e2]
    exact znb r2
theorem zqx (k:List Key):∀{kvs:List (List Key × D)}{vs:List V},RDs ρ H (kvs.map (·.2)) vs->(((kvs.map (·.1)).zip vs).any λkv=>decide (kv.1=k))=kvs.any λkv=>decide (kv.1=k)
 | [],vs,r=>by cases r;rfl
 | (k',d') :: kvs,vs,r=>by
  cases r with
  | @cons _ v _ vs r1 r2 =>
   show (decide (k' = k) || (((kvs.map (·.1)).zip vs).any λkv=>decide (kv.1=k)))=(decide (k' = k) || _)
   rw [zqx k r2]
theorem znc {k:List Key}{d:D}{v:V}(rv:RD ρ H d v) {kvs:List (List Key × D)}{vs:List V}(r:RDs ρ H (kvs.map (·.2)) vs):∃ws,zb1 ((kvs.map (·.1)).zip vs) k v=((zda kvs k d).map (·.1)).zip ws/\RDs ρ H ((zda kvs k d).map (·.2)) ws:=by
 unfold zb1 zda
 rw [zqx k r]
 by_cases e:(kvs.any λkv=>decide (kv.1=k))=true
 ·rw [if_pos e,if_pos e]
  clear e
  induction kvs generalizing vs with
  | nil=>cases r;exact ⟨[],rfl,.nil⟩
  | cons p kvs ih =>
   obtain ⟨k',d'⟩:=p
   cases r with
   | @cons _ u _ us r1 r2 =>
    obtain ⟨ws,h1,h2⟩:=ih r2
    by_cases e:k' = k
    ·refine ⟨v :: ws,?_,?_⟩
     ·simp only [List.map_cons,List.zip_cons_cons,if_pos e];rw [<-h1]
     ·simp only [List.map_cons,if_pos e];exact .cons rv h2
    ·refine ⟨u :: ws,?_,?_⟩
     ·simp only [List.map_cons,List.zip_cons_cons,if_neg e];rw [<-h1]
     ·simp only [List.map_cons,if_neg e];exact .cons r1 h2
 ·rw [if_neg e,if_neg e]
  refine ⟨vs++[v],?_,?_⟩
  ·rw [List.map_append,List.zip_append (by rw [qlm];have:=r.length;rw [qlm] at this;exact this)];rfl
  ·rw [List.map_append];exact r.append (.cons rv .nil)
end
noncomputable def dRd (S:Sto):D->D->Option (Option D)
 | .ref n,y=>match S[n]? with
  | some (.dct kvs)=>(zih y).bind λk=>some (zgs kvs k)
  | some (.fdct kvs)=>(zih y).bind λk=>some (zgs kvs k)
  | some (.tdct kvs)=>(zf2 y).bind λk=>some (zbq kvs k)
  | some (.ftdct kvs)=>(zf2 y).bind λk=>some (zbq kvs k)
  | _=>none
 | _,_=>none
def Ro1 (ρ:List Addr) (H:Hp) (o:Option D) (o':Option V):Prop:=(o=none->o' = none)/\∀d,o=some d->∃v,o' = some v/\RD ρ H d v
theorem Ro1.isSome {ρ:List Addr}{H:Hp}{o:Option D}{o':Option V}(r:Ro1 ρ H o o'):o'.isSome=o.isSome:=by
 cases o with
 | none=>rw [r.1 rfl];rfl
 | some d=>obtain ⟨v,e,_⟩:=r.2 d rfl;rw [e];rfl
theorem Sim.dRd {K:QFg}{ρ:List Addr}{H:Hp}{S:Sto}{x y:D}{x' y':V}{o:Option D}(s:Sim K ρ S H) (rx:RD ρ H x x') (ry:RD ρ H y y') (h:L3.dRd S x y=some o):∃a o',x' = .ref a/\zkf H a y' o'/\Ro1 ρ H o o':=by
 unfold L3.dRd at h
 split at h
 ·cases rx with
  | @ref n a hn =>
   split at h
   ·rename_i e
    obtain ⟨k,hk,h⟩:=bnd h
    cases h
    obtain ⟨vs,hH,r⟩:=s.at' _ a _ hn e
    have ey:=zk2 hk ry
    subst ey
    exact ⟨a,_,rfl,.inl ⟨_,k,.inl hH,rfl,rfl⟩,zm8 r⟩
   ·rename_i e
    obtain ⟨k,hk,h⟩:=bnd h
    cases h
    obtain ⟨ob,vs,hH,r⟩:=s.at' _ a _ hn e
    have ey:=zk2 hk ry
    subst ey
    exact ⟨a,_,rfl,.inl ⟨_,k,.inr ⟨ob,hH⟩,rfl,rfl⟩,zm8 r⟩
   ·rename_i e
    obtain ⟨k,hk,h⟩:=bnd h
    cases h
    obtain ⟨vs,hH,r⟩:=s.at' _ a _ hn e
    obtain ⟨b,rfl,hb⟩:=zik hk ry
    exact ⟨a,_,rfl,.inr ⟨_,k,b,.inl hH,rfl,hb,rfl⟩,znb r⟩
   ·rename_i e
    obtain ⟨k,hk,h⟩:=bnd h
    cases h
    obtain ⟨ob,vs,hH,r⟩:=s.at' _ a _ hn e
    obtain ⟨b,rfl,hb⟩:=zik hk ry
    exact ⟨a,_,rfl,.inr ⟨_,k,b,.inr ⟨ob,hH⟩,rfl,hb,rfl⟩,znb r⟩
   ·cases h
 ·cases h
noncomputable def zgt (neg:Bool):D->D->Sto->Option (D × Sto):=λy x S=>(dRd S x y).bind λo=>some (.bl (if neg then !o.isSome else o.isSome),S)
theorem yas {K:QFg}{neg:Bool}:Op3 K (zgt neg) (λy x H Q=>∃a o,x=.ref a/\zkf H a y o/\Q (.bl (if neg then !o.isSome else o.isSome)) H):=by
 intro ρ S H y x y' x' v S' Q sim ry rx h p
 obtain ⟨o,h1,h⟩:=bnd h
 cases h
 obtain ⟨a,o',rfl,g,r⟩:=sim.dRd rx ry h1
 refine ⟨a,o',rfl,g,?_⟩
 rw [r.isSome]
 exact p ρ H _ (Ext.refl ..) sim (.bl _)
section
variable {X:Cx}{a b e f o i value:Expr}{ma mb me mf mo mi mv:EM}{pos pos' apos cpos:Pos}{k:Nat}
theorem zjp (hr:Room k X.A) (ha:PE3 X a ma) (hb:PE3 X b mb) (hm:behindInMarks .NotIn b=false:=by rfl):PT3 X (.Compare a [.NotIn] [b] pos) (tE (eOp (zgt true) ma mb)):=zfb (yae hr) (yas (neg:=true)) ha hb hm
end
section
variable {X:Cx}{pos:Pos}
end
theorem zgu (kvs:List (List Key × V)):zgi (.dT kvs):=⟨λ_ z=>(by cases z),λ_ _ z=>(by cases z)⟩
noncomputable def zhu:D->D->D->Sto->Option Sto
 | .ref n,y,v,S=>match S[n]? with
  | some (.dct kvs)=>(zih y).bind λk=>if kvs.length<sizeLine then some (S.set n (.dct (zk1 kvs k v))) else none
  | some (.tdct kvs)=>(zf2 y).bind λk=>if kvs.length<sizeLine then some (S.set n (.tdct (zda kvs k v))) else none
  | _=>none
 | _,_,_,_=>none
theorem zqy {ρ:List Addr}{H:Hp}{kvs:List (List Key × D)}{vs:List V}(r:RDs ρ H (kvs.map (·.2)) vs):((kvs.map (·.1)).zip vs).length=kvs.length:=by
 rw [List.length_zip,qlm];have:=r.length;rw [qlm] at this;omega
theorem yat {K:QFg}{ρ:List Addr}{S S':Sto}{H:Hp}{x y d:D}{x' y' v':V}(s:Sim K ρ S H) (rx:RD ρ H x x') (ry:RD ρ H y y') (rd:RD ρ H d v') (h:zhu x y d S=some S'):∃a H',x' = .ref a/\DPut H a y' v' H'/\Ext ρ H ρ H'/\Sim K ρ S' H':=by
 unfold zhu at h
 split at h
 ·cases rx with
  | @ref n a hn =>
   split at h
   ·rename_i kvs e
    obtain ⟨k,hk,h⟩:=bnd h
    obtain ⟨hz,e2⟩:=zbd h
    cases e2
    obtain ⟨vs,hH,r⟩:=s.at' _ a _ hn e
    have ey:=zk2 hk ry
    subst ey
    obtain ⟨ws,hw1,hw2⟩:=yad (k:=k) rd r
    have ex:=zpm (o:=.dK (zb1 ((kvs.map (·.1)).zip vs) k v')) hn hH (zqq _)
    refine ⟨a,_,rfl,DPut.k hH (by rw [yar r];exact hz),ex,s.setG hn e rfl hH (zqq _) ⟨ws,by rw [zbw,hw1],hw2.mono ex⟩⟩
   ·rename_i kvs e
    obtain ⟨k,hk,h⟩:=bnd h
    obtain ⟨hz,e2⟩:=zbd h
    cases e2
    obtain ⟨vs,hH,r⟩:=s.at' _ a _ hn e
    obtain ⟨b,rfl,hb⟩:=zik hk ry
    obtain ⟨ws,hw1,hw2⟩:=znc (k:=k) rd r
    have ex:=zpm (o:=.dT (zb1 ((kvs.map (·.1)).zip vs) k v')) hn hH (zgu _)
    refine ⟨a,_,rfl,DPut.t hH hb (by rw [zqy r];exact hz),ex,s.setG hn e rfl hH (zgu _) ⟨ws,by rw [zbw,hw1],hw2.mono ex⟩⟩
   ·cases h
 ·cases h
noncomputable def zk4 (o i:EM):GM:=λv l S=>(o l S).bind λp=>(i l p.2).bind λq=>(zhu p.1 q.1 v q.2).bind λS'=>some (l,S')
section
variable {X:Cx}{o i value:Expr}{mo mi mv:EM}{pos pos':Pos}{k:Nat}
theorem yau (hr:Room k X.A) (ho:PE3 X o mo) (hi:PE3 X i mi) (hv:PE3 X value mv) (hs:swapsWith value (some (.Subscript o i pos')) pos.line X.env=pure false:=by rfl) :
  PS3 X (.Assign [.Subscript o i pos'] value pos) (zaq mv (zk4 mo mi)):=PS.imp (zxm (zk3 hr) ho hi hv hs) λE σ H hx4_=>by
 obtain ⟨ρ,l,S,f,l',S',sim,ro,hm,p⟩:=hx4_
 obtain ⟨⟨d,S1⟩,h1,hm⟩:=bnd hm
 obtain ⟨⟨l2,S2⟩,h2,hm⟩:=bnd hm
 obtain ⟨⟨x,S3⟩,h3,h2⟩:=bnd h2
 obtain ⟨⟨y,S4⟩,h4,h2⟩:=bnd h2
 obtain ⟨S5,h5,h2⟩:=bnd h2
 cases h2;cases hm
 refine ⟨ρ,l,S,d,S1,sim,ro,h1,λρ1 H1 v' e1 s1 r1=>⟨ρ1,l,S1,x,S3,s1,ro.mono e1,h3,λρ2 H2 x' e2 s2 r2=>⟨ρ2,l,S3,y,S4,s2,(ro.mono e1).mono e2,h4,λρ3 H3 y' e3 s3 r3=>?_⟩⟩⟩
 obtain ⟨a,H4,rfl,pu,ex,s4⟩:=yat s3 (r2.mono e3) r3 (r1.mono (e2.trans e3)) h5
 exact ⟨a,H4,rfl,pu,p ρ3 _ σ ((e1.trans (e2.trans e3)).trans ex) s4 ((((ro.mono e1).mono e2).mono e3).mono ex)⟩
end
def Fnc (K:QFg) (mg:Str->Option Value) (x:Str):Prop:=∃f o,PySem.W.nsIn K mainGlobals x=some (some (.ref f))/\K.lookup f=some o/\mg x=some (.ref f)
section
variable {K:QFg}{ρ:List Addr}{H:Hp}{S:Sto}
end
section
variable {X:Cx}{x y:Str}{pos p:Pos}{a:Expr}{es:List Expr}
end
section
variable {k:Nat}{names:List (Str × NameKind)}{acc:List (Str × Addr)}
theorem znd:∀{names:List (Str × NameKind)}{k:Nat}{acc:List (Str × Addr)}{x:Str}{c:Addr},(x,c)∈cellsFrom k names acc->(x,c)∈acc\/(k<=c/\(x,NameKind.cell)∈names)
 | [],_,_,_,_,h=>.inl h
 | (n,kd) :: r,k,acc,x,c,h=>by
  unfold cellsFrom at h
  split at h
  ·rename_i hk
   have hk:kd=.cell:=by simpa using hk
   subst hk
   rcases znd h with h|⟨h1,h2⟩
   ·rcases List.mem_cons.mp h with e|h
    ·cases e;exact .inr ⟨qlr _,List.mem_cons_self⟩
    ·exact .inl h
   ·exact .inr ⟨by omega,List.mem_cons_of_mem _ h2⟩
  ·rcases znd h with h|⟨h1,h2⟩
   ·exact .inl h
   ·exact .inr ⟨h1,List.mem_cons_of_mem _ h2⟩
theorem zne:∀{names:List (Str × NameKind)}{k:Nat}{acc:List (Str × Addr)},(∀x y c,(x,c)∈acc->(y,c)∈acc->x=y)->(∀x c,(x,c)∈acc->c<k)->∀x y c,(x,c)∈cellsFrom k names acc->(y,c)∈cellsFrom k names acc->x=y
 | [],_,_,hi,_,x,y,c,h1,h2=>hi x y c h1 h2
 | (n,kd) :: r,k,acc,hi,hl,x,y,c,h1,h2=>by
  unfold cellsFrom at h1 h2
  split at h1
  ·rename_i hk
   rw [if_pos hk] at h2
   refine zne (λx y c g1 g2=>?_) (λx c g=>?_) x y c h1 h2
   ·rcases List.mem_cons.mp g1 with e1|g1 <;> rcases List.mem_cons.mp g2 with e2|g2
    ·cases e1;cases e2;rfl
    ·cases e1;exact absurd (hl _ _ g2) (Nat.lt_irrefl _)
    ·cases e2;exact absurd (hl _ _ g1) (Nat.lt_irrefl _)
    ·exact hi x y c g1 g2
   ·rcases List.mem_cons.mp g with e|g
    ·cases e;exact Nat.lt_succ_self _
    ·exact Nat.lt_succ_of_lt (hl _ _ g)
  ·rename_i hk
   rw [if_neg hk] at h2
   exact zne hi hl x y c h1 h2
theorem zk5:∀{names:List (Str × NameKind)}{k:Nat}{acc:List (Str × Addr)}{x:Str},((x,NameKind.cell)∈names\/∃c,acc.lookup x=some c)->∃c,(cellsFrom k names acc).lookup x=some c
 | [],_,_,x,h=>by
  rcases h with h|h
  ·cases h
  ·exact h
 | (n,kd) :: r,k,acc,x,h=>by
  unfold cellsFrom
  split
  ·rename_i hk
   have hk:kd=.cell:=by simpa using hk
   subst hk
   refine zk5 ?_
   by_cases hx:x=n
   ·exact .inr ⟨k,by rw [hx,List.lookup_cons];simp⟩
   ·rcases h with h|⟨c,h⟩
    ·rcases List.mem_cons.mp h with e|h
     ·cases e;exact absurd rfl hx
     ·exact .inl h
    ·refine .inr ⟨c,?_⟩
     rw [List.lookup_cons]
     have:(x == n)=false:=by simpa using hx
     rw [this];exact h
  ·rename_i hk
   refine zk5 ?_
   rcases h with h|h
   ·rcases List.mem_cons.mp h with e|h
    ·cases e;simp at hk
    ·exact .inl h
   ·exact .inr h
theorem znf:∀{names:List (Str × NameKind)}{k:Nat}{acc:List (Str × Addr)}{x:Str},(x,NameKind.cell) ∉ names->(cellsFrom k names acc).lookup x=acc.lookup x
 | [],_,_,_,_=>rfl
 | (n,kd) :: r,k,acc,x,h=>by
  unfold cellsFrom
  split
  ·rename_i hk
   have hk:kd=.cell:=by simpa using hk
   subst hk
   rw [znf λz=>h (List.mem_cons_of_mem _ z),List.lookup_cons]
   have:(x == n)=false:=by
    have:x≠n:=λe=>h (by rw [e];exact List.mem_cons_self)
    simpa using this
   rw [this]
  ·exact znf λz=>h (List.mem_cons_of_mem _ z)
theorem zng:∀{names:List (Str × NameKind)}{k k0:Nat}{acc:List (Str × Addr)}{x:Str}{c:Addr},k0<=k->((x,NameKind.cell)∈names\/∃c',acc.lookup x=some c'/\k0<=c')->(cellsFrom k names acc).lookup x=some c->k0<=c
 | [],k,k0,acc,x,c,_,h,e=>by
  have e:acc.lookup x=some c:=e
  rcases h with h|⟨c',h,q⟩
  ·cases h
  ·rw [h] at e;cases e;exact q
 | (n,kd) :: r,k,k0,acc,x,c,hk0,h,e=>by
  unfold cellsFrom at e
  split at e
  ·rename_i hk
   have hk:kd=.cell:=by simpa using hk
   subst hk
   refine zng (by omega) ?_ e
   by_cases hx:x=n
   ·exact .inr ⟨k,by rw [hx,List.lookup_cons];simp,hk0⟩
   ·rcases h with h|⟨c',h,q⟩
    ·rcases List.mem_cons.mp h with e|h
     ·cases e;exact absurd rfl hx
     ·exact .inl h
    ·refine .inr ⟨c',?_,q⟩
     rw [List.lookup_cons]
     have:(x == n)=false:=by simpa using hx
     rw [this];exact h
  ·rename_i hk
   refine zng hk0 ?_ e
   rcases h with h|h
   ·rcases List.mem_cons.mp h with e|h
    ·cases e;simp at hk
    ·exact .inl h
   ·exact .inr h
theorem zhv (env:Env):∀(names:List (Str × NameKind)) (cs:List (Str × Addr)),(∀x c,(x,c)∈cs->env.cells.lookup x=some c)->∀x c,(x,c)∈zb4 env names cs->env.cells.lookup x=some c
 | [],cs,h,x,c,q=>h x c q
 | (n,k) :: r,cs,h,x,c,q=>by
  unfold zb4 at q
  split at q
  ·split at q
   ·rename_i c' e
    refine zhv env r _ (λy d hy=>?_) x c q
    rcases List.mem_cons.mp hy with z|hy
    ·cases z;exact e
    ·exact h y d hy
   ·exact zhv env r cs h x c q
  ·exact zhv env r cs h x c q
theorem znh:∀{names:List (Str × NameKind)}{h:Heap}{acc:List (Str × Addr)}{x:Str}{c:Addr},(x,c)∈cellsFrom h.objs.size names acc->(x,c)∈acc\/(pushCells h names).IsCell c none
 | [],_,_,_,_,q=>.inl q
 | (n,kd) :: r,h,acc,x,c,q=>by
  unfold cellsFrom at q
  unfold pushCells
  split at q
  ·rename_i hk
   rw [if_pos hk]
   have:=znh (names:=r) (h:=h.push { cls:=.type "cell",data:=.cell none }) (acc:=(n,h.objs.size) :: acc) (x:=x) (c:=c) (by rw [Heap.size_push];exact q)
   rcases this with z|z
   ·rcases List.mem_cons.mp z with e|z
    ·cases e
     exact .inr ⟨_,pushCells_keeps r _ _ _ (Heap.get?_push_size _ rfl),rfl⟩
    ·exact .inl z
   ·exact .inr z
  ·rename_i hk
   rw [if_neg hk]
   exact znh q
end
theorem yav {M:Model}{A:Around}{E:Value->Shared->Prop}{s:Shared}{scope:Scope}{globals:Addr}{cl:List (Str × Addr)}{qual:Str}{outer:Env}{Q:Env->Shared->Prop}
  (hQ:∀h',h'.Ns s.heap.objs.size (λ_=>none)->(∀b o,s.heap.get? b=some o->h'.get? b=some o)->(∀x c,(x,c)∈cellsFrom (s.heap.objs.size+1) scope.names cl->(x,c)∈cl\/h'.IsCell c none) ->
   Q (newEnv scope s.heap.objs.size globals (cellsFrom (s.heap.objs.size+1) scope.names cl) qual none .none (some outer) builtinsNs) { s with heap:=h' }) :
  wpAny M A (newFunctionEnv scope globals cl [] qual none .none (some outer)) Q E s:=by
 unfold newFunctionEnv
 refine qwb (wpAny_alloc ?_)
 refine qwb (wpAny_layCells _ (λname kind cells=>by cases hkc:kind == NameKind.cell <;> simp [hkc]) _ _ _ _ ?_)
 dsimp only
 rw [List.forIn_nil]
 refine qwb (qwp (qwp ?_))
 have hz:(s.heap.push { cls:=.type "dict",data:=.dict #[] }).objs.size=s.heap.objs.size+1:=Heap.size_push ..
 have h1:=hQ (pushCells (s.heap.push { cls:=.type "dict",data:=.dict #[] }) scope.names) ((Heap.Ns.new s.heap (.type "dict")).keeps (pushCells_keeps _ _)) (λb o e=>pushCells_keeps _ _ b o (qps _ e)) (λx c q=>znh (by rw [hz];exact q))
 simp only [Option.isSome_some,if_true,hz]
 exact h1
noncomputable def cxD (X:Cx) (N':List Str) (scope:Scope) (C:Addr) (s:Shared) (H:Hp) (fp:List Addr) (pins:List (Addr × Obj)):Cx where
 prog:=X.prog
 w:=X.w
 K:=X.K
 mg:=X.mg
 base:=X.base
 A:=X.A
 N:=N'
 s₀:=s
 H₀:=H
 env:=compEnvC scope (cellsFrom (C+1) scope.names (zb4 X.env scope.names [])) C X.env
 outer:=X.stack
 stack:=X.stack
 ex:=fp
 fn:=λx=>scope.names.contains (x,NameKind.cell)
 calm:=X.calm
 pn:=X.pn++pins
 xe:=λ_ _=>False
structure CompSd (X:Cx) (N':List Str) (scope:Scope) (src:St->St):Prop where
 kind:scope.kind=.function
 names:∀y∈scope.names,y.2=.local->scope.names.lookup y.1=some .local
 free:∀y∈scope.names,y.2=.free->X.env.kindOf y.1=some .cell\/X.env.kindOf y.1=some .free
 rel:∀y,(relabel scope X.env).names.lookup y=some .cell\/(relabel scope X.env).names.lookup y=some .free->(y,NameKind.free)∈scope.names\/(y,NameKind.cell)∈scope.names
 one:∀y,scope.names.lookup y=some .free->(y,NameKind.cell) ∉ scope.names
 len:∀σ,(src σ).length=N'.length
 src:∀σ (i:Nat) v x,(src σ)[i]? = some (some v)->N'[i]? = some x->∃j:Nat,X.N[j]? = some x/\σ[j]? = some (some v)/\scope.names.lookup x=some .free
theorem zqz {X:Cx}{N':List Str}{elt iter tgt:Expr}{ifs:List Expr}{scope:Scope}{pos pos':Pos}{use:Option (Value->Sem Unit)}{R:Value->Shared->Prop}{pins:List (Addr × Obj)}{s:Shared}{σ:St}{H:Hp}{Q:VK}{wi:TI}{src:St->St}{g:TG}{tts:TT}{t:TE}(hcalm:X.calm=true) (sc:CompSd X N' scope src)
  (hi:PI X tgt iter wi) (hg:∀C s H fp pins,PG (cxD X N' scope C s H fp pins) tgt g) (ht:∀C s H fp pins,PTs (cxD X N' scope C s H fp pins) ifs tts) (he:∀C s H fp pins,PE (cxD X N' scope C s H fp pins) elt t)
  (hs:∀x,foldedSetIterable iter X.env x=pure x) (I:Inv X pins σ H s) (h:zhq X.K wi src g tts t σ H Q)
  (fin:∀D H5 s6 C mC,Inv X pins σ H5 s6->zcz X pins H5 C->s6.heap.Ns C mC->Q (.ref D) H5->compPost (model X.prog X.w) X.A X.xe use R (.ref D) C (.ok .next) s6) :
  wpAny (model X.prog X.w) X.A (comprehension (.ListComp elt [⟨tgt,iter,ifs,0⟩] scope pos) scope X.env pos' (newList []) false (eval iter X.env) use) R X.xe s:=by
 have hasC:∀x∈scope.names,x.2=.free->∃c,X.env.cells.lookup x.1=some c:=λx hx hf=>I.ok.has x.1 (sc.free x hx hf)
 refine wpAny_comprehension_free (use:=use) (env:=X.env) rfl hs (zmm scope X.env hasC) sc.kind sc.names ?_
 show wpAny (model X.prog X.w) X.A (eval iter X.env) _ _ s
 refine wpAny_mono (hi pins s σ H _ I h) (λv s1 h1=>wpAny_mono h1 (λitv s2 h2=>?_) λ_ _ z=>z) λ_ _ z=>z
 obtain ⟨it,fp,tn,J,H2,rfl,I2,T,st2,f2,q⟩:=h2
 refine wpAny_newObj_type ?_ (by show 0<=sizeLine;exact Nat.zero_le _)
 have hD:H2 s2.heap.objs.size=none:=I2.hok.fresh (qlr _)
 have I3:Inv X pins σ (upd H2 s2.heap.objs.size (.lst [])) { s2 with heap:=s2.heap.push { cls:=.type "list",data:=.seq ([]:List Value).toArray } }:=I2.lnew (t':=s2.toks) .nil (Nat.zero_le _)
 obtain ⟨W,⟨m0,w0⟩,turn⟩:=q s2.heap.objs.size hD (by
  cases e:X.K.lookup s2.heap.objs.size with
  | none=>rfl
  | some o=>exact absurd (Heap.lt_size (I2.kIn _ o e)) (Nat.lt_irrefl _))
 refine yav λh' hns old0 hown0=>?_
 have fpIn:∀b∈fp,∃o,s2.heap.get? b=some o/\∀v,o.data≠.cell v:=T.obj 0 s2.heap st2
 have fpD:∀b∈fp,b≠s2.heap.objs.size:=λb hb=>let ⟨o,e,_⟩:=fpIn b hb;Nat.ne_of_lt (Heap.lt_size e)
 have f3:∀b∈fp,zcz X pins (upd H2 s2.heap.objs.size (.lst [])) b:=λb hb=>⟨by rw [zar (fpD b hb)];exact (f2 b hb).1,(f2 b hb).2⟩
 have st3:tn 0 (s2.heap.push { cls:=.type "list",data:=.seq ([]:List Value).toArray }):=T.keep _ _ _ st2 λb hb o e=>qps _ e
 clear q hD h st2 f2 fpD
 generalize upd H2 s2.heap.objs.size (.lst [])=H3 at *
 generalize hDe:s2.heap.objs.size=D at *
 have fpIn3:∀b∈fp,∃o,(s2.heap.push { cls:=.type "list",data:=.seq ([]:List Value).toArray }).get? b=some o/\∀v,o.data≠.cell v:=T.obj 0 _ st3
 clear fpIn
 generalize s2.heap.push { cls:=.type "list",data:=.seq ([]:List Value).toArray }=h3 at *
 have old:∀b o,h3.get? b=some o->h'.get? b=some o:=old0
 have stkNo:∀b,b≠X.env.locals->b ∉ X.fs->b ∉ frs X.stack:=λb h1 h2 hb=>by
  rcases List.mem_cons.mp (I3.stkSub b hb) with z|z
  ·exact h1 z
  ·exact h2 z
 have sub:=zid X.env scope.names [] (λx c z=>by simp at z)
 have clLt:∀x c,(x,c)∈zb4 X.env scope.names []->c<h3.objs.size:=λx c z=>by
  obtain ⟨v,o,ho,_⟩:=I3.cell x c (zhv X.env scope.names [] (λx c z=>by simp at z) x c z)
  exact Heap.lt_size ho
 have clInj:∀x y c,(x,c)∈zb4 X.env scope.names []->(y,c)∈zb4 X.env scope.names []->x=y:=λx y c z1 z2=>by
  have e1:=zhv X.env scope.names [] (λx c z=>by simp at z) x c z1
  have e2:=zhv X.env scope.names [] (λx c z=>by simp at z) y c z2
  exact I3.ok.inj x y c e1 e2
 have own:∀x c,(cellsFrom (h3.objs.size+1) scope.names (zb4 X.env scope.names [])).lookup x=some c->X.env.cells.lookup x=some c\/(h3.objs.size+1<=c/\h'.IsCell c none):=λx c z=>by
  have zm:=PySem.mem_of_lookup z
  rcases znd zm with y|⟨y,_⟩
  ·exact .inl (zhv X.env scope.names [] (λx c z=>by simp at z) x c y)
  ·rcases hown0 x c zm with q|q
   ·exact absurd (clLt x c q) (Nat.not_lt.mpr (Nat.le_of_succ_le y))
   ·exact .inr ⟨y,q⟩
 have cNe:∀b o,h3.get? b=some o->b≠h3.objs.size:=λb o e=>Nat.ne_of_lt (Heap.lt_size e)
 have exf:∀b∈fp,∀x c,(cellsFrom (h3.objs.size+1) scope.names (zb4 X.env scope.names [])).lookup x=some c->c≠b:=λb hb x c z=>by
  rcases own x c z with y|⟨y,_⟩
  ·exact (f3 b hb).2.2.2.2.1 x c y
  ·obtain ⟨o,e,_⟩:=fpIn3 b hb
   exact λz=>absurd (Nat.lt_of_lt_of_le (Heap.lt_size e) (Nat.le_of_succ_le y)) (by rw [z];exact Nat.lt_irrefl _)
 have frC:∀x c,(cellsFrom (h3.objs.size+1) scope.names (zb4 X.env scope.names [])).lookup x=some c->H3 c=none:=λx c z=>by
  rcases own x c z with y|⟨y,_⟩
  ·exact I3.freeC x c y
  ·exact I3.hok.fresh (Nat.le_of_succ_le y)
 have I4:Inv (cxD X N' scope h3.objs.size { s2 with heap:=h3 } H3 fp pins) [] (src σ) H3 { s2 with heap:=h',toks:=s2.toks }:=by
  refine ⟨⟨I3.ok.mod,sc.kind,I3.ok.glob,I3.ok.blt,qlr _,λx y c h1 h2=>zne clInj (λx c z=>Nat.lt_succ_of_lt (clLt x c z)) x y c (PySem.mem_of_lookup h1) (PySem.mem_of_lookup h2),λx hx=>?_,λx c z q=>Nat.le_of_succ_le (zng (k0:=h3.objs.size+1) (qlr _) (.inl (by have z:scope.names.contains (x,NameKind.cell)=true:=z;simpa using z)) q),I3.ok.hd,I3.ok.frames,.inl rfl,λb hb=>⟨?_,λx c z=>exf b hb x c z⟩,λb o e=>I3.bs b o e,Nat.le_trans I3.ok.bsz I3.sz,λb o e hb=>?_,λb hb=>stkNo b (f3 b hb).2.1 (f3 b hb).2.2.1,I3.stack,I3.stkFree⟩,
   rfl,I3.bare,Un.kept old,⟨_,hns,λi x v h1 h2 h3'=>?_⟩,λx c z=>?_,I3.hok.fresh (qlr _),λx c z=>frC x c z,λp hp=>?_,I3.hok.kept old,sc.len σ⟩
  ·rcases sc.rel x hx with hm|hm
   ·exact zk5 (.inr (zgn X.env scope.names [] x (.inl hm) (hasC _ hm rfl)))
   ·exact zk5 (.inl hm)
  ·obtain ⟨o,e,_⟩:=fpIn3 b hb
   exact cNe b o e
  ·rcases (f3 b hb).2.2.2.1 with z|z
   ·exact I3.ok.noex b o e z
   ·have:=Heap.lt_size (I3.ok.bs b o e).1
    exact absurd (Nat.lt_of_lt_of_le this z) (Nat.lt_irrefl _)
  ·obtain ⟨j,e1,e2,e3⟩:=sc.src σ i v x h2 h1
   obtain ⟨m,hn,hl⟩:=I3.loc
   have hmem:=PySem.mem_of_lookup e3
   have hk:=sc.free (x,.free) hmem rfl
   have vis:Vis X.env.scope x:=by
    rcases hk with k|k
    ·exact .inr (.inl k)
    ·exact .inr (.inr k)
   obtain ⟨u,r,lk⟩:=hl j x v e1 e2 vis
   refine ⟨u,r,.inr ⟨?_,?_⟩⟩
   ·exact zkr (scope:=scope) e3
   ·rcases lk with ⟨k,_⟩|⟨_,c,hc,hcell⟩
    ·rcases hk with k' | k' <;> (rw [k] at k';cases k')
    ·obtain ⟨c',hc'⟩:=zgn X.env scope.names [] x (.inl hmem) ⟨c,hc⟩
     have:=sub x c' hc'
     rw [hc] at this;cases this
     have hc':(cellsFrom (h3.objs.size+1) scope.names (zb4 X.env scope.names [])).lookup x=some c:=by rw [znf (sc.one x e3)];exact hc'
     obtain ⟨o,ho,hd⟩:=hcell
     exact ⟨c,hc',o,old _ _ ho,hd⟩
  ·rcases own x c z with y|⟨_,y⟩
   ·obtain ⟨v,o,ho,hd⟩:=I3.cell x c y
    exact ⟨v,o,old _ _ ho,hd⟩
   ·exact ⟨none,y⟩
  ·have hp':p∈X.pn++pins:=by simpa [cxD] using hp
   obtain ⟨e,n,ne,nf,d⟩:=I3.pin p hp'
   exact ⟨old _ _ e,n,cNe _ _ e,stkNo _ ne nf,d⟩
 have st4:tn 0 h':=T.keep _ _ _ st3 λb hb o e=>old b o e
 have fr4:∀b∈fp,H3 b=none:=λb hb=>(f3 b hb).1
 have stat:∀{H':Hp},(∀b∈fp,H' b=none)->∀b∈fp,zcz (cxD X N' scope h3.objs.size { s2 with heap:=h3 } H3 fp pins) [] H' b:=λhn b hb=>by
  obtain ⟨g0,g1,g2,g3,g4,g5⟩:=f3 b hb
  obtain ⟨o,e,_⟩:=fpIn3 b hb
  exact ⟨hn b hb,cNe b o e,stkNo b g1 g2,.inl hb,λx c z=>exf b hb x c z,λp hp=>g5 p (by simpa [cxD] using hp)⟩
 have loop:codeAny (model X.prog X.w) X.A (.compLoop (.ListComp elt [⟨tgt,iter,ifs,0⟩] scope pos) 0 (.ref it) (.ref D) (compEnvC scope (cellsFrom (h3.objs.size+1) scope.names (zb4 X.env scope.names [])) h3.objs.size X.env))
   (compPost (model X.prog X.w) X.A X.xe use R (.ref D) h3.objs.size) { s2 with heap:=h',toks:=s2.toks }:=by
  refine zp7 (λn s'=>∃i σ' H',Inv (cxD X N' scope h3.objs.size { s2 with heap:=h3 } H3 fp pins) [] σ' H' s'/\tn i s'.heap/\(∀b∈fp,H' b=none)/\W i n σ' H') ?_ m0 ⟨0,src σ,H3,I4,st4,fr4,w0⟩
  rintro n s5 ⟨i,σ5,H5,I5,st5,fr5,w5⟩
  rcases turn i n σ5 H5 w5 with ⟨stop,qn⟩|⟨go,N,hN,step⟩
  ·refine wpAny_mono (T.done (cxD X N' scope h3.objs.size { s2 with heap:=h3 } H3 fp pins) rfl rfl rfl hcalm i [] s5 σ5 H5 (λ_ _=>False) I5 (stat fr5) st5 stop) (λr s6 hr=>?_) λ_ _ z=>False.elim z
   obtain ⟨hr,I6⟩:=hr
   subst hr
   obtain ⟨mC,hnC,_⟩:=I6.loc
   have IX:Inv X pins σ H5 s6:=I3.call' (s':=s6) (ch:=fp) I6.os I6.base I6.hok I6.bare λb hb=>⟨(f3 b hb).2.2.2.1,(f3 b hb).2.1,(f3 b hb).2.2.2.2.1,(f3 b hb).2.2.2.2.2⟩
   exact fin D H5 s6 h3.objs.size mC IX (I3.fpOk (qlr _) I6.free) hnC qn
  ·refine wpAny_mono (T.item (cxD X N' scope h3.objs.size { s2 with heap:=h3 } H3 fp pins) rfl rfl rfl hcalm i [] s5 σ5 H5 (λ_ _=>False) I5 (stat fr5) st5 go) (λr s6 hr=>?_) λ_ _ z=>False.elim z
   obtain ⟨u,hr,h6⟩:=hr
   subst hr
   refine wpAny_mono h6 (λ_ s7 h7=>?_) λ_ _ z=>False.elim z
   obtain ⟨x,H7,I7,r7,y7,st7,fr7⟩:=h7
   have I7':=I7.pinned (stat fr7) (T.obj _ _ st7)
   refine wpAny_mono (hg _ _ _ _ _ _ s7 σ5 H7 x u _ I7' r7 (step x H7 y7)) (λ_ s8 h8=>?_) λ_ _ z=>False.elim z
   obtain ⟨σ8,H8,I8,q8⟩:=h8
   have again:∀{H9:Hp} {s9:Shared},Inv (cxD X N' scope h3.objs.size { s2 with heap:=h3 } H3 fp pins) ([]++zhm fp s7.heap) σ8 H9 s9->N σ8 H9->∃m,m<n/\∃i σ' H',Inv (cxD X N' scope h3.objs.size { s2 with heap:=h3 } H3 fp pins) [] σ' H' s9/\tn i s9.heap/\(∀b∈fp,H' b=none)/\W i m σ' H':=λ{H9 s9} I9 n9=>by
    obtain ⟨m',hm,w9⟩:=hN σ8 H9 n9
    refine ⟨m',hm,i+1,σ8,H9,I9.unpinned,T.keep _ _ _ st7 λb hb o e=>(I9.pin (b,o) (List.mem_append_right _ (List.mem_append_right _ (zg0 hb e)))).1,λb hb=>?_,w9⟩
    obtain ⟨o,e,d⟩:=T.obj _ _ st7 b hb
    exact (I9.pin (b,o) (List.mem_append_right _ (List.mem_append_right _ (zg0 hb e)))).2.1
   refine wpAny_mono (ht _ _ _ _ _ _ s8 σ8 H8 _ I8 q8) (λok s9 h9=>?_) λ_ _ z=>False.elim z
   obtain ⟨H9,I9,q9⟩:=h9
   cases ok with
   | false=>exact again I9 q9
   | true =>
    refine wpAny_mono (he _ _ _ _ _ _ s9 σ8 H9 _ I9 q9) (λy s10 h10=>?_) λ_ _ z=>False.elim z
    obtain ⟨vy,H10,I10,r10,ys,hys,hz,nx⟩:=h10
    refine wpAny_mono (zl7 (X:=cxD X N' scope h3.objs.size { s2 with heap:=h3 } H3 fp pins) _ s10 σ8 H10 (.ref D) [vy] (.ref D) [y] (λ_ H'=>N σ8 H') I10 rfl (.cons r10 .nil) ⟨D,ys,vy,rfl,rfl,hys,hz,nx⟩) (λ_ s11 h11=>?_) λ_ _ z=>False.elim z
    obtain ⟨_,H11,I11,_,n11⟩:=h11
    exact again I11 n11
 exact codeAny_compStart_list loop (T.self _ 0 _ _ _ st4 loop)
theorem yaw {X:Cx}{N':List Str}{elt iter tgt:Expr}{ifs:List Expr}{scope:Scope}{pos:Pos}{wi:TI}{src:St->St}{g:TG}{tts:TT}{t:TE}(hcalm:X.calm=true) (sc:CompSd X N' scope src)
  (hi:PI X tgt iter wi) (hg:∀C s H fp pins,PG (cxD X N' scope C s H fp pins) tgt g) (ht:∀C s H fp pins,PTs (cxD X N' scope C s H fp pins) ifs tts) (he:∀C s H fp pins,PE (cxD X N' scope C s H fp pins) elt t)
  (hs:∀x,foldedSetIterable iter X.env x=pure x:=by intro _;rfl):PE X (.ListComp elt [⟨tgt,iter,ifs,0⟩] scope pos) (zhq X.K wi src g tts t):=by
 intro pins s σ H Q I h
 rw [eval_ListComp]
 refine zqz (use:=none) hcalm sc hi hg ht he hs I h λD H5 s6 C mC IX fp hn q=>⟨mC,hn,λh'' sb=>⟨.ref D,H5,?_,rfl,q⟩⟩
 exact IX.turned (t':=s6.toks) (λb o hb e=>sb.extBut b o hb e) fp.1 fp.2.1 fp.2.2.2.1 fp.2.2.2.2.1 fp.2.2.2.2.2
theorem yax {X:Cx}{N':List Str}{elt iter tgt:Expr}{ifs:List Expr}{scope:Scope}{pos spos py:Pos}{wi:TI}{src:St->St}{g:TG}{tts:TT}{t:TE}{i:Nat}{y:Str}(hN:X.N.Nodup) (hi':X.N[i]? = some y) (hx:Loc X.env.scope y)
  (hsw:swapsWith (.ListComp elt [⟨tgt,iter,ifs,0⟩] scope pos) (some (.Name y py)) spos.line X.env=pure true) (hf:X.fn y=true\/X.env.scope.names.lookup y=some .local)
  (hcalm:X.calm=true) (sc:CompSd X N' scope src)
  (hi:PI X tgt iter wi) (hg:∀C s H fp pins,PG (cxD X N' scope C s H fp pins) tgt g) (ht:∀C s H fp pins,PTs (cxD X N' scope C s H fp pins) ifs tts) (he:∀C s H fp pins,PE (cxD X N' scope C s H fp pins) elt t)
  (hs:∀x,foldedSetIterable iter X.env x=pure x:=by intro _;rfl):PS X (.Assign [.Name y py] (.ListComp elt [⟨tgt,iter,ifs,0⟩] scope pos) spos) (zj8 (zhq X.K wi src g tts t) (zj7 i)):=by
 intro pins s σ H D I h
 rw [exec_Assign_Name_used _ _ _ _ hsw]
 refine qwb (wpAny_standAt (qwb ?_))
 show wpAny _ X.A (do let _ <-comprehension (.ListComp elt [⟨tgt,iter,ifs,0⟩] scope pos) scope X.env _ (newList []) false (eval iter X.env) (some (assign (.Name y py) X.env))) _ _ s
 refine qwb (wpAny_mono (zqz (use:=some (assign (.Name y py) X.env)) (R:=λ_ s'=>SP X pins D .next s') hcalm sc hi hg ht he hs I h λD' H5 s6 C mC IX fp hn q=>?_) (λ_ s' hq=>qwp (qwp hq)) λ_ _ e=>e)
 show wpAny _ X.A (assign (.Name y py) X.env (.ref D')) _ _ s6
 refine wpAny_assign_Name (zlw (v:=.ref D') IX hN hi' hx rfl (λs' I' ha=>?_) hf)
 obtain ⟨a,sb,ha⟩:=ha
 have hCa:C≠a:=by
  rcases ha with ha|ha
  ·rw [ha];exact fp.2.1
  ·exact λz=>fp.2.2.2.2.1 y a ha z.symm
 refine ⟨mC,hn.sameBut sb hCa,λh'' sb''=>⟨_,H5,?_,q⟩⟩
 exact I'.turned (t':=s'.toks) (λb o hb e=>sb''.extBut b o hb e) fp.1 fp.2.1 fp.2.2.2.1 fp.2.2.2.2.1 fp.2.2.2.2.2
theorem zil {X:Cx}{N':List Str}{elt iter tgt:Expr}{ifs:List Expr}{scope:Scope}{pos:Pos}{im:IM}{ixs:List (Option Nat)}{g:GM}{t:TM}{e:EM}(hcalm:X.calm=true) (sc:CompSd X N' scope (zbu ixs))
  (hi:PI3 X tgt iter im) (hg:∀C s H fp pins,PG3 (cxD X N' scope C s H fp pins) tgt g) (ht:∀C s H fp pins,PTs (cxD X N' scope C s H fp pins) ifs (tt X.K t)) (he:∀C s H fp pins,PE3 (cxD X N' scope C s H fp pins) elt e)
  (hs:∀x,foldedSetIterable iter X.env x=pure x:=by intro _;rfl):PE3 X (.ListComp elt [⟨tgt,iter,ifs,0⟩] scope pos) (zcn im ixs g t e) :=
 PE.imp (yaw (g:=tg X.K g) (tts:=tt X.K t) (t:=te X.K e) hcalm sc hi hg ht he hs) zp9
theorem zk6 (j:Nat) {X:Cx}{N':List Str}{elt iter tgt:Expr}{ifs:List Expr}{scope:Scope}{pos spos py:Pos}{y:Str}{im:IM}{ixs:List (Option Nat)}{g:GM}{t:TM}{e:EM}(hN:X.N.Nodup) (hcalm:X.calm=true) (sc:CompSd X N' scope (zbu ixs))
  (hi:PI3 X tgt iter im) (hg:∀C s H fp pins,PG3 (cxD X N' scope C s H fp pins) tgt g) (ht:∀C s H fp pins,PTs (cxD X N' scope C s H fp pins) ifs (tt X.K t)) (he:∀C s H fp pins,PE3 (cxD X N' scope C s H fp pins) elt e)
  (hi':X.N[j]? = some y:=by rfl) (hx:Loc X.env.scope y:=by first|exact Or.inl rfl|exact Or.inr rfl)
  (hsw:swapsWith (.ListComp elt [⟨tgt,iter,ifs,0⟩] scope pos) (some (.Name y py)) spos.line X.env=pure true:=by with_unfolding_all rfl) (hf:X.fn y=true\/X.env.scope.names.lookup y=some .local:=by first|exact .inl rfl|exact .inr rfl|assumption)
  (hs:∀x,foldedSetIterable iter X.env x=pure x:=by intro _;rfl):PS3 X (.Assign [.Name y py] (.ListComp elt [⟨tgt,iter,ifs,0⟩] scope pos) spos) (zaq (zcn im ixs g t e) (zal j)) :=
 PS.imp (yax (g:=tg X.K g) (tts:=tt X.K t) (t:=te X.K e) hN hi' hx hsw hf hcalm sc hi hg ht he hs) λE σ H hx1_=>by
  obtain ⟨ρ,l,S,f,l',S',sim,ro,hm,p⟩:=hx1_
  obtain ⟨⟨x,S1⟩,q1,hm⟩:=bnd hm
  cases hm
  exact zp9 σ H _ ⟨ρ,l,S,x,S1,sim,ro,q1,λρ1 H1 x' e1 s1 r1=>p ρ1 H1 _ e1 s1 ((ro.mono e1).set j r1)⟩
noncomputable def zq0 (scO scope:Scope) (NO N':List Str) (ixs:List (Option Nat)):Bool :=
 decide (scope.kind=.function) && (scope.names.all λy=>y.2 != .local || scope.names.lookup y.1 == some .local) && (scope.names.all λy=>y.2 != .cell || scope.names.lookup y.1 == some .cell) &&
 (scope.names.all λy=>y.2 != .free || (scO.names.lookup y.1 == some .cell || scO.names.lookup y.1 == some .free)) && (ixs.length == N'.length) &&
 ((List.range ixs.length).all λi=>match ixs[i]? with|some (some j)=>(NO[j]? == N'[i]? && (match N'[i]? with|some x=>scope.names.lookup x == some .free|none=>false))|_=>true)
theorem zf3 {X:Cx}{scO scope:Scope}{NO N':List Str}{ixs:List (Option Nat)}(hX:X.env.scope=scO) (hN:X.N=NO) (h:zq0 scO scope NO N' ixs=true):CompSd X N' scope (zbu ixs):=by
 unfold zq0 at h
 simp only [Bool.and_eq_true,decide_eq_true_eq,List.all_eq_true,beq_iff_eq,Bool.or_eq_true,bne_iff_ne,ne_eq] at h
 obtain ⟨⟨⟨⟨⟨h1,h3⟩,h2⟩,h4⟩,h5⟩,h6⟩:=h
 refine ⟨h1,λy hy hl=>?_,λy hy hl=>?_,λy hy=>?_,λy hy hc=>?_,λσ=>by simp [zbu,h5],λσ i v x hv hx=>?_⟩
 ·rcases h3 y hy with z|z
  ·exact absurd hl z
  ·exact z
 ·show X.env.scope.names.lookup y.1=_\/X.env.scope.names.lookup y.1=_
  rw [hX]
  rcases h4 y hy with z|z
  ·exact absurd hl z
  ·exact z
 ·have mem:∃k,(k=NameKind.cell\/k=NameKind.free)/\(y,k)∈(relabel scope X.env).names:=by
   rcases hy with z|z
   ·exact ⟨_,.inl rfl,PySem.mem_of_lookup z⟩
   ·exact ⟨_,.inr rfl,PySem.mem_of_lookup z⟩
  obtain ⟨k,hk,hm⟩:=mem
  unfold relabel at hm
  obtain ⟨⟨n,k'⟩,hm1,hm2⟩:=List.mem_map.mp hm
  dsimp only at hm2
  split at hm2
  ·rename_i hc
   have:k' = .free:=by
    rw [Bool.and_eq_true,Bool.and_eq_true] at hc
    exact eq_of_beq hc.1.1
   cases hm2
   rw [<-this];exact .inl hm1
  ·cases hm2
   rcases hk with z|z
   ·rw [<-z];exact .inr hm1
   ·rw [<-z];exact .inl hm1
 ·rcases h2 (y,.cell) hc with z|z
  ·exact z rfl
  ·rw [hy] at z;cases z
 ·have hl:i<ixs.length:=by
   have:=(qme hv).1
   simpa [zbu] using this
  unfold zbu at hv
  rw [qgm] at hv
  have q:=h6 i (List.mem_range.mpr hl)
  cases e:ixs[i]? with
  | none=>rw [e] at hv;cases hv
  | some o =>
   rw [e] at hv
   cases o with
   | none=>cases hv
   | some j =>
    rw [e] at q
    dsimp only at q
    rw [hx] at q
    simp only [Bool.and_eq_true,beq_iff_eq] at q
    have hv:((σ[j]?).join:Option V)=some v:=qoi hv
    refine ⟨j,by rw [hN];exact q.1,?_,q.2⟩
    cases e2:σ[j]? with
    | none=>rw [e2] at hv;cases hv
    | some o2=>rw [e2] at hv;have hv:o2=some v:=hv;rw [hv]
def zni (K:QFg) (wi:TI) (src:St->St) (g:TG) (tts:TT) (tk tv:TE):TE:=λσ H Q=>wi σ H λJ H1=>∀D,H1 D=none->K.lookup D=none->∃W:Nat->Nat->St->Hp->Prop,
 (∃m,W 0 m (src σ) (upd H1 D (.dT [])))/\∀i m σ' H',W i m σ' H' ->
  (J.stop i H'/\Q (.ref D) H')\/(J.go i H'/\∃N:St->Hp->Prop,(∀σ' H',N σ' H'->∃m',m' < m/\W (i+1) m' σ' H') /\
   ∀x H'',J.yld i H' x H''->g x σ' H'' λσ2 H2=>tts σ2 H2 λb H3=>if b=true then tk σ2 H3 (λkx H4=>tv σ2 H4 λvx H5=>∃kvs k b,H5 D=some (.dT kvs)/\kx=.ref b/\H5 b=some (.tup (k.map kV))/\kvs.length<sizeLine/\N σ2 (upd H5 D (.dT (zb1 kvs k vx)))) else N σ2 H3)
theorem yay {X:Cx}{rk:Nat}{N':List Str}{elt vx iter tgt:Expr}{ifs:List Expr}{scope:Scope}{pos pos':Pos}{use:Option (Value->Sem Unit)}{R:Value->Shared->Prop}{pins:List (Addr × Obj)}{s:Shared}{σ:St}{H:Hp}{Q:VK}{wi:TI}{src:St->St}{g:TG}{tts:TT}{t tv:TE}(hr:Room rk X.A) (hcalm:X.calm=true) (sc:CompSc X N' scope src)
  (hi:PI X tgt iter wi) (hg:∀C s H fp pins,PG (cxC X N' scope C s H fp pins) tgt g) (ht:∀C s H fp pins,PTs (cxC X N' scope C s H fp pins) ifs tts) (he:∀C s H fp pins,PE (cxC X N' scope C s H fp pins) elt t) (hv:∀C s H fp pins,PE (cxC X N' scope C s H fp pins) vx tv)
  (hs:∀x,foldedSetIterable iter X.env x=pure x) (I:Inv X pins σ H s) (h:zni X.K wi src g tts t tv σ H Q)
  (fin:∀D H5 s6 C mC,Inv X pins σ H5 s6->zcz X pins H5 C->s6.heap.Ns C mC->Q (.ref D) H5->compPost (model X.prog X.w) X.A X.xe use R (.ref D) C (.ok .next) s6) :
  wpAny (model X.prog X.w) X.A (comprehension (.DictComp elt vx [⟨tgt,iter,ifs,0⟩] scope pos) scope X.env pos' newDict false (eval iter X.env) use) R X.xe s:=by
 have hasC:∀x∈scope.names,x.2=.free->∃c,X.env.cells.lookup x.1=some c:=λx hx hf=>I.ok.has x.1 (sc.free x hx hf)
 refine wpAny_comprehension_free (use:=use) (env:=X.env) rfl hs (zmm scope X.env hasC) sc.kind sc.names ?_
 show wpAny (model X.prog X.w) X.A (eval iter X.env) _ _ s
 refine wpAny_mono (hi pins s σ H _ I h) (λv s1 h1=>wpAny_mono h1 (λitv s2 h2=>?_) λ_ _ z=>z) λ_ _ z=>z
 obtain ⟨it,fp,tn,J,H2,rfl,I2,T,st2,f2,q⟩:=h2
 refine wpAny_newObj_type ?_
 have hD:H2 s2.heap.objs.size=none:=I2.hok.fresh (qlr _)
 have I3:Inv X pins σ (upd H2 s2.heap.objs.size (.dT [])) { s2 with heap:=s2.heap.push { cls:=.type "dict",data:=.dict #[] } }:=I2.laid (t':=s2.toks) (λb u e=>qps _ e) (qlr _) (zl9 s2.heap I2.big)
 obtain ⟨W,⟨m0,w0⟩,turn⟩:=q s2.heap.objs.size hD (by
  cases e:X.K.lookup s2.heap.objs.size with
  | none=>rfl
  | some o=>exact absurd (Heap.lt_size (I2.kIn _ o e)) (Nat.lt_irrefl _))
 refine wpAny_newFunctionEnv sc.nocell (by intro y hy;simp at hy) (λh' hns hsb=>?_) sc.kind
 have fpIn:∀b∈fp,∃o,s2.heap.get? b=some o/\∀v,o.data≠.cell v:=T.obj 0 s2.heap st2
 have fpD:∀b∈fp,b≠s2.heap.objs.size:=λb hb=>let ⟨o,e,_⟩:=fpIn b hb;Nat.ne_of_lt (Heap.lt_size e)
 have f3:∀b∈fp,zcz X pins (upd H2 s2.heap.objs.size (.dT [])) b:=λb hb=>⟨by rw [zar (fpD b hb)];exact (f2 b hb).1,(f2 b hb).2⟩
 have st3:tn 0 (s2.heap.push { cls:=.type "dict",data:=.dict #[] }):=T.keep _ _ _ st2 λb hb o e=>qps _ e
 clear q hD h st2 f2 fpD
 generalize upd H2 s2.heap.objs.size (.dT [])=H3 at *
 generalize hDe:s2.heap.objs.size=D at *
 have fpIn3:∀b∈fp,∃o,(s2.heap.push { cls:=.type "dict",data:=.dict #[] }).get? b=some o/\∀v,o.data≠.cell v:=T.obj 0 _ st3
 clear fpIn
 generalize s2.heap.push { cls:=.type "dict",data:=.dict #[] }=h3 at *
 have old:∀b o,h3.get? b=some o->h'.get? b=some o:=λb o e=>hsb.extBut b o (Nat.ne_of_lt (Heap.lt_size e)) (qps _ e)
 have stkNo:∀b,b≠X.env.locals->b ∉ X.fs->b ∉ frs X.stack:=λb h1 h2 hb=>by
  rcases List.mem_cons.mp (I3.stkSub b hb) with z|z
  ·exact h1 z
  ·exact h2 z
 have sub:=zid X.env scope.names [] (λx c z=>by simp at z)
 have cNe:∀b o,h3.get? b=some o->b≠h3.objs.size:=λb o e=>Nat.ne_of_lt (Heap.lt_size e)
 have I4:Inv (cxC X N' scope h3.objs.size { s2 with heap:=h3 } H3 fp pins) [] (src σ) H3 { s2 with heap:=h',toks:=s2.toks+([]:List (Str × Value)).length }:=by
  refine ⟨⟨I3.ok.mod,sc.kind,I3.ok.glob,I3.ok.blt,qlr _,λx y c h1 h2=>I3.ok.inj x y c (sub x c h1) (sub y c h2),λx hx=>?_,λx c z=>absurd (show false=true from z) Bool.false_ne_true,I3.ok.hd,I3.ok.frames,.inl rfl,λb hb=>⟨?_,λx c z=>(f3 b hb).2.2.2.2.1 x c (sub x c z)⟩,λb o e=>I3.bs b o e,Nat.le_trans I3.ok.bsz I3.sz,λb o e hb=>?_,λb hb=>stkNo b (f3 b hb).2.1 (f3 b hb).2.2.1,I3.stack,I3.stkFree⟩,
   rfl,I3.bare,Un.kept old,⟨_,hns,λi x v h1 h2 h3'=>?_⟩,λx c z=>?_,I3.hok.fresh (qlr _),λx c z=>I3.freeC x c (sub x c z),λp hp=>?_,I3.hok.kept old,sc.len σ⟩
  ·have hm:=sc.rel x hx
   exact zgn X.env scope.names [] x (.inl hm) (hasC _ hm rfl)
  ·obtain ⟨o,e,_⟩:=fpIn3 b hb
   exact cNe b o e
  ·rcases (f3 b hb).2.2.2.1 with z|z
   ·exact I3.ok.noex b o e z
   ·have:=Heap.lt_size (I3.ok.bs b o e).1
    exact absurd (Nat.lt_of_lt_of_le this z) (Nat.lt_irrefl _)
  ·obtain ⟨j,e1,e2,e3⟩:=sc.src σ i v x h2 h1
   obtain ⟨m,hn,hl⟩:=I3.loc
   have hmem:=PySem.mem_of_lookup e3
   have hk:=sc.free (x,.free) hmem rfl
   have vis:Vis X.env.scope x:=by
    rcases hk with k|k
    ·exact .inr (.inl k)
    ·exact .inr (.inr k)
   obtain ⟨u,r,lk⟩:=hl j x v e1 e2 vis
   refine ⟨u,r,.inr ⟨?_,?_⟩⟩
   ·exact zkr (scope:=scope) e3
   ·rcases lk with ⟨k,_⟩|⟨_,c,hc,hcell⟩
    ·rcases hk with k' | k' <;> (rw [k] at k';cases k')
    ·obtain ⟨c',hc'⟩:=zgn X.env scope.names [] x (.inl hmem) ⟨c,hc⟩
     have:=sub x c' hc'
     rw [hc] at this;cases this
     obtain ⟨o,ho,hd⟩:=hcell
     exact ⟨c,hc',o,old _ _ ho,hd⟩
  ·obtain ⟨v,o,ho,hd⟩:=I3.cell x c (sub x c z)
   exact ⟨v,o,old _ _ ho,hd⟩
  ·have hp':p∈X.pn++pins:=by simpa [cxC] using hp
   obtain ⟨e,n,ne,nf,d⟩:=I3.pin p hp'
   exact ⟨old _ _ e,n,cNe _ _ e,stkNo _ ne nf,d⟩
 have st4:tn 0 h':=T.keep _ _ _ st3 λb hb o e=>old b o e
 have fr4:∀b∈fp,H3 b=none:=λb hb=>(f3 b hb).1
 have stat:∀{H':Hp},(∀b∈fp,H' b=none)->∀b∈fp,zcz (cxC X N' scope h3.objs.size { s2 with heap:=h3 } H3 fp pins) [] H' b:=λhn b hb=>by
  obtain ⟨g0,g1,g2,g3,g4,g5⟩:=f3 b hb
  obtain ⟨o,e,_⟩:=fpIn3 b hb
  exact ⟨hn b hb,cNe b o e,stkNo b g1 g2,.inl hb,λx c z=>g4 x c (sub x c z),λp hp=>g5 p (by simpa [cxC] using hp)⟩
 have loop:codeAny (model X.prog X.w) X.A (.compLoop (.DictComp elt vx [⟨tgt,iter,ifs,0⟩] scope pos) 0 (.ref it) (.ref D) (compEnvC scope (zb4 X.env scope.names []) h3.objs.size X.env))
   (compPost (model X.prog X.w) X.A X.xe use R (.ref D) h3.objs.size) { s2 with heap:=h',toks:=s2.toks+([]:List (Str × Value)).length }:=by
  refine yaq (λn s'=>∃i σ' H',Inv (cxC X N' scope h3.objs.size { s2 with heap:=h3 } H3 fp pins) [] σ' H' s'/\tn i s'.heap/\(∀b∈fp,H' b=none)/\W i n σ' H') ?_ m0 ⟨0,src σ,H3,I4,st4,fr4,w0⟩
  rintro n s5 ⟨i,σ5,H5,I5,st5,fr5,w5⟩
  rcases turn i n σ5 H5 w5 with ⟨stop,qn⟩|⟨go,N,hN,step⟩
  ·refine wpAny_mono (T.done (cxC X N' scope h3.objs.size { s2 with heap:=h3 } H3 fp pins) rfl rfl rfl hcalm i [] s5 σ5 H5 (λ_ _=>False) I5 (stat fr5) st5 stop) (λr s6 hr=>?_) λ_ _ z=>z
   obtain ⟨hr,I6⟩:=hr
   subst hr
   obtain ⟨mC,hnC,_⟩:=I6.loc
   have IX:Inv X pins σ H5 s6:=I3.call' (s':=s6) (ch:=fp) I6.os I6.base I6.hok I6.bare λb hb=>⟨(f3 b hb).2.2.2.1,(f3 b hb).2.1,(f3 b hb).2.2.2.2.1,(f3 b hb).2.2.2.2.2⟩
   exact fin D H5 s6 h3.objs.size mC IX (I3.fpOk (qlr _) I6.free) hnC qn
  ·refine wpAny_mono (T.item (cxC X N' scope h3.objs.size { s2 with heap:=h3 } H3 fp pins) rfl rfl rfl hcalm i [] s5 σ5 H5 (λ_ _=>False) I5 (stat fr5) st5 go) (λr s6 hr=>?_) λ_ _ z=>z
   obtain ⟨u,hr,h6⟩:=hr
   subst hr
   refine wpAny_mono h6 (λ_ s7 h7=>?_) λ_ _ z=>z
   obtain ⟨x,H7,I7,r7,y7,st7,fr7⟩:=h7
   have I7':=I7.pinned (stat fr7) (T.obj _ _ st7)
   refine wpAny_mono (hg _ _ _ _ _ _ s7 σ5 H7 x u _ I7' r7 (step x H7 y7)) (λ_ s8 h8=>?_) λ_ _ z=>z
   obtain ⟨σ8,H8,I8,q8⟩:=h8
   have again:∀{H9:Hp} {s9:Shared},Inv (cxC X N' scope h3.objs.size { s2 with heap:=h3 } H3 fp pins) ([]++zhm fp s7.heap) σ8 H9 s9->N σ8 H9->∃m,m<n/\∃i σ' H',Inv (cxC X N' scope h3.objs.size { s2 with heap:=h3 } H3 fp pins) [] σ' H' s9/\tn i s9.heap/\(∀b∈fp,H' b=none)/\W i m σ' H':=λ{H9 s9} I9 n9=>by
    obtain ⟨m',hm,w9⟩:=hN σ8 H9 n9
    refine ⟨m',hm,i+1,σ8,H9,I9.unpinned,T.keep _ _ _ st7 λb hb o e=>(I9.pin (b,o) (List.mem_append_right _ (List.mem_append_right _ (zg0 hb e)))).1,λb hb=>?_,w9⟩
    obtain ⟨o,e,d⟩:=T.obj _ _ st7 b hb
    exact (I9.pin (b,o) (List.mem_append_right _ (List.mem_append_right _ (zg0 hb e)))).2.1
   refine wpAny_mono (ht _ _ _ _ _ _ s8 σ8 H8 _ I8 q8) (λok s9 h9=>?_) λ_ _ z=>z
   obtain ⟨H9,I9,q9⟩:=h9
   cases ok with
   | false=>exact again I9 q9
   | true =>
    refine wpAny_mono (he _ _ _ _ _ _ s9 σ8 H9 _ I9 q9) (λy s10 h10=>?_) λ_ _ z=>z
    obtain ⟨vy,H10,I10,r10,q10⟩:=h10
    refine wpAny_mono (hv _ _ _ _ _ _ s10 σ8 H10 _ I10 q10) (λz s11 h11=>?_) λ_ _ z=>z
    obtain ⟨vz,H11,I11,r11,kvs,kk,kb,hys,ek,hkb,hz,nx⟩:=h11
    subst ek
    cases r10
    obtain ⟨z1,hsm,xs,rel,dd⟩:=zke I11.hok hys
    have hzv:xs.length<=sizeLine:=by rw [<-Paired.length rel];exact z1
    have hl:(zb1 kvs kk vz).length<=sizeLine:=by have:=zi6 kvs kk vz;omega
    have hroom:(tupleKind (zde X.prog X.w)).room X.A:=Nat.lt_of_succ_lt (zk3 hr)
    refine wpAny_dictSet_heap (hsz:=hzv) hroom (zh3 I11.hok hkb) dd λh' dd' hs'=>?_
    obtain ⟨q,es,ep,hq,g2,g3,g4,_,g5⟩:=dd'
    refine again (zi7 (ob:=.dT (zb1 kvs kk vz)) (t':=s11.toks+(tupleKind (zde X.prog X.w)).draws kk) I11 (by rw [hys];exact True.intro) hs' ⟨q,hq⟩ ⟨hl,hsm,_,(rel.put kk hkb r11).keeps λc ys ec=>?_,q,es,ep,hq,g2,g3,g4,g5⟩) nx
    rw [zar (zdl ec hys (λz=>nomatch z))]
    exact ec
 exact codeAny_compStart_dict loop (T.self _ 0 _ _ _ st4 loop)
theorem yaz {X:Cx}{rk:Nat}{N':List Str}{elt vx iter tgt:Expr}{ifs:List Expr}{scope:Scope}{pos spos py:Pos}{wi:TI}{src:St->St}{g:TG}{tts:TT}{t tv:TE}{i:Nat}{y:Str}(hN:X.N.Nodup) (hi':X.N[i]? = some y) (hx:Loc X.env.scope y)
  (hsw:swapsWith (.DictComp elt vx [⟨tgt,iter,ifs,0⟩] scope pos) (some (.Name y py)) spos.line X.env=pure true) (hf:X.fn y=true\/X.env.scope.names.lookup y=some .local)
  (hr:Room rk X.A) (hcalm:X.calm=true) (sc:CompSc X N' scope src)
  (hi:PI X tgt iter wi) (hg:∀C s H fp pins,PG (cxC X N' scope C s H fp pins) tgt g) (ht:∀C s H fp pins,PTs (cxC X N' scope C s H fp pins) ifs tts) (he:∀C s H fp pins,PE (cxC X N' scope C s H fp pins) elt t) (hv:∀C s H fp pins,PE (cxC X N' scope C s H fp pins) vx tv)
  (hs:∀x,foldedSetIterable iter X.env x=pure x:=by intro _;rfl):PS X (.Assign [.Name y py] (.DictComp elt vx [⟨tgt,iter,ifs,0⟩] scope pos) spos) (zj8 (zni X.K wi src g tts t tv) (zj7 i)):=by
 intro pins s σ H D I h
 rw [exec_Assign_Name_used _ _ _ _ hsw]
 refine qwb (wpAny_standAt (qwb ?_))
 show wpAny _ X.A (do let _ <-comprehension (.DictComp elt vx [⟨tgt,iter,ifs,0⟩] scope pos) scope X.env _ newDict false (eval iter X.env) (some (assign (.Name y py) X.env))) _ _ s
 refine qwb (wpAny_mono (yay (use:=some (assign (.Name y py) X.env)) (R:=λ_ s'=>SP X pins D .next s') hr hcalm sc hi hg ht he hv hs I h λD' H5 s6 C mC IX fp hn q=>?_) (λ_ s' hq=>qwp (qwp hq)) λ_ _ e=>e)
 show wpAny _ X.A (assign (.Name y py) X.env (.ref D')) _ _ s6
 refine wpAny_assign_Name (zlw (v:=.ref D') IX hN hi' hx rfl (λs' I' ha=>?_) hf)
 obtain ⟨a,sb,ha⟩:=ha
 have hCa:C≠a:=by
  rcases ha with ha|ha
  ·rw [ha];exact fp.2.1
  ·exact λz=>fp.2.2.2.2.1 y a ha z.symm
 refine ⟨mC,hn.sameBut sb hCa,λh'' sb''=>⟨_,H5,?_,q⟩⟩
 exact I'.turned (t':=s'.toks) (λb o hb e=>sb''.extBut b o hb e) fp.1 fp.2.1 fp.2.2.2.1 fp.2.2.2.2.1 fp.2.2.2.2.2
noncomputable def zhc:List D->List (List Key × D)->Option (List (List Key × D))
 | [],acc=>some acc
 | .tup [k,v] :: r,acc=>(zf2 k).bind λkk=>zhc r (zda acc kk v)
 | _,_=>none
noncomputable def zjq (im:IM) (ixs:List (Option Nat)) (g:GM) (t:TM) (k v:EM):EM:=λl S=>(im l S).bind λp=>(zc2 p.1 g t (zht k v) p.2.1 0 (zbu ixs l) p.2.2).bind λz =>
 if z.1.length<=sizeLine then (zhc z.1 []).bind λkvs=>some (.ref z.2.length,z.2++[.tdct kvs]) else none
theorem tvPut_len (kvs:List (List Key × D)) (k:List Key) (v:D):(zda kvs k v).length<=kvs.length+1:=by
 unfold zda
 split
 ·rw [qlm];omega
 ·simp
inductive CIT (K:QFg) (it:ItM) (g:GM) (t:TM) (ek ev:EM) (S2:Sto) (fin:List (List Key × D)) (ρ1:List Addr) (H1:Hp) (Da:Addr) (i m:Nat) (σ':St) (H':Hp):Prop
 | mk (ρ':List Addr) (l':Lo) (S':Sto) (acc:List (List Key × D)) (vs:List V) (rest:List D) (_:Ext ρ1 H1 ρ' H') (_:Sim K ρ' S' H') (_:RO ρ' H' l' σ') (_:H' Da=some (.dT ((acc.map (·.1)).zip vs))) (_:(∀n:Nat,ρ'[n]?≠some Da)) (_:RDs ρ' H' (acc.map (·.2)) vs) (_:zc2 it g t (zht ek ev) m i l' S' = some (rest,S2)) (_:zhc rest acc=some fin) (_:acc.length+rest.length<=sizeLine)
theorem ya0 {K:QFg}{im:IM}{ixs:List (Option Nat)}{g:GM}{t:TM}{ek ev:EM}(σ:St) (H:Hp) (Q:VK) (q:te K (zjq im ixs g t ek ev) σ H Q):zni K (tiL K im) (zbu ixs) (tg K g) (tt K t) (te K ek) (te K ev) σ H Q:=by
 obtain ⟨ρ,l,S,v,S',sim,ro,hm,p⟩:=q
 obtain ⟨⟨it,k,S1⟩,q1,hm⟩:=bnd hm
 obtain ⟨⟨all,S2⟩,q2,hm⟩:=bnd hm
 obtain ⟨hz,hm⟩:=zz9 hm
 obtain ⟨fin,hf,he⟩:=bnd hm
 cases he
 refine ⟨ρ,l,S,it,k,S1,sim,ro,q1,λρ1 H1 J e1 s1 io D hD hK=>?_⟩
 dsimp only at q2 hz p hf
 refine ⟨λi m σ' H'=>CIT K it g t ek ev S2 fin ρ1 H1 D i m σ' H',⟨k,?_⟩,?_⟩
 ·exact ⟨ρ1,zbu ixs l,S1,[],[],all,zbx hD,s1.laid hD,(zmp ixs (ro.mono e1)).mono (zbx hD),zbw,s1.notin hD hK,.nil,q2,hf,by simpa using hz⟩
 ·rintro i m σ' H' ⟨ρ',l',S',acc,vs,rest,e2,s2,ro2,hD2,hn2,rd2,hc,hfold,hlen⟩
  cases m with
  | zero=>cases hc
  | succ m =>
   unfold zc2 at hc
   obtain ⟨o,ho,hc⟩:=bnd hc
   obtain ⟨iStop,iGo⟩:=io i ρ' S' H' e2 s2
   cases o with
   | none =>
    cases hc
    cases hfold
    refine .inl ⟨iStop ho,p (ρ'++[D]) H' (.ref D) (e1.trans (e2.adopt hD)) (s2.adoptG ⟨vs,hD2,rd2⟩ hn2) (.ref ?_)⟩
    rw [<-s2.len];exact zfw ρ' D
   | some x =>
    obtain ⟨⟨l3,S3⟩,q3,hc⟩:=bnd hc
    obtain ⟨⟨b,S4⟩,q4,hc⟩:=bnd hc
    obtain ⟨hgo,hy⟩:=iGo x ho
    refine .inr ⟨hgo,_,λσ' H' h=>h,λy H'' hyl=>?_⟩
    obtain ⟨ex,sx,ry⟩:=hy y H'' hyl
    refine ⟨ρ',l',S',x,l3,S3,sx,ro2.mono ex,ry,q3,λρ3 H3 σ3 e3' s3 ro3=>⟨ρ3,l3,S3,b,S4,s3,ro3,q4,λρ4 H4 e4 s4=>?_⟩⟩
    have e3:=ex.trans e3'
    obtain ⟨hD3,hn3⟩:=e3.out D _ hD2 hn2
    obtain ⟨hD4,hn4⟩:=e4.out D _ hD3 hn3
    cases b with
    | false=>exact zgg ⟨m,Nat.lt_succ_self m,ρ4,l3,S4,acc,vs,rest,e2.trans (e3.trans e4),s4,ro3.mono e4,hD4,hn4,rd2.mono (e3.trans e4),hc,hfold,hlen⟩
    | true =>
     have hc:((zht ek ev l3 S4).bind λr=>(zc2 it g t (zht ek ev) m (i+1) l3 r.2).bind λz=>some (r.1 :: z.1,z.2))=some (rest,S2):=hc
     obtain ⟨⟨y5,S5⟩,q5,hc⟩:=bnd hc
     obtain ⟨⟨rest',S6⟩,q6,hc⟩:=bnd hc
     cases hc
     obtain ⟨⟨yk,S7⟩,q7,q5⟩:=bnd q5
     obtain ⟨⟨yv,S8⟩,q8,q5⟩:=bnd q5
     cases q5
     obtain ⟨kk,hkk,hfold⟩:=bnd (show (zf2 yk).bind (λkk=>zhc rest' (zda acc kk yv))=some fin from hfold)
     refine zgh ⟨ρ4,l3,S4,yk,S7,s4,ro3.mono e4,q7,λρ5 H5 v5 e5 s5 r5=>⟨ρ5,l3,S7,yv,S8,s5,(ro3.mono e4).mono e5,q8,λρ6 H6 v6 e6 s6 r6=>?_⟩⟩
     obtain ⟨hD5,hn5⟩:=e5.out D _ hD4 hn4
     obtain ⟨hD6,hn6⟩:=e6.out D _ hD5 hn5
     have e26:=e2.trans (e3.trans (e4.trans (e5.trans e6)))
     have rd6:=rd2.mono (e3.trans (e4.trans (e5.trans e6)))
     obtain ⟨kb,ek,hkb⟩:=zik hkk r5
     have hkb6:=e6.tup _ _ hkb
     obtain ⟨ws,hw1,hw2⟩:=znc (k:=kk) r6 rd6
     have hl:acc.length+rest'.length+1<=sizeLine:=by simpa [Nat.add_assoc] using hlen
     have hpl:=tvPut_len acc kk yv
     refine ⟨_,kk,kb,hD6,ek,hkb6,by rw [zqy rd6];omega,m,Nat.lt_succ_self m,ρ6,l3,S8,zda acc kk yv,ws,rest',e26.besideG hD hD6 (zgu _),s6.besideG hD6 (zgu _) hn6,?_,by rw [zbw,hw1],hn6,hw2.mono0 (zdz hD6 (zgu _)),q6,hfold,by omega⟩
     have r0:=((ro3.mono e4).mono e5).mono e6
     exact ⟨r0.len,λi d h=>let ⟨w,h1,h2⟩:=r0.get i d h;⟨w,h1,h2.mono0 (zdz hD6 (zgu _))⟩⟩
theorem ya1 {X:Cx}{tgt iter:Expr}{im:IM}(h:PI3 X tgt iter im):zii X tgt iter im:=PI.imp h λσ H R ⟨ρ,l,S,it,k,S',sim,ro,hm,p⟩=>⟨ρ,l,S,it,k,S',sim,ro,hm,λρ1 H1 J e1 s1 ok=>p ρ1 H1 J e1 s1 λi ρ2 S2 H2 e2 s2=>⟨(ok i ρ2 S2 H2 e2 s2).1,λx hx=>⟨((ok i ρ2 S2 H2 e2 s2).2 x hx).1,λy H3 hy=>by
 obtain ⟨e,r⟩:=((ok i ρ2 S2 H2 e2 s2).2 x hx).2 y H3 hy
 subst e
 exact ⟨Ext.refl ..,s2,r⟩⟩⟩⟩
theorem ya2 (j:Nat) {X:Cx}{rk:Nat}{N':List Str}{elt vx iter tgt:Expr}{ifs:List Expr}{scope:Scope}{pos spos py:Pos}{y:Str}{im:IM}{ixs:List (Option Nat)}{g:GM}{t:TM}{e ev:EM}(hN:X.N.Nodup) (hr:Room rk X.A) (hcalm:X.calm=true) (sc:CompSc X N' scope (zbu ixs))
  (hi:zii X tgt iter im) (hg:∀C s H fp pins,PG3 (cxC X N' scope C s H fp pins) tgt g) (ht:∀C s H fp pins,PTs (cxC X N' scope C s H fp pins) ifs (tt X.K t)) (he:∀C s H fp pins,PE3 (cxC X N' scope C s H fp pins) elt e) (hv:∀C s H fp pins,PE3 (cxC X N' scope C s H fp pins) vx ev)
  (hi':X.N[j]? = some y:=by rfl) (hx:Loc X.env.scope y:=by first|exact Or.inl rfl|exact Or.inr rfl)
  (hsw:swapsWith (.DictComp elt vx [⟨tgt,iter,ifs,0⟩] scope pos) (some (.Name y py)) spos.line X.env=pure true:=by with_unfolding_all rfl) (hf:X.fn y=true\/X.env.scope.names.lookup y=some .local:=by first|exact .inl rfl|exact .inr rfl|assumption)
  (hs:∀x,foldedSetIterable iter X.env x=pure x:=by intro _;rfl):PS3 X (.Assign [.Name y py] (.DictComp elt vx [⟨tgt,iter,ifs,0⟩] scope pos) spos) (zaq (zjq im ixs g t e ev) (zal j)) :=
 PS.imp (yaz (g:=tg X.K g) (tts:=tt X.K t) (t:=te X.K e) (tv:=te X.K ev) hN hi' hx hsw hf hr hcalm sc hi hg ht he hv hs) λE σ H hx1_=>by
  obtain ⟨ρ,l,S,f,l',S',sim,ro,hm,p⟩:=hx1_
  obtain ⟨⟨x,S1⟩,q1,hm⟩:=bnd hm
  cases hm
  exact ya0 σ H _ ⟨ρ,l,S,x,S1,sim,ro,q1,λρ1 H1 x' e1 s1 r1=>p ρ1 H1 _ e1 s1 ((ro.mono e1).set j r1)⟩
end L3
namespace SP
open PySem PySem.W PyProof.Rows PySem.Calls
section
variable {prog:Program}{w:World}{A:Around}{E:Value->Shared->Prop}{s:Shared}
end
end SP
namespace L3
open PySem PySem.Spec PyProof.Rows L2
noncomputable def pD (p:SP.Pr):D:=.tup [.int p.1,.int p.2]
section
variable {X:Cx}
end
section
variable {X:Cx}{a:Expr}{es:List Expr}{mA:AM}{pos p:Pos}
end
end L3
namespace SP
open PySem PySem.W PyProof.Rows PySem.Calls
section
variable {prog:Program}{w:World}{A:Around}{E:Value->Shared->Prop}{s:Shared}{d it:Addr}{es:Array DictEntry}{ep i:Nat}
end
end SP
namespace L3
open PySem PySem.Spec PyProof.Rows L2
section
variable {X:Cx}{tg:Expr}
end
section
variable {X:Cx}{tgt iter:Expr}{m:EM}
end
section
variable {X:Cx}
end
section
variable {X:Cx}{a:Expr}{es:List Expr}{mA:AM}{pos p:Pos}
end
section
variable {X:Cx}{a:Expr}
end
section
variable {prog:Program}{w:World}{A:Around}{E:Value->Shared->Prop}{s:Shared}{c:Addr}{i j:Int}{t u:Tok}
end
section
variable {X:Cx}
end
section
variable {X:Cx}{a:Expr}{es:List Expr}{mA:AM}{pos p:Pos}
end
section
variable {prog:Program}{w:World}{K:Type} [DecidableEq K] {knd:HeapKind prog w K}{A:Around}{E:Value->Shared->Prop}{s:Shared}{d a:Addr}{k:K}{xs:List (K × Addr × Value)}{z:Value}
end
section
variable {X:Cx}{o e f:Expr}{td ty tx:TE}{apos cpos:Pos}
end
section
variable {X:Cx}{o e f:Expr}{mo me mf:EM}{apos cpos:Pos}{k:Nat}
end
section
variable {h:Heap}{p:PyData}
noncomputable def eqR (h:Heap) (p:PyData) (y:Value):Bool:=@decide (∃q as,Reads h y q as/\q.canLay0=true/\q.eqv p=true) (Classical.propDecidable _)
theorem zq1 {y:Value}{q:PyData}{as:List Addr}(r:Reads h y q as) (c:q.canLay0=true):eqR h p y=q.eqv p:=by
 unfold eqR
 cases e:q.eqv p with
 | true=>exact @decide_eq_true _ (Classical.propDecidable _) ⟨q,as,r,c,e⟩
 | false =>
  refine @decide_eq_false _ (Classical.propDecidable _) λ⟨q',as',r',_,e'⟩=>?_
  have:=PySem.SeqAt.Reads.unique q q' y as as' c r r'
  subst this
  rw [e] at e';cases e'
theorem zq2:∀{us:List Value}{qs:List PyData}{as:List Addr},ReadsAll h us qs as->PyData.canLayAll0 qs=true->us.map (eqR h p)=qs.map λq=>q.eqv p
 | _,_,_,.nil,_=>rfl
 | _,_,_,.cons r rs,c=>by
  rw [PyData.canLayAll0,Bool.and_eq_true] at c
  rw [List.map_cons,List.map_cons,zq1 r c.1,zq2 rs c.2]
theorem zq3 {A:Around}{s:Shared}{x:Value}{bs:List Addr}(rx:Reads s.heap x p bs) (cx:p.canLay0=true) (hu:A.units+p.depth<cLine):∀{us:List Value}{qs:List PyData}{as:List Addr},ReadsAll s.heap us qs as->PyData.canLayAll0 qs=true->∀y∈us,SeqAt.EqAt A s y x (eqR s.heap p y)
 | _,_,_,.nil,_=>λy hy=>by cases hy
 | _,_,_,.cons r rs,c=>λy hy=>by
  rw [PyData.canLayAll0,Bool.and_eq_true] at c
  rcases List.mem_cons.mp hy with e|hy
  ·subst e
   rw [zq1 r c.1]
   exact PySem.SeqAt.eqAt_reads _ p A s _ x _ bs r rx c.1 cx (Nat.lt_of_le_of_lt (Nat.add_le_add_left (Nat.min_le_right _ _) _) hu)
  ·exact zq3 rx cx hu rs c.2 y hy
end
section
variable {X:Cx}{k:Nat}
theorem ya3 {us:List Value}{qs:List PyData}{f:Value->Bool}{g:PyData->Bool}(h:us.map f=qs.map g):us.toArray.any f=qs.any g:=by
 have h1:us.any f=(us.map f).any id:=by simp [List.any_map]
 have h2:qs.any g=(qs.map g).any id:=by simp [List.any_map]
 rw [List.any_toArray,h1,h,<-h2]
variable {a b:Expr}{ma mb:EM}{pos:Pos}
end
section
variable {X:Cx}{k:Nat}
variable {o e:Expr}{mo me:EM}{apos cpos:Pos}
end
section
variable {X:Cx}{o:Expr}{mo:EM}{apos cpos:Pos}
end
def ya4 (K:QFg) (tk tv:TE):TE:=λσ H Q=>∀p,H p=none->K.lookup p=none->tk σ (upd H p (.dT [])) λx H1=>tv σ H1 λy H2=>∃k b,H2 p=some (.dT [])/\x=.ref b/\H2 b=some (.tup (k.map kV))/\Q (.ref p) (upd H2 p (.dT (zb1 [] k y)))
section
variable {X:Cx}{pos:Pos}{ke ve:Expr}
theorem ya5 {k:Nat}{tk tv:TE}(hr:Room k X.A) (hk:PE X ke tk) (hv:PE X ve tv):PE X (.Dict [some ke] [ve] pos) (ya4 X.K tk tv):=by
 intro pins s σ H Q I q
 have hn:=I.hok.fresh (qlr s.heap.objs.size)
 have hK:X.K.lookup s.heap.objs.size=none:=by
  cases e:X.K.lookup s.heap.objs.size with
  | none=>rfl
  | some o=>exact absurd (Heap.lt_size (I.kIn _ o e)) (Nat.lt_irrefl _)
 have I1:=I.laid (a:=s.heap.objs.size) (o:=.dT []) (h':=s.heap.push { cls:=.type "dict",data:=.dict #[] }) (t':=s.toks) (λ_ _ q=>qps _ q) (qlr _) (zl9 s.heap I.big)
 refine wpAny_Dict_any rfl rfl (by simp) (by simp) (pairTrees_cons_walk (thn (hk pins _ σ _ _ I1 (q _ hn hK)) λu s1 ⟨x,H1,I2,rx,q1⟩=>thn (hv pins s1 σ H1 _ I2 q1) λw2 s2 ⟨y,H2,I3,ry,kk,b,hp,ex,hb,q2⟩=>pairTrees_nil_walk ?_))
 subst ex
 cases (show u=Value.ref b from rx)
 unfold storeAll
 rw [List.forIn_cons]
 obtain ⟨zz,hd,xs,rel,dd⟩:=zke I3.hok hp
 have hz:xs.length<=sizeLine:=by rw [<-Paired.length rel];exact zz
 refine qwb (qwb (wpAny_dictSet_heap (hsz:=hz) (Nat.lt_of_succ_lt (zk3 hr)) (zh3 I3.hok hb) dd λh' dd' hs=>qwp ?_))
 show wpAny _ _ (forIn ([]:List (Value × Value)) PUnit.unit _) _ _ _
 rw [List.forIn_nil]
 refine qwp ?_
 obtain ⟨g,es,ep,hg,h2,h3,h4,_,h5⟩:=dd'
 refine ⟨.ref s.heap.objs.size,_,zi7 (ob:=.dT (zb1 [] kk y)) (t':=s2.toks+_) I3 (by rw [hp];exact True.intro) hs ⟨g,hg⟩ ⟨by show (zb1 [] kk y).length<=_;exact Nat.le_trans (zi6 [] kk y) (by decide),hd,_,(rel.put kk hb ry).keeps λc ys ec=>?_,g,es,ep,hg,h2,h3,h4,h5⟩,rfl,q2⟩
 rw [zar (zdl ec hp (λz=>nomatch z))]
 exact ec
end
noncomputable def zgv (mk mv:EM):EM:=λl S=>(mk l S).bind λp=>(mv l p.2).bind λq=>(zf2 p.1).bind λk=>some (.ref q.2.length,q.2++[.tdct [(k,q.1)]])
section
variable {X:Cx}{pos:Pos}{ke ve:Expr}{mk mv:EM}{k:Nat}
theorem zq4 (hr:Room k X.A) (hk:PE3 X ke mk) (hv:PE3 X ve mv):PE3 X (.Dict [some ke] [ve] pos) (zgv mk mv):=PE.imp (ya5 hr hk hv) λσ H Q hx1_=>by
 obtain ⟨ρ,l,S,v,S',sim,ro,hm,p⟩:=hx1_
 obtain ⟨⟨x,S1⟩,q1,hm⟩:=bnd hm
 obtain ⟨⟨y,S2⟩,q2,hm⟩:=bnd hm
 obtain ⟨kk,hk,hm⟩:=bnd hm
 cases hm
 intro D hD hK
 have hn0:=sim.notin hD hK
 refine ⟨ρ,l,S,x,S1,sim.laid hD,ro.mono (zbx hD),q1,λρ1 H1 x' e1 s1 r1=>⟨ρ1,l,S1,y,_,s1,(ro.mono (zbx hD)).mono e1,q2,λρ2 H2 y' e2 s2 r2=>?_⟩⟩
 obtain ⟨hD1,hn1⟩:=e1.out D _ zbw hn0
 obtain ⟨hD2,hn2⟩:=e2.out D _ hD1 hn1
 obtain ⟨b,rfl,hb⟩:=zik hk (r1.mono e2)
 have e12:=(zbx hD).trans (e1.trans e2)
 refine ⟨kk,b,hD2,rfl,hb,p (ρ2++[D]) _ (.ref D) ((e12.besideG hD hD2 (zgu _)).adopt hD) ((s2.besideG hD2 (zgu _) hn2).adoptG ⟨[y'],by rw [zbw];rfl,.cons (r2.mono0 (zdz hD2 (zgu _))) .nil⟩ hn2) (.ref ?_)⟩
 rw [<-s2.len];exact zfw ρ2 D
end
section
variable {X:Cx}
end
section
variable {X:Cx}{a:Expr}{es:List Expr}{mA:AM}{pos p:Pos}
end
section
variable {elt t1 i1 t2 i2:Expr}{ifs1 ifs2:List Expr}{scope:Scope}{pos:Pos}{it acc:Value}{env:Env}
noncomputable abbrev two (elt t1 i1 t2 i2:Expr) (ifs1 ifs2:List Expr) (scope:Scope) (pos:Pos):Expr:=.ListComp elt [⟨t1,i1,ifs1,0⟩,⟨t2,i2,ifs2,0⟩] scope pos
variable {prog:Program}{w:World}{A:Around}{R:Result->Shared->Prop}{s:Shared}
end
abbrev RM:=Lo->Sto->Option ((Int × Nat) × Sto)
inductive tr (K:QFg) (r:RM) (σ:St) (H:Hp) (R:It->Hp->Prop):Prop
 | mk (ρ:_) (l:_) (S:_) (lo:_) (n:_) (S':_) (_:Sim K ρ S H) (_:RO ρ H l σ) (_:r l S=some ((lo,n),S')) (_:∀ρ' H',Ext ρ H ρ' H'->Sim K ρ' S' H'->R (Itr lo n) H')
section
variable {X:Cx}{tgt:Expr}{mA:AM}{p0 pos':Pos}{a a2:Expr}
end
theorem Inv.turnedL {X:Cx}{pins:List (Addr × Obj)}{σ:L2.St}{H:Hp}{s:Shared}{h':Heap}{t':Nat}{ch:List Addr}(I:Inv X pins σ H s) (hf:∀b∈ch,zcz X pins H b) (k:∀b o,b ∉ ch->s.heap.get? b=some o->h'.get? b=some o):Inv X pins σ H { s with heap:=h',toks:=t' }:=by
 have nf:∀b u,H b=some u->b ∉ ch:=λb u e z=>by rw [(hf b z).1] at e;cases e
 refine I.step (g':=s.gens) (d':=s.drawn) (ch:=ch) (λb hb=>?_) (λb o _ _ hc e _=>k b o hc e) (λb o _ _ hc e _=>⟨o.slots,k b o hc e⟩) (λ_ _ _ _ n=>n) (λb o hc e=>⟨o,k b o hc e⟩) (λ_ _ e=>e) (λ_ _ _ e=>e) (λb ps e=>⟨#[],by rw [e];simp⟩) (λm hm=>?_) (λb u e=>?_) I.bare
 ·obtain ⟨_,q1,_,q3,q4,q5⟩:=hf b hb
  exact ⟨q3,q1,q4,q5⟩
 ·obtain ⟨o,es,ep,ho,q⟩:=hm
  exact ⟨o,es,ep,k _ o (λz=>(hf _ z).2.1 rfl) ho,q⟩
 ·refine (I.hok b u e).stay (λc v hc q=>k c v ?_ q) (λ_ q=>q) λ_ _ q=>q
  rcases hc with z|z
  ·rw [z];exact nf b u e
  ·exact nf c _ z
section
variable {prog:Program}{w:World}{A:Around}{E:Value->Shared->Prop}{s:Shared}
variable {z TI TO i1 i2 c1 c2:Addr}{n1 n2 k:Nat}{P1 P2:Nat->Value->Prop}{T1 T2:Nat->Heap->Prop}{a b:Value}
theorem fr1 {h h':Heap}(D1:Draws prog w A i1 [i1,c1] n1 P1 T1) (st:T1 k h) {x:Addr}(sb:Heap.ExtBut x h h') (n1':i1≠x) (n2':c1≠x):T1 k h':=D1.frame k h h' st λb hb o e=>by
 have hb:b=i1\/b=c1:=by simpa using hb
 rcases hb with rfl|rfl
 ·exact sb _ _ n1' e
 ·exact sb _ _ n2' e
theorem ya6 {Q:Value->Shared->Prop}(D1:Draws prog w A i1 [i1,c1] n1 P1 T1) (D2:Draws prog w A i2 [i2,c2] n2 P2 T2) (G:ZipApart z TI TO i1 i2 c1 c2) (hz:IsZip s.heap z TI TO .none) (hI:IsPair s.heap TI (.ref i1) (.ref i2)) (hO:IsPair s.heap TO a b)
  (h1:T1 k s.heap) (h2:T2 k s.heap) (k1:k<n1) (k2:k<n2)
  (hQ:∀x y h' tk,P1 k x->P2 k y->IsZip h' z TI TO (rawInt s.heap.objs.size)->IsPair h' TO x y->T1 (k+1) h'->T2 (k+1) h'->IsPair h' s.heap.objs.size x y ->
   (∀c o,c≠z->c≠TO->c≠i1->c≠i2->s.heap.get? c=some o->h'.get? c=some o)->Q (.ref s.heap.objs.size) { s with heap:=h',toks:=tk }) :
  wpAny (model prog w) A (Builtin.«zip.__next__» ⟨[.ref z],[]⟩) (λfin s'=>∃v,fin=.done (.ret v)/\Q v s') E s:=by
 show wpAny _ _ (field (.ref z) 2 >>= _) _ _ _
 refine qwb (wpAny_field hz rfl (x:=.bool false) rfl ?_)
 show wpAny _ _ (field (.ref z) 3 >>= _) _ _ _
 refine qwb (wpAny_field hz rfl (x:=.ref TI) rfl (qwb (wpAny_seqItems hI rfl ?_)))
 show wpAny _ _ (Builtin.SmallTypes.ownedTupleIsFree (.ref z) >>= _) _ _ _
 refine qwb ?_
 unfold Builtin.SmallTypes.ownedTupleIsFree
 refine qwb (wpAny_field hz rfl (x:=.none) rfl (qwp ?_))
 simp only [if_true]
 refine qwb (wpAny_rule (qwb (wpAny_field hz rfl (x:=.ref TO) rfl (qwb (wpAny_setField_rec hz (by simp) λg1 z1 s1=>?_)))))
 replace z1:IsZip g1 z TI TO .ellipsis:=z1
 refine qwb ?_
 simp only [List.zipIdx_cons,List.zipIdx_nil,List.forIn_cons,List.forIn_nil]
 refine qwb (qwb (wpAny_onRaise ?_))
 show wpAny _ _ (Builtin.SmallTypes.nextOf (.ref i1) >>= _) _ _ _
 refine qwb (D1.item k _ _ _ k1 (fr1 D1 h1 s1.extBut G.i1z G.l1z) λx g2 tk2 px t1 s2=>qwp ?_)
 have o2:IsPair g2 TO a b:=s2.extBut _ _ G.TOi1 (s1.extBut _ _ G.TOz hO)
 refine qwb (wpAny_seqItems o2 rfl (qwb (wpAny_updateSeq_pair o2 λg3 o3 s3=>?_)))
 replace o3:IsPair g3 TO x b:=o3
 refine qwb (wpAny_letGo (qwp (qwb (qwb (wpAny_onRaise ?_)))))
 show wpAny _ _ (Builtin.SmallTypes.nextOf (.ref i2) >>= _) _ _ _
 have t2:T2 k g3:=fr1 D2 (fr1 D2 (fr1 D2 h2 s1.extBut G.i2z G.l2z) s2.extBut G.i12.symm G.l2i1) s3.extBut G.TOi2.symm G.l2TO
 refine qwb (D2.item k _ _ _ k2 t2 λy g4 tk4 py u2 s4=>qwp ?_)
 have o4:IsPair g4 TO x b:=s4.extBut _ _ G.TOi2 o3
 refine qwb (wpAny_seqItems o4 rfl (qwb (wpAny_updateSeq_pair o4 λg5 o5 s5=>?_)))
 replace o5:IsPair g5 TO x y:=o5
 refine qwb (wpAny_letGo (qwp (qwp (qwb (wpAny_seqItems o5 rfl (qwb (wpAny_newTuple ?_)))))))
 have sz:g5.objs.size=s.heap.objs.size:=by rw [s5.1,s4.1,s3.1,s2.1,s1.1]
 have z5:IsZip g5 z TI TO .ellipsis:=s5.extBut _ _ G.TOz.symm (s4.extBut _ _ G.i2z.symm (s3.extBut _ _ G.TOz.symm (s2.extBut _ _ G.i1z.symm z1)))
 have old5:∀c o,c≠z->c≠TO->c≠i1->c≠i2->s.heap.get? c=some o->g5.get? c=some o:=λc o q1 q2 q3 q4 e=>s5.extBut _ _ q2 (s4.extBut _ _ q4 (s3.extBut _ _ q2 (s2.extBut _ _ q3 (s1.extBut _ _ q1 e))))
 have v1:T1 (k+1) g5:=fr1 D1 (fr1 D1 (fr1 D1 t1 s3.extBut G.TOi1.symm G.l1TO) s4.extBut G.i12 G.l1i2) s5.extBut G.TOi1.symm G.l1TO
 have v2:T2 (k+1) g5:=fr1 D2 u2 s5.extBut G.TOi2.symm G.l2TO
 have zl:z<g5.objs.size:=Heap.lt_size z5
 show wpAny _ _ (Builtin.SmallTypes.ownedTupleHandOut (.ref z) (.ref g5.objs.size) >>= _) _ _ _
 refine qwb ?_
 unfold Builtin.SmallTypes.ownedTupleHandOut
 have z6:IsZip (g5.push { cls:=.type "tuple",data:=.seq #[x,y] }) z TI TO .ellipsis:=qps _ z5
 refine qwb (wpAny_setField_rec z6 (by simp) λg7 z7 s7=>?_)
 replace z7:IsZip g7 z TI TO (rawInt g5.objs.size):=z7
 refine wpAny_setField_rec z7 (by simp) λg8 z8 s8=>?_
 replace z8:IsZip g8 z TI TO (rawInt g5.objs.size):=z8
 have rise:∀c o,c≠z->g5.get? c=some o->g8.get? c=some o:=λc o q e=>s8.extBut _ _ q (s7.extBut _ _ q (qps _ e))
 have pr8:IsPair g8 g5.objs.size x y:=s8.extBut _ _ (Nat.ne_of_gt zl) (s7.extBut _ _ (Nat.ne_of_gt zl) (Heap.get?_push_size _ rfl))
 rw [sz] at z8 pr8
 refine qwp ⟨_,rfl,?_⟩
 show Q (.ref g5.objs.size) _
 rw [sz]
 exact hQ x y g8 _ px py z8 (rise _ _ G.TOz o5) (fr1 D1 v1 (x:=z) (λc o q e=>rise c o q e) G.i1z G.l1z) (fr1 D2 v2 (x:=z) (λc o q e=>rise c o q e) G.i2z G.l2z) pr8 λc o q1 q2 q3 q4 e=>rise c o q1 (old5 c o q1 q2 q3 q4 e)
theorem ya7 {Q:Fin->Shared->Prop}(D1:Draws prog w A i1 [i1,c1] n1 P1 T1) (G:ZipApart z TI TO i1 i2 c1 c2) (hz:IsZip s.heap z TI TO .none) (hI:IsPair s.heap TI (.ref i1) (.ref i2)) (hO:IsPair s.heap TO a b)
  (h1:T1 k s.heap) (hend:k=n1\/k<n1/\∃P2 T2,Draws prog w A i2 [i2,c2] k P2 T2/\T2 k s.heap)
  (hE:∀h' e tk,(∀c o,c≠z->c≠TO->c≠i1->c≠i2->s.heap.get? c=some o->h'.get? c=some o)->(∃o,h'.get? e=some o/\o.cls=.type "StopIteration")->E (.ref e) { s with heap:=h',toks:=tk }) :
  wpAny (model prog w) A (Builtin.«zip.__next__» ⟨[.ref z],[]⟩) Q E s:=by
 show wpAny _ _ (field (.ref z) 2 >>= _) _ _ _
 refine qwb (wpAny_field hz rfl (x:=.bool false) rfl ?_)
 show wpAny _ _ (field (.ref z) 3 >>= _) _ _ _
 refine qwb (wpAny_field hz rfl (x:=.ref TI) rfl (qwb (wpAny_seqItems hI rfl ?_)))
 show wpAny _ _ (Builtin.SmallTypes.ownedTupleIsFree (.ref z) >>= _) _ _ _
 refine qwb ?_
 unfold Builtin.SmallTypes.ownedTupleIsFree
 refine qwb (wpAny_field hz rfl (x:=.none) rfl (qwp ?_))
 simp only [if_true]
 refine qwb (wpAny_rule (qwb (wpAny_field hz rfl (x:=.ref TO) rfl (qwb (wpAny_setField_rec hz (by simp) λg1 z1 s1=>?_)))))
 replace z1:IsZip g1 z TI TO .ellipsis:=z1
 refine qwb ?_
 simp only [List.zipIdx_cons,List.zipIdx_nil,List.forIn_cons,List.forIn_nil]
 refine qwb (qwb (wpAny_onRaise ?_))
 show wpAny _ _ (Builtin.SmallTypes.nextOf (.ref i1) >>= _) _ _ _
 have q1:=fr1 D1 h1 s1.extBut G.i1z G.l1z
 rcases hend with rfl|⟨k1,P2,T2,D2,h2⟩
 ·refine qwb (D1.done _ _ _ q1 λg2 e s2 he=>?_)
  obtain ⟨oe,hoe,hce⟩:=he
  have z2:IsZip g2 z TI TO .ellipsis:=s2 _ _ G.i1z.symm z1
  have ez:e≠z:=λx=>by subst x;rw [z2] at hoe;cases hoe;simp at hce
  refine wpAny_setField_rec z2 (by simp) λg3 _ s3=>hE g3 e _ (λc o c1 _ c3 _ x=>s3.extBut _ _ c1 (s2 _ _ c3 (s1.extBut _ _ c1 x))) ⟨oe,s3.extBut _ _ ez hoe,hce⟩
 ·refine qwb (D1.item k _ _ _ k1 q1 λx g2 tk2 px t1 s2=>qwp ?_)
  have o2:IsPair g2 TO a b:=s2.extBut _ _ G.TOi1 (s1.extBut _ _ G.TOz hO)
  refine qwb (wpAny_seqItems o2 rfl (qwb (wpAny_updateSeq_pair o2 λg3 o3 s3=>?_)))
  refine qwb (wpAny_letGo (qwp (qwb (qwb (wpAny_onRaise ?_)))))
  show wpAny _ _ (Builtin.SmallTypes.nextOf (.ref i2) >>= _) _ _ _
  have t2:T2 k g3:=fr1 D2 (fr1 D2 (fr1 D2 h2 s1.extBut G.i2z G.l2z) s2.extBut G.i12.symm G.l2i1) s3.extBut G.TOi2.symm G.l2TO
  refine qwb (D2.done _ _ _ t2 λg4 e s4 he=>?_)
  obtain ⟨oe,hoe,hce⟩:=he
  have z4:IsZip g4 z TI TO .ellipsis:=s4 _ _ G.i2z.symm (s3.extBut _ _ G.TOz.symm (s2.extBut _ _ G.i1z.symm z1))
  have ez:e≠z:=λx=>by subst x;rw [z4] at hoe;cases hoe;simp at hce
  refine wpAny_setField_rec z4 (by simp) λg5 _ s5=>hE g5 e _ (λc o q1 q2 q3 q4 x=>s5.extBut _ _ q1 (s4 _ _ q4 (s3.extBut _ _ q2 (s2.extBut _ _ q3 (s1.extBut _ _ q1 x))))) ⟨oe,s5.extBut _ _ ez hoe,hce⟩
end
section
variable {prog:Program}{w:World}{A:Around}{E:Value->Shared->Prop}{s:Shared}
variable {z TI TO i1 i2 c1 c2:Addr}{n1 n2 k:Nat}{P1 P2:Nat->Value->Prop}{T1 T2:Nat->Heap->Prop}{a b:Value}
theorem ya8 {Q:Option Value->Shared->Prop}(D1:Draws prog w A.in1 i1 [i1,c1] n1 P1 T1) (D2:Draws prog w A.in1 i2 [i2,c2] n2 P2 T2) (G:ZipApart z TI TO i1 i2 c1 c2) (hz:IsZip s.heap z TI TO .none) (hI:IsPair s.heap TI (.ref i1) (.ref i2)) (hO:IsPair s.heap TO a b)
  (h1:T1 k s.heap) (h2:T2 k s.heap) (k1:k<n1) (k2:k<n2)
  (hQ:∀x y h' tk,P1 k x->P2 k y->IsZip h' z TI TO (rawInt s.heap.objs.size)->IsPair h' TO x y->T1 (k+1) h'->T2 (k+1) h'->IsPair h' s.heap.objs.size x y ->
   (∀c o,c≠z->c≠TO->c≠i1->c≠i2->s.heap.get? c=some o->h'.get? c=some o)->Q (some (.ref s.heap.objs.size)) { s with heap:=h',toks:=tk }) :
  wpAny (model prog w) A (pyNext (.ref z)) Q E s:=by
 have hT:s.TypeIs (.ref z) "zip":=⟨_,hz,rfl⟩
 unfold pyNext
 exact qwb (wpAny_attempt (wpAny_callSpecial?_slot (name:=Str.ofString "__next__") hT F.slot_zip_next (wpAny_call_entry F.slot_zip_next hT F.entry_zip_next (ya6 D1 D2 G hz hI hO h1 h2 k1 k2 λx y h' tk p1 p2 p3 p4 p5 p6 p7 p8=>qwp (hQ x y h' tk p1 p2 p3 p4 p5 p6 p7 p8)) (F.args_zip_next_1 _))))
theorem zq5 {Q:Option Value->Shared->Prop}(D1:Draws prog w A.in1 i1 [i1,c1] n1 P1 T1) (G:ZipApart z TI TO i1 i2 c1 c2) (hz:IsZip s.heap z TI TO .none) (hI:IsPair s.heap TI (.ref i1) (.ref i2)) (hO:IsPair s.heap TO a b)
  (h1:T1 k s.heap) (hend:k=n1\/k<n1/\∃P2 T2,Draws prog w A.in1 i2 [i2,c2] k P2 T2/\T2 k s.heap)
  (hQ:∀h' tk,(∀c o,c≠z->c≠TO->c≠i1->c≠i2->s.heap.get? c=some o->h'.get? c=some o)->Q none { s with heap:=h',toks:=tk }):wpAny (model prog w) A (pyNext (.ref z)) Q E s:=by
 have hT:s.TypeIs (.ref z) "zip":=⟨_,hz,rfl⟩
 unfold pyNext
 refine qwb (wpAny_attempt (wpAny_callSpecial?_slot (name:=Str.ofString "__next__") hT F.slot_zip_next (wpAny_call_entry F.slot_zip_next hT F.entry_zip_next (ya7 D1 G hz hI hO h1 hend λh' e tk hk he=>?_) (F.args_zip_next_1 _))))
 obtain ⟨o,ho,hc⟩:=he
 exact qwb (wpAny_isInstance (T:="StopIteration") (b:=true) ⟨o,ho,hc⟩ isSubtype_stop (qwp (hQ _ _ hk)))
end
structure Zs (P:Program) (w:World) (K:QFg) (J:It) (b a:Addr) (tn:Nat->Heap->Prop):Prop where
 obj:∀i h,tn i h->∃o,h.get? b=some o/\∀v,o.data≠.cell v
 keep:∀i h h',tn i h->(∀o,h.get? b=some o->h'.get? b=some o)->tn i h'
 go:∀(X:Cx),X.prog=P->X.w=w->X.K=K->X.calm=true->∀(i:Nat) (pins:List (Addr × Obj)) (s:Shared) (σ:L2.St) (H:Hp),Inv X pins σ H s->tn i s.heap->J.go i H ->
  ∃n Pv St,Draws P w X.A.in1 b [b,a] n Pv St/\St i s.heap/\i<n/\(∀h',St (i+1) h'->tn (i+1) h')/\∀u,Pv i u->∃x,RelV x u/\J.yld i H x H
 stop:∀(X:Cx),X.prog=P->X.w=w->X.K=K->X.calm=true->∀(i:Nat) (pins:List (Addr × Obj)) (s:Shared) (σ:L2.St) (H:Hp),Inv X pins σ H s->tn i s.heap->J.stop i H ->
  ∃Pv St,Draws P w X.A.in1 b [b,a] i Pv St/\St i s.heap
theorem ya9 {P:Program}{w:World}{K:QFg}(b a:Addr) (nab:a≠b):Zs P w K (Itl K a) b a (λi h=>h.IsListIter b a i) where
 obj:=λi h st=>by
  obtain ⟨o,q,c,d⟩:=st
  exact ⟨o,q,λv z=>by rw [d] at z;cases z⟩
 keep:=λi h h1 st k=>st.at λo q=>k o q
 go:=by
  intro X hP hw hK hc i pins s σ H I st hg
  subst hP hw hK
  obtain ⟨xs,x,hq,hx⟩:=hg
  obtain ⟨its,rv,p,hz⟩:=I.list hq
  obtain ⟨u,hu,ru⟩:=rv.get hx
  have hlt:i<its.toArray.size:=by simpa using (qme hu).1
  refine ⟨_,_,_,Draws.list (A:=X.A.in1) (I.ok.hd hc) b a nab its.toArray,⟨st,p.isList⟩,hlt,λh' q=>q.1,λv hv=>⟨x,?_,rfl,λys hy=>by rw [I.list_inj hy hq];exact hx⟩⟩
  have:its.toArray[i]? = some u:=by simpa using hu
  rw [this] at hv
  exact (qoi hv) ▸ ru
 stop:=by
  intro X hP hw hK hc i pins s σ H I st hg
  subst hP hw hK
  obtain ⟨xs,hq,hx⟩:=hg
  obtain ⟨its,rv,p,hz⟩:=I.list hq
  have hl:=rv.length
  refine ⟨λ_ _=>False,λj h=>j=i/\h.IsListIter b a i/\h.IsList a its.toArray,?_,rfl,st,p.isList⟩
  refine ⟨λj h q=>?_,λj h h' q k=>⟨q.1,q.2.1.at λo e=>k b (by simp) o e,q.2.2.at λo e=>k a (by simp) o e⟩,λj s' Q E hj q=>absurd hj (by rw [q.1];exact Nat.lt_irrefl _),λs' Q E q hE=>?_⟩
  ·obtain ⟨_,⟨o,e,_⟩,_⟩:=q
   exact ⟨o,e⟩
  ·exact wpAny_nextOf_list_end (I.ok.hd hc) q.2.1 q.2.2 (by simp;omega) hE
theorem yba {P:Program}{w:World}{K:QFg}(b a:Addr) (nab:a≠b):Zs P w K (Itt K a) b a (λi h=>h.IsTupleIter b a i) where
 obj:=λi h st=>by
  obtain ⟨o,q,c,d⟩:=st
  exact ⟨o,q,λv z=>by rw [d] at z;cases z⟩
 keep:=λi h h1 st k=>by
  obtain ⟨o,q,r⟩:=st
  exact ⟨o,k o q,r⟩
 go:=by
  intro X hP hw hK hc i pins s σ H I st hg
  subst hP hw hK
  obtain ⟨xs,x,hq,hx⟩:=hg
  obtain ⟨its,rv,p,hz⟩:=I.tuple hq
  obtain ⟨u,hu,ru⟩:=rv.get hx
  have p:s.heap.IsTuple a its.toArray:=p
  have hlt:i<its.toArray.size:=by simpa using (qme hu).1
  refine ⟨_,_,_,zqo (A:=X.A.in1) (I.ok.hd hc) b a nab its.toArray,⟨st,p⟩,hlt,λh' q=>q.1,λv hv=>⟨x,?_,rfl,λys hy=>by rw [I.tuple_inj hy hq];exact hx⟩⟩
  have:its.toArray[i]? = some u:=by simpa using hu
  rw [this] at hv
  exact (qoi hv) ▸ ru
 stop:=by
  intro X hP hw hK hc i pins s σ H I st hg
  subst hP hw hK
  obtain ⟨xs,hq,hx⟩:=hg
  obtain ⟨its,rv,p,hz⟩:=I.tuple hq
  have p:s.heap.IsTuple a its.toArray:=p
  have hl:=rv.length
  refine ⟨λ_ _=>False,λj h=>j=i/\h.IsTupleIter b a i/\h.IsTuple a its.toArray,?_,rfl,st,p⟩
  refine ⟨λj h q=>?_,λj h h' q k=>⟨q.1,?_,?_⟩,λj s' Q E hj q=>absurd hj (by rw [q.1];exact Nat.lt_irrefl _),λs' Q E q hE=>?_⟩
  ·obtain ⟨_,⟨o,e,_⟩,_⟩:=q
   exact ⟨o,e⟩
  ·obtain ⟨o,e,r⟩:=q.2.1
   exact ⟨o,k b (by simp) o e,r⟩
  ·obtain ⟨o,e,r⟩:=q.2.2
   exact ⟨o,k a (by simp) o e,r⟩
  ·exact zm2 (I.ok.hd hc) q.2.1 q.2.2 (by simp;omega) hE
noncomputable def Itz (J1 J2:It):It:=⟨λi H=>J1.go i H/\J2.go i H,λi H x H1=>∃y1 y2 p,J1.yld i H y1 H/\J2.yld i H y2 H/\H p=none/\x=.ref p/\H1=upd H p (.tup [y1,y2]),λi H=>J1.stop i H\/(J1.go i H/\J2.stop i H)⟩
theorem ybb {P:Program}{w:World}{K:QFg}{elts:List Expr}{x0:Nat}{tp:Pos}{J1 J2:It}{z TI TO i1 i2 c1 c2:Addr}{t1 t2:Nat->Heap->Prop}(Z1:Zs P w K J1 i1 c1 t1) (Z2:Zs P w K J2 i2 c2 t2) (G:ZipApart z TI TO i1 i2 c1 c2) :
  Turn P w K (.Tuple elts x0 tp) (Itz J1 J2) [z,TI,TO,i1,i2] z (λi h=>IsZip h z TI TO .none/\IsPair h TI (.ref i1) (.ref i2)/\(∃a b,IsPair h TO a b)/\t1 i h/\t2 i h) where
 mem:=by simp
 obj:=by
  rintro i h ⟨hz,hI,⟨a,b,hO⟩,q1,q2⟩ c hc
  simp only [List.mem_cons,List.not_mem_nil,or_false] at hc
  rcases hc with rfl|rfl|rfl|rfl|rfl
  ·exact ⟨_,hz,λv e=>by have e:Data.fields _=Data.cell v:=e
                        cases e⟩
  ·exact ⟨_,hI,λv e=>by have e:Data.seq _ _=Data.cell v:=e
                        cases e⟩
  ·exact ⟨_,hO,λv e=>by have e:Data.seq _ _=Data.cell v:=e
                        cases e⟩
  ·exact Z1.obj i h q1
  ·exact Z2.obj i h q2
 keep:=by
  rintro i h h' ⟨hz,hI,⟨a,b,hO⟩,q1,q2⟩ k
  exact ⟨k z (by simp) _ hz,k TI (by simp) _ hI,⟨a,b,k TO (by simp) _ hO⟩,Z1.keep i h h' q1 (k i1 (by simp)),Z2.keep i h h' q2 (k i2 (by simp))⟩
 item:=by
  intro X hP hw hK hc i pins s σ H E I hf st hg
  obtain ⟨hz,hI,⟨a,b,hO⟩,q1,q2⟩:=st
  obtain ⟨n1,P1,T1,D1,u1,k1,v1,r1⟩:=Z1.go X hP hw hK hc i pins s σ H I q1 hg.1
  obtain ⟨n2,P2,T2,D2,u2,k2,v2,r2⟩:=Z2.go X hP hw hK hc i pins s σ H I q2 hg.2
  subst hP hw hK
  have hn:H s.heap.objs.size=none:=I.hok.fresh (qlr _)
  have lt:∀{c:Addr} {o:Obj},s.heap.get? c=some o->c≠s.heap.objs.size:=λe=>Nat.ne_of_lt (Heap.lt_size e)
  have li1:i1≠s.heap.objs.size:=by
   obtain ⟨o,e,_⟩:=Z1.obj i _ q1
   exact lt e
  have li2:i2≠s.heap.objs.size:=by
   obtain ⟨o,e,_⟩:=Z2.obj i _ q2
   exact lt e
  refine ya8 D1 D2 G hz hI hO u1 u2 k1 k2 λx y h1 tk p1 p2 p3 p4 p5 p6 p7 p8=>⟨_,rfl,wpAny_letOwnedTupleGo_zip p3 λh2 z2 s2=>?_⟩
  replace s2:Heap.SameBut z h1 h2:=s2
  obtain ⟨dx,rx,yx⟩:=r1 x p1
  obtain ⟨dy,ry,yy⟩:=r2 y p2
  refine ⟨.ref s.heap.objs.size,upd H s.heap.objs.size (.tup [dx,dy]),?_,rfl,⟨dx,dy,s.heap.objs.size,yx,yy,hn,rfl,rfl⟩,⟨z2,s2.extBut _ _ G.TIz (p8 _ _ G.TIz G.TITO G.TIi1 G.TIi2 hI),⟨_,_,s2.extBut _ _ G.TOz p4⟩,Z1.keep _ _ _ (v1 _ p5) (λo e=>s2.extBut _ _ G.i1z e),Z2.keep _ _ _ (v2 _ p6) (λo e=>s2.extBut _ _ G.i2z e)⟩,λc hc=>?_⟩
  ·refine Inv.dealt (t1:=tk) (us:=[x,y]) (ch:=[z,TI,TO,i1,i2]) I hf (λc o hc q=>?_) ⟨_,s2.extBut _ _ (lt hz).symm p7,rfl,_,rfl,rfl⟩ (.cons rx (.cons ry .nil)) (by show 2<=sizeLine;decide)
   simp only [List.mem_cons,List.not_mem_nil,or_false,not_or] at hc
   exact s2.extBut _ _ hc.1 (p8 c o hc.1 hc.2.2.1 hc.2.2.2.1 hc.2.2.2.2 q)
  ·have hne:c≠s.heap.objs.size:=by
    simp only [List.mem_cons,List.not_mem_nil,or_false] at hc
    rcases hc with rfl|rfl|rfl|rfl|rfl
    ·exact lt hz
    ·exact lt hI
    ·exact lt hO
    ·exact li1
    ·exact li2
   rw [zar hne];exact (hf c hc).1
 done:=by
  intro X hP hw hK hc i pins s σ H E I hf st hg
  obtain ⟨hz,hI,⟨a,b,hO⟩,q1,q2⟩:=st
  have fin:∀(h1:Heap) (tk:Nat),(∀c o,c≠z->c≠TO->c≠i1->c≠i2->s.heap.get? c=some o->h1.get? c=some o)->Inv X pins σ H { s with heap:=h1,toks:=tk }:=λh1 tk k =>
   Inv.turnedL (ch:=[z,TI,TO,i1,i2]) I hf λc o hc q=>by
    simp only [List.mem_cons,List.not_mem_nil,or_false,not_or] at hc
    exact k c o hc.1 hc.2.2.1 hc.2.2.2.1 hc.2.2.2.2 q
  rcases hg with g1|⟨g1,g2⟩
  ·obtain ⟨P1,T1,D1,u1⟩:=Z1.stop X hP hw hK hc i pins s σ H I q1 g1
   subst hP hw hK
   exact zq5 D1 G hz hI hO u1 (.inl rfl) λh1 tk k=>⟨rfl,fin h1 tk k⟩
  ·obtain ⟨n1,P1,T1,D1,u1,k1,_⟩:=Z1.go X hP hw hK hc i pins s σ H I q1 g1
   obtain ⟨P2,T2,D2,u2⟩:=Z2.stop X hP hw hK hc i pins s σ H I q2 g2
   subst hP hw hK
   exact zq5 D1 G hz hI hO u1 (.inr ⟨k1,P2,T2,D2,u2⟩) λh1 tk k=>⟨rfl,fin h1 tk k⟩
 self:=λA i s Q E st h=>wpAny_pyIter_zip st.1 h
noncomputable abbrev itO (t:Bool) (a:Addr):Obj:={ cls:=.type (if t then "tuple_iterator" else "list_iterator"),data:=.fields #[.ref a,.int 0 0] }
def SqB (t:Bool) (h:Heap) (a:Addr) (vs:Array Value):Prop:=if t then h.IsTuple a vs else h.IsList a vs
theorem SqB.push {t:Bool}{h:Heap}{a:Addr}{vs:Array Value}(q:SqB t h a vs) (o:Obj):SqB t (h.push o) a vs:=by
 cases t with
 | true =>
  obtain ⟨x,e,r⟩:=(q:h.IsTuple a vs)
  exact (⟨x,qps _ e,r⟩:(h.push o).IsTuple a vs)
 | false=>exact Heap.IsList.push (q:h.IsList a vs) o
theorem zq6 {prog:Program}{w:World}{A:Around}{E:Value->Shared->Prop}{s:Shared}{t:Bool}{a:Addr}{vs:Array Value}{Q:Value->Shared->Prop}(q:SqB t s.heap a vs) (h:Q (.ref s.heap.objs.size) { s with heap:=s.heap.push (itO t a) }):wpAny (model prog w) A (pyIter (.ref a)) Q E s:=by
 cases t with
 | true=>exact wpAny_pyIter_tuple (q:s.heap.IsTuple a vs) h
 | false=>exact wpAny_pyIter_list (q:s.heap.IsList a vs) h
noncomputable abbrev zp1 (t1:Bool) (h:Heap) (l1:Addr):Heap:=h.push (itO t1 l1)
noncomputable abbrev zp2 (t1 t2:Bool) (h:Heap) (l1 l2:Addr):Heap:=(zp1 t1 h l1).push (itO t2 l2)
noncomputable abbrev zp3 (t1 t2:Bool) (h:Heap) (l1 l2:Addr):Heap:=(zp2 t1 t2 h l1 l2).push { cls:=.type "tuple",data:=.seq #[.ref h.objs.size,.ref (zp1 t1 h l1).objs.size] }
noncomputable abbrev zp4 (t1 t2:Bool) (h:Heap) (l1 l2:Addr):Heap:=(zp3 t1 t2 h l1 l2).push { cls:=.type "tuple",data:=.seq #[.none,.none] }
noncomputable abbrev zp5 (t1 t2:Bool) (h:Heap) (l1 l2:Addr):Heap:=(zp4 t1 t2 h l1 l2).push { cls:=.type "zip",data:=.fields #[.none,.bool false,.bool false,.ref (zp2 t1 t2 h l1 l2).objs.size,.ref (zp3 t1 t2 h l1 l2).objs.size] }
theorem ybc (t1 t2:Bool) (l1 l2:Addr) (xs ys:Array Value) :
  Meets (Builtin.«zip.__new__» ⟨[.type "zip",.ref l1,.ref l2],[]⟩) (λ_ R s=>SqB t1 s.heap l1 xs/\SqB t2 s.heap l2 ys/\R (.ok (.ret (.ref (zp4 t1 t2 s.heap l1 l2).objs.size))) { s with heap:=zp5 t1 t2 s.heap l1 l2 }) :=
 .of_wp λprog w A R s h=>by
  obtain ⟨hp,g,d,tk,os⟩:=s
  obtain ⟨q1,q2,h⟩:=h
  have hsub:=sub_zip
  have b1:SqB t1 (Shared.heap ⟨hp,g,d,tk,os⟩) l1 xs:=q1
  have b2:SqB t2 (Shared.heap ⟨hp.push (itO t1 l1),g,d,tk,os⟩) l2 ys:=SqB.push q2 _
  wp_walk using zq6 b1,zq6 b2
  exact ⟨_,rfl,h⟩
section
variable {prog:Program}{w:World}{A:Around}{E:Value->Shared->Prop}{s:Shared}
theorem ybd {t1 t2:Bool}{l1 l2:Addr}{xs ys:Array Value}{Q:Value->Shared->Prop}(q1:SqB t1 s.heap l1 xs) (q2:SqB t2 s.heap l2 ys)
  (h:∀h',IsZip h' (s.heap.objs.size+4) (s.heap.objs.size+2) (s.heap.objs.size+3) .none->IsPair h' (s.heap.objs.size+2) (.ref s.heap.objs.size) (.ref (s.heap.objs.size+1))->IsPair h' (s.heap.objs.size+3) .none .none ->
   h'.get? s.heap.objs.size=some (itO t1 l1)->h'.get? (s.heap.objs.size+1)=some (itO t2 l2)->(∀c o,s.heap.get? c=some o->h'.get? c=some o)->Q (.ref (s.heap.objs.size+4)) { s with heap:=h' }) :
  wpAny (model prog w) A (call (.type "zip") [.ref l1,.ref l2]) Q E s:=by
 refine callType_new F.called_zip (by decide) (F.typeCall_zip_2 _ _) (F.newCall_zip_2 _ _) (λobj=>F.args_object_init_3 obj _ _) F.entry_zip_new (ybc t1 t2 l1 l2 xs ys) ⟨q1,q2,?_⟩
 have e1:(zp1 t1 s.heap l1).objs.size=s.heap.objs.size+1:=Heap.size_push ..
 have e2:(zp2 t1 t2 s.heap l1 l2).objs.size=s.heap.objs.size+2:=by rw [Heap.size_push,e1]
 have e3:(zp3 t1 t2 s.heap l1 l2).objs.size=s.heap.objs.size+3:=by rw [Heap.size_push,e2]
 have e4:(zp4 t1 t2 s.heap l1 l2).objs.size=s.heap.objs.size+4:=by rw [Heap.size_push,e3]
 have g5:(zp5 t1 t2 s.heap l1 l2).get? (zp4 t1 t2 s.heap l1 l2).objs.size=some _:=Heap.get?_push_size _ rfl
 have g4:(zp5 t1 t2 s.heap l1 l2).get? (zp3 t1 t2 s.heap l1 l2).objs.size=some _:=qps _ (Heap.get?_push_size _ rfl)
 have g3:(zp5 t1 t2 s.heap l1 l2).get? (zp2 t1 t2 s.heap l1 l2).objs.size=some _:=qps _ (qps _ (Heap.get?_push_size _ rfl))
 have g2:(zp5 t1 t2 s.heap l1 l2).get? (zp1 t1 s.heap l1).objs.size=some _:=qps _ (qps _ (qps _ (Heap.get?_push_size _ rfl)))
 have g1:(zp5 t1 t2 s.heap l1 l2).get? s.heap.objs.size=some _:=qps _ (qps _ (qps _ (qps _ (Heap.get?_push_size _ rfl))))
 show _/\_
 rw [e2,e3,e4] at g5
 rw [e1,e2] at g3
 rw [e3] at g4
 rw [e1] at g2
 rw [e4]
 exact ⟨⟨_,g5,rfl⟩,h _ g5 g3 g4 g1 g2 λc o x=>qps _ (qps _ (qps _ (qps _ (qps _ x))))⟩
end
theorem ybe:bootBuiltins "zip" = some (.type "zip"):=by decide +kernel
noncomputable def ItB (K:QFg) (t:Bool) (a:Addr):It:=if t then Itt K a else Itl K a
def SqK (K:QFg) (t:Bool) (H:Hp) (a:Addr):Prop:=if t then ∃xs,SqT K H a xs else ∃xs,SqL K H a xs
def iZp (K:QFg) (ta:TA):TI:=λσ H R=>ta σ H λvs H1=>∃(t1 t2:Bool) (a b:Addr),vs=[.ref a,.ref b]/\SqK K t1 H1 a/\SqK K t2 H1 b/\R (Itz (ItB K t1 a) (ItB K t2 b)) H1
theorem SqK.at {X:Cx}{pins:List (Addr × Obj)}{σ:L2.St}{H:Hp}{s:Shared}{t:Bool}{a:Addr}(I:Inv X pins σ H s) (q:SqK X.K t H a):∃vs,SqB t s.heap a vs/\a<s.heap.objs.size:=by
 cases t with
 | true =>
  obtain ⟨xs,hq⟩:=(q:∃xs,SqT X.K H a xs)
  obtain ⟨its,rv,pl,hz⟩:=I.tuple hq
  have pl:s.heap.IsTuple a its.toArray:=pl
  obtain ⟨o,e,_⟩:=id pl
  exact ⟨_,pl,Heap.lt_size e⟩
 | false =>
  obtain ⟨xs,hq⟩:=(q:∃xs,SqL X.K H a xs)
  obtain ⟨its,rv,pl,hz⟩:=I.list hq
  obtain ⟨o,e,_⟩:=id pl.isList
  exact ⟨_,pl.isList,Heap.lt_size e⟩
theorem zq7 {P:Program}{w:World}{K:QFg}(t:Bool) (b a:Addr) (nab:a≠b):Zs P w K (ItB K t a) b a (λi h=>if t then h.IsTupleIter b a i else h.IsListIter b a i):=by
 cases t with
 | true=>exact yba b a nab
 | false=>exact ya9 b a nab
theorem ybf {X:Cx}{elts:List Expr}{x0:Nat}{tp:Pos}{a a2:Expr}{ta:TA}{p pos:Pos}(hg:Gl X "zip") (hm:X.mg "zip" = none) (ha:PA X [a,a2] ta) (hs:starEach [a,a2] X.env=(false,eval a X.env) :: starEach [a2] X.env:=by rfl) (hs2:(backTo pos (starEach [a2] X.env)).any (·.1)=false:=by rfl) :
  PI X (.Tuple elts x0 tp) (.Call (.Name "zip" p) [a,a2] [] pos) (iZp X.K ta):=by
 intro pins s σ H R I h
 refine Call_ (zgz I hg hm ybe (PyProof.Rows.callWith_type1 (thn (ha pos pins s σ H _ I h) λus s1 hx_=>?_) hs hs2))
 obtain ⟨vs,H1,I1,r1,q1⟩:=hx_
 obtain ⟨t1,t2,b,c,rfl,k1,k2,q⟩:=q1
 obtain ⟨u,v,rfl,ru,rv⟩:=Vals.two r1
 cases ru;cases rv
 obtain ⟨xs,b1,l1⟩:=k1.at I1
 obtain ⟨ys,b2,l2⟩:=k2.at I1
 refine ybd b1 b2 λh' hz hI hO w1 w2 hk=>?_
 have m1:@LT.lt Nat _ b s1.heap.objs.size:=l1
 have m2:@LT.lt Nat _ c s1.heap.objs.size:=l2
 generalize hn:s1.heap.objs.size=n at *
 have G:ZipApart (n+4) (n+2) (n+3) n (n+1) b c:=by constructor <;> (show (_:Nat)≠_) <;> omega
 refine wpAny_pyIter_zip (s:={ s1 with heap:=h' }) hz ⟨_,_,_,_,H1,rfl,I1.kept (t':=s1.toks) hk,ybb (zq7 t1 n b (Nat.ne_of_lt m1)) (zq7 t2 (n+1) c (Nat.ne_of_lt (Nat.lt_succ_of_lt m2))) G,⟨hz,hI,⟨_,_,hO⟩,?_,?_⟩,λc hc=>?_,q⟩
 ·cases t1 with
  | true=>exact ⟨_,w1,rfl,rfl⟩
  | false=>exact ⟨_,w1,rfl,rfl⟩
 ·cases t2 with
  | true=>exact ⟨_,w2,rfl,rfl⟩
  | false=>exact ⟨_,w2,rfl,rfl⟩
 ·have:s1.heap.objs.size<=c:=by
   simp only [List.mem_cons,List.not_mem_nil,or_false] at hc
   rcases hc with rfl|rfl|rfl|rfl|rfl <;> omega
  exact I1.fpOk this (I1.hok.fresh this)
noncomputable def itZ (i1 i2:ItM):ItM:=λi S=>(i1 i S).bind λo=>match o with
 | none=>some none
 | some x=>(i2 i S).bind λp=>match p with
  | none=>some none
  | some y=>some (some (.tup [x,y]))
noncomputable def sqI (S:Sto):D->Option (ItM × Nat)
 | .tup xs=>some (itX xs,xs.length)
 | .ref n=>(lstOf S n).bind λxs=>some (itL n,xs.length)
 | _=>none
noncomputable def zhd (m:AM):IM:=λl S=>(m l S).bind λp=>match p.1 with
 | [x,y]=>(sqI p.2 x).bind λa=>(sqI p.2 y).bind λb=>some (itZ a.1 b.1,min a.2 b.2+1,p.2)
 | _=>none
theorem ybg {K:QFg}{ρ:List Addr}{H:Hp}{i1 i2:ItM}{J1 J2:It}(h1:zgo K ρ H i1 J1) (h2:zgo K ρ H i2 J2):zk0 K ρ H (itZ i1 i2) (Itz J1 J2):=by
 intro i ρ1 S1 H1 e s
 obtain ⟨a1,a2⟩:=h1 i ρ1 S1 H1 e s
 obtain ⟨b1,b2⟩:=h2 i ρ1 S1 H1 e s
 unfold itZ
 refine ⟨λq=>?_,λx q=>?_⟩
 ·obtain ⟨o,ho,q⟩:=bnd q
  cases o with
  | none=>exact .inl (a1 ho)
  | some x =>
   obtain ⟨p,hp,q⟩:=bnd q
   cases p with
   | none=>exact .inr ⟨(a2 x ho).1,b1 hp⟩
   | some y=>cases q
 ·obtain ⟨o,ho,q⟩:=bnd q
  cases o with
  | none=>cases q
  | some x1 =>
   obtain ⟨p,hp,q⟩:=bnd q
   cases p with
   | none=>cases q
   | some y1 =>
    cases q
    obtain ⟨g1,r1⟩:=a2 x1 ho
    obtain ⟨g2,r2⟩:=b2 y1 hp
    refine ⟨⟨g1,g2⟩,λv H2 hx_=>?_⟩
    obtain ⟨y,y',p,hy1,hy2,hp,e1,e2⟩:=hx_
    subst e1 e2
    obtain ⟨_,s1⟩:=r1 y H1 hy1
    obtain ⟨_,s2⟩:=r2 y' H1 hy2
    exact ⟨zbx hp,s.laid hp,.tup zbw (.cons (s1.mono (zbx hp)) (.cons (s2.mono (zbx hp)) .nil))⟩
theorem zq8 {K:QFg}{ρ:List Addr}{S:Sto}{H:Hp}{x:D}{v:V}{a:ItM × Nat}(h:sqI S x=some a) (sim:Sim K ρ S H) (r:RD ρ H x v):∃t c,v=.ref c/\SqK K t H c/\zgo K ρ H a.1 (ItB K t c):=by
 unfold sqI at h
 split at h
 ·cases h
  cases r with
  | @tup _ c us hc' rr=>exact ⟨true,c,rfl,⟨us,SqT.of hc'⟩,zmn hc' rr⟩
 ·obtain ⟨ys,hx,h⟩:=bnd h
  cases h
  obtain ⟨c,us,hc',sq,rv'⟩:=sim.lstOf hx
  cases r with
  | ref hn =>
   rw [hc'] at hn;cases hn
   exact ⟨false,c,rfl,⟨us,sq⟩,zmo hc'⟩
 ·cases h
theorem znj {X:Cx}{elts:List Expr}{x0:Nat}{tp:Pos}{a a2:Expr}{mA:AM}{p0 pos':Pos}(hgl:Gl X "zip") (hmg:X.mg "zip" = none) (ha:PA3 X [a,a2] mA) (hst:starEach [a,a2] X.env=(false,eval a X.env) :: starEach [a2] X.env:=by rfl) (hst2:(backTo pos' (starEach [a2] X.env)).any (·.1)=false:=by rfl):zii X (.Tuple elts x0 tp) (.Call (.Name "zip" p0) [a,a2] [] pos') (zhd mA) :=
 PI.imp (ybf hgl hmg ha hst hst2) λσ H R hx_=>by
  obtain ⟨ρ,l,S,it,k,S',sim,ro,hm,p⟩:=hx_
  obtain ⟨⟨xs,S2⟩,q2,q1⟩:=bnd hm
  dsimp only at q1
  split at q1
  ·rename_i x y
   obtain ⟨u1,e1,q1⟩:=bnd q1
   obtain ⟨u2,e2,q1⟩:=bnd q1
   cases q1
   refine ⟨ρ,l,S,[x,y],_,sim,ro,q2,λρ1 H1 vs ex s1 r1=>?_⟩
   obtain ⟨v,u,rfl,rv,ru⟩:=r1.two
   obtain ⟨t1,c1,rfl,k1,o1⟩:=zq8 e1 s1 rv
   obtain ⟨t2,c2,rfl,k2,o2⟩:=zq8 e2 s1 ru
   exact ⟨t1,t2,c1,c2,rfl,k1,k2,p ρ1 H1 _ ex s1 (ybg o1 o2)⟩
  ·cases q1
section
variable {P:Program}{w:World}{K:QFg}{tg:Expr}
end
section
variable {X:Cx}{tg l:Expr}{tl:TE}{m:EM}
end
section
variable {X:Cx}{a b e:Expr}{m ma mb:EM}{pos:Pos}{es:List Expr}{ms:List EM}{out:Str}
end
open PySem.Builtin PySem.Builtin.Str
section
variable {X:Cx}
variable {o e:Expr}{mo m:EM}{apos cpos:Pos}{name:Str}{id:String}{f:D->List D->Sto->Option (D × Sto)}{r:V->List V->Hp->VK->Prop}
end
section
variable {X:Cx}{o:Expr}{mo:EM}{apos cpos:Pos}
end
section
variable {prog:Program}{w:World}{A:Around}{E:Value->Shared->Prop}
end
theorem ybh:typeLookup (.type "list") "keys" = pure none:=by rw [typeLookup_type,builtinLookup_eq_fast];kernel_rfl
section
variable {prog:Program}{w:World}{A:Around}{E:Value->Shared->Prop}{s:Shared}{a:Addr}
theorem ybi {its:Array Value}{n:Nat}{u:Tok}{R:Result->Shared->Prop}(hx:s.heap.get? a=some { cls:=.type "list",data:=.seq its n }) (hA:A.handled=none)
  (h:∀h' tk e,Heap.NewAttrErr s.heap h' e (.ref a) "keys"->R (.error (.ref e)) { s with heap:=h',toks:=tk }) :
  codeAny (model prog w) A (.call (.builtin "list.__getattribute__") ⟨[.ref a,.str "keys" u],[]⟩) R s :=
 codeAny_call_builtin F.slot_list_getattribute.plain am_entry_list_getattribute (F.slot_list_getattribute.check _ _ _ _ _ _ _ _ ⟨_,hx,rfl⟩ (F.args_list_getattribute_2 _ _)
  (meets_getattribute_miss_list a its n _ "keys" u ybh (by decide) (by decide) prog w A R s ⟨hx,hA,h⟩))
theorem ybj {its:Array Value}{n:Nat}{Q:Option Value->Shared->Prop}(hx:s.heap.get? a=some { cls:=.type "list",data:=.seq its n }) (hA:A.handled=none)
  (h:∀h' tk,(∀b o,s.heap.get? b=some o->h'.get? b=some o)->Q none { s with heap:=h',toks:=tk }):wpAny (model prog w) A (getAttr? (.ref a) "keys") Q E s:=by
 obtain ⟨hp,g,d,tk,os⟩:=s
 have hT:(⟨hp,g,d,tk,os⟩:Shared).TypeIs (.ref a) "list":=⟨_,hx,rfl⟩
 have hT2:∀k,(⟨hp,g,d,k,os⟩:Shared).TypeIs (.ref a) "list":=λk=>⟨_,hx,rfl⟩
 have f2:=F.slot_list_getattribute.lookup
 have f3:=F.slot_list_getattribute.bind (.ref a)
 unfold getAttr? getAttrBy?
 repeat (any_goals (first|assumption|exact hT2 _|wp_step))
 have f5:=am_list_getattr_none
 have f1:=sub_AttributeError
 refine ybi hx hA λh' tk' e ne=>?_
 obtain ⟨t',u',he⟩:=ne.there
 dsimp only
 unfold getattributeRaised
 repeat (any_goals (first|assumption|wp_step))
 all_goals trace_state
 exact h _ _ ne.of.keeps
end
theorem zq9:entryFor table "dict.update.loop" = some Builtin.«dict.update.loop»:=entryFor_of_tree (by kernel_rfl)
theorem zk7:plainId "dict.update.loop" = true:=by decide +kernel
theorem ybk {prog:Program}{w:World}{A:Around}{E:Value->Shared->Prop}{s:Shared}{b:Addr}{x y:Value}{Q:List Value->Shared->Prop}(hb:IsTup s.heap b #[x,y]) (h:Q [x,y] s) :
  wpAny (model prog w) A (Builtin.Dict.pairItems (.ref b)) Q E s:=by
 obtain ⟨o,ho,hc,n,hd⟩:=hb
 obtain ⟨hp,g,d,tk,os⟩:=s
 obtain ⟨c1,c2,c3,c4⟩:=o
 dsimp only at hc hd ho
 subst hc hd
 unfold Builtin.Dict.pairItems
 wp_walk
 exact h
inductive VF (H:Hp):List V->List (List Key × V)->List (List Key × V)->Prop
 | nil (acc:List (List Key × V)):VF H [] acc acc
 | cons {b kb:Addr} {v:V} {kk:List Key} {r:List V} {acc fin:List (List Key × V)}:H b=some (.tup [.ref kb,v])->H kb=some (.tup (kk.map kV))->VF H r (zb1 acc kk v) fin->VF H (.ref b :: r) acc fin
theorem VF.keep {H:Hp}{d:Addr}{o:HO}{acc0:List (List Key × V)}(hd:H d=some (.dT acc0)):∀{r:List V}{acc fin:List (List Key × V)},VF H r acc fin->VF (upd H d o) r acc fin
 | _,_,_,.nil acc=>.nil acc
 | _,_,_,.cons h1 h2 h3=>.cons (by rw [zar (zdl h1 hd (λz=>nomatch z))];exact h1) (by rw [zar (zdl h2 hd (λz=>nomatch z))];exact h2) (VF.keep hd h3)
section
variable {X:Cx}{pins:List (Addr × Obj)}{σ:St}{d a it:Addr}{A':Around}{R:Result->Shared->Prop}{us:List V}
theorem zra (hA:A'.handled=none) (hu:A'.units+100<cLine):∀(r:List V) (i:Nat) (acc fin:List (List Key × V)) (H:Hp) (s:Shared),Inv X pins σ H s->H d=some (.dT acc)->H a=some (.lst us)->us.drop i=r->VF H r acc fin->acc.length+r.length<=sizeLine ->
  s.heap.IsListIter it a i->zcz X pins H it->(∀s',Inv X pins σ (upd H d (.dT fin)) s'->R (.ok (.ret .none)) s')->codeAny (model X.prog X.w) A' (.builtin "dict.update.loop" ⟨[.ref d,.ref it,rawInt i,.none],[]⟩) R s
 | [],i,acc,fin,H,s,I,hd,ha,hr,vf,hz,st,fp,h=>by
  cases vf
  obtain ⟨z,its,n,rv,hl,e⟩:=I.lstM ha
  refine codeAny_builtin zq9 ?_
  rw [Around.under_plainId zk7 _]
  show wpAny _ A'.in1 (pyNext (.ref it) >>= _) _ _ s
  have hi:us.length<=i:=List.drop_eq_nil_iff.mp hr
  refine qwb (wpAny_pyNext_list_end (by simpa using hA) st (l:=a) ⟨_,e,rfl,n,rfl⟩ (by simp;omega) λh' eb=>?_)
  have I1:Inv X pins σ H { s with heap:=h' }:=I.turned (t':=s.toks) (λb o hb q=>eb b o hb q) fp.1 fp.2.1 fp.2.2.2.1 fp.2.2.2.2.1 fp.2.2.2.2.2
  have e2:upd H d (.dT acc)=H:=by
   funext b
   by_cases q:b=d
   ·subst q;rw [zbw,hd]
   ·rw [zar q]
  exact qwb (qwp (qwp (h _ (by rw [e2];exact I1))))
 | v :: r,i,acc,fin,H,s,I,hd,ha,hr,vf,hz,st,fp,h=>by
  cases vf with
  | @cons b kb y kk _ _ _ hb hk vf =>
   obtain ⟨z,its,n,rv,hl,e⟩:=I.lstM ha
   have hv:us[i]? = some (.ref b):=by
    have:=congrArg (·[0]?) hr
    simpa using this
   obtain ⟨u,hu1,ru⟩:=rv.get hv
   cases ru
   refine codeAny_builtin zq9 ?_
   rw [Around.under_plainId zk7 _]
   show wpAny _ A'.in1 (pyNext (.ref it) >>= _) _ _ s
   refine qwb (wpAny_pyNext_list_item st (l:=a) ⟨_,e,rfl,n,rfl⟩ (x:=.ref b) (by simpa using hu1) λh' st' sb=>?_)
   have I1:Inv X pins σ H { s with heap:=h' }:=I.turned (t':=s.toks) (λb o hb q=>(sb.2 b hb).trans q) fp.1 fp.2.1 fp.2.2.2.1 fp.2.2.2.2.1 fp.2.2.2.2.2
   obtain ⟨itb,rb,tb,_⟩:=I1.tuple (SqT.of (K:=X.K) hb)
   obtain ⟨w1,w2,rfl,rw1,rw2⟩:=rb.two
   cases rw1
   refine qwb (wpAny_holding (qwb (wpAny_tryCatch (ybk (x:=.ref kb) (y:=w2) tb ?_))))
   dsimp only
   obtain ⟨z1,hsm,xs,rel,dd⟩:=zke I1.hok hd
   have hzv:xs.length<=sizeLine:=by rw [<-Paired.length rel];exact z1
   have hlp:=zi6 acc kk y
   have hl2:(zb1 acc kk y).length<=sizeLine:=by simp only [List.length_cons] at hz;omega
   refine wpAny_holding (wpAny_dictSet_heap (hsz:=hzv) ?_ (zh3 I1.hok hk) dd λh2 dd' hs'=>?_)
   ·show A'.in1.units<cLine
    have:A'.in1.units<=A'.units+50:=by simp [Around.in1]
    omega
   obtain ⟨q,es,ep,hq,g2,g3,g4,_,g5⟩:=dd'
   have I2:=zi7 (ob:=.dT (zb1 acc kk y)) (t':=s.toks+(tupleKind (zde X.prog X.w)).draws kk) I1 (by rw [hd];exact True.intro) hs' ⟨q,hq⟩ ⟨hl2,hsm,_,(rel.put kk hk rw2).keeps λc ys ec=>(by rw [zar (zdl ec hd (λz=>nomatch z))];exact ec),q,es,ep,hq,g2,g3,g4,g5⟩
   have hne:it≠d:=λz=>by have:=fp.1;rw [z,hd] at this;cases this
   refine qwp ⟨plainId_quiet zk7 _,zra hA hu r (i+1) (zb1 acc kk y) fin _ _ I2 zbw (by rw [zar (zdl ha hd (λz=>nomatch z))];exact ha) ?_ (vf.keep hd) (by simp only [List.length_cons] at hz;omega) (st'.at λo q=>(hs'.2 it hne).trans q) ⟨by rw [zar hne];exact fp.1,fp.2⟩ ?_⟩
   ·rw [<-List.drop_drop,hr];rfl
   ·intro s' I'
    rw [zlv] at I'
    exact h s' I'
theorem VF.fresh {H:Hp}{d:Addr}{o:HO}(hd:H d=none):∀{r:List V}{acc fin:List (List Key × V)},VF H r acc fin->VF (upd H d o) r acc fin
 | _,_,_,.nil acc=>.nil acc
 | _,_,_,.cons h1 h2 h3=>.cons (by rw [zar (zbl h1 hd)];exact h1) (by rw [zar (zbl h2 hd)];exact h2) (VF.fresh hd h3)
noncomputable abbrev zk8:Obj:={ cls:=.type "dict",data:=.dict #[] }
def zrb:List V->Hp->VK->Prop:=λxs H Q=>∃a us fin,xs=[.ref a]/\H a=some (.lst us)/\VF H us [] fin/\∀l,H l=none->Q (.ref l) (upd H l (.dT fin))
theorem ybl {k:Nat}(hr:Room k X.A):CallR X (.type "dict") zrb:=by
 intro pins s σ H xs us' Q I r h
 obtain ⟨a,us,fin,rfl,ha,vf,q⟩:=h
 obtain ⟨u,rfl,ru⟩:=ze9 r
 cases ru
 have hh:=hr.hd
 have hun:=hr.un
 refine callType_codes F.kt_called_dict (F.kt_typeCall_dict_1 (.ref a)) F.entry_dict_init (kt_code_dict_new (Q₁:=λx s1=>x=.ref s.heap.objs.size/\s1={ s with heap:=s.heap.push zk8 }) (.ref a) ⟨rfl,rfl⟩) ?_
 rintro x s1 ⟨rfl,rfl⟩
 have hd:=I.fresh
 have I1:Inv X pins σ (upd H s.heap.objs.size (.dT [])) { s with heap:=s.heap.push zk8 }:=I.laid (o:=.dT []) (t':=s.toks) (λ_ _ q=>qps _ q) (qlr _) (zl9 s.heap I.big)
 have ha1:upd H s.heap.objs.size (.dT []) a=some (.lst us):=by rw [zar (zbl ha hd)];exact ha
 have hT:Shared.TypeIs { s with heap:=s.heap.push zk8 } (.ref s.heap.objs.size) "dict":=⟨_,Heap.get?_push_size _ rfl,rfl⟩
 obtain ⟨z,its,n,rv,hl,e⟩:=I1.lstM ha1
 have hTl:Shared.TypeIs { s with heap:=s.heap.push zk8 } (.ref a) "list":=⟨_,e,rfl⟩
 refine ⟨hT,F.args_dict_init_2 _ _,?_⟩
 unfold Builtin.«dict.__init__» Builtin.Dict.selfAndRest
 refine qwb (qwb (wpAny_notOrdered_dict hT ?_))
 refine qwp ?_
 show wpAny _ _ (Builtin.Dict.updateFrom "dict.__init__" s.heap.objs.size (.ref a) [] .none) _ _ _
 unfold Builtin.Dict.updateFrom
 refine qwb (wpAny_typeOf hTl ?_)
 rw [if_pos (by decide)]
 refine qwb (ybj e (by simpa using hh) λh2 t2 k2=>?_)
 have I2:Inv X pins σ (upd H s.heap.objs.size (.dT [])) { s with heap:=h2,toks:=t2 }:=I1.kept k2
 obtain ⟨z2,its2,n2,rv2,hl2,e2⟩:=I2.lstM ha1
 rw [if_pos (show (none:Option Value).isNone=true from rfl)]
 refine qwb (wpAny_rule (qwb (wpAny_pyIter_list (l:=a) ⟨_,e2,rfl,n2,rfl⟩ ?_)))
 have I3:=I2.kept (t':=t2) (h':=h2.push { cls:=.type "list_iterator",data:=.fields #[.ref a,.int 0 0] }) λb o q=>qps _ q
 refine qwp ⟨plainId_quiet zk7 _,?_⟩
 refine zra (A':=X.A.in1) (by simpa using hh) (by simp;omega) us 0 [] fin _ _ I3 zbw ha1 rfl (vf.fresh hd) (by simpa using z2) ⟨_,Heap.get?_push_size _ rfl,rfl,rfl⟩ (I2.fpOk (qlr _) (I2.hok.fresh (qlr _))) λs' I'=>?_
 rw [zlv] at I'
 exact ⟨rfl,.ref s.heap.objs.size,_,I',rfl,q _ hd⟩
end
section
variable {X:Cx}
variable {o e:Expr}{mo m:EM}{apos cpos:Pos}
end
section
variable {prog:Program}{w:World}{A:Around}{E:Value->Shared->Prop}{s:Shared}
end
section
variable {X:Cx}{K:QFg}{a:Expr}{es:List Expr}{mA:AM}{pos p:Pos}{k:Nat}
end
end L3
namespace SP
open PySem PySem.W PyProof.Rows PySem.Calls
section
variable {prog:Program}{w:World}{A:Around}{E:Value->Shared->Prop}{s:Shared}
end
end SP
namespace L3
open PySem PySem.Spec PyProof.Rows L2
section
variable {X:Cx}{K:QFg}{a:Expr}{es:List Expr}{mA:AM}{pos p:Pos}
end
section
variable {X:Cx}{a b:Expr}{ma mb:EM}{pos:Pos}
end
theorem za7 {α:Type}{x:α}{p:α->Prop}:(∃d,(some (some x):Option (Option α))=some (some d)/\p d)=p x:=by
 apply propext;constructor
 ·rintro ⟨d,h,q⟩;cases h;exact q
 ·exact λq=>⟨x,rfl,q⟩
theorem zbo {α:Type}{x:α}{p:α->Prop}:(∃d,(some x:Option α)=some d/\p d)=p x:=by
 apply propext;constructor
 ·rintro ⟨d,h,q⟩;cases h;exact q
 ·exact λq=>⟨x,rfl,q⟩
theorem zb0 {b:Bool}{p:Bool->Prop}:(∃k,D.bl b=D.bl k/\p k)=p b:=by
 apply propext;constructor
 ·rintro ⟨d,h,q⟩;cases h;exact q
 ·exact λq=>⟨b,rfl,q⟩
theorem zeq {α:Type}{x y:α}:L2.atI [x,y] 0=some x:=rfl
theorem zer {α:Type}{x y:α}:L2.atI [x,y] 1=some y:=rfl
theorem zes {α:Type}{x y z:α}:L2.atI [x,y,z] 0=some x:=rfl
theorem zet {α:Type}{x y z:α}:L2.atI [x,y,z] 1=some y:=rfl
theorem zeu {α:Type}{x y z:α}:L2.atI [x,y,z] 2=some z:=rfl
theorem zcx {S:Sto}{xs:List D}:lstOf (S++[.lst xs]) S.length=some xs:=by unfold lstOf;rw [zfw]
theorem ybm {α:Type}(xs:List α) (i:Int) (h0:0<=i) (h1:i<xs.length):∃x,L2.atI xs i=some x/\x∈xs:=by
 have hl:i.toNat<xs.length:=by omega
 refine ⟨xs[i.toNat],?_,List.getElem_mem hl⟩
 unfold L2.atI L2.ixN
 rw [if_pos h0,if_pos h1]
 simp [hl]
theorem atI_get {α:Type}{xs:List α}{i:Nat}{x:α}(h:xs[i]? = some x):L2.atI xs (i:Int)=some x:=by
 have hl:=(qme h).1
 unfold L2.atI L2.ixN
 rw [if_pos (by omega),if_pos (by omega)]
 simpa using h
section
variable {S:Sto}{Q:D->Sto->Prop}{l:Lo}{QG:Lo->Sto->Prop}
theorem zev {i j:Int}:Wo (zdi (.int i) (.int j) S) Q=(((-(2 ^ 64)<i/\i<2 ^ 64)\/(-(2 ^ 64)<j/\j<2 ^ 64))/\Q (.int (i*j)) S):=zg7
theorem zcd {xs:List D}{i:Int}:Wo (zaj (.tup xs) (.int i) S) Q = ∃v,L2.atI xs i=some v/\Q v S:=by
 have e:zaj (.tup xs) (.int i) S=dIx (.tup xs) (.int i) S:=by
  unfold zaj
  cases h:dIx (.tup xs) (.int i) S with
  | some v=>rfl
  | none=>rfl
 rw [e,zd8]
theorem zc4 {k:Nat}{i:Int}:Wo (zaj (.ref k) (.int i) S) Q = ∃xs,lstOf S k=some xs/\∃v,L2.atI xs i=some v/\Q v S:=by
 have e:zaj (.ref k) (.int i) S=dIx (.ref k) (.int i) S:=by
  unfold zaj
  cases h:dIx (.ref k) (.int i) S with
  | some v=>rfl
  | none=>rfl
 rw [e,zd9]
theorem zed {k:Nat}:Wo (zbh [.ref k] S) Q = ∃xs,lstOf S k=some xs/\Q (.int xs.length) S:=zeb
theorem zdj {xs:List D}:Wo (zbh [.tup xs] S) Q=Q (.int xs.length) S:=zea
theorem zew {i j:Str}:Wo (dEq (.str i) (.str j) S) Q=Q (.bl (decide (i=j))) S:=zbb
theorem zdo {i j:Int}:Wo (dNe (.int i) (.int j) S) Q=Q (.bl (!decide (i=j))) S:=zbb
theorem ybn {n:Nat}:Wo (zjl [.ref n] S) Q = ∃xs,lstOf S n=some xs/\xs.all zig=true/\Q (.bl (xs.all isT)) S:=by
 show Wo ((lstOf S n).bind λxs=>if xs.all zig=true then some (.bl (xs.all isT),S) else none) Q=_
 rw [zg6];simp only [zg7]
theorem zdp {U:String}{b:Bool}:Wo (zd2 U (.bl b) S) Q=Q (.bl (isI "bool" U)) S:=zbb
theorem zdq {U:String}{b:Int}:Wo (zd2 U (.int b) S) Q=Q (.bl (isI "int" U)) S:=zbb
theorem zdk {U:String}{b:List D}:Wo (zd2 U (.tup b) S) Q=Q (.bl (isI "tuple" U)) S:=zbb
theorem zdb {U:String}:isI U U=true:=by unfold isI;simp
end
def Gr (S0 S:Sto):Prop:=∃ex,S=S0++ex
theorem Gr.refl (S:Sto):Gr S S:=⟨[],by rw [List.append_nil]⟩
theorem Gr.trans {A B C:Sto}(h:Gr A B) (g:Gr B C):Gr A C:=by obtain ⟨x,rfl⟩:=h;obtain ⟨y,rfl⟩:=g;exact ⟨x++y,by rw [List.append_assoc]⟩
theorem Gr.push {A B:Sto}(h:Gr A B) (o:Ob):Gr A (B++[o]):=h.trans ⟨[o],rfl⟩
theorem Gr.get {A B:Sto}{n:Nat}{o:Ob}(h:Gr A B) (e:A[n]? = some o):B[n]? = some o:=by
 obtain ⟨x,rfl⟩:=h
 rw [List.getElem?_append_left (qme e).1];exact e
theorem Gr.lst {A B:Sto}{n:Nat}{xs:List D}(h:Gr A B) (e:lstOf A n=some xs):lstOf B n=some xs:=by
 unfold lstOf at e ⊢
 cases q:A[n]? with
 | none=>rw [q] at e;cases e
 | some o=>rw [h.get q];rw [q] at e;exact e
section
variable {it:ItM}{im:IM}{ixs:List (Option Nat)}{g:GM}{t:TM}{e:EM}{l:Lo}{S S1:Sto}{Q:D->Sto->Prop}{k:Nat}
theorem zk9 (xs:List D) (R:Nat->List D->Lo->Sto->Prop) (hit:∀i acc l S,R i acc l S->it i S=some xs[i]?)
  (step:∀(i:Nat) x acc l S,xs[i]? = some x->R i acc l S->Wg (g x l S) λl1 S1=>Wt t l1 S1 λb S2=>if b=true then We e l1 S2 λv S3=>R (i+1) (acc++[v]) l1 S3 else R (i+1) acc l1 S2) :
  ∀(n i:Nat) (acc:List D) (l:Lo) (S:Sto),n+i=xs.length->R i acc l S->∃rest S' l',zc2 it g t e (n+1) i l S=some (rest,S')/\R xs.length (acc++rest) l' S'
 | 0,i,acc,l,S,hn,h=>by
  have hi:i=xs.length:=by omega
  have e0:=hit i acc l S h
  rw [List.getElem?_eq_none_iff.mpr (by omega)] at e0
  refine ⟨[],S,l,?_,by rw [List.append_nil,<-hi];exact h⟩
  unfold zc2;rw [e0];rfl
 | n+1,i,acc,l,S,hn,h=>by
  have hi:i<xs.length:=by omega
  have e0:=hit i acc l S h
  rw [qge hi] at e0
  obtain ⟨l1,S1,e1,b,S2,e2,q⟩:=step i _ acc l S (qge hi) h
  cases b with
  | true =>
   obtain ⟨v,S3,e3,q⟩:=q
   obtain ⟨rest,S',l',e4,q⟩:=zk9 xs R hit step n (i+1) (acc++[v]) l1 S3 (by omega) q
   refine ⟨v :: rest,S',l',?_,by rw [List.append_assoc] at q;exact q⟩
   unfold zc2;rw [e0];show (g _ l S).bind _=_;rw [e1];show (t l1 S1).bind _=_;rw [e2]
   show (e l1 S2).bind _=_;rw [e3];show (zc2 it g t e (n+1) (i+1) l1 S3).bind _=_;rw [e4];rfl
  | false =>
   obtain ⟨rest,S',l',e4,q⟩:=zk9 xs R hit step n (i+1) acc l1 S2 (by omega) q
   refine ⟨rest,S',l',?_,q⟩
   unfold zc2;rw [e0];show (g _ l S).bind _=_;rw [e1];show (t l1 S1).bind _=_;rw [e2]
   exact e4
theorem zjr (xs:List D) (R:Nat->List D->Lo->Sto->Prop) (him:im l S=some (it,xs.length+1,S1)) (h0:R 0 [] (zbu ixs l) S1) (hit:∀i acc l S,R i acc l S->it i S=some xs[i]?)
  (step:∀(i:Nat) x acc l S,xs[i]? = some x->R i acc l S->Wg (g x l S) λl1 S1=>Wt t l1 S1 λb S2=>if b=true then We e l1 S2 λv S3=>R (i+1) (acc++[v]) l1 S3 else R (i+1) acc l1 S2)
  (fin:∀acc l' S',R xs.length acc l' S'->acc.length<=sizeLine/\Q (.ref S'.length) (S'++[.lst acc])):We (zcn im ixs g t e) l S Q:=by
 obtain ⟨rest,S',l',h1,h2⟩:=zk9 (it:=it) (g:=g) (t:=t) (e:=e) xs R hit step xs.length 0 [] (zbu ixs l) S1 rfl h0
 obtain ⟨hz,q⟩:=fin rest l' S' h2
 refine ⟨_,_,?_,q⟩
 unfold zcn;rw [him];show (zc2 it g t e (xs.length+1) 0 (zbu ixs l) S1).bind _=_;rw [h1];show (if _ then _ else _)=_;rw [if_pos hz]
theorem zhw (xs:List D) (F:D->D) (P:Sto->Prop) (L:Lo->Prop) (him:im l S=some (it,xs.length+1,S1)) (h0:P S1) (l0:L (zbu ixs l)) (hit:∀i S,P S->it i S=some xs[i]?) (hz:xs.length<=sizeLine)
  (step:∀x l S,x∈xs->L l->P S->Wg (g x l S) λl1 S2=>P S2/\L l1/\We e l1 S2 λv S3=>v=F x/\P S3)
  (fin:∀S',P S'->Q (.ref S'.length) (S'++[.lst (xs.map F)])):We (zcn im ixs g zcu e) l S Q:=by
 refine zjr xs (λi acc l S=>acc=(xs.take i).map F/\L l/\P S) him ⟨rfl,l0,h0⟩ (λi acc l S h=>hit i S h.2.2) ?_ ?_
 ·rintro i x acc l S hx ⟨rfl,hl,hp⟩
  obtain ⟨l1,S2,e1,p1,q1,v,S3,e2,rfl,p3⟩:=step x l S (qmg hx) hl hp
  refine ⟨l1,S2,e1,?_⟩
  dsimp only
  rw [zkt,if_pos rfl]
  refine ⟨_,S3,e2,?_,q1,p3⟩
  rw [List.take_add_one,hx];simp
 ·rintro acc l' S' ⟨rfl,hl,hp⟩
  rw [List.take_length]
  exact ⟨by rw [qlm];exact hz,fin S' hp⟩
theorem ybo (xs:List D) (V:D->Prop) (P:Nat->Sto->Prop) (L:Lo->Prop) (him:im l S=some (it,xs.length+1,S1)) (h0:P 0 S1) (l0:L (zbu ixs l)) (hit:∀i S,P i S->it i S=some xs[i]?) (hz:xs.length<=sizeLine)
  (step:∀(i:Nat) x l S,xs[i]? = some x->L l->P i S->Wg (g x l S) λl1 S2=>L l1/\We e l1 S2 λv S3=>V v/\P (i+1) S3)
  (fin:∀vs S',vs.length=xs.length->(∀v∈vs,V v)->P xs.length S'->Q (.ref S'.length) (S'++[.lst vs])):We (zcn im ixs g zcu e) l S Q:=by
 refine zjr xs (λi acc l S=>acc.length=i/\(∀v∈acc,V v)/\L l/\P i S) him ⟨rfl,(λv hv=>by cases hv),l0,h0⟩ (λi acc l S h=>hit i S h.2.2.2) ?_ ?_
 ·rintro i x acc l S hx ⟨hl,hv,hL,hp⟩
  obtain ⟨l1,S2,e1,q1,v,S3,e2,hv2,p3⟩:=step i x l S hx hL hp
  refine ⟨l1,S2,e1,?_⟩
  dsimp only
  rw [zkt,if_pos rfl]
  refine ⟨v,S3,e2,by simp [hl],λu hu=>?_,q1,p3⟩
  rcases List.mem_append.mp hu with hu|hu
  ·exact hv u hu
  ·rw [List.mem_singleton.mp hu];exact hv2
 ·rintro acc l' S' ⟨hl,hv,hL,hp⟩
  exact ⟨by rw [hl];exact hz,fin acc S' hl hv hp⟩
end
theorem ybp {as:AM}{l:Lo}{S S1:Sto}{j:Int}(h:as l S=some ([.int j],S1)) (hz:-(2 ^ 62)<=j/\j<2 ^ 62):zb9 as l S=some ((0,j.toNat),S1):=by
 unfold zb9;rw [h];simp only [Option.bind_some];rw [if_pos hz]
theorem zrc {as:AM}{l:Lo}{S S1:Sto}{n:Nat}(h:as l S=some ([.int (n:Int)],S1)) (hn:n<1000000000):zjg (zb9 as) l S=some (itX (zb3 0 n),(zb3 0 n).length+1,S1):=by
 have:=ybp h ⟨by omega,by omega⟩
 unfold zjg;rw [this];simp only [Option.bind_some,Int.toNat_natCast,zjh]
noncomputable def enl (xs:List D):List D:=xs.mapIdx λi x=>.tup [.int i,x]
theorem zjs (xs:List D):(enl xs).length=xs.length:=by simp [enl]
theorem zjt (xs:List D) (i:Nat):(enl xs)[i]? = (xs[i]?).map λx=>.tup [.int i,x]:=by simp [enl,List.getElem?_mapIdx]
theorem ybq {xs:List D}{i:Nat}{S:Sto}:itN (itX xs) i S=some (enl xs)[i]?:=by
 rw [zjt];rfl
theorem ybr {as:AM}{l:Lo}{S S1:Sto}{xs:List D}(h:as l S=some ([.tup xs],S1)):zhb as l S=some (itN (itX xs),(enl xs).length+1,S1):=by
 unfold zhb;rw [h,zjs];rfl
theorem ybs {e:EM}{l:Lo}{S S1:Sto}{xs:List D}(h:e l S=some (.tup xs,S1)):zdg e l S=some (itX xs,xs.length+1,S1):=by
 unfold zdg;rw [h];rfl
theorem zhe {e:EM}{l:Lo}{S S1:Sto}{n:Nat}{xs:List D}(h:e l S=some (.ref n,S1)) (hn:lstOf S1 n=some xs):zdg e l S=some (itL n,xs.length+1,S1):=by
 unfold zdg;rw [h];show (lstOf S1 n).bind _=_;rw [hn];rfl
theorem zf4 {n i:Nat}{S:Sto}{xs:List D}(hn:lstOf S n=some xs):itL n i S=some xs[i]?:=by unfold itL;rw [hn];rfl
section
variable {g:GM}{b:SM}
theorem znk (P:Nat->Lo->Sto->Prop) (O:D->Sto->Prop):∀(xs:List D) (k:Nat) (l:Lo) (S:Sto),P k l S ->
  (∀(i:Nat) x l S,xs[i]? = some x->P (k+i) l S->Wg (g x l S) λl1 S1=>Ws b l1 S1 λf l2 S2=>((f=.nx\/f=.ct)/\P (k+i+1) l2 S2)\/∃d,f=.rt d/\O d S2) ->
  Wr (zff g b xs l S) λf l' S'=>(f=.nx/\P (k+xs.length) l' S')\/∃d,f=.rt d/\O d S'
 | [],k,l,S,h0,_=>⟨_,_,_,rfl,.inl ⟨rfl,h0⟩⟩
 | x :: xs,k,l,S,h0,hs=>by
  obtain ⟨l1,S1,e1,f,l2,S2,e2,q⟩:=hs 0 x l S rfl h0
  rcases q with ⟨hf,h1⟩|⟨d,rfl,hd⟩
  ·have ih:=znk P O xs (k+1) l2 S2 h1 λi y l S hy hp=>by
    have:=hs (i+1) y l S (by simpa using hy) (by rw [show k+(i+1)=k+1+i by omega];exact hp)
    rw [show k+(i+1)+1=k+1+i+1 by omega] at this
    exact this
   obtain ⟨f',l',S',e3,q1⟩:=ih
   refine ⟨f',l',S',?_,by rw [List.length_cons,show k+(xs.length+1)=k+1+xs.length by omega];exact q1⟩
   unfold zff
   rw [e1];show (b l1 S1).bind _=_;rw [e2]
   rcases hf with rfl|rfl <;> exact e3
  ·refine ⟨_,l2,S2,?_,.inr ⟨d,rfl,hd⟩⟩
   unfold zff
   rw [e1];show (b l1 S1).bind _=_;rw [e2];rfl
theorem zhf (P:Nat->Lo->Sto->Prop) (O:D->Sto->Prop) {as:AM}{l:Lo}{S S1:Sto}{n:Nat}{QS:Fl->Lo->Sto->Prop}(h:as l S=some ([.int (n:Int)],S1)) (hn:n<1000000000) (h0:P 0 l S1)
  (step:∀(i:Nat) l S,i<n->P i l S->Wg (g (.int i) l S) λl1 S1=>Ws b l1 S1 λf l2 S2=>((f=.nx\/f=.ct)/\P (i+1) l2 S2)\/∃d,f=.rt d/\O d S2)
  (fin:∀l' S',P n l' S'->QS .nx l' S') (out:∀d l' S',O d S'->QS (.rt d) l' S'):Ws (zfg (zb9 as) g b) l S QS:=by
 rw [zyv]
 refine ⟨_,_,h,(n:Int),rfl,⟨by omega,by omega⟩,?_⟩
 rw [Int.toNat_natCast]
 refine (znk P O (zb3 0 n) 0 l S1 h0 ?_).mono ?_
 ·intro i x l S hx hp
  obtain ⟨hi,rfl⟩:=zmv hx
  rw [Nat.zero_add] at hp
  have:=step i l S hi hp
  rw [Int.zero_add,Nat.zero_add]
  exact this
 ·rintro f l' S' (⟨rfl,hp⟩|⟨d,rfl,hd⟩)
  ·rw [zjh,Nat.zero_add] at hp;exact fin l' S' hp
  ·exact out d l' S' hd
end
section
variable {S:Sto}{Q:D->Sto->Prop}{l:Lo}
theorem zdr {i j:Int}:Wo (za2 (.int i) (.int j) S) Q=Q (.int (i+j)) S:=zbb
theorem zds {xs ys:List D}:Wo (za2 (.tup xs) (.tup ys) S) Q=(xs.length+ys.length<=sizeLine/\Q (.tup (xs++ys)) S):=zg7
theorem zim {n m:Nat}{xs ys:List D}(h1:S[n]? = some (.lst xs)) (h2:S[m]? = some (.lst ys)):Wo (za2 (.ref n) (.ref m) S) Q=(xs.length+ys.length<=sizeLine/\Q (.ref S.length) (S++[.lst (xs++ys)])):=by
 show Wo (match S[n]?,S[m]? with|some (.lst xs),some (.lst ys)=>if xs.length+ys.length<=sizeLine then some (.ref S.length,S++[.lst (xs++ys)]) else none|_,_=>none) Q=_
 rw [h1,h2];exact zg7
theorem zex {k:Bool}:Wo (zij [.bl k] S) Q=Q (.int (if k then 1 else 0)) S:=zbb
theorem ybt {n:Nat}{xs:List D}{i:Nat}{x:D}(h:S[n]? = some (.lst xs)) (hi:i<=xs.length) (hz:xs.length<sizeLine):Wo (zhs (.ref n) [.int i,x] S) Q=Q .non (S.set n (.lst (xs.take i++[x]++xs.drop i))):=by
 have:zhs (.ref n) [.int i,x] S=some (.non,S.set n (.lst (xs.take i++[x]++xs.drop i))):=by
  unfold zhs;simp only [h]
  rw [if_pos ⟨by omega,by omega,hz⟩,Int.toNat_natCast]
 rw [this];exact zbb
def Wp (o:OM) (l:Lo) (S:Sto) (Q:Option Int->Sto->Prop):Prop:=∃v S',o l S=some (v,S')/\Q v S'
theorem zdt {Q:Option Int->Sto->Prop}:Wp zct l S Q=Q none S:=by
 apply propext
 exact ⟨λhx1_=>by obtain ⟨v,S',h,q⟩:=hx1_;cases h;exact q,λq=>⟨_,_,rfl,q⟩⟩
theorem zdu {e:EM}{Q:Option Int->Sto->Prop}:Wp (zcl e) l S Q=We e l S λx S1=>∃i,x=.int i/\Q (some i) S1:=by
 apply propext
 constructor
 ·rintro ⟨v,S',h,q⟩
  obtain ⟨⟨x,S1⟩,h1,h⟩:=bnd h
  refine ⟨x,S1,h1,?_⟩
  cases x with
  | int i=>cases h;exact ⟨i,rfl,q⟩
  | _=>cases h
 ·rintro ⟨x,S1,h1,i,rfl,q⟩
  exact ⟨_,S1,by unfold zcl;rw [h1];rfl,q⟩
theorem zdv {b:Int}{p:Int->Prop}:(∃k,D.int b=D.int k/\p k)=p b:=by
 apply propext;constructor
 ·rintro ⟨d,h,q⟩;cases h;exact q
 ·exact λq=>⟨b,rfl,q⟩
noncomputable def slA (x:D) (a b:Option Int) (S:Sto):Option (D × Sto):=match x with
 | .tup xs=>some (.tup (cutD xs a b),S)
 | .ref n=>(lstOf S n).bind λxs=>some (.ref S.length,S++[.lst (cutD xs a b)])
 | .str z=>if z.length<=sizeLine then some (.str (Txt.slice z a b),S) else none
 | _=>none
theorem zdw {m:EM}{lo hi:OM}:We (zcq m lo hi) l S Q=We m l S λx S1=>Wp lo l S1 λa S2=>Wp hi l S2 λb S3=>Wo (slA x a b S3) Q:=by
 apply propext
 constructor
 ·rintro ⟨v,S',h,q⟩
  obtain ⟨⟨x,S1⟩,h1,h⟩:=bnd h
  obtain ⟨⟨a,S2⟩,h2,h⟩:=bnd h
  obtain ⟨⟨b,S3⟩,h3,h⟩:=bnd h
  exact ⟨x,S1,h1,a,S2,h2,b,S3,h3,v,S',h,q⟩
 ·rintro ⟨x,S1,h1,a,S2,h2,b,S3,h3,v,S',h,q⟩
  refine ⟨v,S',?_,q⟩
  unfold zcq;rw [h1];show (lo l S1).bind _=_;rw [h2];show (hi l S2).bind _=_;rw [h3];exact h
theorem zdx {xs:List D}{a b:Option Int}:Wo (slA (.tup xs) a b S) Q=Q (.tup (cutD xs a b)) S:=zbb
theorem zrd {n:Nat}{xs:List D}{a b:Option Int}(h:lstOf S n=some xs):Wo (slA (.ref n) a b S) Q=Q (.ref S.length) (S++[.lst (cutD xs a b)]):=by
 show Wo ((lstOf S n).bind λxs=>some (.ref S.length,S++[.lst (cutD xs a b)])) Q=_
 rw [h];exact zbb
end
section
variable {it:ItM}{im:IM}{g:GM}{b:SM}
theorem zre (xs:List D) (P:Nat->Lo->Sto->Prop) (O:D->Sto->Prop) (hit:∀i l S,P i l S->it i S=some xs[i]?)
  (step:∀(i:Nat) x l S,xs[i]? = some x->P i l S->Wg (g x l S) λl1 S1=>Ws b l1 S1 λf l2 S2=>((f=.nx\/f=.ct)/\P (i+1) l2 S2)\/∃d,f=.rt d/\O d S2) :
  ∀(n i:Nat) (l:Lo) (S:Sto),n+i=xs.length->P i l S->Wr (zfq it g b (n+1) i l S) λf l' S'=>(f=.nx/\P xs.length l' S')\/∃d,f=.rt d/\O d S'
 | 0,i,l,S,hn,h=>by
  have hi:i=xs.length:=by omega
  have e0:=hit i l S h
  rw [List.getElem?_eq_none_iff.mpr (by omega)] at e0
  refine ⟨.nx,l,S,?_,.inl ⟨rfl,by rw [<-hi];exact h⟩⟩
  unfold zfq;rw [e0];rfl
 | n+1,i,l,S,hn,h=>by
  have hi:i<xs.length:=by omega
  have e0:=hit i l S h
  rw [qge hi] at e0
  obtain ⟨l1,S1,e1,f,l2,S2,e2,q⟩:=step i _ l S (qge hi) h
  rcases q with ⟨hf,h1⟩|⟨d,rfl,hd⟩
  ·obtain ⟨f',l',S',e3,q1⟩:=zre xs P O hit step n (i+1) l2 S2 (by omega) h1
   refine ⟨f',l',S',?_,q1⟩
   unfold zfq;rw [e0];show (g _ l S).bind _=_;rw [e1];show (b l1 S1).bind _=_;rw [e2]
   rcases hf with rfl|rfl <;> exact e3
  ·refine ⟨_,l2,S2,?_,.inr ⟨d,rfl,hd⟩⟩
   unfold zfq;rw [e0];show (g _ l S).bind _=_;rw [e1];show (b l1 S1).bind _=_;rw [e2];rfl
theorem zju (xs:List D) (P:Nat->Lo->Sto->Prop) (O:D->Sto->Prop) {l:Lo}{S S1:Sto}{QS:Fl->Lo->Sto->Prop}(him:im l S=some (it,xs.length+1,S1)) (h0:P 0 l S1) (hit:∀i l S,P i l S->it i S=some xs[i]?)
  (step:∀(i:Nat) x l S,xs[i]? = some x->P i l S->Wg (g x l S) λl1 S1=>Ws b l1 S1 λf l2 S2=>((f=.nx\/f=.ct)/\P (i+1) l2 S2)\/∃d,f=.rt d/\O d S2)
  (fin:∀l' S',P xs.length l' S'->QS .nx l' S') (out:∀d l' S',O d S'->QS (.rt d) l' S'):Ws (zha im g b) l S QS:=by
 obtain ⟨f,l',S',e,q⟩:=zre (it:=it) (g:=g) (b:=b) xs P O hit step xs.length 0 l S1 rfl h0
 refine ⟨f,l',S',by unfold zha;rw [him];exact e,?_⟩
 rcases q with ⟨rfl,h⟩|⟨d,rfl,h⟩
 ·exact fin l' S' h
 ·exact out d l' S' h
theorem ybu {e:EM}(xs:List D) (P:Nat->Lo->Sto->Prop) (O:D->Sto->Prop) {l:Lo}{S S1:Sto}{QS:Fl->Lo->Sto->Prop}(he:e l S=some (.tup xs,S1)) (h0:P 0 l S1)
  (step:∀(i:Nat) x l S,xs[i]? = some x->P i l S->Wg (g x l S) λl1 S1=>Ws b l1 S1 λf l2 S2=>((f=.nx\/f=.ct)/\P (i+1) l2 S2)\/∃d,f=.rt d/\O d S2)
  (fin:∀l' S',P xs.length l' S'->QS .nx l' S') (out:∀d l' S',O d S'->QS (.rt d) l' S'):Ws (zjf e g b) l S QS:=by
 rw [zyw]
 refine ⟨_,_,he,?_⟩
 refine (znk P O xs 0 l S1 h0 ?_).mono ?_
 ·intro i x l S hx hp
  rw [Nat.zero_add] at hp ⊢
  exact step i x l S hx hp
 ·rintro f l' S' (⟨rfl,hp⟩|⟨d,rfl,hd⟩)
  ·rw [Nat.zero_add] at hp;exact fin l' S' hp
  ·exact out d l' S' hd
end
theorem znl (B:Nat):∀ts:List Str,(∀t∈ts,t.length<=B)->(ts.map (·.length)).sum<=B*ts.length
 | [],_=>Nat.zero_le _
 | t :: ts,h=>by
  have h1:=h t List.mem_cons_self
  have h2:=znl B ts λx hx=>h x (List.mem_cons_of_mem _ hx)
  simp only [List.map_cons,List.sum_cons,List.length_cons]
  rw [Nat.mul_add];omega
theorem zrf (xs:List PyData):PyData.shownAll xs=xs.map PyData.shown:=by
 induction xs with
 | nil=>rfl
 | cons x xs ih=>unfold PyData.shownAll;rw [ih];rfl
theorem zrg (B:Nat) (xs:List PyData) (h:∀x∈xs,x.shown.length<=B):(PyData.list xs).shown.length<=B*xs.length+2*xs.length+3:=by
 show (listText (PyData.shownAll xs)).length<=_
 rw [zrf]
 have h1:=listText_len_le (xs.map PyData.shown)
 have h2:=znl B (xs.map PyData.shown) λt ht=>by
  obtain ⟨p,hp,rfl⟩:=List.mem_map.mp ht
  exact h p hp
 simp only [qlm] at h1 h2
 omega
theorem znm (B:Nat) (xs:List PyData) (h:∀x∈xs,x.shown.length<=B):(PyData.tuple xs).shown.length<=B*xs.length+2*xs.length+3:=by
 show (tupleText (PyData.shownAll xs)).length<=_
 rw [zrf]
 have h1:=tupleText_len_le (xs.map PyData.shown)
 have h2:=znl B (xs.map PyData.shown) λt ht=>by
  obtain ⟨p,hp,rfl⟩:=List.mem_map.mp ht
  exact h p hp
 simp only [qlm] at h1 h2
 omega
def Sh (S:Sto) (k B:Nat) (d:D):Prop:=∃p:PyData,p.shown.length<=B/\∀S',Gr S S'->zat S' k d=some p
theorem Sh.le {S:Sto}{k B B':Nat}{d:D}(h:Sh S k B d) (hb:B<=B'):Sh S k B' d:=let ⟨p,h1,h2⟩:=h;⟨p,Nat.le_trans h1 hb,h2⟩
theorem znn {S:Sto}{k B:Nat}:∀(xs:List D),(∀x∈xs,Sh S k B x)->∃ps:List PyData,ps.length=xs.length/\(∀p∈ps,p.shown.length<=B)/\∀S',Gr S S'->pyAll S' k xs=some ps
 | [],_=>⟨[],rfl,(λp hp=>by cases hp),λex _=>by unfold pyAll;rfl⟩
 | x :: xs,h=>by
  obtain ⟨p,h1,h2⟩:=h x List.mem_cons_self
  obtain ⟨ps,h3,h4,h5⟩:=znn xs λy hy=>h y (List.mem_cons_of_mem _ hy)
  refine ⟨p :: ps,by simp [h3],λq hq=>?_,λex g=>?_⟩
  ·rcases List.mem_cons.mp hq with rfl|hq
   ·exact h1
   ·exact h4 q hq
  ·unfold pyAll;rw [h2 ex g,h5 ex g];rfl
theorem zee {S:Sto}{k B n:Nat}{xs:List D}(h:∀x∈xs,Sh S k B x) (hn:xs.length<=n):Sh S (k+1) (B*n+2*n+3) (.tup xs):=by
 obtain ⟨ps,h1,h2,h3⟩:=znn xs h
 refine ⟨.tuple ps,?_,λex g=>?_⟩
 ·have:=znm B ps h2
  rw [h1] at this
  have h4:B*xs.length<=B*n:=Nat.mul_le_mul_left _ hn
  omega
 ·unfold zat;rw [h3 ex g];rfl
theorem zf5 {S:Sto}{k B n j:Nat}{xs:List D}(hj:lstOf S j=some xs) (h:∀x∈xs,Sh S k B x) (hn:xs.length<=n):Sh S (k+1) (B*n+2*n+3) (.ref j):=by
 obtain ⟨ps,h1,h2,h3⟩:=znn xs h
 refine ⟨.list ps,?_,λex g=>?_⟩
 ·have:=zrg B ps h2
  rw [h1] at this
  have h4:B*xs.length<=B*n:=Nat.mul_le_mul_left _ hn
  omega
 ·unfold zat;rw [g.lst hj];show (pyAll ex k xs).bind _=_;rw [h3 ex g];rfl
theorem zla {n:Nat}(h:n<1000000):((n:Nat):Int).natAbs.log2<1920:=by
 by_cases hz:n=0
 ·subst hz;decide
 ·have h1:((n:Nat):Int).natAbs=n:=by omega
  rw [h1]
  have h2:n.log2<20:=(Nat.log2_lt hz).mpr (Nat.lt_of_lt_of_le h (by decide))
  omega
theorem zfh {S:Sto}{k n:Nat}(h:n<1000000):Sh S (k+1) 10 (.int n):=by
 refine ⟨.int n,?_,λex _=>by unfold zat;rw [if_pos (zla h)]⟩
 show (PySem.Str.ofString (toString (n:Int))).length<=10
 exact PySem.W.KT.len_num (by omega) (by omega)
theorem zjv {S:Sto}{k:Nat}:Sh S (k+1) 10 .non:=⟨.none,by decide +kernel,λex _=>by unfold zat;rfl⟩
theorem zrh {S:Sto}{k B:Nat}{z:Str}(h:z.length<=B) (hc:∀c∈z.cps.toList,c<128):Sh S (k+1) (10*B+2) (.str z):=by
 refine ⟨.str z,?_,λex _=>by unfold zat;rfl⟩
 have:=StrLaws.reprText_len z λc hc'=>Nat.lt_of_lt_of_le (hc c hc') (by decide)
 show (PyData.str z).shown.length<=_;unfold PyData.shown
 omega
section
variable {l:Lo}{S:Sto}{Q:D->Sto->Prop}{QG:Lo->Sto->Prop}{a b c:EM}
theorem zin {neg:Bool}{x y:D}:Wo (zgt neg y x S) Q = ∃o,dRd S x y=some o/\Q (.bl (if neg then !o.isSome else o.isSome)) S:=by
 unfold zgt
 rw [zg6];simp only [zbb]
theorem zef {o i:EM}{v:D}:Wg (zk4 o i v l S) QG=We o l S λx S1=>We i l S1 λy S2=>∃S',zhu x y v S2=some S'/\QG l S':=by
 apply propext
 constructor
 ·rintro ⟨l',S',h,q⟩
  obtain ⟨⟨x,S1⟩,h1,h⟩:=bnd h
  obtain ⟨⟨y,S2⟩,h2,h⟩:=bnd h
  obtain ⟨S3,h3,h⟩:=bnd h
  cases h
  exact ⟨x,S1,h1,y,S2,h2,_,h3,q⟩
 ·rintro ⟨x,S1,h1,y,S2,h2,S3,h3,q⟩
  refine ⟨l,S3,?_,q⟩
  unfold zk4;rw [h1];show (i l S1).bind _=_;rw [h2];show (zhu x y v S2).bind _=_;rw [h3];rfl
theorem zjw {n:Nat}{kvs:List (List L2.Key × D)}{y:D}{k:List L2.Key}(h:S[n]? = some (.tdct kvs)) (hk:zf2 y=some k):dRd S (.ref n) y=some (zbq kvs k):=by
 unfold dRd;dsimp only;rw [h];dsimp only;rw [hk];rfl
end
theorem zbr {m n:SM}{l l':Lo}{S S':Sto}{QS:Fl->Lo->Sto->Prop}(h1:Ws m l S λf l1 S1=>f=.nx/\l1=l'/\S1=S') (h2:Ws n l' S' QS):Ws (zam m n) l S QS:=by
 rw [zc3]
 obtain ⟨f,l1,S1,e,rfl,rfl,rfl⟩:=h1
 exact ⟨_,_,_,e,h2⟩
theorem zdy {m n:SM}{l:Lo}{S:Sto}{QS:Fl->Lo->Sto->Prop}(R:Lo->Sto->Prop) (O:D->Sto->Prop) (h1:Ws m l S λf l1 S1=>(f=.nx/\R l1 S1)\/∃d,f=.rt d/\O d S1) (h2:∀l1 S1,R l1 S1->Ws n l1 S1 QS) (h3:∀d l1 S1,O d S1->QS (.rt d) l1 S1):Ws (zam m n) l S QS:=by
 rw [zc3]
 obtain ⟨f,l1,S1,e,q⟩:=h1
 rcases q with ⟨rfl,r⟩|⟨d,rfl,o⟩
 ·exact ⟨_,_,_,e,h2 l1 S1 r⟩
 ·exact ⟨_,_,_,e,h3 d l1 S1 o⟩
theorem Gr.set {A B:Sto}{r:Nat}(h:Gr A B) (hr:A.length<=r) (o:Ob):Gr A (B.set r o):=by
 obtain ⟨x,rfl⟩:=h
 exact ⟨x.set (r-A.length) o,by rw [List.set_append_right _ _ hr]⟩
theorem ybv {S:Sto}{n:Nat}{xs:List D}(h:S[n]? = some (.lst xs)):lstOf S n=some xs:=by unfold lstOf;rw [h]
theorem zba {S:Sto}{o:Ob}:(S++[o])[S.length]? = some o:=zfw S o
theorem zas {S:Sto}{n:Nat}{o o':Ob}(h:S[n]? = some o):(S++[o'])[n]? = some o:=by
 rw [List.getElem?_append_left (qme h).1];exact h
theorem zgw {S:Sto}{n:Nat}{o o':Ob}(h:S[n]? = some o):(S.set n o')[n]? = some o':=List.getElem?_set_self (qme h).1
theorem zf6 {S:Sto}{n m:Nat}{o o':Ob}(h:S[m]? = some o) (hn:n≠m):(S.set n o')[m]? = some o:=by rw [List.getElem?_set_ne hn];exact h
theorem zjx {S:Sto}{n:Nat}{xs:List D}{x:D}{Q:D->Sto->Prop}(h:S[n]? = some (.lst xs)) (hz:xs.length<sizeLine):Wo (zfe (.ref n) [x] S) Q=Q .non (S.set n (.lst (xs++[x]))):=by
 rw [zyu,h]
 apply propext
 constructor
 ·rintro ⟨ys,e,_,q⟩;cases e;exact q
 ·exact λq=>⟨xs,rfl,hz,q⟩
theorem zf7 {S:Sto}{n:Nat}{xs:List D}(h:S[n]? = some (.lst xs)):zia (.ref n) S=some xs:=ybv h
section
variable {X:Cx}
end
section
variable {X:Cx}{a:Expr}{es:List Expr}{mA:AM}{pos p:Pos}
end
noncomputable def zio:FM
 | [.ref n],S=>match S[n]? with
  | some (.lst xs)=>(zhc xs []).bind λkvs=>some (.ref S.length,S++[.tdct kvs])
  | _=>none
 | _,_=>none
theorem zri {ρ:List Addr}{H:Hp}:∀{xs:List D}{us:List V}{acc fin:List (List Key × D)}{vs:List V},RDs ρ H xs us->RDs ρ H (acc.map (·.2)) vs->zhc xs acc=some fin->∃ws,RDs ρ H (fin.map (·.2)) ws/\VF H us ((acc.map (·.1)).zip vs) ((fin.map (·.1)).zip ws)
 | [],us,acc,fin,vs,r,ra,h=>by
  cases r;cases h
  exact ⟨vs,ra,.nil _⟩
 | x :: xs,us,acc,fin,vs,r,ra,h=>by
  cases r with
  | cons r1 r2 =>
   unfold zhc at h
   split at h
   ·rename_i q;cases q
   ·rename_i k v rest q
    cases q
    obtain ⟨kk,h1,h2⟩:=bnd h
    cases r1 with
    | tup hb rb =>
     cases rb with
     | cons rk rb2 =>
      cases rb2 with
      | cons rv rb3 =>
       cases rb3
       obtain ⟨kb,rfl,hkb⟩:=zik h1 rk
       obtain ⟨vs',hp,rp⟩:=znc (k:=kk) rv ra
       obtain ⟨ws,h3,h4⟩:=zri r2 rp h2
       exact ⟨ws,h3,.cons hb hkb (by rw [hp];exact h4)⟩
   ·cases h
theorem ybw:bootBuiltins "dict" = some (.type "dict"):=by decide +kernel
theorem ybx {K:QFg}:Fn3 K zio zrb:=by
 intro ρ S H xs vs v S' Q sim r h p
 unfold zio at h
 split at h
 ·rename_i n
  obtain ⟨w,rfl,rw'⟩:=r.one
  cases rw' with
  | @ref _ a hn =>
   split at h
   ·rename_i ys e
    obtain ⟨kvs,h2,h⟩:=bnd h
    cases h
    obtain ⟨us,hH,rr⟩:=sim.at' _ a _ hn e
    obtain ⟨ws,rw2,vf⟩:=zri (acc:=[]) (vs:=[]) rr .nil h2
    refine ⟨a,us,_,rfl,hH,vf,λl hl=>?_⟩
    exact p (ρ++[l]) _ _ (zkg hl) (sim.pushG hl ⟨ws,zbw,rw2.mono (zkg hl)⟩) (.ref (by rw [<-sim.len];exact zfw ρ l))
   ·cases h
 ·cases h
section
variable {X:Cx}{a:Expr}{es:List Expr}{mA:AM}{pos p:Pos}{k:Nat}
theorem yby (hr:Room k X.A) (hg:Gl X "dict") (hm:X.mg "dict" = none) (ha:PA3 X (a :: es) mA) (he:starEach (a :: es) X.env=(false,eval a X.env) :: starEach es X.env:=by rfl) (hpl:(backTo pos (starEach es X.env)).any (·.1)=false:=by rfl):PE3 X (.Call (.Name "dict" p) (a :: es) [] pos) (zaf zio mA) :=
 zkn (ybl hr) ybx hg hm ybw ha (by decide) (by decide) he hpl
end
end L3
namespace HT
open PySem PyProof.Rows
theorem ybz (n:Nat):Builtin.Slice.slicePlaces ((n:Int)-1) (-1) (-1)=n:=by
 unfold Builtin.Slice.slicePlaces
 have h1:¬((-1:Int) > 0):=by decide
 simp only [h1,if_false,Int.neg_neg,Int.ediv_one]
 split <;> omega
theorem zrj {α β:Type}{f:α->Option β}{g:α->β}:∀{l:List α},(∀m∈l,f m=some (g m))->l.filterMap f=l.map g
 | [],_=>rfl
 | x :: l,h=>by rw [List.filterMap_cons,h x List.mem_cons_self,List.map_cons,zrj λm hm=>h m (List.mem_cons_of_mem _ hm)]
theorem yb0 (xs:Array Value):((List.range xs.size).filterMap λ(m:Nat)=>xs[(((xs.size:Int)-1)+(m:Int)*(-1)).toNat]?).toArray=xs.toList.reverse.toArray:=by
 congr 1
 have e:∀m∈List.range xs.size,xs[(((xs.size:Int)-1)+(m:Int)*(-1)).toNat]? = some (xs.toList.reverse.getD m .none):=λm hm=>by
  have hm:=List.mem_range.mp hm
  have e1:(((xs.size:Int)-1)+(m:Int)*(-1)).toNat=xs.size-1-m:=by omega
  rw [e1,Array.getElem?_eq_getElem (by omega)]
  congr 1
  rw [List.getD_eq_getElem?_getD,List.getElem?_reverse (by rw [Array.length_toList];exact hm),Array.length_toList,Array.getElem?_toList,Array.getElem?_eq_getElem (by omega)]
  rfl
 apply List.ext_getElem?
 intro i
 have e2:(List.range xs.size).filterMap (λ(m:Nat)=>xs[(((xs.size:Int)-1)+(m:Int)*(-1)).toNat]?)=(List.range xs.size).map λm=>xs.toList.reverse.getD m .none:=by
  exact zrj e
 rw [e2,qgm]
 by_cases hi:i<xs.size
 ·rw [List.getElem?_range hi]
  have hl:i<xs.toList.reverse.length:=by rw [List.length_reverse,Array.length_toList];exact hi
  rw [qge hl]
  show some (xs.toList.reverse.getD i .none)=_
  rw [List.getD_eq_getElem?_getD,qge hl];rfl
 ·rw [List.getElem?_eq_none (by simpa using hi),List.getElem?_eq_none (by simpa using hi)];rfl
section
variable {prog:Program}{w:World}{A:Around}{E:Value->Shared->Prop}{s:Shared}
theorem yb1 {sl:Addr}{u:Tok}{n:Nat}{Q:Int × Int × Nat->Shared->Prop}(hs:s.heap.IsSliceOf sl .none .none (.int (-1) u)) (h:Q ((n:Int)-1,-1,n) s):wpAny (model prog w) A (Builtin.Slice.sliceApplied (.ref sl) (pure (n:Int))) Q E s:=by
 obtain ⟨os,hos,hcs,hds⟩:=id hs
 unfold Builtin.Slice.sliceApplied Builtin.Slice.sliceFields
 refine qwb (qwb (wpAny_field hos hds (x:=.none) rfl (qwb (wpAny_field hos hds (x:=.none) rfl (qwb (wpAny_field hos hds (x:=.int (-1) u) rfl (qwp ?_)))))))
 refine qwb (slicePart_int ?_)
 show wpAny _ _ (if ((-1:Int) == 0)=true then _ else _) _ _ s
 rw [if_neg (by decide)]
 refine qwb (slicePart_none (qwb (slicePart_none (qwb (qwp ?_)))))
 show wpAny _ _ (pure ((n:Int)-1,(-1:Int),Builtin.Slice.slicePlaces ((n:Int)-1) (-1) (-1))) _ _ s
 rw [ybz]
 exact qwp h
theorem getItem_tuple_rev {t sl:Addr}{items:Array Value}{u:Tok}{Q:Value->Shared->Prop}(ht:IsTup s.heap t items) (hs:s.heap.IsSliceOf sl .none .none (.int (-1) u)) (hsz:items.size<=sizeLine)
  (h:Q (.ref s.heap.objs.size) { s with heap:=s.heap.push { cls:=.type "tuple",data:=.seq items.toList.reverse.toArray } }):wpAny (model prog w) A (getItem (.ref t) (.ref sl)) Q E s:=by
 have htake:sizeOk (.seq items.toList.reverse.toArray):=by
  show items.toList.reverse.toArray.size<=sizeLine
  simpa using hsz
 obtain ⟨os,hos,hcs,hds⟩:=id hs
 have hTs:s.TypeIs (.ref sl) "slice":=⟨os,hos,hcs⟩
 unfold getItem
 try with_reducible refine wpAny_holding ?_
 first|refine qwb (qwp ?_)|skip
 refine qwb (wpAny_sequenceKey ht.typeIs (by decide) ?_)
 refine qwb (wpAny_callSpecial?_slot (name:=Str.ofString "__getitem__") ht.typeIs PyProof.Rows.slot_tuple_getitem
  (wpAny_call_entry PyProof.Rows.slot_tuple_getitem ht.typeIs entry_tuple_getitem ?_ (args_tuple_getitem _ _)))
 show wpAny _ _ (Builtin.Tuple.tupleItemsOf (.ref t) >>= _) _ _ s
 refine qwb (tupleItemsOf_ ht ?_)
 refine qwb (wpAny_typeOf hTs ?_)
 rw [if_pos (by decide)]
 refine qwb (yb1 hs ?_)
 have hno:¬((((items.size:Int)-1) == 0 && (-1:Int) == 1 && items.size == items.size)=true):=by
  intro q
  rw [Bool.and_eq_true,Bool.and_eq_true] at q
  exact absurd q.1.2 (by decide)
 show wpAny _ _ (if (((items.size:Int)-1) == 0 && (-1:Int) == 1 && items.size == items.size)=true then _ else _) _ _ s
 rw [if_neg hno,yb0]
 first
  | exact qwb (m:=Builtin.Tuple.tupleExact _) (wpAny_newObj_type (qwp ⟨_,rfl,qwp h⟩) htake)
  | exact qwb (m:=Builtin.Tuple.tupleExact _) (wpAny_newObj_type (qwb (qwp (qwp ⟨_,rfl,qwp h⟩))) htake)
  | exact qwb (qwb (m:=Builtin.Tuple.tupleExact _) (wpAny_newObj_type (qwp (qwp ⟨_,rfl,qwp h⟩)) htake))
  | exact qwb (qwb (m:=Builtin.Tuple.tupleExact _) (wpAny_newObj_type (qwp ⟨_,rfl,qwp h⟩) htake))
end
end HT
namespace L3
open PySem PySem.Spec PyProof.Rows L2
theorem zrk:∀{xs:List V}{us:List Value},Vals xs us->Vals xs.reverse us.reverse
 | _,_,.nil=>.nil
 | _,_,.cons r t=>by rw [List.reverse_cons,List.reverse_cons];exact Vals.append (zrk t) (.cons r .nil)
section
variable {X:Cx}{e:Expr}{te:TE}{p1 p2 p3 p4 pos:Pos}{j:Nat}
theorem yb2 (he:PE X e te):PE X (.Subscript e (.Slice none none (some (.UnaryOp .USub (.Constant (.int 1) j p3) p4)) p2) pos) (λσ H Q=>te σ H λx H1=>∃a xs,x=.ref a/\SqT X.K H1 a xs/\∀p,H1 p=none->Q (.ref p) (upd H1 p (.tup xs.reverse))):=by
 intro pins s σ H Q I h
 refine Subscript_ (thn (he pins s σ H _ I h) λv s1 ⟨x,H1,I1,r1,a,xs,ex,hx,q⟩=>?_)
 subst ex
 cases r1
 refine wpAny_Slice ?_
 rw [evalPart_none]
 refine qwp (qwp ?_)
 rw [evalPart_some]
 refine thn ((zoi zok zoc) pins s1 σ H1 (λv H'=>v=.int (-1)/\H' = H1) I1 ⟨1,rfl,rfl,rfl⟩) λu s2 ⟨y,H2,I2,r2,ey,eh⟩=>?_
 subst ey eh
 obtain ⟨t,rfl⟩:=r2
 have I3:Inv X pins σ H2 { s2 with heap:=s2.heap.push { cls:=.type "slice",data:=.fields #[.none,.none,.int (-1) t] } }:=I2.kept (t':=s2.toks) λb ob q=>qps _ q
 obtain ⟨its,r,ht,hz⟩:=I3.tuple hx
 have hlen:its.toArray.size=xs.length:=by rw [List.size_toArray];exact r.length.symm
 show wpAny (model X.prog X.w) X.A (subscriptTail e (.Slice none none (some (.UnaryOp .USub (.Constant (.int 1) j p3) p4)) p2) (.ref a) (.ref s2.heap.objs.size)) (EP X pins σ Q) X.xe { s2 with heap:=s2.heap.push { cls:=.type "slice",data:=.fields #[.none,.none,.int (-1) t] } }
 refine tail_any (ops:=[.ref a,.ref s2.heap.objs.size]) ht.typeIs PyProof.Rows.slot_tuple_getitem.lookup (HT.getItem_tuple_rev ht (Heap.IsSliceOf.new ..) (by rw [hlen];exact hz) ?_) (by with_unfolding_all rfl)
 refine ⟨.ref _,_,I3.laid (t':=s2.toks) (o:=.tup xs.reverse) (λb ob q=>qps _ q) (qlr _) ⟨by rw [List.length_reverse];exact hz,its.reverse,zrk r,?_⟩,rfl,q _ (I3.hok.fresh (qlr _))⟩
 exact IsTD.new _ _
noncomputable def ziq (m:EM):EM:=λl S=>(m l S).bind λp=>match p.1 with
 | .tup xs=>some (.tup xs.reverse,p.2)
 | _=>none
theorem yb3 {ma:EM}(ha:PE3 X e ma):PE3 X (.Subscript e (.Slice none none (some (.UnaryOp .USub (.Constant (.int 1) j p3) p4)) p2) pos) (ziq ma):=PE.imp (yb2 ha) λσ H Q hx=>by
 obtain ⟨ρ,l,S,v,S',sim,ro,hm,p⟩:=hx
 obtain ⟨⟨x,S1⟩,h1,hm⟩:=bnd hm
 dsimp only at hm
 split at hm
 ·cases hm
  refine ⟨ρ,l,S,_,S',sim,ro,h1,λρ1 H1 x' e1 s1 r1=>?_⟩
  cases r1 with
  | tup ha rs=>exact ⟨_,_,rfl,.of ha,λq hq=>p ρ1 _ _ (e1.trans (zbx hq)) (s1.laid hq) (.tup zbw (rs.reverse.mono (zbx hq)))⟩
 ·cases hm
end
theorem yb4 {i k:Int}{u v:Value}(h:i≠k):merged ([]:List (Key × Value)) [(Sum.inl i,u),(Sum.inl k,v)]=[(Sum.inl i,u),(Sum.inl k,v)]:=by
 simp [merged,stored,h,Ne.symm h]
section
variable {X:Cx}{pos:Pos}
theorem yb5 {i k a b:Int}{j1 j2 j3 j4:Nat}{p1 p2 p3 p4:Pos}(hik:i≠k) :
  PE X (.Dict [some (.Constant (.int i) j1 p1),some (.Constant (.int k) j2 p2)] [.Constant (.int a) j3 p3,.Constant (.int b) j4 p4] pos) (λσ H Q=>∀p,H p=none->Q (.ref p) (upd H p (.dK [(Sum.inl i,.int a),(Sum.inl k,.int b)]))):=by
 intro pins s σ H Q I q
 have hn:=I.fresh
 have I1:=I.laid (a:=s.heap.objs.size) (o:=.dK []) (h':=s.heap.push { cls:=.type "dict",data:=.dict #[] }) (t':=s.toks) (λ_ _ q=>qps _ q) (qlr _)
  ⟨Nat.zero_le _,beq_eq_false_iff_ne.mpr (Ne.symm (Nat.ne_of_lt (zqm I))),[],.nil,Heap.DictOf.new s.heap⟩
 refine wpAny_Dict_walk (knd:=zde X.prog X.w) rfl rfl (by simp) (by simp) ?_
 refine pairTrees_cons_walk (wpAny_Constant_int (wpAny_Constant_int ?_))
 refine pairTrees_cons_walk (wpAny_Constant_int (wpAny_Constant_int ?_))
 refine pairTrees_nil_walk ?_
 obtain ⟨_,hd,vs0,r0,dd⟩:=I1.hok s.heap.objs.size _ zbw
 cases r0
 refine ⟨[(Sum.inl i,_),(Sum.inl k,_)],⟨zlu X.prog X.w i _,rfl,zlu X.prog X.w k _,rfl,trivial⟩,dd,λh' dd' hs=>?_⟩
 rw [yb4 hik] at dd'
 obtain ⟨o,es,ep,ho,hr⟩:=id dd'
 have I3:=I1.write (x:=s.heap.objs.size) (e:=s.heap.objs.size) (o:=.dK [(Sum.inl i,.int a),(Sum.inl k,.int b)]) (h':=h') (t':=s.toks+1+1+1+1) (by rw [zbw];exact trivial) (.inl rfl) (λb o hb e=>hs.extBut b o hb e) ⟨o,ho⟩
  ⟨by show 2<=sizeLine;decide,hd,_,.cons ⟨rfl,_,rfl⟩ (.cons ⟨rfl,_,rfl⟩ .nil),dd'⟩
 rw [zlv] at I3
 exact ⟨.ref s.heap.objs.size,_,I3.tok _,rfl,q _ hn⟩
noncomputable def zno (i a k b:Int):EM:=λ_ S=>some (.ref S.length,S++[.dct [(Sum.inl i,.int a),(Sum.inl k,.int b)]])
theorem yb6 {i k a b:Int}{j1 j2 j3 j4:Nat}{p1 p2 p3 p4:Pos}(hik:i≠k):PE3 X (.Dict [some (.Constant (.int i) j1 p1),some (.Constant (.int k) j2 p2)] [.Constant (.int a) j3 p3,.Constant (.int b) j4 p4] pos) (zno i a k b):=PE.imp (yb5 hik) λσ H Q hx=>by
 obtain ⟨ρ,l,S,v,S',sim,ro,hm,p⟩:=hx
 cases hm
 intro d hd
 exact p (ρ++[d]) _ _ (zkg hd) (sim.pushG hd ⟨[.int a,.int b],zbw,.cons (.int a) (.cons (.int b) .nil)⟩) (.ref (by rw [<-sim.len];exact zfw ρ d))
end
section
variable {prog:Program}{w:World}{h₀:Heap}{a:Addr}{A:Around}{E:Value->Shared->Prop}{s:Shared}{Q:Value->Shared->Prop}
theorem yb7 {o:Obj}{l:List Value}{n:Nat}{xs:List PyData}{bs:List Addr}(h1:h₀.get? a=some o) (h2:o.cls=.type "list") (h3:o.data=.seq l.toArray n) (h4:ReadsAll h₀ l xs bs) (hs:PyData.showableAll xs=true) (hsm:sysModules ∉ bs)
  (hg:A.guards=some []) (hu:A.units+(PyData.depthAll xs+2)<cLine) (hk0:∀b o,h₀.get? b=some o->s.heap.get? b=some o)
  (hQ:∀h' u tk,(∀b o,s.heap.get? b=some o->h'.get? b=some o)->Q (.str (PyData.list xs).shown u) { s with heap:=h',toks:=tk })
  (hsz:(PyData.list xs).shown.length<=sizeLine):wpAny (model prog w) A (call (.builtin "repr") [.ref a]) Q E s:=by
 have h4':ReadsAll h₀ l.toArray.toList xs bs:=by simpa using h4
 have hz':(listText (PyData.shownAll xs)).length<=sizeLine:=by simpa only [PyData.shown] using hsz
 obtain ⟨cs,hb,hk⟩:=ReprAllK.of_readsAll (prog:=prog) (w:=w) h4' hs (λ_=>hsm) λt ht=>Nat.le_trans (listText_mem_le ht) hz'
 have hna:a ∉ cs:=not_mem_of_deeper (.list h1 h2 h3 h4') (by simp only [PyData.depth];omega) hb
 refine call_repr_slot (by omega) ⟨o,hk0 _ _ h1,h2⟩ F.slot_list_repr.toG ?_
 simp only [PyData.shown] at hQ
 cases l with
 | nil =>
  cases h4
  simp only [PyData.shownAll,listText_nil] at hQ
  exact call_list_repr_empty ⟨o,hk0 _ _ h1,h2⟩ (hk0 _ _ h1) h3 ⟨_,_,rfl,hQ s.heap _ _ λ_ _ e=>e⟩
 | cons x l =>
  exact call_list_reprK h1 h2 h3 hna (by simpa using hk.length_eq) (λi y e=>hk.item i y (by simpa using e)) hg (λb _=>Clear.nil b) (by show A.units+1+_<_;omega) hk0 (λh' u tk k=>⟨_,_,rfl,hQ h' u tk k⟩) hz'
end
noncomputable def sm (i:Int):Bool:=decide (i.natAbs.log2<1920)
noncomputable def pyE (S:Sto) (k:Nat) (d:D):Option PyData:=match pyT S k d with
 | some p=>some p
 | none=>match d with
  | .ref n=>match S[n]? with
   | some (.dct [(Sum.inl i,.int a),(Sum.inl j,.int b)])=>if sm i && sm a && sm j && sm b then some (.dict [(.int i,.int a),(.int j,.int b)]) else none
   | _=>none
  | _=>none
noncomputable def zir (S:Sto) (k:Nat):List D->Option (List PyData)
 | []=>some []
 | x :: xs=>(pyE S k x).bind λd=>(zir S k xs).bind λds=>some (d :: ds)
section
variable {X:Cx}{pins:List (Addr × Obj)}{σ:L2.St}{H:Hp}{s:Shared}{ρ:List Addr}{S:Sto}
theorem yb8 (I:Inv X pins σ H s) (sim:Sim X.K ρ S H) {k:Nat}{d:D}{v:V}{u:Value}{p:PyData}(r:RD ρ H d v) (e:RelV v u) (h:pyE S (k+1) d=some p):(∃as,Reads s.heap u p as/\sysModules ∉ as)/\p.showable=true/\p.depth<=k+1:=by
 unfold pyE at h
 split at h
 ·rename_i e1
  cases h
  exact zkx I sim (k+1) d v u p r e e1
 ·split at h
  ·split at h
   ·rename_i i a j b e0
    obtain ⟨hsm,e2⟩:=zbd h
    cases e2
    simp only [sm,Bool.and_eq_true,decide_eq_true_eq] at hsm
    obtain ⟨⟨⟨hi,ha⟩,hj⟩,hb⟩:=hsm
    cases r with
    | @ref _ ad hn =>
     cases e
     obtain ⟨vs,hH,r2⟩:=sim.at' _ ad _ hn e0
     obtain ⟨v1,v2,rfl,rv1,rv2⟩:=r2.two
     cases rv1;cases rv2
     obtain ⟨_,hd,ws,r0,o,es,ep,ho,hx,hdt,_,hp,_⟩:=I.hok ad _ hH
     have hx1:o.cls=.type "dict":=hx.1
     cases r0 with
     | @cons _ q0 _ _ hq t =>
      cases t with
      | @cons _ q9 _ _ hq9 t =>
       cases t
       obtain ⟨q1,q2⟩:=q0
       obtain ⟨q3,q4⟩:=q9
       obtain ⟨hq1,t2,hq2⟩:=hq
       obtain ⟨hq3,t4,hq4⟩:=hq9
       dsimp only at hq1 hq2 hq3 hq4
       subst hq1 hq2 hq3 hq4
       cases hes:es.toList with
       | nil=>rw [hes] at hp;cases hp
       | cons e1 el =>
        rw [hes] at hp
        cases hp with
        | cons hk1 hv1 ht =>
         cases el with
         | nil=>cases ht
         | cons e3 el =>
          cases ht with
          | cons hk3 hv3 ht =>
           cases ht
           obtain ⟨i',t',e5,e6⟩|⟨x',t',e5,e6⟩:=ze8 (show zgd (Sum.inl i) e1.key=true from hk1)
           ·cases e5
            obtain ⟨j',t'',e7,e8⟩|⟨x',t'',e7,e8⟩:=ze8 (show zgd (Sum.inl j) e3.key=true from hk3)
            ·cases e7
             have hv1:e1.val=.int a t2:=hv1
             have hv3:e3.val=.int b t4:=hv3
             refine ⟨⟨_,.dict (kvs:=[(.int i,.int a),(.int j,.int b)]) ho hx1 hdt (as:=[]) (bs:=[]) ?_ ?_,?_⟩,?_,?_⟩
             ·rw [hes]
              simp only [List.map_cons,List.map_nil,e6,e8]
              have:=ReadsAll.cons (h:=s.heap) (Reads.int i t') (ReadsAll.cons (Reads.int j t'') ReadsAll.nil)
              simpa using this
             ·rw [hes]
              simp only [List.map_cons,List.map_nil,hv1,hv3]
              have:=ReadsAll.cons (h:=s.heap) (Reads.int a t2) (ReadsAll.cons (Reads.int b t4) ReadsAll.nil)
              simpa using this
             ·simp only [List.append_nil,List.mem_singleton]
              exact λz=>by subst z;simp at hd
             ·unfold PyData.showable PyData.showableKv PyData.showableKv PyData.showableKv
              have f:∀{z:Int},z.natAbs.log2<1920->(PyData.int z).showable=true:=λh=>by unfold PyData.showable;exact decide_eq_true h
              rw [f hi,f ha,f hj,f hb];rfl
             ·unfold PyData.depth PyData.depthKv PyData.depthKv PyData.depthKv
              have f:∀z:Int,(PyData.int z).depth=0:=λz=>rfl
              rw [f,f,f,f];omega
            ·cases e7
           ·cases e5
   ·cases h
  ·cases h
theorem zrl (I:Inv X pins σ H s) (sim:Sim X.K ρ S H) {k:Nat}:∀{xs:List D}{vs:List V}{us:List Value}{ds:List PyData},RDs ρ H xs vs->Vals vs us->zir S (k+1) xs=some ds->(∃as,ReadsAll s.heap us ds as/\sysModules ∉ as)/\PyData.showableAll ds=true/\PyData.depthAll ds<=k+1
 | [],_,_,_,.nil,.nil,h=>by cases h;exact ⟨⟨_,.nil,by simp⟩,rfl,Nat.zero_le _⟩
 | x :: xs,_,_,ds,.cons r1 r2,.cons e1 e2,h=>by
  unfold zir at h
  obtain ⟨d,h1,h⟩:=bnd h
  obtain ⟨ds',h2,h⟩:=bnd h
  cases h
  obtain ⟨⟨as,q1,q5⟩,q2,q4⟩:=yb8 I sim r1 e1 h1
  obtain ⟨⟨bs,p1,p5⟩,p2,p4⟩:=zrl I sim r2 e2 h2
  refine ⟨⟨_,.cons q1 p1,by simp only [List.mem_append,not_or];exact ⟨q5,p5⟩⟩,?_,?_⟩
  ·unfold PyData.showableAll;rw [q2,p2];rfl
  ·unfold PyData.depthAll;omega
end
noncomputable def txU (p:PyData) (S:Sto):Option (D × Sto):=if p.shown.length<=sizeLine then some (.str p.shown,S) else none
noncomputable def zgx:FM
 | [.ref n],S=>match S[n]? with
  | some (.lst xs)=>(zir S 100 xs).bind λds=>txU (.list ds) S
  | some (.tdct [([Sum.inl i,Sum.inl j],.bl b)])=>if sm i && sm j then txU (.dict [(.tuple [.int i,.int j],.bool b)]) S else none
  | _=>none
 | _,_=>none
def zrm (K:QFg):List V->Hp->VK->Prop:=λxs H Q=>∃v ρ S d z S',xs=[v]/\Sim K ρ S H/\RD ρ H d v/\zgx [d] S=some (.str z,S')/\Q (.str z) H
section
variable {X:Cx}{a:Expr}{es:List Expr}{mA:AM}{pos p:Pos}
theorem yb9 {k:Nat}(hr:Room k X.A):CallR X (.builtin "repr") (zrm X.K):=by
 intro pins s σ H xs us Q I r h
 obtain ⟨v,ρ,S,d,z,S',rfl,sim,rd,hp,q⟩:=h
 obtain ⟨u,rfl,ru⟩:=ze9 r
 unfold zgx at hp
 split at hp
 ·rename_i n T heq
  cases heq
  cases rd with
  | @ref _ ad hn =>
   cases ru
   split at hp
   ·rename_i xs e0
    obtain ⟨ds,h1,hp⟩:=bnd hp
    unfold txU at hp
    obtain ⟨hz,e⟩:=zbd hp
    cases e
    obtain ⟨vs,hH,r2⟩:=sim.at' _ ad _ hn e0
    obtain ⟨zz,its,n2,rv,ho⟩:=I.hok ad _ hH
    obtain ⟨⟨as,k1,k2⟩,k3,k4⟩:=zrl I sim r2 rv h1
    exact yb7 ho rfl rfl k1 k3 k2 hr.gd (by have:=hr.un;omega) (λ_ _ e=>e) (λh' u tk hk=>⟨.str _,H,I.kept hk,⟨u,rfl⟩,q⟩) hz
   ·rename_i i j b e0
    obtain ⟨hsm,hp⟩:(sm i && sm j)=true/\txU (.dict [(.tuple [.int i,.int j],.bool b)]) _=some (.str z,S'):=by
     by_cases hc:(sm i && sm j)=true
     ·rw [if_pos hc] at hp;exact ⟨hc,hp⟩
     ·rw [if_neg hc] at hp;cases hp
    simp only [sm,Bool.and_eq_true,decide_eq_true_eq] at hsm
    unfold txU at hp
    obtain ⟨hz,e⟩:=zbd hp
    cases e
    obtain ⟨vs,hH,r2⟩:=sim.at' _ ad _ hn e0
    obtain ⟨v1,rfl,rv1⟩:=r2.one
    cases rv1
    obtain ⟨_,hd,xs,r0,o,es,ep,ho,hx,hdt,hes,_⟩:=I.hok ad _ hH
    cases r0 with
    | @cons _ q0 _ _ hq t =>
     cases t
     obtain ⟨q1,q2,q3⟩:=q0
     obtain ⟨hq1,hq2,hq3⟩:=hq
     dsimp only at hq1 hq2 hq3
     subst hq1
     cases hq3
     obtain ⟨z1,its,rv,htd⟩:=I.hok q2 _ hq2
     obtain ⟨ot,hot,hct,nt,hdt2,_⟩:=htd
     have hrv:Vals [V.int i,V.int j] its:=rv
     cases hrv with
     | cons w1 w2 =>
      cases w2 with
      | cons w3 w4 =>
       cases w4
       obtain ⟨t1,rfl⟩:=w1
       obtain ⟨t2,rfl⟩:=w3
       have hsys:q2≠sysModules\/True:=.inr trivial
       have key:Reads s.heap (.ref ad) (.dict [(.tuple [.int i,.int j],.bool b)]) (ad :: []++[]):=by
        refine .dict (kvs:=[(.tuple [.int i,.int j],.bool b)]) ho hx.1 hdt ?_ ?_
        ·rw [hes]
         simp only [List.map_cons,List.map_nil,entryOfKey]
         have:=ReadsAll.cons (h:=s.heap) (Reads.tuple hot hct hdt2 (by simpa using ReadsAll.cons (h:=s.heap) (Reads.int i t1) (ReadsAll.cons (Reads.int j t2) ReadsAll.nil))) ReadsAll.nil
         simpa using this
        ·rw [hes]
         simp only [List.map_cons,List.map_nil,entryOfKey]
         have:=ReadsAll.cons (h:=s.heap) (Reads.bool b) ReadsAll.nil
         simpa using this
       refine repr_of_reads' key ?_ (λ_=>?_) hr.gd ?_ (λ_ _ e=>e) (λh' u tk hk=>⟨.str _,H,I.kept hk,⟨u,rfl⟩,q⟩) hz
       ·unfold PyData.showable PyData.showableKv PyData.showableKv
        have f:∀{z:Int},z.natAbs.log2<1920->(PyData.int z).showable=true:=λh=>by unfold PyData.showable;exact decide_eq_true h
        have g:(PyData.tuple [.int i,.int j]).showable=true:=by unfold PyData.showable PyData.showableAll PyData.showableAll PyData.showableAll;rw [f hsm.1,f hsm.2];rfl
        rw [g];rfl
       ·simp only [List.append_nil,List.mem_singleton]
        exact λz=>by subst z;simp at hd
       ·have:=hr.un
        have:(PyData.dict [(.tuple [.int i,.int j],.bool b)]).depth<=10:=by simp [PyData.depth,PyData.depthKv,PyData.depthAll]
        omega
   ·cases hp
 ·cases hp
theorem yca {K:QFg}:Fn3 K zgx (zrm K):=by
 intro ρ S H xs vs v S' Q sim r h p
 have key:∃d z,xs=[d]/\v=.str z/\S' = S:=by
  unfold zgx at h
  split at h
  ·split at h
   ·obtain ⟨ds,h1,h⟩:=bnd h
    unfold txU at h
    obtain ⟨hz,e⟩:=zbd h
    cases e
    exact ⟨_,_,rfl,rfl,rfl⟩
   ·split at h
    ·unfold txU at h
     obtain ⟨hz,e⟩:=zbd h
     cases e
     exact ⟨_,_,rfl,rfl,rfl⟩
    ·cases h
   ·cases h
  ·cases h
 obtain ⟨d,z,rfl,rfl,rfl⟩:=key
 obtain ⟨w,rfl,rw'⟩:=r.one
 exact ⟨w,ρ,_,d,z,_,rfl,sim,rw',h,p ρ H _ (Ext.refl ..) sim (.str _)⟩
noncomputable def zdc:FM:=λxs S=>match zf1 xs S with|some v=>some v|none=>zgx xs S
theorem ycb {K:QFg}{f g:FM}{r r':List V->Hp->VK->Prop}(h:Fn3 K f r) (h':Fn3 K g r'):Fn3 K (λxs S=>match f xs S with|some v=>some v|none=>g xs S) (λxs H Q=>r xs H Q\/r' xs H Q):=by
 intro ρ S H xs vs v S' Q sim rr hm p
 dsimp only at hm
 cases e:f xs S with
 | some w=>rw [e] at hm;cases hm;exact .inl (h ρ S H xs vs _ _ Q sim rr e p)
 | none=>rw [e] at hm;exact .inr (h' ρ S H xs vs _ _ Q sim rr hm p)
theorem zhg {k:Nat}(hr:Room k X.A) (hg:Gl X "repr") (hm:X.mg "repr" = none) (ha:PA3 X (a :: es) mA) (he:starEach (a :: es) X.env=(false,eval a X.env) :: starEach es X.env:=by rfl) (hpl:(backTo pos (starEach es X.env)).any (·.1)=false:=by rfl):PE3 X (.Call (.Name "repr" p) (a :: es) [] pos) (zaf zdc mA) :=
 zkm (CallR.or3 (CallR.or3 (zzu hr) (zyy hr)) (yb9 hr)) (ycb (zzw zzv zyz) yca) hg hm zy0 ha (by decide) (by decide) he hpl
end
def zrn (K:QFg) (neg:Bool):R2:=λx y H Q=>∃ρ S dx xs p qs a us,Sim K ρ S H/\RD ρ H dx x/\y=.ref a/\SqT K H a us/\RDs ρ H xs us/\zat S 60 dx=some p/\pyAll S 60 xs=some qs/\p.canLay0=true/\PyData.canLayAll0 qs=true/\Q (.bl (if neg then !qs.any λq=>q.eqv p else qs.any λq=>q.eqv p)) H
noncomputable def zhh (neg:Bool):D->D->Sto->Option (D × Sto)
 | x,.tup xs,S=>(zat S 60 x).bind λp=>(pyAll S 60 xs).bind λqs=>if p.canLay0=true/\PyData.canLayAll0 qs=true then some (.bl (if neg then !qs.any λq=>q.eqv p else qs.any λq=>q.eqv p),S) else none
 | _,_,_=>none
section
variable {X:Cx}{k:Nat}
theorem ycc (hr:Room k X.A):OpR X (compareOp .NotIn) (zrn X.K true):=by
 intro pins s σ H x y v u Q I rx ry h
 obtain ⟨ρ,S,dx,xs,p,qs,a,us,sim,r1,rfl,sq,r2,h1,h2,c1,c2,hq⟩:=h
 cases ry
 obtain ⟨⟨as,k1⟩,_,_,k2⟩:=zji I sim 60 dx x v p r1 rx h1
 obtain ⟨its,rv,pl,_⟩:=I.tuple sq
 obtain ⟨⟨bs,k3⟩,_,_,_⟩:=zyx I sim 60 xs us its qs r2 rv h2
 refine SeqAt.notIn_tupleAt (eqR s.heap p) (show s.heap.IsTuple a its.toArray from pl) (λw hw=>zq3 k1 c1 (by have:=hr.un;show X.A.units+1+_<_;omega) k3 c2 w (by simpa using hw)) ⟨.bl _,H,I,rfl,?_⟩
 rw [ya3 (zq2 k3 c2)]
 exact hq
theorem ycd {K:QFg}{neg:Bool}:Op3 K (zhh neg) (zrn K neg):=by
 intro ρ S H x y x' y' v S' Q sim rx ry h p
 unfold zhh at h
 split at h
 ·obtain ⟨d1,h2,h⟩:=bnd h
  obtain ⟨ds,h3,h⟩:=bnd h
  obtain ⟨hc,e⟩:=zbd h
  cases e
  cases ry with
  | tup ha rv=>exact ⟨ρ,_,x,_,d1,ds,_,_,sim,rx,rfl,SqT.of ha,rv,h2,h3,hc.1,hc.2,p ρ H _ (Ext.refl ..) sim (.bl _)⟩
 ·cases h
variable {a b:Expr}{ma mb:EM}{pos:Pos}
theorem yce (hr:Room k X.A) (ha:PE3 X a ma) (hb:PE3 X b mb) (hm:behindInMarks .NotIn b=false:=by rfl):PT3 X (.Compare a [.NotIn] [b] pos) (tE (eOp (zhh true) ma mb)):=zfb (ycc hr) (ycd (neg:=true)) ha hb hm
end
noncomputable def tyE (S:Sto) (d:D):Option String:=match tyD S d with
 | some T=>some T
 | none=>match d with
  | .ref n=>match S[n]? with
   | some (.tdct _)=>some "dict"
   | _=>none
  | _=>none
noncomputable def zgy (U:String):D->Sto->Option (D × Sto):=λx S=>(tyE S x).bind λT=>some (.bl (isI T U),S)
section
variable {X:Cx}{a:Expr}{ma:EM}{pos p p2:Pos}
theorem ycf {K:QFg}{ρ:List Addr}{S:Sto}{H:Hp}{x:D}{x':V}{T:String}(s1:Sim K ρ S H) (r1:RD ρ H x x') (h2:tyE S x=some T):TyOf K H x' (.type T)/\T∈["NoneType","bool","int","str","tuple","list","dict"]:=by
 cases r1 with
 | non=>cases h2;exact ⟨.non,by decide⟩
 | bl b=>cases h2;exact ⟨.bl b,by decide⟩
 | int b=>cases h2;exact ⟨.int b,by decide⟩
 | str b=>cases h2;exact ⟨.str b,by decide⟩
 | tup hh rr=>cases h2;exact ⟨.tup hh,by decide⟩
 | @ref n b hn =>
  unfold tyE at h2
  split at h2
  ·rename_i e
   cases h2
   unfold tyD at e
   dsimp only at e
   split at e
   ·rename_i ys ey
    cases e
    obtain ⟨a',us,ha',hH,r2⟩:=s1.lst ey
    rw [ha'] at hn;cases hn
    exact ⟨.lst hH,by decide⟩
   ·rename_i kvs ey
    cases e
    obtain ⟨us,hH,r2⟩:=s1.at' n b _ hn ey
    exact ⟨.dK hH,by decide⟩
   ·cases e
  ·dsimp only at h2
   split at h2
   ·rename_i kvs ey
    cases h2
    obtain ⟨us,hH,r2⟩:=s1.at' n b _ hn ey
    exact ⟨.dT hH,by decide⟩
   ·cases h2
 | fn b=>cases h2
theorem zro {U:String}{y:Str}(hg:Gl X "isinstance") (hm:X.mg "isinstance" = none) (hgy:Gl X y) (hmy:X.mg y=none) (hv:bootBuiltins y=some (.type U)) (hU:U∈["bool","int","str","tuple","list"]) (ha:PE3 X a ma)
  (hn:y≠"__name__":=by decide) (hdb:(y == ("__debug__":Str))=false:=by decide)
  (he:starEach (a :: [.Name y p2]) X.env=(false,eval a X.env) :: starEach [.Name y p2] X.env:=by rfl) (he2:starEach [.Name y p2] X.env=(false,eval (.Name y p2) X.env) :: starEach [] X.env:=by rfl) (hpl:(backTo pos (starEach [.Name y p2] X.env)).any (·.1)=false:=by rfl) :
  PE3 X (.Call (.Name "isinstance" p) [a,.Name y p2] [] pos) (eUn (zgy U) ma):=by
 have hy:PE X (.Name y p2) (tC (.ty U)):=zod hgy hmy hv rfl hn hdb
 refine PE.imp (zl3 (id:="isinstance") (r:=λxs H Q=>∃x T,xs=[x,.ty U]/\TyOf X.K H x (.type T)/\T∈["NoneType","bool","int","str","tuple","list","dict"]/\Q (.bl (isI T U)) H) ?_ hg hm (by decide +kernel) (zh1 ha (zh1 hy zkc he2) he) (by decide) (by decide) he hpl) ?_
 ·intro pins s σ H xs us Q I r h
  obtain ⟨x,T,rfl,ty,hT,q⟩:=h
  obtain ⟨u1,u2,rfl,r1,r2⟩:=r.two
  cases r2
  exact zor I r1 ty (zpw hT hU) λtk=>⟨.bl _,H,I.tok tk,rfl,q⟩
 ·rintro σ H Q ⟨ρ,l,S,v,S',sim,ro,hq,p⟩
  obtain ⟨⟨x,S1⟩,h1,hq⟩:=bnd hq
  obtain ⟨T,h2,hq⟩:=bnd hq
  cases hq
  refine ⟨ρ,l,S,x,_,sim,ro,h1,λρ1 H1 x' e1 s1 r1=>⟨x',T,rfl,?_⟩⟩
  obtain ⟨k1,k2⟩:=ycf s1 r1 h2
  exact ⟨k1,k2,p ρ1 H1 _ e1 s1 (.bl (isI T U))⟩
end
end L3
section
namespace G
open PySem PySem.Spec PyProof.Rows L2 L3
noncomputable abbrev bd:List Stmt:=PySem.Challenge.pw_opencells_k16_faults_of_pairs.main.body
noncomputable def zrp:SM:=zam (sIf (zc5 (tE (eOp ze1 (eOp zaj (zaa 0) (eC (.int 1))) (eC .non))) (tE (eOp dNe (eOp zaj (zaa 1) (eC (.int 1))) (eOp zaj (zaa 0) (eC (.int 1)))))) (za5 (eC (.str "says"))) (zbn)) (zam (sIf (zc5 (tE (eOp ze1 (eOp zaj (zaa 0) (eC (.int 0))) (eC .non))) (tE (eOp dIs (eOp zaj (zaa 1) (eC (.int 0))) (eC .non)))) (za5 (eC (.str "goes"))) (zbn)) (za5 (eC .non)))
noncomputable def zis:FM:=zbz 2 zrp
noncomputable def zrq:SM:=zam (zaq (zaf zis (zab (zaa 0) (zab (zaa 1) (zae)))) (zal 3)) (zam (sIf (tE (eOp ze1 (zaa 3) (eC .non))) (za5 (zaa 3)) (zbn)) (zam (sIf (zc5 (tE (eOp ze1 (eOp zaj (zaa 0) (eC (.int 0))) (eC .non))) (tE (eOp (zgt true) (zaf zau (zab (eOp zaj (zaa 0) (eC (.int 0))) (zab (eOp zaj (zaa 1) (eC (.int 0))) (zae)))) (zaa 2)))) (za5 (eC (.str "behind"))) (zbn)) (za5 (eC .non))))
noncomputable def zit:FM:=zbz 4 zrq
noncomputable def zlb:SM:=za5 (zgj (eUn (zd2 "int") (zaa 0)) (zgj (zki (eUn (zd2 "bool") (zaa 0))) (zfx dLe dLt (eC (.int 0)) (zaa 0) (zaa 1))))
noncomputable def zfi:FM:=zbz 2 zlb
noncomputable def zrr:SM:=zam (sIf (zd0 (zdm (tE (eUn (zd2 "tuple") (zaa 0)))) (tE (eOp dNe (zaf zbh (zab (zaa 0) (zae))) (eC (.int 2))))) (za5 (eC (.bl false))) (zbn)) (za5 (zgj (zaf zfi (zab (eOp zaj (zaa 0) (eC (.int 0))) (zab (zaa 1) (zae)))) (zaf zfi (zab (eOp zaj (zaa 0) (eC (.int 1))) (zab (zaa 2) (zae))))))
noncomputable def ziu:FM:=zbz 3 zrr
noncomputable def znp:SM:=za5 (zgj (eUn (zgy "list") (zaa 0)) (zaf zjl (zab (zcn (zdg (zaa 0)) [none,some 1,some 2] (zal 0) (zcu) (zaf ziu (zab (zaa 0) (zab (zaa 1) (zab (zaa 2) (zae)))))) (zae))))
noncomputable def zhi:FM:=zbz 3 znp
noncomputable def zrs:SM:=sIf (tE (eOp dNe (eOp zaj (zaa 0) (eC (.int 0))) (eOp zaj (zaa 1) (eC (.int 0))))) (zpx) (zbn)
noncomputable def ziv:FM:=zbz 2 zrs
noncomputable def znq:SM:=zam (ze4 (zaf ziv (zab (zaa 0) (zab (zaa 1) (zae))))) (zam (sIf (zdm (tE (zaf zhi (zab (zaa 2) (zab (zaf zbh (zab (eOp zaj (zaa 0) (eC (.int 1))) (zae))) (zab (zaf zbh (zab (eOp zaj (zaa 1) (eC (.int 1))) (zae))) (zae))))))) (za5 (zaf zau (zab (eC (.str "shape")) (zae)))) (zbn)) (zam (zaq (zjq (zdg (zaa 2)) [none] (zal 0) (zcu) (zaa 0) (eC (.bl true))) (zal 3)) (zam (sIf (tE (eOp (zgt true) (zaf zau (zab (eC (.int 0)) (zab (eC (.int 0)) (zae)))) (zaa 3))) (za5 (zaf zau (zab (eC (.str "begin")) (zae)))) (zbn)) (zam (zha (zhb (zab (zaa 2) (zae))) (ze6 2 (zb8 (zal 4) (zb8 (ze6 2 (zb8 (zal 5) (zb8 (zal 6) (ze5)))) (ze5)))) (zfg (zb9 (zab (eOp zaj (zaa 0) (eC (.int 0))) (zae))) (zal 7) (zam (zaq (zaf zit (zab (eOp zaj (eOp zaj (eOp zaj (zaa 0) (eC (.int 1))) (zaa 5)) (zaa 7)) (zab (eOp zaj (eOp zaj (eOp zaj (zaa 1) (eC (.int 1))) (zaa 6)) (zaa 7)) (zab (zaa 3) (zae))))) (zal 8)) (sIf (tE (eOp ze1 (zaa 8) (eC .non))) (za5 (zaf zau (zab (zaa 8) (zab (zaa 4) (zab (zaa 7) (zae)))))) (zbn))))) (za5 (eC .non))))))
noncomputable def zfr:FM:=zbz 9 znq
noncomputable def zrt:SM:=zam (sIf (zd0 (zdm (tE (eUn (zd2 "tuple") (zaa 0)))) (tE (eOp dNe (zaf zbh (zab (zaa 0) (zae))) (eC (.int 2))))) (za5 (eC (.bl false))) (zbn)) (zam (zha (zhd (zab (zaa 0) (zab (zaf zau (zab (zaa 1) (zab (zaa 2) (zae)))) (zae)))) (ze6 2 (zb8 (zal 3) (zb8 (zal 4) (ze5)))) (sIf (zd0 (zdm (tE (eUn (zd2 "int") (zaa 3)))) (zd0 (tE (eUn (zd2 "bool") (zaa 3))) (zdm (tE (zfx dLt dLt (eUn zg9 (eC (.int 1))) (zaa 3) (zaa 4)))))) (za5 (eC (.bl false))) (zbn))) (za5 (eC (.bl true))))
noncomputable def zhx:FM:=zbz 5 zrt
noncomputable def zlc:SM:=zam (sIf (zdm (tE (eUn (zgy "list") (zaa 2)))) (za5 (zaf zau (zab (eC (.str "shape")) (zae)))) (zbn)) (zam (sIf (tE (eOp (dIn false) (eC (.bl false)) (zcn (zdg (zaa 2)) [none,some 0,some 1] (zal 0) (zcu) (zaf zhx (zab (zaa 0) (zab (zaf zbh (zab (eOp zaj (zaa 1) (eC (.int 1))) (zae))) (zab (zaf zbh (zab (eOp zaj (zaa 2) (eC (.int 1))) (zae))) (zae)))))))) (za5 (zaf zau (zab (eC (.str "shape")) (zae)))) (zbn)) (zam (zaq (zaf zio (zab (zcn (zdg (zaa 2)) [none] (zal 0) (zcu) (zaf zau (zab (zaa 0) (zab (eC (.bl true)) (zae))))) (zae))) (zal 3)) (zam (sIf (tE (eOp (zgt true) (zaf zau (zab (eC (.int 0)) (zab (eC (.int 0)) (zae)))) (zaa 3))) (za5 (zaf zau (zab (eC (.str "begin")) (zae)))) (zbn)) (zam (zha (zhb (zab (zaa 2) (zae))) (ze6 2 (zb8 (zal 4) (zb8 (ze6 2 (zb8 (zal 5) (zb8 (zal 6) (ze5)))) (ze5)))) (zfg (zb9 (zab (eOp zaj (zaa 0) (eC (.int 0))) (zae))) (zal 7) (zam (zaq (eOp zaj (eOp zaj (eOp zaj (zaa 0) (eC (.int 1))) (zaa 5)) (zaa 7)) (zal 8)) (zam (zaq (eOp zaj (eOp zaj (eOp zaj (zaa 1) (eC (.int 1))) (zaa 6)) (zaa 7)) (zal 9)) (zam (sIf (zc5 (tE (eOp ze1 (eOp zaj (zaa 8) (eC (.int 1))) (eC .non))) (tE (eOp dNe (eOp zaj (zaa 9) (eC (.int 1))) (eOp zaj (zaa 8) (eC (.int 1)))))) (za5 (zaf zau (zab (eC (.str "says")) (zab (zaa 4) (zab (zaa 7) (zae)))))) (zbn)) (zam (sIf (zc5 (tE (eOp ze1 (eOp zaj (zaa 8) (eC (.int 0))) (eC .non))) (tE (eOp dIs (eOp zaj (zaa 9) (eC (.int 0))) (eC .non)))) (za5 (zaf zau (zab (eC (.str "goes")) (zab (zaa 4) (zab (zaa 7) (zae)))))) (zbn)) (sIf (zc5 (tE (eOp ze1 (eOp zaj (zaa 8) (eC (.int 0))) (eC .non))) (tE (eOp (zgt true) (zaf zau (zab (eOp zaj (zaa 8) (eC (.int 0))) (zab (eOp zaj (zaa 9) (eC (.int 0))) (zae)))) (zaa 3)))) (za5 (zaf zau (zab (eC (.str "behind")) (zab (zaa 4) (zab (zaa 7) (zae)))))) (zbn)))))))) (za5 (eC .non))))))
noncomputable def zey:FM:=zbz 10 zlc
noncomputable def zru:SM:=zam (zaq (zaf zdc (zab (zaa 2) (zae))) (zal 3)) (zam (zaq (zaf zey (zab (zaa 0) (zab (zaa 1) (zab (zaa 2) (zae))))) (zal 4)) (zam (sIf (zd0 (tE (eOp dNe (zaf zdc (zab (zaf zfr (zab (zaa 0) (zab (zaa 1) (zab (zaa 2) (zae))))) (zae))) (zaf zdc (zab (zaa 4) (zae))))) (tE (eOp dNe (zaf zdc (zab (zaa 2) (zae))) (zaa 3)))) (za5 (eC (.bl false))) (zbn)) (za5 (eOp dEq (zaf zdc (zab (zaf zfr (zab (zaa 0) (zab (zaa 1) (zab (zaa 2) (zae))))) (zae))) (zaf zdc (zab (zaa 4) (zae)))))))
noncomputable def ziw:FM:=zbz 5 zru
noncomputable def zrv:SM:=zam (sIf (tE (eOp dGt (eOp zaj (zaa 0) (eC (.int 2))) (eC (.int 0)))) (zam (zaq (eOp zd1 (eOp zaj (zaa 0) (eC (.int 2))) (zaa 1)) (zal 2)) (zam (zaq (eOp zko (eOp zaj (zaa 0) (eC (.int 2))) (zaa 1)) (zfz (zaa 0) (eC (.int 2)))) (za5 (zaa 2)))) (zbn)) (zam (zaq (eOp zaj (zaa 0) (eC (.int 1))) (zal 3)) (zam (zaq (eOp za2 (zaa 3) (eC (.int 1))) (zfz (zaa 0) (eC (.int 1)))) (zam (zaq (eOp za2 (eOp zdi (eC (.int 7919)) (zaa 3)) (eC (.int 11))) (zal 4)) (zam (sIf (tE (eOp dGt (zaf zbh (zab (eOp zaj (zaa 0) (eC (.int 0))) (zae))) (eC (.int 0)))) (zaq (eOp zaj (eOp zaj (zaa 0) (eC (.int 0))) (eOp zd1 (zaa 3) (zaf zbh (zab (eOp zaj (zaa 0) (eC (.int 0))) (zae))))) (zal 4)) (zbn)) (zam (sIf (zc5 (tE (eOp dLt (zaa 3) (zaf zbh (zab (eOp zaj (zaa 0) (eC (.int 0))) (zae))))) (tE (eOp dGe (zaf zho (zab (zaa 4) (zae))) (eOp zkp (eC (.int 10)) (eC (.int 18)))))) (zam (zaq (eOp zko (zaf zho (zab (zaa 4) (zae))) (zaa 1)) (zfz (zaa 0) (eC (.int 2)))) (za5 (eOp zd1 (zaf zho (zab (zaa 4) (zae))) (zaa 1)))) (zbn)) (zam (zaq (eOp zaj (zaf zau (zab (eC (.int 2147483647)) (zab (eC (.int 2147483629)) (zab (eC (.int 2147483587)) (zab (eC (.int 2147483579)) (zab (eC (.int 2147483563)) (zae))))))) (eOp zd1 (zaa 3) (eC (.int 5)))) (zal 5)) (zam (zaq (eOp zd1 (eOp zdi (eOp za2 (eOp zd1 (zaa 4) (eC (.int 2147483549))) (eC (.int 1))) (eOp za2 (eOp zdi (zaa 3) (zaa 3)) (eC (.int 48271)))) (zaa 5)) (zal 6)) (zam (zaq (eOp zd1 (eOp za2 (eOp za2 (eOp zkp (zaa 6) (eC (.int 3))) (eOp zdi (eC (.int 69621)) (zaa 3))) (eC (.int 3))) (eC (.int 2147483543))) (zal 6)) (za5 (eOp zd1 (eOp zko (eOp zd1 (eOp zdi (zaa 6) (eOp za2 (eOp za2 (eOp zd1 (zaa 6) (eC (.int 65521))) (zaa 3)) (eC (.int 5)))) (eC (.int 2147483497))) (eC (.int 64))) (zaa 1)))))))))))
noncomputable def za4:FM:=zbz 7 zrv
noncomputable def zrw:SM:=zam (zaq (zaf za4 (zab (zaa 0) (zab (eC (.int 6)) (zae)))) (zal 3)) (zam (zaq (zaf za4 (zab (zaa 0) (zab (eC (.int 2)) (zae)))) (zal 4)) (zam (zaq (eOp zaj (zaf zb7 (zab (zaa 2) (zab (eUn zg9 (eC (.int 1))) (zab (eC (.bl true)) (zab (eC (.bl false)) (zab (eC .non) (zab (eC (.str "0")) (zab (zaf zau (zab (eC (.int 0)) (zae))) (zab (zaf zb7 (zab (eC (.int 0)) (zae))) (zab (eOp zkp (eC (.int 10)) (eC (.int 40))) (zab (zjm) (zab (eC (.int 99)) (zae))))))))))))) (zaf za4 (zab (zaa 0) (zab (eC (.int 11)) (zae))))) (zal 5)) (zam (zaq (zaf zb7 (zab (eOp za2 (eOp za2 (zcq (zaa 1) (zct) (zcl (zaa 4))) (zaf zau (zab (zaa 5) (zae)))) (zcq (zaa 1) (zcl (eOp za2 (zaa 4) (eC (.int 1)))) (zct))) (zab (eOp za2 (eOp za2 (zcq (zaa 1) (zct) (zcl (zaa 4))) (zaf zau (zab (zaa 5) (zae)))) (zcq (zaa 1) (zcl (eOp za2 (zaa 4) (eC (.int 1)))) (zct))) (zab (ziq (zaa 1)) (zab (zaf zfy (zab (zaa 1) (zae))) (zae)))))) (zal 6)) (za5 (eOp zaj (eOp za2 (zaa 6) (zaf zb7 (zab (eOp za2 (zaa 1) (zaf zau (zab (eC (.int 0)) (zae)))) (zab (zcq (zaa 1) (zct) (zcl (eC (.int 1)))) (zae))))) (zaa 3))))))
noncomputable def zjy:FM:=zbz 7 zrw
noncomputable def zrx:SM:=zam (zaq (zm0 (zb9 (zab (zaa 1) (zae)))) (zal 2)) (za5 (zcn (zjg (zb9 (zab (zaa 1) (zae)))) [none,some 2,some 0] (zal 0) (zcu) (zc9 zg8 (zaa 1) (zab (zaf za4 (zab (zaa 2) (zab (zaf zbh (zab (zaa 1) (zae))) (zae)))) zae))))
noncomputable def zf8:FM:=zbz 3 zrx
noncomputable def zry:SM:=zam (zaq (zaf za4 (zab (zaa 0) (zab (eC (.int 10)) (zae)))) (zal 4)) (zam (zaq (zaf za4 (zab (zaa 0) (zab (zaf zbh (zab (zaa 1) (zae))) (zae)))) (zal 5)) (zam (zaq (zaf zau (zab (zaf za4 (zab (zaa 0) (zab (zaf zbh (zab (eOp zaj (zaa 2) (eC (.int 1))) (zae))) (zae)))) (zab (zaf za4 (zab (zaa 0) (zab (zaf zbh (zab (eOp zaj (zaa 3) (eC (.int 1))) (zae))) (zae)))) (zae)))) (zal 6)) (zam (zaq (zaf za4 (zab (zaa 0) (zab (eC (.int 13)) (zae)))) (zal 7)) (zam (zaq (zaf zfy (zab (zaa 1) (zae))) (zal 8)) (zam (sIf (tE (eOp dLt (zaa 4) (eC (.int 3)))) (ze4 (zc9 zg8 (zaa 8) (zab (zaa 5) zae))) (sIf (tE (eOp dEq (zaa 4) (eC (.int 3)))) (ze4 (zc9 zhs (zaa 8) (zab (zaa 5) (zab (zaa 6) zae)))) (sIf (tE (eOp dEq (zaa 4) (eC (.int 4)))) (zaq (zaf zjy (zab (zaa 0) (zab (eOp zaj (zaa 1) (zaa 5)) (zab (zaf zbh (zab (eOp zaj (zaa 2) (eC (.int 1))) (zae))) (zae))))) (zfz (zaa 8) (zaa 5))) (sIf (tE (eOp dEq (zaa 4) (eC (.int 5)))) (zam (zaq (zaf zb7 (zab (eC .non) (zab (eC (.int 0)) (zab (zaf zau (zae)) (zab (zaf zb7 (zae)) (zab (eC (.str "00")) (zab (eC (.bl true)) (zab (zjm) (zab (zaf zau (zab (zaf zau (zab (eC (.int 0)) (zab (eC (.int 0)) (zae)))) (zae))) (zab (zaf zau (zab (eC (.int 0)) (zab (eC (.int 0)) (zab (eC (.int 0)) (zae))))) (zab (zaf zb7 (zab (eC (.int 0)) (zab (eC (.int 0)) (zae)))) (zab (eC (.str "")) (zab (zaf zau (zab (eC .non) (zab (eC .non) (zae)))) (zae)))))))))))))) (zal 9)) (zaq (eOp zaj (eOp za2 (zaa 9) (zaf zb7 (zab (zno 0 0 1 1) (zae)))) (zaa 7)) (zfz (zaa 8) (zaa 5)))) (sIf (tE (eOp dEq (zaa 4) (eC (.int 6)))) (zam (zaq (zaf zb7 (zab (zaf zfm (zab (zaa 1) (zae))) (zab (eC .non) (zab (zjm) (zab (eC (.str "")) (zab (eC (.int 0)) (zab (eC (.bl true)) (zab (zaf zau (zab (eC (.int 0)) (zab (eC (.int 0)) (zae)))) (zab (zaf zau (zae)) (zab (zaf zb7 (zae)) (zab (zaf zb7 (zab (zaf zb7 (zae)) (zae))) (zab (eC (.str "pairs")) (zab (zaf zb7 (zab (zaa 1) (zae))) (zae)))))))))))))) (zal 9)) (zaq (eOp zaj (eOp za2 (zaa 9) (zaf zb7 (zab (zgv (zaf zau (zab (eC (.int 0)) (zab (eC (.int 0)) (zae)))) (eC (.bl true))) (zae)))) (zaa 7)) (zal 8))) (sIf (tE (eOp dEq (zaa 4) (eC (.int 7)))) (zaq (zcn (zdg (zaa 1)) [none] (zal 0) (tE (eOp zie (zaa 0) (zaf zau (zab (eC (.int 0)) (zab (eC (.int 0)) (zae)))))) (zaa 0)) (zal 8)) (sIf (zc5 (tE (eOp dEq (zaa 4) (eC (.int 8)))) (tE (eOp dLt (zaf zbh (zab (zaa 1) (zae))) (eC (.int 290))))) (zaq (eOp za2 (eOp za2 (zaa 8) (zaf zb7 (zab (zaa 6) (zae)))) (zcq (zaa 8) (zct) (zcl (eOp za2 (zaa 5) (eC (.int 1)))))) (zal 8)) (zaq (zcn (zdg (zaf zf8 (zab (zaa 0) (zab (zaf zbh (zab (zaa 1) (zae))) (zae))))) [none,some 1] (zal 0) (zcu) (eOp zaj (zaa 1) (zaa 0))) (zal 8))))))))) (za5 (zaa 8)))))))
noncomputable def zix:FM:=zbz 10 zry
noncomputable def zrz:SM:=zam (zaq (zaf zfy (zab (zaa 2) (zae))) (zal 3)) (zam (zfg (zb9 (zab (eC (.int 4)) (zae))) (zal 4) (zam (sIf (tE (eOp dNe (zaf zdc (zab (zaf zfr (zab (zaa 0) (zab (zaa 1) (zab (zaa 3) (zae))))) (zae))) (zaf zdc (zab (zaf zey (zab (zaa 0) (zab (zaa 1) (zab (zaa 3) (zae))))) (zae))))) (za5 (eC (.bl false))) (zbn)) (sIf (tE (eOp dEq (zaa 4) (eC (.int 0)))) (ze4 (zc9 zh9 (zaa 3) zae)) (sIf (tE (eOp dEq (zaa 4) (eC (.int 1)))) (ze4 (zc9 zfe (zaa 3) (zab (eOp zaj (zaa 2) (eUn zg9 (eC (.int 1)))) zae))) (zaq (eOp zaj (zaa 2) (eUn zg9 (eC (.int 1)))) (zfz (zaa 3) (eC (.int 0)))))))) (za5 (eC (.bl true))))
noncomputable def zjz:FM:=zbz 5 zrz
noncomputable def zr0:SM:=zam (zaq (zaf zb7 (zab (zaf zau (zab (eC (.int 0)) (zab (eC (.int 0)) (zae)))) (zae))) (zal 2)) (zam (zaq (zgv (zaf zau (zab (eC (.int 0)) (zab (eC (.int 0)) (zae)))) (eC (.bl true))) (zal 3)) (zam (zfg (zb9 (zab (eOp zdi (zaf zbh (zab (eOp zaj (zaa 0) (eC (.int 1))) (zae))) (zaf zbh (zab (eOp zaj (zaa 1) (eC (.int 1))) (zae)))) (zae))) (zal 4) (sIf (tE (eOp dLt (zaa 4) (zaf zbh (zab (zaa 2) (zae))))) (zha (zhd (zab (eOp zaj (eOp zaj (zaa 0) (eC (.int 1))) (eOp zaj (eOp zaj (zaa 2) (zaa 4)) (eC (.int 0)))) (zab (eOp zaj (eOp zaj (zaa 1) (eC (.int 1))) (eOp zaj (eOp zaj (zaa 2) (zaa 4)) (eC (.int 1)))) (zae)))) (ze6 2 (zb8 (zal 5) (zb8 (zal 6) (ze5)))) (zam (zaq (zaf zau (zab (eOp zaj (zaa 5) (eC (.int 0))) (zab (eOp zaj (zaa 6) (eC (.int 0))) (zae)))) (zal 7)) (sIf (zc5 (tE (eOp (dIn true) (eC .non) (zaa 7))) (tE (eOp (zgt true) (zaa 7) (zaa 3)))) (zam (zaq (eC (.bl true)) (zk4 (zaa 3) (zaa 7))) (ze4 (zc9 zfe (zaa 2) (zab (zaa 7) zae)))) (zbn)))) (zbn))) (za5 (zaa 2))))
noncomputable def zj0:FM:=zbz 8 zr0
noncomputable def zr1:SM:=zam (zaq (zaf za4 (zab (zaa 0) (zab (eC (.int 4)) (zae)))) (zal 2)) (zam (zaq (zaf zbh (zab (eOp zaj (zaa 1) (eC (.int 1))) (zae))) (zal 3)) (zam (zaq (zaf za4 (zab (zaa 0) (zab (zaa 3) (zae)))) (zal 4)) (zam (zaq (zaf za4 (zab (zaa 0) (zab (eOp zaj (zaa 1) (eC (.int 0))) (zae)))) (zal 5)) (zam (zaq (eOp zaj (eOp zaj (eOp zaj (zaa 1) (eC (.int 1))) (zaa 4)) (zaa 5)) (ze6 2 (zb8 (zal 6) (zb8 (zal 7) (ze5))))) (zam (zaq (zaf za4 (zab (zaa 0) (zab (zaa 3) (zae)))) (zal 8)) (zam (zaq (eOp zaj (zaf zb7 (zab (zaf zau (zab (zaa 6) (zab (eC .non) (zae)))) (zab (zaf zau (zab (eC .non) (zab (zaa 7) (zae)))) (zab (zaf zau (zab (zaa 6) (zab (zaf za4 (zab (zaa 0) (zab (eC (.int 8)) (zae)))) (zae)))) (zab (zaf zau (zab (zaa 8) (zab (zaa 7) (zae)))) (zae)))))) (zaa 2)) (zal 9)) (zam (zaq (eOp za2 (eOp za2 (zcq (eOp zaj (eOp zaj (zaa 1) (eC (.int 1))) (zaa 4)) (zct) (zcl (zaa 5))) (zaf zau (zab (zaa 9) (zae)))) (zcq (eOp zaj (eOp zaj (zaa 1) (eC (.int 1))) (zaa 4)) (zcl (eOp za2 (zaa 5) (eC (.int 1)))) (zct))) (zal 10)) (za5 (zaf zau (zab (eOp zaj (zaa 1) (eC (.int 0))) (zab (eOp za2 (eOp za2 (zcq (eOp zaj (zaa 1) (eC (.int 1))) (zct) (zcl (zaa 4))) (zaf zau (zab (zaa 10) (zae)))) (zcq (eOp zaj (zaa 1) (eC (.int 1))) (zcl (eOp za2 (zaa 4) (eC (.int 1)))) (zct))) (zae))))))))))))
noncomputable def zj1:FM:=zbz 11 zr1
noncomputable def zr2:SM:=zam (zaq (eC .non) (zal 5)) (zam (zaq (eC .non) (zal 6)) (zam (sIf (tE (eOp dGe (zaf za4 (zab (zaa 0) (zab (eC (.int 8)) (zae)))) (zaa 1))) (zaq (zaf za4 (zab (zaa 0) (zab (zaa 4) (zae)))) (zal 5)) (zbn)) (zam (sIf (tE (eOp dGe (zaf za4 (zab (zaa 0) (zab (eC (.int 8)) (zae)))) (zaa 1))) (zaq (eOp zd1 (eOp za2 (zaf za4 (zab (zaa 0) (zab (zaa 2) (zae)))) (zaa 3)) (eC (.int 8))) (zal 6)) (zbn)) (za5 (zaf zau (zab (zaa 5) (zab (zaa 6) (zae))))))))
noncomputable def zj2:FM:=zbz 7 zr2
noncomputable def zr3:SM:=zam (zaq (eOp zaj (zaf zau (zab (eC (.int 0)) (zab (eC (.int 1)) (zab (eC (.int 3)) (zab (eC (.int 6)) (zae)))))) (zaf za4 (zab (zaa 0) (zab (eC (.int 4)) (zae))))) (zal 3)) (zam (zaq (eOp zaj (zaf zau (zab (eC (.int 1)) (zab (eC (.int 2)) (zab (eC (.int 2)) (zab (eC (.int 8)) (zae)))))) (zaf za4 (zab (zaa 0) (zab (eC (.int 4)) (zae))))) (zal 4)) (zam (zaq (eOp dEq (zaf za4 (zab (zaa 0) (zab (eC (.int 3)) (zae)))) (eC (.int 0))) (zal 5)) (zam (zaq (zaf za4 (zab (zaa 0) (zab (eC (.int 8)) (zae)))) (zal 6)) (zam (zaq (zaf zb7 (zae)) (zal 7)) (zam (zfg (zb9 (zab (zaa 2) (zae))) (zal 8) (sIf (zc5 (tE (zaa 5)) (zc5 (tE (eOp dGt (zaa 8) (eC (.int 0)))) (tE (eOp dEq (zaf za4 (zab (zaa 0) (zab (eC (.int 2)) (zae)))) (eC (.int 0)))))) (zam (zaq (eOp zaj (zaa 7) (zaf za4 (zab (zaa 0) (zab (zaa 8) (zae))))) (zal 9)) (zam (zaq (zaf za4 (zab (zaa 0) (zab (zaa 1) (zae)))) (zal 10)) (ze4 (zc9 zfe (zaa 7) (zab (eOp za2 (eOp za2 (zcq (zaa 9) (zct) (zcl (zaa 10))) (zaf zau (zab (zaf zau (zab (eOp zaj (eOp zaj (zaa 9) (zaa 10)) (eC (.int 0))) (zab (eC .non) (zae)))) (zae)))) (zcq (zaa 9) (zcl (eOp za2 (zaa 10) (eC (.int 1)))) (zct))) zae))))) (ze4 (zc9 zfe (zaa 7) (zab (zaf zfm (zab (zcn (zjg (zb9 (zab (zaa 1) (zae)))) [none,some 0,some 3,some 4,some 6,some 2] (zal 0) (zcu) (zaf zj2 (zab (zaa 1) (zab (zaa 2) (zab (zaa 3) (zab (zaa 4) (zab (zaa 5) (zae)))))))) (zae))) zae))))) (za5 (zaf zau (zab (zaa 1) (zab (zaf zfm (zab (zaa 7) (zae))) (zae))))))))))
noncomputable def ziy:FM:=zbz 11 zr3
noncomputable def zr4:SM:=zam (zaq (eOp za2 (zaf zb7 (zab (eC (.int 0)) (zae))) (zcn (zdg (zaf zf8 (zab (zaa 0) (zab (eOp zmc (zaf zbh (zab (eOp zaj (zaa 1) (eC (.int 1))) (zae))) (eC (.int 1))) (zae))))) [none] (zal 0) (zcu) (eOp za2 (eC (.int 1)) (zaa 0)))) (zal 2)) (zam (zaq (zcn (zdg (zaa 2)) [none] (zal 0) (zcu) (zaf zau (zae))) (zal 3)) (zam (zha (zhb (zab (eOp zaj (zaa 1) (eC (.int 1))) (zae))) (ze6 2 (zb8 (zal 4) (zb8 (zal 5) (ze5)))) (zam (zaq (zcn (zdg (zaa 5)) [none,none,some 2] (ze6 2 (zb8 (zal 0) (zb8 (zal 1) (ze5)))) (zcu) (zi9 (tE (eOp dIs (zaa 0) (eC .non))) (eC .non) (eOp zaj (zaa 2) (zaa 0)))) (zal 6)) (zaq (zaf zfm (zab (zcn (zhd (zab (zaa 6) (zab (zaa 5) (zae)))) [none,none] (ze6 2 (zb8 (zal 0) (zb8 (zal 1) (ze5)))) (zcu) (zaf zau (zab (zaa 0) (zab (eOp zaj (zaa 1) (eC (.int 1))) (zae))))) (zae))) (zfz (zaa 3) (eOp zaj (zaa 2) (zaa 4)))))) (za5 (zaf zau (zab (eOp zaj (zaa 1) (eC (.int 0))) (zab (zaf zfm (zab (zaa 3) (zae))) (zae)))))))
noncomputable def zj3:FM:=zbz 7 zr4
noncomputable def zr5:SM:=zam (zaq (eOp za2 (eC (.int 1)) (zaf zij (zab (zgj (eOp dEq (zaf za4 (zab (zaa 0) (zab (eC (.int 2)) (zae)))) (eC (.int 1))) (eOp dLt (zaf zbh (zab (eOp zaj (zaa 1) (eC (.int 1))) (zae))) (eC (.int 13)))) (zae)))) (zal 2)) (zam (zaq (eOp zaj (zaf zau (zab (eC (.int 0)) (zab (eC (.int 3)) (zab (eC (.int 6)) (zab (eC (.int 8)) (zae)))))) (zaf za4 (zab (zaa 0) (zab (eC (.int 4)) (zae))))) (zal 3)) (zam (zaq (zaf zbh (zab (eOp zaj (zaa 1) (eC (.int 1))) (zae))) (zal 4)) (zam (zaq (zaf zb7 (zae)) (zal 5)) (zam (zfg (zb9 (zab (eOp zdi (zaa 4) (zaa 2)) (zae))) (zal 6) (zam (zaq (zaf zb7 (zae)) (zal 7)) (zam (zjf (eOp zaj (eOp zaj (zaa 1) (eC (.int 1))) (eOp zd1 (zaa 6) (zaa 4))) (ze6 2 (zb8 (zal 8) (zb8 (zal 9) (ze5)))) (zam (sIf (tE (eOp ze1 (zaa 8) (eC .non))) (zaq (eOp za2 (zaa 8) (eOp zdi (zaa 4) (zaf za4 (zab (zaa 0) (zab (zaa 2) (zae)))))) (zal 8)) (sIf (tE (eOp dLt (zaf za4 (zab (zaa 0) (zab (eC (.int 8)) (zae)))) (zaa 3))) (zaq (zaf za4 (zab (zaa 0) (zab (eOp zdi (zaa 4) (zaa 2)) (zae)))) (zal 8)) (zbn))) (zam (sIf (zc5 (tE (eOp dIs (zaa 9) (eC .non))) (tE (eOp dLt (zaf za4 (zab (zaa 0) (zab (eC (.int 8)) (zae)))) (zaa 3)))) (zaq (zaf za4 (zab (zaa 0) (zab (eC (.int 8)) (zae)))) (zal 9)) (zbn)) (ze4 (zc9 zfe (zaa 7) (zab (zaf zau (zab (zaa 8) (zab (zaa 9) (zae)))) zae)))))) (ze4 (zc9 zfe (zaa 5) (zab (zaf zfm (zab (zaa 7) (zae))) zae)))))) (za5 (zaf zj3 (zab (zaa 0) (zab (zaf zau (zab (eOp zaj (zaa 1) (eC (.int 0))) (zab (zaf zfm (zab (zaa 5) (zae))) (zae)))) (zae)))))))))
noncomputable def zj4:FM:=zbz 10 zr5
noncomputable def zr6:SM:=za5 (zaf zb7 (zab (zcq (zaa 0) (zct) (zcl (eC (.int 63)))) (zab (eC (.int 0)) (zab (eC (.int 0)) (zae)))))
noncomputable def zld:FM:=zbz 1 zr6
noncomputable def zr7:SM:=zam (zaq (zaf zld (zab (zaa 0) (zae))) (zal 1)) (zam (zfg (zb9 (zab (eC (.int 2)) (zae))) (zal 2) (zam (zaq (zaf za4 (zab (zaa 1) (zab (eC (.int 4)) (zae)))) (zal 3)) (zam (zaq (eOp dEq (zaf za4 (zab (zaa 1) (zab (eC (.int 4)) (zae)))) (eC (.int 3))) (zal 4)) (zam (zaq (zaf ziy (zab (zaa 1) (zab (eOp za2 (eC (.int 1)) (zaf za4 (zab (zaa 1) (zab (eC (.int 4)) (zae))))) (zab (eOp za2 (eC (.int 1)) (zaf za4 (zab (zaa 1) (zab (eOp zaj (zaf zb7 (zab (eC (.int 8)) (zab (eC (.int 24)) (zae)))) (zaf zij (zab (zaa 4) (zae)))) (zae))))) (zae))))) (zal 5)) (zam (zaq (zaf zj4 (zab (zaa 1) (zab (zaa 5) (zae)))) (zal 6)) (zam (sIf (tE (eOp dEq (zaa 3) (eC (.int 0)))) (zaq (zaf ziy (zab (zaa 1) (zab (eOp zaj (zaa 5) (eC (.int 0))) (zab (eOp za2 (eC (.int 1)) (zaf za4 (zab (zaa 1) (zab (eC (.int 8)) (zae))))) (zae))))) (zal 6)) (zbn)) (zam (sIf (tE (eOp dEq (zaa 3) (eC (.int 1)))) (zaq (zaf zj1 (zab (zaa 1) (zab (zaa 6) (zae)))) (zal 6)) (zbn)) (zam (zaq (zaf zj0 (zab (zaa 5) (zab (zaa 6) (zae)))) (zal 7)) (zam (sIf (zd0 (zdm (tE (zaf ziw (zab (zaa 5) (zab (zaa 6) (zab (zaa 7) (zae))))))) (zdm (tE (zaf zjz (zab (zaa 5) (zab (zaa 6) (zab (zaa 7) (zae)))))))) (za5 (eC (.bl false))) (zbn)) (zfg (zb9 (zab (eC (.int 6)) (zae))) (zal 8) (zam (zaq (eOp dEq (zaf za4 (zab (zaa 1) (zab (eC (.int 2)) (zae)))) (eC (.int 1))) (zal 9)) (zam (zaq (zaf zix (zab (zaa 1) (zab (zaa 7) (zab (zaa 5) (zab (zaa 6) (zae)))))) (zal 10)) (zam (sIf (zc5 (tE (zaa 9)) (tE (eOp (zhh true) (zaf zey (zab (zaa 5) (zab (zaa 6) (zab (zaa 10) (zae))))) (zaf zau (zab (zaf zau (zab (eC (.str "shape")) (zae))) (zab (zaf zau (zab (eC (.str "begin")) (zae))) (zae))))))) (zaq (zaf zix (zab (zaa 1) (zab (zaa 10) (zab (zaa 5) (zab (zaa 6) (zae)))))) (zal 10)) (zbn)) (sIf (zdm (tE (zaf ziw (zab (zaa 5) (zab (zaa 6) (zab (zaa 10) (zae))))))) (za5 (eC (.bl false))) (zbn))))))))))))))) (za5 (eC (.bl true))))
noncomputable def zhj:FM:=zbz 11 zr7
theorem bl0 {C:List PySem.Value->Prop}(h:C []):∀us:List PySem.Value,us.length=0->C us:=by
 intro us hl
 rw [List.eq_nil_of_length_eq_zero hl];exact h
theorem blS {n:Nat}{C:List PySem.Value->Prop}(h:∀a (us:List PySem.Value),us.length=n->C (a :: us)):∀us:List PySem.Value,us.length=n+1->C us:=by
 intro us hl
 cases us with
 | nil=>cases hl
 | cons a us=>exact h a us (Nat.succ.inj hl)
theorem bl1 {C:List PySem.Value->Prop}(h:∀a0,C [a0]):∀us:List PySem.Value,us.length=1->C us:=blS λa0=>bl0 (C:=λus=>C (a0 :: us)) (h a0)
theorem bl2 {C:List PySem.Value->Prop}(h:∀a0 a1,C [a0,a1]):∀us:List PySem.Value,us.length=2->C us:=blS λa0=>blS λa1=>bl0 (C:=λus=>C (a0 :: a1 :: us)) (h a0 a1)
theorem bl3 {C:List PySem.Value->Prop}(h:∀a0 a1 a2,C [a0,a1,a2]):∀us:List PySem.Value,us.length=3->C us:=blS λa0=>blS λa1=>blS λa2=>bl0 (C:=λus=>C (a0 :: a1 :: a2 :: us)) (h a0 a1 a2)
theorem bl4 {C:List PySem.Value->Prop}(h:∀a0 a1 a2 a3,C [a0,a1,a2,a3]):∀us:List PySem.Value,us.length=4->C us:=blS λa0=>blS λa1=>blS λa2=>blS λa3=>bl0 (C:=λus=>C (a0 :: a1 :: a2 :: a3 :: us)) (h a0 a1 a2 a3)
theorem bl5 {C:List PySem.Value->Prop}(h:∀a0 a1 a2 a3 a4,C [a0,a1,a2,a3,a4]):∀us:List PySem.Value,us.length=5->C us:=blS λa0=>blS λa1=>blS λa2=>blS λa3=>blS λa4=>bl0 (C:=λus=>C (a0 :: a1 :: a2 :: a3 :: a4 :: us)) (h a0 a1 a2 a3 a4)
inductive FI (K:QFg) (x:Str) (st:Stmt):Prop
 | mk {f:Addr} {oc kV dc pm cd ct:Value} {od an:Option Addr} {sl:Array (Option Value)} (a:PySem.W.nsIn K mainGlobals x=some (some (.ref f))) (l:K.lookup f=some ⟨oc,od,.func (PySem.W.fnOf x x (zh2 st) (zgf st) (za3 st) .none kV dc pm an cd ct),sl⟩) (c:PySem.W.codeIn K cd x=true) (k:PySem.W.keepIn K (.ref f)=true)
inductive FJ (K:QFg) (mg:Str->Option Value) (x:Str) (st:Stmt):Prop
 | mk {f:Addr} {fd:FuncData} (F:Fun K x x st f fd) (m:mg x=some (.ref f)) (n:Fnc K mg x)
theorem FI.ok {K:QFg}{x:Str}{st:Stmt}{h:Heap}{mg:Str->Option Value}(i:FI K x st) (X:K.In h) (G:h.Ns mainGlobals mg):FJ K mg x st:=by
 obtain ⟨a,l,c,k⟩:=i
 exact ⟨zxg l c k,PySem.W.mg_of X G a,_,_,a,l,PySem.W.mg_of X G a⟩
section
variable {P:Program}{w:World}{K:QFg}{mg:Str->Option Value}{base:Heap}{CA:Str->Addr}
theorem zcr {x:Str}{st:Stmt}{N ps:List Str}{n k:Nat}{b:SM}(F:FJ K mg x st) (S:FnScope N ps (za3 st)) (hn:ps.length=n)
  (hb:∀us:List Value,us.length=ps.length->∀(kV doc pm:Value) (an:Option Addr) (cdv ct:Value),bindArgs (PySem.W.fnOf x x (zh2 st) (zgf st) (za3 st) .none kV doc pm an cdv ct) ⟨us,[]⟩=pure (ps.zip us))
  (hbody:∀(f:Addr) (cdv:Value),PySem.W.codeIn K cdv x=true->∀(A:Around) (outer:List Env) (s:Shared) (H:Hp) (E:XK),Room k (A.deeper (envOfC x (za3 st) s.heap.objs.size f cdv)) ->
   zfa (zg1 CX0 P w K mg base N x (za3 st) f cdv A outer s H E).nox (zgf st) b):Has P w K mg base x (k+1) n (zbz N.length b):=by
 obtain ⟨F,m,_⟩:=F
 exact zys F m S hn (F.binds λ_ _ _ _ _ _ us hl=>hb us hl _ _ _ _ _ _) (hbody _)
theorem ycg:FnScope ["cell","beside"] ["cell","beside"] (za3 (top bd 6)):=⟨rfl,rfl,rfl,by decide +kernel,rfl,by decide +kernel,by decide +kernel⟩
theorem h_m_cell_fault (F:FJ K mg "cell_fault" (top bd 6)):Has P w K mg base "cell_fault" 1 2 zis:=by
 have sc:=ycg
 refine zcr (k:=0) F sc rfl (bl2 λ_ _=>λ_ _ _ _ _ _=>rfl) λf cdv hcd A outer s H E hr=>?_
 exact zan (za9 (zdf (zez (zgm (zao (zac 0) (zah)) (zby)) (zfc (zg2 (zao (zac 1) (zah)) (zao (zac 0) (zah)))))) (zap (za8 (zc8))) (zbp)) (zan (za9 (zdf (zez (zgm (zao (zac 0) (zah)) (zby)) (zfc (zkq (zao (zac 1) (zah)) (zby))))) (zap (za8 (zc8))) (zbp)) (zap (za8 (zby))))
theorem ych:FnScope ["cell","beside","known","fault"] ["cell","beside","known"] (za3 (top bd 9)):=⟨rfl,rfl,rfl,by decide +kernel,rfl,by decide +kernel,by decide +kernel⟩
theorem h_m_pair_fault (F:FJ K mg "pair_fault" (top bd 9)) (h_m_cell_fault:Has P w K mg base "cell_fault" 1 2 zis):Has P w K mg base "pair_fault" 2 3 zit:=by
 have sc:=ych
 refine zcr (k:=1) F sc rfl (bl3 λ_ _ _=>λ_ _ _ _ _ _=>rfl) λf cdv hcd A outer s H E hr=>?_
 exact zan (zav 3 sc.nd (zax h_m_cell_fault hr (by decide) rfl (zad (zac 0) (zad (zac 1) (zag))) (zai (zai zaw)))) (zan (za9 (zgm (zac 3) (zby)) (zap (za8 (zac 3))) (zbp)) (zan (za9 (zdf (zez (zgm (zao (zac 0) (zah)) (zby)) (zfc (zjp hr (za1 (zad (zao (zac 0) (zah)) (zad (zao (zac 1) (zah)) (zag)))) (zac 2))))) (zap (za8 (zc8))) (zbp)) (zap (za8 (zby)))))
theorem yci:FnScope ["thing","count"] ["thing","count"] (za3 (top bd 4)):=⟨rfl,rfl,rfl,by decide +kernel,rfl,by decide +kernel,by decide +kernel⟩
theorem h_m_is_below (F:FJ K mg "is_below" (top bd 4)) (z_isinstance:mg "isinstance" = none) (z_int:mg "int" = none) (z_bool:mg "bool" = none):Has P w K mg base "is_below" 1 2 zfi:=by
 have sc:=yci
 refine zcr (k:=0) F sc rfl (bl2 λ_ _=>λ_ _ _ _ _ _=>rfl) λf cdv hcd A outer s H E hr=>?_
 exact zap (za8 (zjb (zic (U:="int") rfl z_isinstance rfl z_int zmr (by decide) (zac 0)) (zjb (zxs (zic (U:="bool") rfl z_isinstance rfl z_bool zqa (by decide) (zac 0))) (zkl (zxo zvr zi1 (zgl λ_ _ _ _=>.bl _) (zgl λ_ _ _ _=>.bl _) (zah) (zac 0) (zac 1))))))
theorem ycj:FnScope ["thing","many","others"] ["thing","many","others"] (za3 (top bd 11)):=⟨rfl,rfl,rfl,by decide +kernel,rfl,by decide +kernel,by decide +kernel⟩
theorem h_m_is_pair (F:FJ K mg "is_pair" (top bd 11)) (z_isinstance:mg "isinstance" = none) (z_tuple:mg "tuple" = none) (z_len:mg "len" = none) (h_m_is_below:Has P w K mg base "is_below" 1 2 zfi):Has P w K mg base "is_pair" 2 3 ziu:=by
 have sc:=ycj
 refine zcr (k:=1) F sc rfl (bl3 λ_ _ _=>λ_ _ _ _ _ _=>rfl) λf cdv hcd A outer s H E hr=>?_
 exact zan (za9 (zdf (zh6 (zgk (zfk (zic (U:="tuple") rfl z_isinstance rfl z_tuple zms (by decide) (zac 0)))) (zja (zg2 (zci rfl z_len (zad (zac 0) (zag))) (zah))))) (zap (za8 (zc1))) (zbp)) (zap (za8 (zjb (zax h_m_is_below hr (by decide) rfl (zad (zao (zac 0) (zah)) (zad (zac 1) (zag))) (zai (zai zaw))) (zkl (zax h_m_is_below hr (by decide) rfl (zad (zao (zac 0) (zah)) (zad (zac 2) (zag))) (zai (zai zaw)))))))
theorem yck:FnScope ["thing","many","others"] ["thing","many","others"] (za3 (top bd 10)):=⟨rfl,rfl,rfl,by decide +kernel,rfl,by decide +kernel,by decide +kernel⟩
theorem ycl:List.Nodup (["pair","many","others"]:List Str):=by decide +kernel
noncomputable abbrev ycm:List Str:=["thing","many","others"]
theorem h_m_is_list_of_pairs (F:FJ K mg "is_list_of_pairs" (top bd 10)) (z_isinstance:mg "isinstance" = none) (z_list:mg "list" = none) (z_all:mg "all" = none) (h_m_is_pair:Has P w K mg base "is_pair" 2 3 ziu):Has P w K mg base "is_list_of_pairs" 3 3 zhi:=by
 have sc:=yck
 refine zcr (k:=2) F sc rfl (bl3 λ_ _ _=>λ_ _ _ _ _ _=>rfl) λf cdv hcd A outer s H E hr=>?_
 exact zap (za8 (zjb (zro (U:="list") rfl z_isinstance rfl z_list zks (by decide) (zac 0)) (zkl (zzs rfl rfl z_all (zad (zil (N':=["pair","many","others"]) (ixs:=[none,some 1,some 2]) rfl (zf3 (scO:=za3 (top bd 10)) (NO:=ycm) rfl rfl (by decide +kernel)) (zgp (zac 0)) (λ_ _ _ _ _=>zbf 0 ycl) (λ_ _ _ _ _=>zfp) (λ_ _ _ _ _=>zax h_m_is_pair hr (by decide) rfl (zad (zac 0) (zad (zac 1) (zad (zac 2) (zag)))) (zai (zai (zai zaw))))) (zag))))))
theorem ycn:FnScope ["machine","other"] ["machine","other"] (za3 (top bd 7)):=⟨rfl,rfl,rfl,by decide +kernel,rfl,by decide +kernel,by decide +kernel⟩
theorem h_m_refuse_unlike (F:FJ K mg "refuse_unlike" (top bd 7)):Has P w K mg base "refuse_unlike" 1 2 ziv:=by
 have sc:=ycn
 refine zcr (k:=0) F sc rfl (bl2 λ_ _=>λ_ _ _ _ _ _=>rfl) λf cdv hcd A outer s H E hr=>?_
 exact zap (za9 (zg2 (zao (zac 0) (zah)) (zao (zac 1) (zah))) (zap (zyf)) (zbp))
theorem yco:FnScope ["machine","other","thing","known","k","one","two","ask","fault"] ["machine","other","thing"] (za3 (top bd 8)):=⟨rfl,rfl,rfl,by decide +kernel,rfl,by decide +kernel,by decide +kernel⟩
theorem ycp:List.Nodup (["pair"]:List Str):=by decide +kernel
noncomputable abbrev ycq:List Str:=["machine","other","thing","known","k","one","two","ask","fault"]
theorem h_m_pairs_fault (F:FJ K mg "pairs_fault" (top bd 8)) (z_range:mg "range" = none) (z_enumerate:mg "enumerate" = none) (z_len:mg "len" = none) (h_m_pair_fault:Has P w K mg base "pair_fault" 2 3 zit) (h_m_is_list_of_pairs:Has P w K mg base "is_list_of_pairs" 3 3 zhi) (h_m_refuse_unlike:Has P w K mg base "refuse_unlike" 1 2 ziv):Has P w K mg base "pairs_fault" 4 3 zfr:=by
 have sc:=yco
 refine zcr (k:=3) F sc rfl (bl3 λ_ _ _=>λ_ _ _ _ _ _=>rfl) λf cdv hcd A outer s H E hr=>?_
 exact zan (zf0 (zax h_m_refuse_unlike hr (by decide) rfl (zad (zac 0) (zad (zac 1) (zag))) (zai (zai zaw)))) (zan (za9 (zgk (zfk (zax h_m_is_list_of_pairs hr (by decide) rfl (zad (zac 2) (zad (zci rfl z_len (zad (zao (zac 0) (zah)) (zag))) (zad (zci rfl z_len (zad (zao (zac 1) (zah)) (zag))) (zag)))) (zai (zai (zai zaw)))))) (zap (za8 (za1 (zad (zc8) (zag))))) (zbp)) (zan (ya2 3 sc.nd hr (N':=["pair"]) (ixs:=[none]) rfl (zqb (scO:=za3 (top bd 8)) (NO:=ycq) rfl rfl (by decide +kernel)) (ya1 (zgp (zac 2))) (λ_ _ _ _ _=>zbf 0 ycp) (λ_ _ _ _ _=>zfp) (λ_ _ _ _ _=>zac 0) (λ_ _ _ _ _=>zc1)) (zan (za9 (zjp hr (za1 (zad (zah) (zad (zah) (zag)))) (zac 3)) (zap (za8 (za1 (zad (zc8) (zag))))) (zbp)) (zan (zjn PassesOwn.never rfl (zm9 rfl z_enumerate (zad (zac 2) (zag))) (zfo rfl (zcm (zbf 4 sc.nd) (zcm (zfo rfl (zcm (zbf 5 sc.nd) (zcm (zbf 6 sc.nd) (zfn)))) (zfn)))) (zap (zg5 PassesOwn.never rfl rfl z_range (zad (zao (zac 0) (zah)) (zag)) (zbf 7 sc.nd) (zan (zav 8 sc.nd (zax h_m_pair_fault hr (by decide) rfl (zad (zao (zao (zao (zac 0) (zah)) (zac 5)) (zac 7)) (zad (zao (zao (zao (zac 1) (zah)) (zac 6)) (zac 7)) (zad (zac 3) (zag)))) (zai (zai (zai zaw))))) (zap (za9 (zgm (zac 8) (zby)) (zap (za8 (za1 (zad (zac 8) (zad (zac 4) (zad (zac 7) (zag))))))) (zbp))))))) (zap (za8 (zby)))))))
theorem ycr:FnScope ["_law_thing","_law_many","_law_more","_law_room","_law_most"] ["_law_thing","_law_many","_law_more"] (za3 (top bd 23)):=⟨rfl,rfl,rfl,by decide +kernel,rfl,by decide +kernel,by decide +kernel⟩
theorem h_m_law_is_pair (F:FJ K mg "_law_is_pair" (top bd 23)) (z_isinstance:mg "isinstance" = none) (z_int:mg "int" = none) (z_bool:mg "bool" = none) (z_zip:mg "zip" = none) (z_tuple:mg "tuple" = none) (z_len:mg "len" = none):Has P w K mg base "_law_is_pair" 1 3 zhx:=by
 have sc:=ycr
 refine zcr (k:=0) F sc rfl (bl3 λ_ _ _=>λ_ _ _ _ _ _=>rfl) λf cdv hcd A outer s H E hr=>?_
 exact zan (za9 (zdf (zh6 (zgk (zfk (zic (U:="tuple") rfl z_isinstance rfl z_tuple zms (by decide) (zac 0)))) (zja (zg2 (zci rfl z_len (zad (zac 0) (zag))) (zah))))) (zap (za8 (zc1))) (zbp)) (zan (zjn PassesOwn.never rfl (znj rfl z_zip (zad (zac 0) (zad (za1 (zad (zac 1) (zad (zac 2) (zag)))) (zag)))) (zfo rfl (zcm (zbf 3 sc.nd) (zcm (zbf 4 sc.nd) (zfn)))) (zap (za9 (zdf (zh6 (zgk (zfk (zic (U:="int") rfl z_isinstance rfl z_int zmr (by decide) (zac 3)))) (zh6 (zfk (zic (U:="bool") rfl z_isinstance rfl z_bool zqa (by decide) (zac 3))) (zja (zgk (zxp zi1 zi1 (zgl λ_ _ _ _=>.bl _) (zgl λ_ _ _ _=>.bl _) (zkw (zah)) (zac 3) (zac 4))))))) (zap (za8 (zc1))) (zbp)))) (zap (za8 (zc1))))
theorem ycs:FnScope ["_law_machine_here","_law_other_here","_law_thing","_law_there","_law_k","_law_one","_law_two","_law_ask","_law_cell_here","_law_beside"] ["_law_machine_here","_law_other_here","_law_thing"] (za3 (top bd 24)):=⟨rfl,rfl,rfl,by decide +kernel,rfl,by decide +kernel,by decide +kernel⟩
theorem yct:List.Nodup (["_law_pair","_law_machine_here","_law_other_here"]:List Str):=by decide +kernel
theorem zr8:List.Nodup (["_law_pair"]:List Str):=by decide +kernel
noncomputable abbrev zr9:List Str:=["_law_machine_here","_law_other_here","_law_thing","_law_there","_law_k","_law_one","_law_two","_law_ask","_law_cell_here","_law_beside"]
theorem h_m_law_fault (F:FJ K mg "_law_fault" (top bd 24)) (z_range:mg "range" = none) (z_enumerate:mg "enumerate" = none) (z_dict:mg "dict" = none) (z_len:mg "len" = none) (z_isinstance:mg "isinstance" = none) (z_list:mg "list" = none) (h_m_law_is_pair:Has P w K mg base "_law_is_pair" 1 3 zhx):Has P w K mg base "_law_fault" 2 3 zey:=by
 have sc:=ycs
 refine zcr (k:=1) F sc rfl (bl3 λ_ _ _=>λ_ _ _ _ _ _=>rfl) λf cdv hcd A outer s H E hr=>?_
 exact zan (za9 (zgk (zfk (zro (U:="list") rfl z_isinstance rfl z_list zks (by decide) (zac 2)))) (zap (za8 (za1 (zad (zc8) (zag))))) (zbp)) (zan (za9 (zze (zc1) (zil (N':=["_law_pair","_law_machine_here","_law_other_here"]) (ixs:=[none,some 0,some 1]) rfl (zf3 (scO:=za3 (top bd 24)) (NO:=zr9) rfl rfl (by decide +kernel)) (zgp (zac 2)) (λ_ _ _ _ _=>zbf 0 yct) (λ_ _ _ _ _=>zfp) (λ_ _ _ _ _=>zax h_m_law_is_pair hr (by decide) rfl (zad (zac 0) (zad (zci rfl z_len (zad (zao (zac 1) (zah)) (zag))) (zad (zci rfl z_len (zad (zao (zac 2) (zah)) (zag))) (zag)))) (zai (zai (zai zaw)))))) (zap (za8 (za1 (zad (zc8) (zag))))) (zbp)) (zan (zav 3 sc.nd (yby hr rfl z_dict (zad (zil (N':=["_law_pair"]) (ixs:=[none]) rfl (zf3 (scO:=za3 (top bd 24)) (NO:=zr9) rfl rfl (by decide +kernel)) (zgp (zac 2)) (λ_ _ _ _ _=>zbf 0 zr8) (λ_ _ _ _ _=>zfp) (λ_ _ _ _ _=>za1 (zad (zac 0) (zad (zc1) (zag))))) (zag)))) (zan (za9 (zjp hr (za1 (zad (zah) (zad (zah) (zag)))) (zac 3)) (zap (za8 (za1 (zad (zc8) (zag))))) (zbp)) (zan (zjn PassesOwn.never rfl (zm9 rfl z_enumerate (zad (zac 2) (zag))) (zfo rfl (zcm (zbf 4 sc.nd) (zcm (zfo rfl (zcm (zbf 5 sc.nd) (zcm (zbf 6 sc.nd) (zfn)))) (zfn)))) (zap (zg5 PassesOwn.never rfl rfl z_range (zad (zao (zac 0) (zah)) (zag)) (zbf 7 sc.nd) (zan (zav 8 sc.nd (zao (zao (zao (zac 0) (zah)) (zac 5)) (zac 7))) (zan (zav 9 sc.nd (zao (zao (zao (zac 1) (zah)) (zac 6)) (zac 7))) (zan (za9 (zdf (zez (zgm (zao (zac 8) (zah)) (zby)) (zfc (zg2 (zao (zac 9) (zah)) (zao (zac 8) (zah)))))) (zap (za8 (za1 (zad (zc8) (zad (zac 4) (zad (zac 7) (zag))))))) (zbp)) (zan (za9 (zdf (zez (zgm (zao (zac 8) (zah)) (zby)) (zfc (zkq (zao (zac 9) (zah)) (zby))))) (zap (za8 (za1 (zad (zc8) (zad (zac 4) (zad (zac 7) (zag))))))) (zbp)) (zap (za9 (zdf (zez (zgm (zao (zac 8) (zah)) (zby)) (zfc (zjp hr (za1 (zad (zao (zac 8) (zah)) (zad (zao (zac 9) (zah)) (zag)))) (zac 3))))) (zap (za8 (za1 (zad (zc8) (zad (zac 4) (zad (zac 7) (zag))))))) (zbp)))))))))) (zap (za8 (zby)))))))
theorem ycu:FnScope ["_law_machine_here","_law_other_here","_law_thing","_law_kept","_law_due"] ["_law_machine_here","_law_other_here","_law_thing"] (za3 (top bd 28)):=⟨rfl,rfl,rfl,by decide +kernel,rfl,by decide +kernel,by decide +kernel⟩
theorem h_m_law_right (F:FJ K mg "_law_right" (top bd 28)) (z_repr:mg "repr" = none) (h_m_pairs_fault:Has P w K mg base "pairs_fault" 4 3 zfr) (h_m_law_fault:Has P w K mg base "_law_fault" 2 3 zey):Has P w K mg base "_law_right" 5 3 ziw:=by
 have sc:=ycu
 refine zcr (k:=4) F sc rfl (bl3 λ_ _ _=>λ_ _ _ _ _ _=>rfl) λf cdv hcd A outer s H E hr=>?_
 exact zan (zav 3 sc.nd (zhg hr rfl z_repr (zad (zac 2) (zag)))) (zan (zav 4 sc.nd (zax h_m_law_fault hr (by decide) rfl (zad (zac 0) (zad (zac 1) (zad (zac 2) (zag)))) (zai (zai (zai zaw))))) (zan (za9 (zdf (zh6 (zg2 (zhg hr rfl z_repr (zad (zax h_m_pairs_fault hr (by decide) rfl (zad (zac 0) (zad (zac 1) (zad (zac 2) (zag)))) (zai (zai (zai zaw)))) (zag))) (zhg hr rfl z_repr (zad (zac 4) (zag)))) (zja (zg2 (zhg hr rfl z_repr (zad (zac 2) (zag))) (zac 3))))) (zap (za8 (zc1))) (zbp)) (zap (za8 (zjd (zhg hr rfl z_repr (zad (zax h_m_pairs_fault hr (by decide) rfl (zad (zac 0) (zad (zac 1) (zad (zac 2) (zag)))) (zai (zai (zai zaw)))) (zag))) (zhg hr rfl z_repr (zad (zac 4) (zag))))))))
theorem ycv:FnScope ["_law_pen_here","_law_many","_law_digit","_law_at","_law_cell_here","_law_prime","_law_number"] ["_law_pen_here","_law_many"] (za3 (top bd 14)):=⟨rfl,rfl,rfl,by decide +kernel,rfl,by decide +kernel,by decide +kernel⟩
theorem h_m_law_take (F:FJ K mg "_law_take" (top bd 14)) (z_len:mg "len" = none) (z_abs:mg "abs" = none):Has P w K mg base "_law_take" 1 2 za4:=by
 have sc:=ycv
 refine zcr (k:=0) F sc rfl (bl2 λ_ _=>λ_ _ _ _ _ _=>rfl) λf cdv hcd A outer s H E hr=>?_
 exact zan (za9 (zmf (zao (zac 0) (zah)) (zah)) (zan (zav 2 sc.nd (zfd (zao (zac 0) (zah)) (zac 1))) (zan (zg3 (zmd (zao (zac 0) (zah)) (zac 1)) (zhp (zac 0) (zah))) (zap (za8 (zac 2))))) (zbp)) (zan (zav 3 sc.nd (zao (zac 0) (zah))) (zan (zg3 (zbi (zac 3) (zah)) (zhp (zac 0) (zah))) (zan (zav 4 sc.nd (zbi (zgr (zah) (zac 3)) (zah))) (zan (za9 (zmf (zci rfl z_len (zad (zao (zac 0) (zah)) (zag))) (zah)) (zap (zav 4 sc.nd (zao (zao (zac 0) (zah)) (zfd (zac 3) (zci rfl z_len (zad (zao (zac 0) (zah)) (zag))))))) (zbp)) (zan (za9 (zdf (zez (zh8 (zac 3) (zci rfl z_len (zad (zao (zac 0) (zah)) (zag)))) (zfc (zmg (zmt rfl z_abs (zad (zac 4) (zag))) (zme (zah) (zah)))))) (zan (zg3 (zmd (zmt rfl z_abs (zad (zac 4) (zag))) (zac 1)) (zhp (zac 0) (zah))) (zap (za8 (zfd (zmt rfl z_abs (zad (zac 4) (zag))) (zac 1))))) (zbp)) (zan (zav 5 sc.nd (zao (za1 (zad (zah) (zad (zah) (zad (zah) (zad (zah) (zad (zah) (zag))))))) (zfd (zac 3) (zah)))) (zan (zav 6 sc.nd (zfd (zgr (zbi (zfd (zac 4) (zah)) (zah)) (zbi (zgr (zac 3) (zac 3)) (zah))) (zac 5))) (zan (zav 6 sc.nd (zfd (zbi (zbi (zme (zac 6) (zah)) (zgr (zah) (zac 3))) (zah)) (zah))) (zap (za8 (zfd (zmd (zfd (zgr (zac 6) (zbi (zbi (zfd (zac 6) (zah)) (zac 3)) (zah))) (zah)) (zah)) (zac 1))))))))))))
theorem ycw:FnScope ["_law_pen_here","_law_pair","_law_many","_law_way","_law_at","_law_odd","_law_some"] ["_law_pen_here","_law_pair","_law_many"] (za3 (top bd 25)):=⟨rfl,rfl,rfl,by decide +kernel,rfl,by decide +kernel,by decide +kernel⟩
theorem h_m_law_bent_pair (F:FJ K mg "_law_bent_pair" (top bd 25)) (z_list:mg "list" = none) (h_m_law_take:Has P w K mg base "_law_take" 1 2 za4):Has P w K mg base "_law_bent_pair" 2 3 zjy:=by
 have sc:=ycw
 refine zcr (k:=1) F sc rfl (bl3 λ_ _ _=>λ_ _ _ _ _ _=>rfl) λf cdv hcd A outer s H E hr=>?_
 exact zan (zav 3 sc.nd (zax h_m_law_take hr (by decide) rfl (zad (zac 0) (zad (zah) (zag))) (zai (zai zaw)))) (zan (zav 4 sc.nd (zax h_m_law_take hr (by decide) rfl (zad (zac 0) (zad (zah) (zag))) (zai (zai zaw)))) (zan (zav 5 sc.nd (zao (zce (zad (zac 2) (zad (zkw (zah)) (zad (zc1) (zad (zc1) (zad (zby) (zad (zc8) (zad (za1 (zad (zah) (zag))) (zad (zce (zad (zah) (zag))) (zad (zme (zah) (zah)) (zad (zm1) (zad (zah) (zag))))))))))))) (zax h_m_law_take hr (by decide) rfl (zad (zac 0) (zad (zah) (zag))) (zai (zai zaw))))) (zan (zav 6 sc.nd (zce (zad (zbi (zbi (ze7 (zac 1) (ze2) (ze3 (zac 4))) (za1 (zad (zac 5) (zag)))) (ze7 (zac 1) (ze3 (zbi (zac 4) (zah))) (ze2))) (zad (zbi (zbi (ze7 (zac 1) (ze2) (ze3 (zac 4))) (za1 (zad (zac 5) (zag)))) (ze7 (zac 1) (ze3 (zbi (zac 4) (zah))) (ze2))) (zad (yb3 (zac 1)) (zad (zmu rfl z_list (zad (zac 1) (zag))) (zag))))))) (zap (za8 (zao (zbi (zac 6) (zce (zad (zbi (zac 1) (za1 (zad (zah) (zag)))) (zad (ze7 (zac 1) (ze2) (ze3 (zah))) (zag))))) (zac 3)))))))
theorem ycx:FnScope ["_law_pen_here","_law_many","_law_left"] ["_law_pen_here","_law_many"] (za3 (top bd 17)):=⟨rfl,rfl,rfl,by decide +kernel,rfl,by decide +kernel,by decide +kernel⟩
theorem ycy:List.Nodup (["_law_k","_law_left","_law_pen_here"]:List Str):=by decide +kernel
noncomputable abbrev ycz:List Str:=["_law_pen_here","_law_many","_law_left"]
theorem h_m_law_order (F:FJ K mg "_law_order" (top bd 17)) (z_range:mg "range" = none) (z_len:mg "len" = none) (z_list:mg "list" = none) (h_m_law_take:Has P w K mg base "_law_take" 1 2 za4):Has P w K mg base "_law_order" 2 2 zf8:=by
 have sc:=ycx
 refine zcr (k:=1) F sc rfl (bl2 λ_ _=>λ_ _ _ _ _ _=>rfl) λf cdv hcd A outer s H E hr=>?_
 exact zan (zav 2 sc.nd (zzl rfl rfl z_list rfl z_range (zad (zac 1) (zag)))) (zap (za8 (zil (N':=["_law_k","_law_left","_law_pen_here"]) (ixs:=[none,some 2,some 0]) rfl (zf3 (scO:=za3 (top bd 17)) (NO:=ycz) rfl rfl (by decide +kernel)) (zp8 rfl z_range (zad (zac 1) (zag))) (λ_ _ _ _ _=>zbf 0 ycy) (λ_ _ _ _ _=>zfp) (λ_ _ _ _ _=>zqi (zac 1) (zax h_m_law_take hr (by decide) rfl (zad (zac 2) (zad (zci rfl z_len (zad (zac 1) (zag))) (zag))) (zai (zai zaw)))))))
theorem yc0:FnScope ["_law_pen_here","_law_pairs","_law_machine_here","_law_other_here","_law_way","_law_at","_law_more","_law_odd","_law_found","_law_some"] ["_law_pen_here","_law_pairs","_law_machine_here","_law_other_here"] (za3 (top bd 26)):=⟨rfl,rfl,rfl,by decide +kernel,rfl,by decide +kernel,by decide +kernel⟩
theorem yc1:List.Nodup (["_law_k","_law_pairs"]:List Str):=by decide +kernel
noncomputable abbrev zsa:List Str:=["_law_pen_here","_law_pairs","_law_machine_here","_law_other_here","_law_way","_law_at","_law_more","_law_odd","_law_found","_law_some"]
theorem h_m_law_bent (F:FJ K mg "_law_bent" (top bd 26)) (z_len:mg "len" = none) (z_tuple:mg "tuple" = none) (z_list:mg "list" = none) (h_m_law_bent_pair:Has P w K mg base "_law_bent_pair" 2 3 zjy) (h_m_law_order:Has P w K mg base "_law_order" 2 2 zf8) (h_m_law_take:Has P w K mg base "_law_take" 1 2 za4):Has P w K mg base "_law_bent" 3 4 zix:=by
 have sc:=yc0
 refine zcr (k:=2) F sc rfl (bl4 λ_ _ _ _=>λ_ _ _ _ _ _=>rfl) λf cdv hcd A outer s H E hr=>?_
 exact zan (zav 4 sc.nd (zax h_m_law_take hr (by decide) rfl (zad (zac 0) (zad (zah) (zag))) (zai (zai zaw)))) (zan (zav 5 sc.nd (zax h_m_law_take hr (by decide) rfl (zad (zac 0) (zad (zci rfl z_len (zad (zac 1) (zag))) (zag))) (zai (zai zaw)))) (zan (zav 6 sc.nd (za1 (zad (zax h_m_law_take hr (by decide) rfl (zad (zac 0) (zad (zci rfl z_len (zad (zao (zac 2) (zah)) (zag))) (zag))) (zai (zai zaw))) (zad (zax h_m_law_take hr (by decide) rfl (zad (zac 0) (zad (zci rfl z_len (zad (zao (zac 3) (zah)) (zag))) (zag))) (zai (zai zaw))) (zag))))) (zan (zav 7 sc.nd (zax h_m_law_take hr (by decide) rfl (zad (zac 0) (zad (zah) (zag))) (zai (zai zaw)))) (zan (zav 8 sc.nd (zmu rfl z_list (zad (zac 1) (zag)))) (zan (za9 (zh8 (zac 4) (zah)) (zap (zf0 (zqi (zac 8) (zac 5)))) (zap (za9 (zfl (zac 4) (zah)) (zap (zf0 (yap (zac 8) (zac 5) (zac 6)))) (zap (za9 (zfl (zac 4) (zah)) (zap (zg3 (zax h_m_law_bent_pair hr (by decide) rfl (zad (zac 0) (zad (zao (zac 1) (zac 5)) (zad (zci rfl z_len (zad (zao (zac 2) (zah)) (zag))) (zag)))) (zai (zai (zai zaw)))) (zhp (zac 8) (zac 5)))) (zap (za9 (zfl (zac 4) (zah)) (by with_reducible exact zan (zav 9 (by with_unfolding_all exact sc.nd) (zce (zad (by with_unfolding_all exact zby) (zad (by with_unfolding_all exact zah) (zad (by with_unfolding_all exact za1 (zag)) (zad (by with_unfolding_all exact zce (zag)) (zad (by with_unfolding_all exact zc8) (zad (by with_unfolding_all exact zc1) (zad (by with_unfolding_all exact zm1) (zad (by with_unfolding_all exact za1 (zad (za1 (zad (zah) (zad (zah) (zag)))) (zag))) (zad (by with_unfolding_all exact za1 (zad (zah) (zad (zah) (zad (zah) (zag))))) (zad (by with_unfolding_all exact zce (zad (zah) (zad (zah) (zag)))) (zad (by with_unfolding_all exact zc8) (zad (by with_unfolding_all exact za1 (zad (zby) (zad (zby) (zag)))) (zag) (by with_unfolding_all rfl)) (by with_unfolding_all rfl)) (by with_unfolding_all rfl)) (by with_unfolding_all rfl)) (by with_unfolding_all rfl)) (by with_unfolding_all rfl)) (by with_unfolding_all rfl)) (by with_unfolding_all rfl)) (by with_unfolding_all rfl)) (by with_unfolding_all rfl)) (by with_unfolding_all rfl)) (by with_unfolding_all rfl))) (by with_unfolding_all rfl) (by with_unfolding_all first|exact Or.inl rfl|exact Or.inr rfl) (by with_unfolding_all rfl) (by with_unfolding_all first|exact .inl rfl|exact .inr rfl|assumption)) (by with_unfolding_all exact zap (zg3 (zao (zbi (zac 9) (zce (zad (yb6 (by decide)) (zag)))) (zac 7)) (zhp (zac 8) (zac 5))))) (zap (za9 (zfl (zac 4) (zah)) (by with_reducible exact zan (zav 9 (by with_unfolding_all exact sc.nd) (zce (zad (by with_unfolding_all exact zhr rfl z_tuple (zad (zac 1) (zag))) (zad (by with_unfolding_all exact zby) (zad (by with_unfolding_all exact zm1) (zad (by with_unfolding_all exact zc8) (zad (by with_unfolding_all exact zah) (zad (by with_unfolding_all exact zc1) (zad (by with_unfolding_all exact za1 (zad (zah) (zad (zah) (zag)))) (zad (by with_unfolding_all exact za1 (zag)) (zad (by with_unfolding_all exact zce (zag)) (zad (by with_unfolding_all exact zce (zad (zce (zag)) (zag))) (zad (by with_unfolding_all exact zc8) (zad (by with_unfolding_all exact zce (zad (zac 1) (zag))) (zag) (by with_unfolding_all rfl)) (by with_unfolding_all rfl)) (by with_unfolding_all rfl)) (by with_unfolding_all rfl)) (by with_unfolding_all rfl)) (by with_unfolding_all rfl)) (by with_unfolding_all rfl)) (by with_unfolding_all rfl)) (by with_unfolding_all rfl)) (by with_unfolding_all rfl)) (by with_unfolding_all rfl)) (by with_unfolding_all rfl))) (by with_unfolding_all rfl) (by with_unfolding_all first|exact Or.inl rfl|exact Or.inr rfl) (by with_unfolding_all rfl) (by with_unfolding_all first|exact .inl rfl|exact .inr rfl|assumption)) (by with_unfolding_all exact zap (zav 8 sc.nd (zao (zbi (zac 9) (zce (zad (zq4 hr (za1 (zad (zah) (zad (zah) (zag)))) (zc1)) (zag)))) (zac 7))))) (zap (za9 (zfl (zac 4) (zah)) (zap (zk6 8 sc.nd (N':=["_law_pair"]) (ixs:=[none]) rfl (zf3 (scO:=za3 (top bd 26)) (NO:=zsa) rfl rfl (by decide +kernel)) (zgp (zac 1)) (λ_ _ _ _ _=>zbf 0 zr8) (λ_ _ _ _ _=>zyp (zzb hr (zac 0) (za1 (zad (zah) (zad (zah) (zag)))))) (λ_ _ _ _ _=>zac 0))) (zap (za9 (zdf (zez (zfl (zac 4) (zah)) (zfc (zh8 (zci rfl z_len (zad (zac 1) (zag))) (zah))))) (zap (zav 8 sc.nd (zbi (zbi (zac 8) (zce (zad (zac 6) (zag)))) (ze7 (zac 8) (ze2) (ze3 (zbi (zac 5) (zah))))))) (zap (zk6 8 sc.nd (N':=["_law_k","_law_pairs"]) (ixs:=[none,some 1]) rfl (zf3 (scO:=za3 (top bd 26)) (NO:=zsa) rfl rfl (by decide +kernel)) (zgp (zax h_m_law_order hr (by decide) rfl (zad (zac 0) (zad (zci rfl z_len (zad (zac 1) (zag))) (zag))) (zai (zai zaw)))) (λ_ _ _ _ _=>zbf 0 yc1) (λ_ _ _ _ _=>zfp) (λ_ _ _ _ _=>zao (zac 1) (zac 0))))))))))))))))) (zap (za8 (zac 8))))))))
theorem yc2:FnScope ["_law_machine_here","_law_other_here","_law_pairs","_law_handed","_law_turn"] ["_law_machine_here","_law_other_here","_law_pairs"] (za3 (top bd 29)):=⟨rfl,rfl,rfl,by decide +kernel,rfl,by decide +kernel,by decide +kernel⟩
theorem h_m_law_changed_right (F:FJ K mg "_law_changed_right" (top bd 29)) (z_repr:mg "repr" = none) (z_range:mg "range" = none) (z_list:mg "list" = none) (h_m_pairs_fault:Has P w K mg base "pairs_fault" 4 3 zfr) (h_m_law_fault:Has P w K mg base "_law_fault" 2 3 zey):Has P w K mg base "_law_changed_right" 5 3 zjz:=by
 have sc:=yc2
 refine zcr (k:=4) F sc rfl (bl3 λ_ _ _=>λ_ _ _ _ _ _=>rfl) λf cdv hcd A outer s H E hr=>?_
 exact zan (zav 3 sc.nd (zmu rfl z_list (zad (zac 2) (zag)))) (zan (zg5 PassesOwn.never rfl rfl z_range (zad (zah) (zag)) (zbf 4 sc.nd) (zan (za9 (zg2 (zhg hr rfl z_repr (zad (zax h_m_pairs_fault hr (by decide) rfl (zad (zac 0) (zad (zac 1) (zad (zac 3) (zag)))) (zai (zai (zai zaw)))) (zag))) (zhg hr rfl z_repr (zad (zax h_m_law_fault hr (by decide) rfl (zad (zac 0) (zad (zac 1) (zad (zac 3) (zag)))) (zai (zai (zai zaw)))) (zag)))) (zap (za8 (zc1))) (zbp)) (zap (za9 (zfl (zac 4) (zah)) (zap (zf0 (zyd (zac 3)))) (zap (za9 (zfl (zac 4) (zah)) (zap (zf0 (zib (zac 3) (zao (zac 2) (zkw (zah)))))) (zap (zg3 (zao (zac 2) (zkw (zah))) (zhp (zac 3) (zah)))))))))) (zap (za8 (zc1))))
theorem yc3:FnScope ["_law_machine_here","_law_other_here","_law_found","_law_met","_law_at","_law_cell_here","_law_beside","_law_pair"] ["_law_machine_here","_law_other_here"] (za3 (top bd 27)):=⟨rfl,rfl,rfl,by decide +kernel,rfl,by decide +kernel,by decide +kernel⟩
theorem h_m_law_led (F:FJ K mg "_law_led" (top bd 27)) (z_len:mg "len" = none) (z_zip:mg "zip" = none) (z_range:mg "range" = none):Has P w K mg base "_law_led" 1 2 zj0:=by
 have sc:=yc3
 refine zcr (k:=0) F sc rfl (bl2 λ_ _=>λ_ _ _ _ _ _=>rfl) λf cdv hcd A outer s H E hr=>?_
 exact zan (zav 2 sc.nd (zce (zad (za1 (zad (zah) (zad (zah) (zag)))) (zag)))) (zan (zav 3 sc.nd (zq4 hr (za1 (zad (zah) (zad (zah) (zag)))) (zc1))) (zan (zg5 PassesOwn.never rfl rfl z_range (zad (zgr (zci rfl z_len (zad (zao (zac 0) (zah)) (zag))) (zci rfl z_len (zad (zao (zac 1) (zah)) (zag)))) (zag)) (zbf 4 sc.nd) (zap (za9 (zh8 (zac 4) (zci rfl z_len (zad (zac 2) (zag)))) (zap (zjn PassesOwn.never rfl (znj rfl z_zip (zad (zao (zao (zac 0) (zah)) (zao (zao (zac 2) (zac 4)) (zah))) (zad (zao (zao (zac 1) (zah)) (zao (zao (zac 2) (zac 4)) (zah))) (zag)))) (zfo rfl (zcm (zbf 5 sc.nd) (zcm (zbf 6 sc.nd) (zfn)))) (zan (zav 7 sc.nd (za1 (zad (zao (zac 5) (zah)) (zad (zao (zac 6) (zah)) (zag))))) (zap (za9 (zdf (zez (zzf (zby) (zac 7)) (zfc (zjp hr (zac 7) (zac 3))))) (zan (yau hr (zac 3) (zac 7) (zc1)) (zap (zf0 (zib (zac 2) (zac 7))))) (zbp)))))) (zbp)))) (zap (za8 (zac 2)))))
theorem yc4:FnScope ["_law_pen_here","_law_machine_here","_law_way","_law_many","_law_room","_law_ask","_law_goes","_law_answer","_law_to","_law_cell_here","_law_cells"] ["_law_pen_here","_law_machine_here"] (za3 (top bd 20)):=⟨rfl,rfl,rfl,by decide +kernel,rfl,by decide +kernel,by decide +kernel⟩
theorem h_m_law_spoiled (F:FJ K mg "_law_spoiled" (top bd 20)) (z_len:mg "len" = none) (h_m_law_take:Has P w K mg base "_law_take" 1 2 za4):Has P w K mg base "_law_spoiled" 2 2 zj1:=by
 have sc:=yc4
 refine zcr (k:=1) F sc rfl (bl2 λ_ _=>λ_ _ _ _ _ _=>rfl) λf cdv hcd A outer s H E hr=>?_
 exact zan (zav 2 sc.nd (zax h_m_law_take hr (by decide) rfl (zad (zac 0) (zad (zah) (zag))) (zai (zai zaw)))) (zan (zav 3 sc.nd (zci rfl z_len (zad (zao (zac 1) (zah)) (zag)))) (zan (zav 4 sc.nd (zax h_m_law_take hr (by decide) rfl (zad (zac 0) (zad (zac 3) (zag))) (zai (zai zaw)))) (zan (zav 5 sc.nd (zax h_m_law_take hr (by decide) rfl (zad (zac 0) (zad (zao (zac 1) (zah)) (zag))) (zai (zai zaw)))) (zan (zg3 (zao (zao (zao (zac 1) (zah)) (zac 4)) (zac 5)) (zfo rfl (zcm (zbf 6 sc.nd) (zcm (zbf 7 sc.nd) (zfn))))) (zan (zav 8 sc.nd (zax h_m_law_take hr (by decide) rfl (zad (zac 0) (zad (zac 3) (zag))) (zai (zai zaw)))) (zan (zav 9 sc.nd (zao (zce (zad (za1 (zad (zac 6) (zad (zby) (zag)))) (zad (za1 (zad (zby) (zad (zac 7) (zag)))) (zad (za1 (zad (zac 6) (zad (zax h_m_law_take hr (by decide) rfl (zad (zac 0) (zad (zah) (zag))) (zai (zai zaw))) (zag)))) (zad (za1 (zad (zac 8) (zad (zac 7) (zag)))) (zag)))))) (zac 2))) (zan (zav 10 sc.nd (zbi (zbi (ze7 (zao (zao (zac 1) (zah)) (zac 4)) (ze2) (ze3 (zac 5))) (za1 (zad (zac 9) (zag)))) (ze7 (zao (zao (zac 1) (zah)) (zac 4)) (ze3 (zbi (zac 5) (zah))) (ze2)))) (zap (za8 (za1 (zad (zao (zac 1) (zah)) (zad (zbi (zbi (ze7 (zao (zac 1) (zah)) (ze2) (ze3 (zac 4))) (za1 (zad (zac 10) (zag)))) (ze7 (zao (zac 1) (zah)) (ze3 (zbi (zac 4) (zah))) (ze2))) (zag)))))))))))))
theorem yc5:FnScope ["_law_pen_here","_law_share","_law_wide","_law_shift","_law_many","_law_goes","_law_answer"] ["_law_pen_here","_law_share","_law_wide","_law_shift","_law_many"] (za3 (top bd 16)):=⟨rfl,rfl,rfl,by decide +kernel,rfl,by decide +kernel,by decide +kernel⟩
theorem h_m_law_cell (F:FJ K mg "_law_cell" (top bd 16)) (h_m_law_take:Has P w K mg base "_law_take" 1 2 za4):Has P w K mg base "_law_cell" 2 5 zj2:=by
 have sc:=yc5
 refine zcr (k:=1) F sc rfl (bl5 λ_ _ _ _ _=>λ_ _ _ _ _ _=>rfl) λf cdv hcd A outer s H E hr=>?_
 exact zan (zav 5 sc.nd (zby)) (zan (zav 6 sc.nd (zby)) (zan (za9 (zmg (zax h_m_law_take hr (by decide) rfl (zad (zac 0) (zad (zah) (zag))) (zai (zai zaw))) (zac 1)) (zap (zav 5 sc.nd (zax h_m_law_take hr (by decide) rfl (zad (zac 0) (zad (zac 4) (zag))) (zai (zai zaw))))) (zbp)) (zan (za9 (zmg (zax h_m_law_take hr (by decide) rfl (zad (zac 0) (zad (zah) (zag))) (zai (zai zaw))) (zac 1)) (zap (zav 6 sc.nd (zfd (zbi (zax h_m_law_take hr (by decide) rfl (zad (zac 0) (zad (zac 2) (zag))) (zai (zai zaw))) (zac 3)) (zah)))) (zbp)) (zap (za8 (za1 (zad (zac 5) (zad (zac 6) (zag)))))))))
theorem yc6:FnScope ["_law_pen_here","_law_asks","_law_many","_law_share","_law_wide","_law_alike","_law_shift","_law_rooms","_law_room","_law_cells","_law_at"] ["_law_pen_here","_law_asks","_law_many"] (za3 (top bd 15)):=⟨rfl,rfl,rfl,by decide +kernel,rfl,by decide +kernel,by decide +kernel⟩
theorem yc7:List.Nodup (["_law_ask","_law_pen_here","_law_share","_law_wide","_law_shift","_law_many"]:List Str):=by decide +kernel
noncomputable abbrev yc8:List Str:=["_law_pen_here","_law_asks","_law_many","_law_share","_law_wide","_law_alike","_law_shift","_law_rooms","_law_room","_law_cells","_law_at"]
theorem h_m_law_machine (F:FJ K mg "_law_machine" (top bd 15)) (z_tuple:mg "tuple" = none) (z_range:mg "range" = none) (h_m_law_take:Has P w K mg base "_law_take" 1 2 za4) (h_m_law_cell:Has P w K mg base "_law_cell" 2 5 zj2):Has P w K mg base "_law_machine" 3 3 ziy:=by
 have sc:=yc6
 refine zcr (k:=2) F sc rfl (bl3 λ_ _ _=>λ_ _ _ _ _ _=>rfl) λf cdv hcd A outer s H E hr=>?_
 exact zan (zav 3 sc.nd (zao (za1 (zad (zah) (zad (zah) (zad (zah) (zad (zah) (zag)))))) (zax h_m_law_take hr (by decide) rfl (zad (zac 0) (zad (zah) (zag))) (zai (zai zaw))))) (zan (zav 4 sc.nd (zao (za1 (zad (zah) (zad (zah) (zad (zah) (zad (zah) (zag)))))) (zax h_m_law_take hr (by decide) rfl (zad (zac 0) (zad (zah) (zag))) (zai (zai zaw))))) (zan (zav 5 sc.nd (zjd (zax h_m_law_take hr (by decide) rfl (zad (zac 0) (zad (zah) (zag))) (zai (zai zaw))) (zah))) (zan (zav 6 sc.nd (zax h_m_law_take hr (by decide) rfl (zad (zac 0) (zad (zah) (zag))) (zai (zai zaw)))) (zan (zav 7 sc.nd (zce (zag))) (zan (zg5 PassesOwn.never rfl rfl z_range (zad (zac 2) (zag)) (zbf 8 sc.nd) (zap (za9 (zdf (zez (zfk (zac 5)) (zez (zmf (zac 8) (zah)) (zfc (zfl (zax h_m_law_take hr (by decide) rfl (zad (zac 0) (zad (zah) (zag))) (zai (zai zaw))) (zah)))))) (zan (zav 9 sc.nd (zao (zac 7) (zax h_m_law_take hr (by decide) rfl (zad (zac 0) (zad (zac 8) (zag))) (zai (zai zaw))))) (zan (zav 10 sc.nd (zax h_m_law_take hr (by decide) rfl (zad (zac 0) (zad (zac 1) (zag))) (zai (zai zaw)))) (zap (zf0 (zib (zac 7) (zbi (zbi (ze7 (zac 9) (ze2) (ze3 (zac 10))) (za1 (zad (za1 (zad (zao (zao (zac 9) (zac 10)) (zah)) (zad (zby) (zag)))) (zag)))) (ze7 (zac 9) (ze3 (zbi (zac 10) (zah))) (ze2)))))))) (zap (zf0 (zib (zac 7) (zhr rfl z_tuple (zad (zil (N':=["_law_ask","_law_pen_here","_law_share","_law_wide","_law_shift","_law_many"]) (ixs:=[none,some 0,some 3,some 4,some 6,some 2]) rfl (zf3 (scO:=za3 (top bd 15)) (NO:=yc8) rfl rfl (by decide +kernel)) (zp8 rfl z_range (zad (zac 1) (zag))) (λ_ _ _ _ _=>zbf 0 yc7) (λ_ _ _ _ _=>zfp) (λ_ _ _ _ _=>zax h_m_law_cell hr (by decide) rfl (zad (zac 1) (zad (zac 2) (zad (zac 3) (zad (zac 4) (zad (zac 5) (zag)))))) (zai (zai (zai (zai (zai zaw))))))) (zag))))))))) (zap (za8 (za1 (zad (zac 1) (zad (zhr rfl z_tuple (zad (zac 7) (zag))) (zag)))))))))))
theorem yc9:FnScope ["_law_pen_here","_law_machine_here","_law_order_here","_law_rooms","_law_room","_law_cells","_law_there"] ["_law_pen_here","_law_machine_here"] (za3 (top bd 19)):=⟨rfl,rfl,rfl,by decide +kernel,rfl,by decide +kernel,by decide +kernel⟩
theorem yda:List.Nodup (["_law_k"]:List Str):=by decide +kernel
theorem ydb:List.Nodup (["_law_room"]:List Str):=by decide +kernel
theorem zsb:List.Nodup (["_law_goes","_law_answer","_law_order_here"]:List Str):=by decide +kernel
theorem zsc:List.Nodup (["_law_goes","_law_cell_here"]:List Str):=by decide +kernel
noncomputable abbrev zle:List Str:=["_law_pen_here","_law_machine_here","_law_order_here","_law_rooms","_law_room","_law_cells","_law_there"]
theorem h_m_law_named (F:FJ K mg "_law_named" (top bd 19)) (z_tuple:mg "tuple" = none) (z_zip:mg "zip" = none) (z_enumerate:mg "enumerate" = none) (z_len:mg "len" = none) (h_m_law_order:Has P w K mg base "_law_order" 2 2 zf8):Has P w K mg base "_law_named" 3 2 zj3:=by
 have sc:=yc9
 refine zcr (k:=2) F sc rfl (bl2 λ_ _=>λ_ _ _ _ _ _=>rfl) λf cdv hcd A outer s H E hr=>?_
 exact zan (zav 2 sc.nd (zbi (zce (zad (zah) (zag))) (zil (N':=["_law_k"]) (ixs:=[none]) rfl (zf3 (scO:=za3 (top bd 19)) (NO:=zle) rfl rfl (by decide +kernel)) (zgp (zax h_m_law_order hr (by decide) rfl (zad (zac 0) (zad (zxu (zci rfl z_len (zad (zao (zac 1) (zah)) (zag))) (zah)) (zag))) (zai (zai zaw)))) (λ_ _ _ _ _=>zbf 0 yda) (λ_ _ _ _ _=>zfp) (λ_ _ _ _ _=>zbi (zah) (zac 0))))) (zan (zk6 3 sc.nd (N':=["_law_room"]) (ixs:=[none]) rfl (zf3 (scO:=za3 (top bd 19)) (NO:=zle) rfl rfl (by decide +kernel)) (zgp (zac 2)) (λ_ _ _ _ _=>zbf 0 ydb) (λ_ _ _ _ _=>zfp) (λ_ _ _ _ _=>za1 (zag))) (zan (zjn PassesOwn.never rfl (zm9 rfl z_enumerate (zad (zao (zac 1) (zah)) (zag))) (zfo rfl (zcm (zbf 4 sc.nd) (zcm (zbf 5 sc.nd) (zfn)))) (zan (zk6 6 sc.nd (N':=["_law_goes","_law_answer","_law_order_here"]) (ixs:=[none,none,some 2]) rfl (zf3 (scO:=za3 (top bd 19)) (NO:=zle) rfl rfl (by decide +kernel)) (zgp (zac 5)) (λ_ _ _ _ _=>zfo rfl (zcm (zbf 0 zsb) (zcm (zbf 1 zsb) (zfn)))) (λ_ _ _ _ _=>zfp) (λ_ _ _ _ _=>zxt (zkq (zac 0) (zby)) (zby) (zao (zac 2) (zac 0)))) (zap (zg3 (zhr rfl z_tuple (zad (yaj (N':=["_law_goes","_law_cell_here"]) (ixs:=[none,none]) rfl (zqb (scO:=za3 (top bd 19)) (NO:=zle) rfl rfl (by decide +kernel)) (znj rfl z_zip (zad (zac 6) (zad (zac 5) (zag)))) (λ_ _ _ _ _=>zfo rfl (zcm (zbf 0 zsc) (zcm (zbf 1 zsc) (zfn)))) (λ_ _ _ _ _=>zfp) (λ_ _ _ _ _=>za1 (zad (zac 0) (zad (zao (zac 1) (zah)) (zag))))) (zag))) (zhp (zac 3) (zao (zac 2) (zac 4))))))) (zap (za8 (za1 (zad (zao (zac 1) (zah)) (zad (zhr rfl z_tuple (zad (zac 3) (zag))) (zag))))))))
theorem ydc:FnScope ["_law_pen_here","_law_machine_here","_law_copies","_law_fill","_law_many","_law_rooms","_law_k","_law_cells","_law_goes","_law_answer"] ["_law_pen_here","_law_machine_here"] (za3 (top bd 18)):=⟨rfl,rfl,rfl,by decide +kernel,rfl,by decide +kernel,by decide +kernel⟩
theorem h_m_law_other (F:FJ K mg "_law_other" (top bd 18)) (z_tuple:mg "tuple" = none) (z_range:mg "range" = none) (z_len:mg "len" = none) (z_int:mg "int" = none) (h_m_law_named:Has P w K mg base "_law_named" 3 2 zj3) (h_m_law_take:Has P w K mg base "_law_take" 1 2 za4):Has P w K mg base "_law_other" 4 2 zj4:=by
 have sc:=ydc
 refine zcr (k:=3) F sc rfl (bl2 λ_ _=>λ_ _ _ _ _ _=>rfl) λf cdv hcd A outer s H E hr=>?_
 exact zan (zav 2 sc.nd (zbi (zah) (zqu rfl z_int (zad (zjb (zjd (zax h_m_law_take hr (by decide) rfl (zad (zac 0) (zad (zah) (zag))) (zai (zai zaw))) (zah)) (zkl (zxv (zci rfl z_len (zad (zao (zac 1) (zah)) (zag))) (zah)))) (zag))))) (zan (zav 3 sc.nd (zao (za1 (zad (zah) (zad (zah) (zad (zah) (zad (zah) (zag)))))) (zax h_m_law_take hr (by decide) rfl (zad (zac 0) (zad (zah) (zag))) (zai (zai zaw))))) (zan (zav 4 sc.nd (zci rfl z_len (zad (zao (zac 1) (zah)) (zag)))) (zan (zav 5 sc.nd (zce (zag))) (zan (zg5 PassesOwn.never rfl rfl z_range (zad (zgr (zac 4) (zac 2)) (zag)) (zbf 6 sc.nd) (zan (zav 7 sc.nd (zce (zag))) (zan (zyj PassesOwn.never rfl (zao (zao (zac 1) (zah)) (zfd (zac 6) (zac 4))) (zfo rfl (zcm (zbf 8 sc.nd) (zcm (zbf 9 sc.nd) (zfn)))) (zan (za9 (zgm (zac 8) (zby)) (zap (zav 8 sc.nd (zbi (zac 8) (zgr (zac 4) (zax h_m_law_take hr (by decide) rfl (zad (zac 0) (zad (zac 2) (zag))) (zai (zai zaw))))))) (zap (za9 (zh8 (zax h_m_law_take hr (by decide) rfl (zad (zac 0) (zad (zah) (zag))) (zai (zai zaw))) (zac 3)) (zap (zav 8 sc.nd (zax h_m_law_take hr (by decide) rfl (zad (zac 0) (zad (zgr (zac 4) (zac 2)) (zag))) (zai (zai zaw))))) (zbp)))) (zan (za9 (zdf (zez (zkq (zac 9) (zby)) (zfc (zh8 (zax h_m_law_take hr (by decide) rfl (zad (zac 0) (zad (zah) (zag))) (zai (zai zaw))) (zac 3))))) (zap (zav 9 sc.nd (zax h_m_law_take hr (by decide) rfl (zad (zac 0) (zad (zah) (zag))) (zai (zai zaw))))) (zbp)) (zap (zf0 (zib (zac 7) (za1 (zad (zac 8) (zad (zac 9) (zag)))))))))) (zap (zf0 (zib (zac 5) (zhr rfl z_tuple (zad (zac 7) (zag))))))))) (zap (za8 (zax h_m_law_named hr (by decide) rfl (zad (zac 0) (zad (za1 (zad (zao (zac 1) (zah)) (zad (zhr rfl z_tuple (zad (zac 5) (zag))) (zag)))) (zag))) (zai (zai zaw)))))))))
theorem ydd:FnScope ["_law_script"] ["_law_script"] (za3 (top bd 13)):=⟨rfl,rfl,rfl,by decide +kernel,rfl,by decide +kernel,by decide +kernel⟩
theorem h_m_law_pen (F:FJ K mg "_law_pen" (top bd 13)):Has P w K mg base "_law_pen" 1 1 zld:=by
 have sc:=ydd
 refine zcr (k:=0) F sc rfl (bl1 λ_=>λ_ _ _ _ _ _=>rfl) λf cdv hcd A outer s H E hr=>?_
 exact zap (za8 (zce (zad (ze7 (zac 0) (ze2) (ze3 (zah))) (zad (zah) (zad (zah) (zag))))))
theorem yde:FnScope ["_law_script","_law_pen_here","_law_turn","_law_way","_law_great","_law_machine_here","_law_other_here","_law_pairs","_law_k","_law_twice","_law_thing"] ["_law_script"] (za3 (top bd 30)):=⟨rfl,rfl,rfl,by decide +kernel,rfl,by decide +kernel,by decide +kernel⟩
theorem ydf {f:Addr}{fd:FuncData}(F:Fun K "law" "law" (top bd 30) f fd) (z_range:mg "range" = none) (z_int:mg "int" = none) (h_m_law_right:Has P w K mg base "_law_right" 5 3 ziw) (h_m_law_fault:Has P w K mg base "_law_fault" 2 3 zey) (h_m_law_bent:Has P w K mg base "_law_bent" 3 4 zix) (h_m_law_take:Has P w K mg base "_law_take" 1 2 za4) (h_m_law_changed_right:Has P w K mg base "_law_changed_right" 5 3 zjz) (h_m_law_led:Has P w K mg base "_law_led" 1 2 zj0) (h_m_law_spoiled:Has P w K mg base "_law_spoiled" 2 2 zj1) (h_m_law_machine:Has P w K mg base "_law_machine" 3 3 ziy) (h_m_law_other:Has P w K mg base "_law_other" 4 2 zj4) (h_m_law_pen:Has P w K mg base "_law_pen" 1 1 zld):FnOk P w K mg base CX0 6 f fd ["_law_script"] (sp3 K 1 zhj):=by
 have sc:=yde
 refine zp0 (k:=5) F sc rfl λcdv hcd A outer s H E hr=>?_
 refine zan (zav 1 sc.nd (zax h_m_law_pen hr (by decide) rfl (zad (zac 0) (zag)) (zai zaw))) ?_
 refine zan (zg5 PassesOwn.never rfl rfl z_range (zad (zah) (zag)) (zbf 2 sc.nd) ?_) ?_
 ·refine zan (zav 3 sc.nd (zax h_m_law_take hr (by decide) rfl (zad (zac 1) (zad (zah) (zag))) (zai (zai zaw)))) ?_
  refine zan (zav 4 sc.nd (zjd (zax h_m_law_take hr (by decide) rfl (zad (zac 1) (zad (zah) (zag))) (zai (zai zaw))) (zah))) ?_
  refine zan (zav 5 sc.nd (zax h_m_law_machine hr (by decide) rfl (zad (zac 1) (zad (zbi (zah) (zax h_m_law_take hr (by decide) rfl (zad (zac 1) (zad (zah) (zag))) (zai (zai zaw)))) (zad (zbi (zah) (zax h_m_law_take hr (by decide) rfl (zad (zac 1) (zad (zao (zce (zad (zah) (zad (zah) (zag)))) (zqu rfl z_int (zad (zac 4) (zag)))) (zag))) (zai (zai zaw)))) (zag)))) (zai (zai (zai zaw))))) ?_
  refine zan (zav 6 sc.nd (zax h_m_law_other hr (by decide) rfl (zad (zac 1) (zad (zac 5) (zag))) (zai (zai zaw)))) ?_
  refine zan (za9 (zfl (zac 3) (zah)) (zap (zav 6 sc.nd (zax h_m_law_machine hr (by decide) rfl (zad (zac 1) (zad (zao (zac 5) (zah)) (zad (zbi (zah) (zax h_m_law_take hr (by decide) rfl (zad (zac 1) (zad (zah) (zag))) (zai (zai zaw)))) (zag)))) (zai (zai (zai zaw)))))) (zbp)) ?_
  refine zan (za9 (zfl (zac 3) (zah)) (zap (zav 6 sc.nd (zax h_m_law_spoiled hr (by decide) rfl (zad (zac 1) (zad (zac 6) (zag))) (zai (zai zaw))))) (zbp)) ?_
  refine zan (zav 7 sc.nd (zax h_m_law_led hr (by decide) rfl (zad (zac 5) (zad (zac 6) (zag))) (zai (zai zaw)))) ?_
  refine zan (za9 (zdf (zh6 (zgk (zfk (zax h_m_law_right hr (by decide) rfl (zad (zac 5) (zad (zac 6) (zad (zac 7) (zag)))) (zai (zai (zai zaw)))))) (zja (zgk (zfk (zax h_m_law_changed_right hr (by decide) rfl (zad (zac 5) (zad (zac 6) (zad (zac 7) (zag)))) (zai (zai (zai zaw))))))))) (zap (za8 (zc1))) (zbp)) ?_
  refine zap (zg5 PassesOwn.never rfl rfl z_range (zad (zah) (zag)) (zbf 8 sc.nd) ?_)
  ·refine zan (zav 9 sc.nd (zjd (zax h_m_law_take hr (by decide) rfl (zad (zac 1) (zad (zah) (zag))) (zai (zai zaw))) (zah))) ?_
   refine zan (zav 10 sc.nd (zax h_m_law_bent hr (by decide) rfl (zad (zac 1) (zad (zac 7) (zad (zac 5) (zad (zac 6) (zag))))) (zai (zai (zai (zai zaw)))))) ?_
   refine zan (za9 (zdf (zez (zfk (zac 9)) (zfc (yce hr (zax h_m_law_fault hr (by decide) rfl (zad (zac 5) (zad (zac 6) (zad (zac 10) (zag)))) (zai (zai (zai zaw)))) (za1 (zad (za1 (zad (zc8) (zag))) (zad (za1 (zad (zc8) (zag))) (zag)))))))) (zap (zav 10 sc.nd (zax h_m_law_bent hr (by decide) rfl (zad (zac 1) (zad (zac 10) (zad (zac 5) (zad (zac 6) (zag))))) (zai (zai (zai (zai zaw))))))) (zbp)) ?_
   exact zap (za9 (zgk (zfk (zax h_m_law_right hr (by decide) rfl (zad (zac 5) (zad (zac 6) (zad (zac 10) (zag)))) (zai (zai (zai zaw)))))) (zap (za8 (zc1))) (zbp))
 exact zap (za8 (zc1))
end
theorem all_mk {l:PySem.W.OpenLaw}{w:World}{K:QFg}{h:Heap}{mg:Str->Option Value}{fa:Addr}(X:K.In h) (G:h.Ns mainGlobals mg) (hfa:mg "law" = some (.ref fa))
  (a0:FI K "cell_fault" (top bd 6))
  (a1:FI K "pair_fault" (top bd 9))
  (a2:FI K "is_below" (top bd 4))
  (a3:FI K "is_pair" (top bd 11))
  (a4:FI K "is_list_of_pairs" (top bd 10))
  (a5:FI K "refuse_unlike" (top bd 7))
  (a6:FI K "pairs_fault" (top bd 8))
  (a7:FI K "_law_is_pair" (top bd 23))
  (a8:FI K "_law_fault" (top bd 24))
  (a9:FI K "_law_right" (top bd 28))
  (a10:FI K "_law_take" (top bd 14))
  (a11:FI K "_law_bent_pair" (top bd 25))
  (a12:FI K "_law_order" (top bd 17))
  (a13:FI K "_law_bent" (top bd 26))
  (a14:FI K "_law_changed_right" (top bd 29))
  (a15:FI K "_law_led" (top bd 27))
  (a16:FI K "_law_spoiled" (top bd 20))
  (a17:FI K "_law_cell" (top bd 16))
  (a18:FI K "_law_machine" (top bd 15))
  (a19:FI K "_law_named" (top bd 19))
  (a20:FI K "_law_other" (top bd 18))
  (a21:FI K "_law_pen" (top bd 13))
  (a22:FI K "law" (top bd 30))
  (z_isinstance:PySem.W.nsIn K mainGlobals "isinstance" = some none)
  (z_int:PySem.W.nsIn K mainGlobals "int" = some none)
  (z_bool:PySem.W.nsIn K mainGlobals "bool" = some none)
  (z_tuple:PySem.W.nsIn K mainGlobals "tuple" = some none)
  (z_len:PySem.W.nsIn K mainGlobals "len" = some none)
  (z_list:PySem.W.nsIn K mainGlobals "list" = some none)
  (z_all:PySem.W.nsIn K mainGlobals "all" = some none)
  (z_range:PySem.W.nsIn K mainGlobals "range" = some none)
  (z_enumerate:PySem.W.nsIn K mainGlobals "enumerate" = some none)
  (z_zip:PySem.W.nsIn K mainGlobals "zip" = some none)
  (z_dict:PySem.W.nsIn K mainGlobals "dict" = some none)
  (z_repr:PySem.W.nsIn K mainGlobals "repr" = some none)
  (z_abs:PySem.W.nsIn K mainGlobals "abs" = some none) :
  ∃fd:FuncData,(∀(s:Shared) (v:Value),BindsTo s fd ⟨[v],[]⟩ [("_law_script",v)])/\∀base:Heap,K.In base->base.Ns mainGlobals mg->FnOk l.prog w K mg base CX0 6 fa fd ["_law_script"] (sp3 K 1 zhj):=by
 have y_isinstance:=PySem.W.mg_none_of X G z_isinstance
 have y_int:=PySem.W.mg_none_of X G z_int
 have y_bool:=PySem.W.mg_none_of X G z_bool
 have y_tuple:=PySem.W.mg_none_of X G z_tuple
 have y_len:=PySem.W.mg_none_of X G z_len
 have y_list:=PySem.W.mg_none_of X G z_list
 have y_all:=PySem.W.mg_none_of X G z_all
 have y_range:=PySem.W.mg_none_of X G z_range
 have y_enumerate:=PySem.W.mg_none_of X G z_enumerate
 have y_zip:=PySem.W.mg_none_of X G z_zip
 have y_dict:=PySem.W.mg_none_of X G z_dict
 have y_repr:=PySem.W.mg_none_of X G z_repr
 have y_abs:=PySem.W.mg_none_of X G z_abs
 have F0:=a0.ok X G
 have F1:=a1.ok X G
 have F2:=a2.ok X G
 have F3:=a3.ok X G
 have F4:=a4.ok X G
 have F5:=a5.ok X G
 have F6:=a6.ok X G
 have F7:=a7.ok X G
 have F8:=a8.ok X G
 have F9:=a9.ok X G
 have F10:=a10.ok X G
 have F11:=a11.ok X G
 have F12:=a12.ok X G
 have F13:=a13.ok X G
 have F14:=a14.ok X G
 have F15:=a15.ok X G
 have F16:=a16.ok X G
 have F17:=a17.ok X G
 have F18:=a18.ok X G
 have F19:=a19.ok X G
 have F20:=a20.ok X G
 have F21:=a21.ok X G
 have F22:=a22.ok X G
 obtain @⟨fL,fdL,FL,mL,_⟩:=F22
 have e:=hfa.symm.trans mL
 cases e
 refine ⟨fdL,λs v=>by obtain ⟨_,_,_,_,_,_,_,_,_,rfl,_⟩:=FL.ex;exact .of_eq rfl,λbase _ _=>?_⟩
 have t:∀{x k n m},Has l.prog w K mg base x k n m->Has l.prog w K mg base x k n m:=id
 have g0:=t (h_m_cell_fault F0 )
 have g1:=t (h_m_pair_fault F1 g0)
 have g2:=t (h_m_is_below F2 y_isinstance y_int y_bool)
 have g3:=t (h_m_is_pair F3 y_isinstance y_tuple y_len g2)
 have g4:=t (h_m_is_list_of_pairs F4 y_isinstance y_list y_all g3)
 have g5:=t (h_m_refuse_unlike F5 )
 have g6:=t (h_m_pairs_fault F6 y_range y_enumerate y_len g1 g4 g5)
 have g7:=t (h_m_law_is_pair F7 y_isinstance y_int y_bool y_zip y_tuple y_len)
 have g8:=t (h_m_law_fault F8 y_range y_enumerate y_dict y_len y_isinstance y_list g7)
 have g9:=t (h_m_law_right F9 y_repr g6 g8)
 have g10:=t (h_m_law_take F10 y_len y_abs)
 have g11:=t (h_m_law_bent_pair F11 y_list g10)
 have g12:=t (h_m_law_order F12 y_range y_len y_list g10)
 have g13:=t (h_m_law_bent F13 y_len y_tuple y_list g11 g12 g10)
 have g14:=t (h_m_law_changed_right F14 y_repr y_range y_list g6 g8)
 have g15:=t (h_m_law_led F15 y_len y_zip y_range)
 have g16:=t (h_m_law_spoiled F16 y_len g10)
 have g17:=t (h_m_law_cell F17 g10)
 have g18:=t (h_m_law_machine F18 y_tuple y_range g10 g17)
 have g19:=t (h_m_law_named F19 y_tuple y_zip y_enumerate y_len g12)
 have g20:=t (h_m_law_other F20 y_tuple y_range y_len y_int g19 g10)
 have g21:=t (h_m_law_pen F21 )
 exact ydf FL y_range y_int g9 g8 g13 g10 g14 g15 g16 g18 g20 g21
theorem walk {l:PySem.W.OpenLaw}{q:Program}{loose:List Str}{XP:(Str->Option Value)->Heap->Prop}{YP:World->Heap->Prop}{d:DefRec}{K:Params->QFg}(hn:l.most=some 63) (hdf:d.params.defaults=[])
  (hY:∀(w:World) (h:Heap),YP w h->(K w.params).In h)
  (F:∀(w:World) (mg:Str->Option Value) (fa:Addr) (h:Heap),(K w.params).In h->h.Ns mainGlobals mg->mg d.name=some (.ref fa) ->
   ∃fd:FuncData,(∀(s:Shared) (u:Value),BindsTo s fd ⟨[u],[]⟩ [("_law_script",u)])/\∀base:Heap,(K w.params).In base->base.Ns mainGlobals mg->FnOk l.prog w (K w.params) mg base CX0 6 fa fd ["_law_script"] (sp3 (K w.params) 1 zhj))
  (hlaw:∀ns:List Int,ns.length<=63->∃S',zhj [.ref 0] [.flst (ns.map D.int)]=some (.bl true,S')) :
  PySem.W.WalkO q loose XP YP l.row.toRowW d [] (λf vs=>PySem.call f vs) :=
 L2.walk_of (n:=63) (k:=6) (x:="_law_script") (CX:=λ_=>CX0) (sp:=λw=>sp3 (K w.params) 1 zhj) hn (by decide) hdf ⟨rfl,by decide,by decide,rfl⟩ hY F (λ_ _ a ns hl hO hS=>zyt hO hS (hlaw ns hl)) λ_ _ _ _ _ z=>z
end G
end
theorem qg0 {α:Type}{a:α}{l:List α}:(a :: l)[0]? = some a:=rfl
theorem qg1 {α:Type}{a:α}{i:Nat}{l:List α}:(a :: l)[i+1]? = l[i]?:=rfl
theorem qs0 {α:Type}{a b:α}{l:List α}:(a :: l).set 0 b=b :: l:=rfl
theorem qs1 {α:Type}{a b:α}{n:Nat}{l:List α}:(a :: l).set (n+1) b=a :: l.set n b:=rfl
theorem qlt {α:Type}{l:List α}{i:Nat}{a:α}(h:l[i]? = some a):i<l.length:=(List.getElem?_eq_some_iff.mp h).1
namespace M
open PySem L3 G
local macro_rules
 | `(term| nofun)=>`(by first|rfl|trivial)
local macro_rules
 | `(term| ‹$x›)=>`(some (.int ($x : Int)))
local macro_rules
 | `(term| ~~~$x)=>`(some (.ref $x))
local macro_rules
 | `(tactic| dsimp! only [$xs,*])=>`(tactic| simp only [$xs,*,List.map_cons,List.map_nil,List.length_cons,List.length_nil,Nat.reduceAdd,Nat.reduceSub,List.replicate,List.cons_append,List.nil_append])
theorem zay {S:Sto}{n:Nat}{xs:List D}(h:S[n]? = some (.lst xs)):lstOf S n=some xs:=by unfold lstOf;rw [h]
inductive PQ (ns:List Int) (c:Nat) (S:Sto):Prop
 | mk (at' r:Int) (e:S[2]? = some (.lst [.ref 1,.int at',.int r])) (s:lstOf S 1=some (ns.map D.int)) (a0:0<=at') (a1:at'<=c) (r0:0<=r)
def Fn (S S':Sto):Prop:=∀(j:Nat) (o:Ob),j≠2->S[j]? = some o->S'[j]? = some o
theorem Fn.trans {A B C:Sto}(h:Fn A B) (g:Fn B C):Fn A C:=λj o hj e=>g j o hj (h j o hj e)
theorem Fn.gr {A B:Sto}(h:Gr A B):Fn A B:=λ_ _ _ e=>h.get e
theorem Fn.set {A:Sto}{o:Ob}:Fn A (A.set 2 o):=λj o' hj e=>by rw [List.getElem?_set_ne (Ne.symm hj)];exact e
theorem Fn.lst {m:Nat}{A B:Sto}{xs:List D}(h:Fn A B) (hm:m≠2) (e:lstOf A m=some xs):lstOf B m=some xs:=by
 unfold lstOf at e ⊢
 cases q:A[m]? with
 | none=>rw [q] at e;cases e
 | some o=>rw [h m o hm q];rw [q] at e;exact e
theorem PQ.gr {ns:List Int}{c:Nat}{A B:Sto}(h:PQ ns c A) (g:Gr A B):PQ ns c B:=by
 obtain ⟨x,y,e,f,r1,r2,r3⟩:=h
 exact ⟨x,y,g.get e,g.lst f,r1,r2,r3⟩
theorem PQ.mono {ns:List Int}{c d:Nat}{A:Sto}(h:PQ ns c A) (g:c<=d):PQ ns d A:=by
 obtain ⟨x,y,e,f,r1,r2,r3⟩:=h
 exact ⟨x,y,e,f,r1,by omega,r3⟩
theorem PQ.lt {ns:List Int}{c:Nat}{A:Sto}(h:PQ ns c A):3<=A.length:=by
 obtain ⟨x,y,e,_⟩:=h
 have:=(qme e).1
 omega
theorem PQ.setN {ns:List Int}{c:Nat}{A:Sto}{n:Nat}{o:Ob}(h:PQ ns c A) (hn:3<=n):PQ ns c (A.set n o):=by
 obtain ⟨x,y,e,f,r1,r2,r3⟩:=h
 refine ⟨x,y,by rw [List.getElem?_set_ne (by omega)];exact e,?_,r1,r2,r3⟩
 unfold lstOf at f ⊢
 rw [List.getElem?_set_ne (by omega)];exact f
theorem Fn.setN {A B:Sto}{n:Nat}{o:Ob}(h:Fn A B) (hn:A.length<=n):Fn A (B.set n o):=λj o' hj e=>by
 have:j<A.length:=(qme e).1
 rw [List.getElem?_set_ne (by omega)];exact h j o' hj e
theorem Fn.len {A B:Sto}(h:Fn A B) (hB:3<=B.length):A.length<=B.length:=by
 rcases Nat.lt_or_ge B.length A.length with z|z
 ·have hj:A.length-1<A.length:=by omega
  have e:=qge hj
  have:=(qme (h (A.length-1) _ (by omega) e)).1
  omega
 ·exact z
theorem ydg {S:Sto}{a b c v:D}(h:S[2]? = some (.lst [a,b,c])):zd3 (.ref 2) (.int 1) v S=some (S.set 2 (.lst [a,v,c])):=by
 unfold zd3;simp only [h];rfl
theorem zsd {S:Sto}{a b c v:D}(h:S[2]? = some (.lst [a,b,c])):zd3 (.ref 2) (.int 2) v S=some (S.set 2 (.lst [a,b,v])):=by
 unfold zd3;simp only [h];rfl
theorem zhk {S:Sto}{n:Nat}{o o':Ob}(h:S[n]? = some o'):(S.set n o)[n]? = some o:=List.getElem?_set_self (qme h).1
theorem ydh (i:Int) (h0:0<=i) (h1:i<5):∃p,L2.atI [D.int 2147483647,.int 2147483629,.int 2147483587,.int 2147483579,.int 2147483563] i=some (.int p)/\0<p/\p<2147483648:=by
 have:i=0\/i=1\/i=2\/i=3\/i=4:=by omega
 rcases this with rfl|rfl|rfl|rfl|rfl <;> exact ⟨_,rfl,by decide,by decide⟩
inductive TkP (ns:List Int) (c:Nat) (m:Int) (S:Sto) (v:D) (S':Sto):Prop
 | mk (d:Nat) (e:v=.int (d:Int)) (h:(d:Int)<m) (p:PQ ns (c+1) S') (f:Fn S S')
local macro_rules
 | `(tactic| simp! only [$xs,*])=>`(tactic| simp only [zbc,zc3,zbm,zco,zbt,zb5,zak,zbv,zbg,zcc,zcb,zek,za0,zdn,zcf,zcg,zch,zbe,zca,za6,zbk,zd4,zcv,zcw,zc6,zd5,zej,zd6,zd7,zdr,zds,zdw,zdt,zdu,zdv,zdx,zex,zev,zd8,zd9,zcd,zc4,zea,zeb,zdj,zed,zel,zc7,zcp,zdh,zem,zew,zen,zdo,zeo,zep,zdp,zdq,zdk,zdb,List.map_cons,List.map_nil,List.length_cons,List.length_nil,Nat.reduceAdd,Nat.reduceSub,List.replicate,List.cons_append,List.nil_append,qg0,qg1,qs0,qs1,za7,zbo,zb0,zes,zet,zeu,zeq,zer,zcx,decide_eq_true_eq,zef,$xs,*])
theorem zbj {ns:List Int}{c:Nat}{m:Int}{S:Sto}(h:PQ ns c S) (hc:c<100000000) (h1:0<m) (h2:m<1073741824):Wo (za4 [.ref 2,.int m] S) (TkP ns c m S):=by
 obtain ⟨a,r,hS,hs,a0,a1,r0⟩:=h
 have sz5:5<=sizeLine:=by decide
 unfold za4 zrv
 by_cases hr:0<r
 ·dsimp! only [zbc]
  refine zdy (λ_ _=>False) (TkP ns c m S) ?_ (λ_ _ z=>z.elim) (λd _ _ o=>o)
  simp! only [zay hS,zsd hS,decide_eq_true_eq,hr,h1,h2,if_true,true_and,and_self]
  have d0:=Int.emod_nonneg r (show m≠0 by omega)
  have d1:=Int.emod_lt_of_pos r h1
  refine .inr ⟨_,rfl,(r % m).toNat,by rw [Int.toNat_of_nonneg d0],by rw [Int.toNat_of_nonneg d0];exact d1,⟨a,r / m,zhk hS,Fn.set.lst (by decide) hs,a0,by omega,Int.ediv_nonneg r0 (by omega)⟩,Fn.set⟩
 dsimp! only [zbc]
 refine zbr (l':=[~~~2,some (.int m),none,none,none,none,none]) (S':=S) (by simp! only [zay hS,decide_eq_true_eq,hr,if_false,and_self]) ?_
 refine zbr (l':=[~~~2,some (.int m),none,some (.int a),none,none,none]) (S':=S) (by simp! only [zay hS];exact ⟨nofun,nofun,nofun⟩) ?_
 refine zbr (l':=[~~~2,some (.int m),none,some (.int a),none,none,none]) (S':=S.set 2 (.lst [.ref 1,.int (a+1),.int r])) (by simp! only [ydg hS,and_self]) ?_
 have hS2:(S.set 2 (.lst [.ref 1,.int (a+1),.int r]))[2]? = some (.lst [.ref 1,.int (a+1),.int r]):=zhk hS
 have hs2:lstOf (S.set 2 (.lst [.ref 1,.int (a+1),.int r])) 1=some (ns.map D.int):=Fn.set.lst (by decide) hs
 have f02:Fn S (S.set 2 (.lst [.ref 1,.int (a+1),.int r])):=Fn.set
 generalize S.set 2 (.lst [.ref 1,.int (a+1),.int r])=S2 at hS2 hs2 f02
 have f1:(-(2 ^ 64):Int)<7919/\(7919:Int)<2 ^ 64:=by decide
 have f5:(0:Int)<=18/\(18:Int)<=1000000/\Int.natAbs 10<2 ^ 64:=by decide
 have f7:(0:Int)<5:=by decide
 refine zbr (l':=[~~~2,some (.int m),none,some (.int a),some (.int (7919*a+11)),none,none]) (S':=S2) (by simp! only [f1,true_or,and_self,true_and]) ?_
 refine zaz (λl S'=>∃k:Int,l=[~~~2,some (.int m),none,some (.int a),some (.int k),none,none]/\S' = S2) ?_ ?_
 ·by_cases hl:0<(ns.length:Int)
  ·obtain ⟨x,e1,e2⟩:=ybm (ns.map D.int) (a % (ns.length:Int)) (Int.emod_nonneg _ (by omega)) (by rw [qlm];exact Int.emod_lt_of_pos _ hl)
   obtain ⟨k,_,rfl⟩:=List.mem_map.mp e2
   simp! only [zay hS2,hs2,e1,hl,qlm,decide_true,if_true,true_and,and_self]
   first|exact ⟨nofun,k,rfl,nofun⟩|exact ⟨k,rfl,nofun⟩|exact ⟨k,rfl⟩
  ·simp! only [zay hS2,hs2,hl,qlm,if_false,decide_false,qbf]
   first|exact ⟨nofun,_,rfl,nofun⟩|exact ⟨_,rfl,nofun⟩|exact ⟨_,rfl⟩
 rintro l S3 ⟨k,rfl,rfl⟩
 by_cases hb:a<(ns.length:Int)/\10 ^ Int.toNat 18<=(if k<0 then -k else k)
 ·obtain ⟨hb1,hb2⟩:=hb
  refine zdy (λ_ _=>False) (TkP ns c m S) ?_ (λ_ _ z=>z.elim) (λd _ _ o=>o)
  simp! only [zay hS2,hs2,hb1,hb2,qlm,zsd hS2,h1,h2,f5,if_true,true_and,and_self,decide_true]
  have d0:=Int.emod_nonneg (if k<0 then -k else k) (show m≠0 by omega)
  have d1:=Int.emod_lt_of_pos (if k<0 then -k else k) h1
  exact .inr ⟨_,rfl,((if k<0 then -k else k) % m).toNat,by rw [Int.toNat_of_nonneg d0],by rw [Int.toNat_of_nonneg d0];exact d1,⟨a+1,(if k<0 then -k else k) / m,zhk hS2,Fn.set.lst (by decide) hs2,by omega,by omega,Int.ediv_nonneg (by split <;> omega) (by omega)⟩,f02.trans Fn.set⟩
 refine zbr (l':=[~~~2,some (.int m),none,some (.int a),some (.int k),none,none]) (S':=S3) ?_ ?_
 ·by_cases hb1:a<(ns.length:Int)
  ·have hb2:¬10 ^ Int.toNat 18<=(if k<0 then -k else k):=λz=>hb ⟨hb1,z⟩
   simp! only [zay hS2,hs2,hb1,hb2,qlm,f5,if_true,if_false,true_and,and_self,decide_true,decide_false,qbf]
  ·simp! only [zay hS2,hs2,hb1,qlm,if_false,decide_false,qbf,true_and,and_self]
 obtain ⟨p1,hp1,p1a,p1b⟩:=ydh (a % 5) (by omega) (by omega)
 refine zbr (l':=[~~~2,some (.int m),none,some (.int a),some (.int k),some (.int p1),none]) (S':=S3) (by simp! only [hp1,f7,sz5,decide_true,true_and,and_self]) ?_
 have q1:0<=k % 2147483549:=Int.emod_nonneg _ (by omega)
 have q2:k % 2147483549<2147483549:=Int.emod_lt_of_pos _ (by omega)
 refine zaz (λl S'=>∃n1:Int,0<=n1/\n1<2147483648/\l=[~~~2,some (.int m),none,some (.int a),some (.int k),some (.int p1),some (.int n1)]/\S' = S3) ?_ ?_
 ·have g1:(-(2 ^ 64):Int)<a/\a<2 ^ 64:=by omega
  have g2:(-(2 ^ 64):Int)<k % 2147483549+1/\k % 2147483549+1<2 ^ 64:=by omega
  have g3:(0:Int)<2147483549:=by decide
  simp! only [g1,g2,g3,p1a,decide_true,true_or,true_and,and_true,and_self]
  first|exact ⟨nofun,_,Int.emod_nonneg _ (by omega),by have:=Int.emod_lt_of_pos ((k % 2147483549+1)*(a*a+48271)) p1a;omega,rfl,nofun⟩|exact ⟨_,Int.emod_nonneg _ (by omega),by have:=Int.emod_lt_of_pos ((k % 2147483549+1)*(a*a+48271)) p1a;omega,rfl⟩
 rintro l S4 ⟨n1,n0,n2,rfl,rfl⟩
 refine zaz (λl S'=>∃n1:Int,0<=n1/\n1<2147483648/\l=[~~~2,some (.int m),none,some (.int a),some (.int k),some (.int p1),some (.int n1)]/\S' = S4) ?_ ?_
 ·have q8:(0:Int)<=3/\(3:Int)<=1000000/\n1.natAbs<2 ^ 64:=⟨by decide,by decide,by omega⟩
  have f3:(-(2 ^ 64):Int)<69621/\(69621:Int)<2 ^ 64:=by decide
  have f8:(0:Int)<2147483543:=by decide
  simp! only [q8,f3,f8,decide_true,true_or,true_and,and_true,and_self]
  have z1:=Int.emod_nonneg (n1 ^ Int.toNat 3+69621*a+3) (b:=2147483543) (by omega)
  have z2:=Int.emod_lt_of_pos (n1 ^ Int.toNat 3+69621*a+3) f8
  first|exact ⟨nofun,_,z1,by omega,rfl,nofun⟩|exact ⟨_,z1,by omega,rfl⟩
 rintro l S5 ⟨n3,n4,n5,rfl,rfl⟩
 have g4:(-(2 ^ 64):Int)<n3/\n3<2 ^ 64:=by omega
 have g5:(0:Int)<65521:=by decide
 have g6:(0:Int)<2147483497:=by decide
 have f6:(0:Int)<64/\(64:Int)<1073741824:=by decide
 simp! only [g4,g5,g6,f6,h1,h2,decide_true,true_or,true_and,and_self]
 generalize n3*(n3 % 65521+a+5) % 2147483497 / 64=q
 have d0:=Int.emod_nonneg q (show m≠0 by omega)
 have d1:=Int.emod_lt_of_pos q h1
 exact ⟨(q % m).toNat,by rw [Int.toNat_of_nonneg d0],by rw [Int.toNat_of_nonneg d0];exact d1,⟨a+1,r,hS2,hs2,by omega,by omega,r0⟩,f02⟩
theorem zf9 {α:Type}{x:α}:(∃y,some x=some y)=True:=by simp
theorem zcs:1000000<=sizeLine:=by decide
theorem zcy {t:TM}{m n:SM}{l:Lo}{S:Sto}{Q:Fl->Lo->Sto->Prop}(R:Bool->Sto->Prop) (h:Wt t l S R) (h1:∀S1,R true S1->Ws m l S1 Q) (h2:∀S1,R false S1->Ws n l S1 Q):Ws (sIf t m n) l S Q:=by
 rw [zbm]
 obtain ⟨k,S1,e,r⟩:=h
 refine ⟨k,S1,e,?_⟩
 cases k with
 | true=>exact h1 S1 r
 | false=>exact h2 S1 r
noncomputable def oD:Option Nat->D
 | none=>.non
 | some k=>.int (k:Int)
theorem zdd (o:Option Nat):ze0 (oD o)=o.isNone:=by cases o <;> rfl
theorem zlf (k:Nat):oD (some k)=.int (k:Int):=rfl
abbrev Cl:=Option Nat × Option Nat
noncomputable def kD (c:Cl):D:=.tup [oD c.1,oD c.2]
noncomputable def roD (cs:List Cl):D:=.tup (cs.map kD)
noncomputable def mD (A:Nat) (g:List (List Cl)):D:=.tup [.int (A:Int),.tup (g.map roD)]
structure OkM (A:Nat) (g:List (List Cl)):Prop where
 a1:1<=A
 a4:A<=4
 r1:1<=g.length
 r24:g.length<=24
 len:∀cs∈g,cs.length=A
 go:∀cs∈g,∀c∈cs,∀x,c.1=some x->x<g.length
noncomputable def cell (g:List (List Cl)) (r a:Nat):Cl:=((g[r]?).bind λcs=>cs[a]?).getD (none,none)
section
variable {A:Nat}{g:List (List Cl)}{r a:Nat}{S:Sto}{Q:D->Sto->Prop}
theorem zse (h:OkM A g) (hr:r<g.length) (ha:a<A):∃cs,g[r]? = some cs/\cs[a]? = some (cell g r a)/\cs∈g/\cell g r a∈cs:=by
 have h1:g[r]? = some g[r]:=qge hr
 have h2:g[r]∈g:=List.getElem_mem hr
 have h3:a<g[r].length:=by rw [h.len _ h2];exact ha
 have h4:g[r][a]? = some g[r][a]:=qge h3
 have h5:cell g r a=g[r][a]:=by unfold cell;rw [h1];show (g[r][a]?).getD _=_;rw [h4];rfl
 exact ⟨_,h1,by rw [h5];exact h4,h2,by rw [h5];exact List.getElem_mem h3⟩
theorem zlg (h:OkM A g) (hr:r<g.length) (ha:a<A):∃cs:List Cl,L2.atI (g.map roD) (r:Int)=some (.tup (cs.map kD))/\L2.atI (cs.map kD) (a:Int)=some (.tup [oD (cell g r a).1,oD (cell g r a).2]):=by
 obtain ⟨cs,h1,h2,_⟩:=zse h hr ha
 exact ⟨cs,atI_get (by rw [qgm,h1];rfl),atI_get (by rw [qgm,h2];rfl)⟩
end
theorem zlh (xs:List D) (c:Nat) (h:c<=xs.length):cutD xs none (some (c:Int))=xs.take c:=by
 unfold cutD
 rw [HT.sIx_none,HT.sIx_nat]
 simp
 try omega
theorem zsf (xs:List D) (c:Nat) (h:c<=xs.length):cutD xs (some (c:Int)) none=xs.drop c:=by
 unfold cutD
 rw [HT.sIx_none,HT.sIx_nat]
 have:min c xs.length=c:=by omega
 simp only [this]
 rw [List.take_of_length_le (by rw [List.length_drop];omega)]
theorem znr {ea ek:EM}{n i:Nat}{xs:List D}{y:D}{l:Lo}{S:Sto}{Q:D->Sto->Prop}(ha:∀Q',We ea l S Q' = Q' (.tup xs) S) (hk:∀Q',We ek l S Q' = Q' (.int (i:Int)) S) (hn:l[n]? = some (some y)) (hi:i<xs.length) (hx:xs.length<=100) (q:Q (.tup (xs.set i y)) S) :
  We (eOp za2 (eOp za2 (zcq ea (zct) (zcl ek)) (zaf zau (zab (zaa n) (zae)))) (zcq ea (zcl (eOp za2 ek (eC (.int 1)))) (zct))) l S Q:=by
 have big:=zcs
 have e:(i:Int)+1=((i+1:Nat):Int):=by push_cast;rfl
 simp only [zbt,zdw,zak,ha,hk,hn,za7,zdt,zdu,zdv,zdx,zbe,za6,zbk,zc7,zds,zbv,zdr,e,zlh xs i (by omega),zsf xs (i+1) (by omega),List.length_cons,List.length_nil,qla,List.length_take,List.length_drop]
 have e2:xs.take i++[y]++xs.drop (i+1)=xs.set i y:=by
  rw [List.set_eq_take_append_cons_drop,if_pos hi,List.append_assoc];rfl
 rw [e2]
 exact ⟨by omega,by omega,by omega,q⟩
theorem ydi {ea ek ey:EM}{i:Nat}{xs:List D}{y:D}{l:Lo}{S:Sto}{Q:D->Sto->Prop}(ha:∀Q',We ea l S Q' = Q' (.tup xs) S) (hk:∀Q',We ek l S Q' = Q' (.int (i:Int)) S) (hn:∀Q',We ey l S Q' = Q' y S) (hi:i<xs.length) (hx:xs.length<=100) (q:Q (.tup (xs.set i y)) S) :
  We (eOp za2 (eOp za2 (zcq ea (zct) (zcl ek)) (zaf zau (zab ey (zae)))) (zcq ea (zcl (eOp za2 ek (eC (.int 1)))) (zct))) l S Q:=by
 have big:=zcs
 have e:(i:Int)+1=((i+1:Nat):Int):=by push_cast;rfl
 simp only [zbt,zdw,zak,ha,hk,hn,za7,zdt,zdu,zdv,zdx,zbe,za6,zbk,zc7,zds,zbv,zdr,e,zlh xs i (by omega),zsf xs (i+1) (by omega),List.length_cons,List.length_nil,qla,List.length_take,List.length_drop]
 have e2:xs.take i++[y]++xs.drop (i+1)=xs.set i y:=by
  rw [List.set_eq_take_append_cons_drop,if_pos hi,List.append_assoc];rfl
 rw [e2]
 exact ⟨by omega,by omega,by omega,q⟩
noncomputable def put (g:List (List Cl)) (r:Nat) (cs:List Cl) (a:Nat) (c:Cl):List (List Cl):=g.set r (cs.set a c)
theorem ydj {A:Nat}{g:List (List Cl)}{r a:Nat}{cs:List Cl}{c:Cl}(h:OkM A g) (hr:g[r]? = some cs) (hc:∀x,c.1=some x->x<g.length):OkM A (put g r cs a c):=by
 have hl:(put g r cs a c).length=g.length:=by simp [put]
 have hm:∀ds∈put g r cs a c,ds∈g\/ds=cs.set a c:=λds hd=>List.mem_or_eq_of_mem_set hd
 refine ⟨h.a1,h.a4,by rw [hl];exact h.r1,by rw [hl];exact h.r24,λds hd=>?_,λds hd d hd2 x hx=>?_⟩
 ·rcases hm ds hd with z|rfl
  ·exact h.len ds z
  ·rw [List.length_set];exact h.len cs (qmg hr)
 ·rw [hl]
  rcases hm ds hd with z|rfl
  ·exact h.go ds z d hd2 x hx
  ·rcases List.mem_or_eq_of_mem_set hd2 with z|rfl
   ·exact h.go cs (qmg hr) d z x hx
   ·exact hc x hx
theorem ydk {S:Sto}{n i:Nat}{xs:List D}{v:D}(h:S[n]? = some (.lst xs)) (hi:i<xs.length):zd3 (.ref n) (.int (i:Int)) v S=some (S.set n (.lst (xs.set i v))):=by
 unfold zd3
 simp only [h]
 unfold L2.ixN
 rw [if_pos (by omega),if_pos (by omega)]
 rfl
theorem zns {a b c d:Int}(i:Nat) (h1:(i:Int)<4):∃x,L2.atI [D.int a,D.int b,D.int c,D.int d] (i:Int)=some (.int x)/\(x=a\/x=b\/x=c\/x=d):=by
 have:i=0\/i=1\/i=2\/i=3:=by omega
 rcases this with rfl|rfl|rfl|rfl
 ·exact ⟨a,rfl,by simp⟩
 ·exact ⟨b,rfl,by simp⟩
 ·exact ⟨c,rfl,by simp⟩
 ·exact ⟨d,rfl,by simp⟩
inductive CeP (ns:List Int) (c many:Nat) (S:Sto) (v:D) (S':Sto):Prop
 | mk (q:Cl) (e:v=kD q) (h:∀x,q.1=some x->x<many) (p:PQ ns (c+4) S') (f:Fn S S')
theorem ydl {ns:List Int}{c many wd:Nat}{sh sf:Int}{S:Sto}(h:PQ ns c S) (hc:c<90000000) (hm:1<=many) (hm2:many<=100) (hw:1<=wd) (hw2:wd<=8):Wo (zj2 [.ref 2,.int sh,.int (wd:Int),.int sf,.int (many:Int)] S) (CeP ns c many S):=by
 have sz:=zcs
 unfold zj2 zr2
 dsimp! only [zbc]
 refine zbr (l':=[~~~2,some (.int sh),‹wd›,some (.int sf),‹many›,some .non,none]) (S':=S) ⟨_,_,_,rfl,rfl,rfl,rfl⟩ ?_
 refine zbr (l':=[~~~2,some (.int sh),‹wd›,some (.int sf),‹many›,some .non,some .non]) (S':=S) ⟨_,_,_,rfl,rfl,rfl,rfl⟩ ?_
 refine zaz (λl S'=>∃o:Option Nat,(∀x,o=some x->x<many)/\PQ ns (c+2) S'/\Fn S S'/\l=[~~~2,some (.int sh),‹wd›,some (.int sf),‹many›,some (oD o),some .non]) ?_ ?_
 ·simp! only [zak]
  refine (zbj h (by omega) (by decide) (by decide)).mono ?_
  rintro v S1 ⟨d,rfl,hd,p1,f1⟩
  simp! only [zak]
  split
  ·refine (zbj p1 (by omega) (by omega) (by omega)).mono ?_
   rintro v S2 ⟨e,rfl,he,p2,f2⟩
   exact ⟨nofun,some e,λx hx=>by cases hx;omega,p2,f1.trans f2,rfl⟩
  ·exact ⟨nofun,none,λx hx=>(by cases hx),p1.mono (by omega),f1,rfl⟩
 rintro l S1 ⟨o,ho,p1,f1,rfl⟩
 refine zaz (λl S'=>∃q:Option Nat,PQ ns (c+4) S'/\Fn S S'/\l=[~~~2,some (.int sh),‹wd›,some (.int sf),‹many›,some (oD o),some (oD q)]) ?_ ?_
 ·simp! only [zak]
  refine (zbj p1 (by omega) (by decide) (by decide)).mono ?_
  rintro v S2 ⟨d,rfl,hd,p2,f2⟩
  simp! only [zak]
  split
  ·refine (zbj p2 (by omega) (by omega) (by omega)).mono ?_
   rintro v S3 ⟨e,rfl,he,p3,f3⟩
   have f8:(0:Int)<8:=by decide
   simp! only [f8,decide_true,true_and]
   have d0:=Int.emod_nonneg ((e:Int)+sf) (b:=8) (by omega)
   exact ⟨some (((e:Int)+sf) % 8).toNat,p3,f1.trans (f2.trans f3),by rw [zlf,Int.toNat_of_nonneg d0]⟩
  ·exact ⟨nofun,none,p2.mono (by omega),f1.trans f2,rfl⟩
 rintro l S2 ⟨q,p2,f2,rfl⟩
 simp! only [zak]
 exact ⟨by omega,(o,q),rfl,ho,p2,f2⟩
def OkR (A many:Nat) (cs:List Cl):Prop:=cs.length=A/\∀c∈cs,∀x,c.1=some x->x<many
theorem ydm {A many:Nat}{g:List (List Cl)}(a1:1<=A) (a4:A<=4) (h:∀cs∈g,OkR A many cs) (hl:g.length=many) (m1:1<=many) (m24:many<=24):OkM A g:=⟨a1,a4,by omega,by omega,λcs hcs=>(h cs hcs).1,λcs hcs c hc x hx=>by rw [hl];exact (h cs hcs).2 c hc x hx⟩
theorem zsg {many:Nat}:∀{vs:List D},(∀v∈vs,∃q:Cl,v=kD q/\∀x,q.1=some x->x<many)->∃cs:List Cl,vs=cs.map kD/\∀c∈cs,∀x,c.1=some x->x<many
 | [],_=>⟨[],rfl,λc hc=>by cases hc⟩
 | v :: vs,h=>by
  obtain ⟨c,e,hc⟩:=h v List.mem_cons_self
  obtain ⟨r,e2,hr⟩:=zsg (vs:=vs) λw hw=>h w (List.mem_cons_of_mem _ hw)
  refine ⟨c :: r,by rw [e,e2];rfl,λd hd=>?_⟩
  rcases List.mem_cons.mp hd with rfl|hd
  ·exact hc
  ·exact hr d hd
inductive MaP (ns:List Int) (c A many:Nat) (S:Sto) (v:D) (S':Sto):Prop
 | mk (g:List (List Cl)) (e:v=mD A g) (ok:OkM A g) (l:g.length=many) (p:PQ ns (c+600) S') (f:Fn S S')
local macro_rules
 | `(tactic| simp_all! only [$xs,*])=>`(tactic| simp only [zco,zbt,zb5,zak,zbv,za0,zdn,zcf,zcg,zch,zbe,zca,za6,zbk,zd4,zcv,zcw,zc6,zd5,zej,zd6,zd7,zdr,zds,zdw,zdt,zdu,zdv,zdx,zex,zev,zd8,zd9,zcd,zc4,zea,zeb,zdj,zed,zel,zc7,zcp,zdh,zem,zew,zen,zdo,zeo,zep,zdp,zdq,zdk,zdb,List.map_cons,List.map_nil,List.length_cons,List.length_nil,Nat.reduceAdd,Nat.reduceSub,List.replicate,List.cons_append,List.nil_append,qg0,qg1,qs0,qs1,za7,zbo,zb0,zes,zet,zeu,zeq,zer,zcx,decide_eq_true_eq,zef,$xs,*])
theorem zsh {ns:List Int}{c A many:Nat}{S:Sto}(h:PQ ns c S) (hc:c<80000000) (hm:1<=many) (hm2:many<=24) (a1:1<=A) (a4:A<=4):Wo (ziy [.ref 2,.int (A:Int),.int (many:Int)] S) (MaP ns c A many S):=by
 have sz:=zcs
 have l3:=h.lt
 unfold ziy zr3
 dsimp! only [zbc]
 refine zaz (λl S'=>∃sh:Int,PQ ns (c+1) S'/\Fn S S'/\l=[~~~2,‹A›,‹many›,some (.int sh),none,none,none,none,none,none,none]) ?_ ?_
 ·simp! only [zak]
  refine ⟨by omega,?_⟩
  refine (zbj h (by omega) (by decide) (by decide)).mono ?_
  rintro v S1 ⟨d,rfl,hd,p1,f1⟩
  obtain ⟨x,hx,_⟩:=zns (a:=0) (b:=1) (c:=3) (d:=6) d hd
  simp! only [hx]
  exact ⟨nofun,x,p1,f1,rfl⟩
 rintro l S1 ⟨sh,p1,f1,rfl⟩
 refine zaz (λl S'=>∃wd:Nat,1<=wd/\wd<=8/\PQ ns (c+2) S'/\Fn S S'/\l=[~~~2,‹A›,‹many›,some (.int sh),‹wd›,none,none,none,none,none,none]) ?_ ?_
 ·simp! only [zak]
  refine ⟨by omega,?_⟩
  refine (zbj p1 (by omega) (by decide) (by decide)).mono ?_
  rintro v S2 ⟨d,rfl,hd,p2,f2⟩
  obtain ⟨x,hx,hx2⟩:=zns (a:=1) (b:=2) (c:=2) (d:=8) d hd
  simp! only [hx]
  exact ⟨nofun,x.toNat,by omega,by omega,p2,f1.trans f2,by rw [Int.toNat_of_nonneg (by omega)]⟩
 rintro l S2 ⟨wd,w1,w8,p2,f2,rfl⟩
 refine zaz (λl S'=>∃al:Bool,PQ ns (c+3) S'/\Fn S S'/\l=[~~~2,‹A›,‹many›,some (.int sh),‹wd›,some (.bl al),none,none,none,none,none]) ?_ ?_
 ·simp! only [zak]
  refine (zbj p2 (by omega) (by decide) (by decide)).mono ?_
  rintro v S3 ⟨d,rfl,hd,p3,f3⟩
  simp! only [zak]
  exact ⟨nofun,_,p3,f2.trans f3,rfl⟩
 rintro l S3 ⟨al,p3,f3,rfl⟩
 refine zaz (λl S'=>∃sf:Int,PQ ns (c+4) S'/\Fn S S'/\l=[~~~2,‹A›,‹many›,some (.int sh),‹wd›,some (.bl al),some (.int sf),none,none,none,none]) ?_ ?_
 ·simp! only [zak]
  refine (zbj p3 (by omega) (by decide) (by decide)).mono ?_
  rintro v S4 ⟨d,rfl,hd,p4,f4⟩
  exact ⟨nofun,_,p4,f3.trans f4,rfl⟩
 rintro l S4 ⟨sf,p4,f4,rfl⟩
 have l4:=p4.lt
 have fl4:=f4.len l4
 refine zbr (l':=[~~~2,‹A›,‹many›,some (.int sh),‹wd›,some (.bl al),some (.int sf),some (.ref S4.length),none,none,none]) (S':=S4++[.lst []]) (by simp! only [zak];exact ⟨by omega,nofun,nofun,nofun⟩) ?_
 refine zaz (λl S'=>PQ ns (c+4+20*many) S'/\Fn S S'/\∃(g:List (List Cl)) (x8 x9 x10:Option D),(∀cs∈g,OkR A many cs)/\g.length=many/\S'[S4.length]? = some (.lst (g.map roD))/\l=[~~~2,‹A›,‹many›,some (.int sh),‹wd›,some (.bl al),some (.int sf),some (.ref S4.length),x8,x9,x10]) ?_ ?_
 ·refine zhf (λi l S'=>PQ ns (c+4+20*i) S'/\Fn S S'/\∃(g:List (List Cl)) (x8 x9 x10:Option D),(∀cs∈g,OkR A many cs)/\g.length=i/\S'[S4.length]? = some (.lst (g.map roD))/\l=[~~~2,‹A›,‹many›,some (.int sh),‹wd›,some (.bl al),some (.int sf),some (.ref S4.length),x8,x9,x10]) (λ_ _=>False) (n:=many) rfl (by omega) ⟨p4.gr ⟨_,rfl⟩,f4.trans (Fn.gr ⟨_,rfl⟩),[],_,_,_,λcs hcs=>(by cases hcs),rfl,zba,rfl⟩ ?_ ?_ (λd l' S' z=>z.elim)
  ·rintro i l S5 hi ⟨p5,f5,g,x8,x9,x10,okg,hl,hs5,rfl⟩
   simp only [za0,qs0,qs1]
   have app:∀(S9:Sto) (cs:List Cl) (x9 x10:Option D),PQ ns (c+4+20*i+20) S9->Fn S S9->S9[S4.length]? = some (.lst (g.map roD))->OkR A many cs->Wo (zfe (.ref S4.length) [roD cs] S9) λ_ S'=>PQ ns (c+4+20*(i+1)) S'/\Fn S S'/\∃(g:List (List Cl)) (x8' x9' x10':Option D),(∀cs∈g,OkR A many cs)/\g.length=i+1/\S'[S4.length]? = some (.lst (g.map roD))/\([~~~2,‹A›,‹many›,some (.int sh),‹wd›,some (.bl al),some (.int sf),some (.ref S4.length),‹i›,x9,x10]:Lo)=[~~~2,‹A›,‹many›,some (.int sh),‹wd›,some (.bl al),some (.int sf),some (.ref S4.length),x8',x9',x10']:=by
    intro S9 cs y9 y10 p9 f9 hs9 okc
    rw [zjx hs9 (by rw [qlm];omega)]
    refine ⟨(p9.setN l4).mono (by omega),f9.setN fl4,g++[cs],_,_,_,λds hd=>?_,by simp [hl],by rw [zhk hs9];simp,rfl⟩
    rcases List.mem_append.mp hd with z|z
    ·exact okg ds z
    ·have:ds=cs:=by simpa using z
     subst this;exact okc
   refine zcy (λb S'=>PQ ns (c+4+20*i+1) S'/\Fn S S'/\S'[S4.length]? = some (.lst (g.map roD))/\(b=true->0<i)) ?_ ?_ ?_
   ·simp! only [zd4]
    cases al with
    | false=>simp only [qbf,if_false];exact ⟨p5.mono (by omega),f5,hs5,λz=>by cases z⟩
    | true =>
     simp only [if_true]
     by_cases hi0:(0:Int)<(i:Int)
     ·simp only [hi0,decide_true,if_true]
      refine (zbj p5 (by omega) (by decide) (by decide)).mono ?_
      rintro v S6 ⟨d,rfl,hd,p6,f6⟩
      simp! only [zak]
      exact ⟨p6,f5.trans f6,f6 _ _ (by omega) hs5,λ_=>by omega⟩
     ·simp only [hi0,decide_false,qbf,if_false]
      exact ⟨p5.mono (by omega),f5,hs5,λz=>by cases z⟩
   ·rintro S6 ⟨p6,f6,hs6,hi0⟩
    have hi0:=hi0 rfl
    refine zaz (λl S'=>PQ ns (c+4+20*i+2) S'/\Fn S S'/\S'[S4.length]? = some (.lst (g.map roD))/\∃cs,cs∈g/\l=[~~~2,‹A›,‹many›,some (.int sh),‹wd›,some (.bl al),some (.int sf),some (.ref S4.length),‹i›,some (roD cs),x10]) ?_ ?_
    ·simp! only [zak]
     refine (zbj p6 (by omega) (by omega) (by omega)).mono ?_
     rintro v S7 ⟨d,rfl,hd,p7,f7⟩
     have hs7:=f7 _ _ (by omega) hs6
     obtain ⟨cs,hcs⟩:∃cs,g[d]? = some cs:=⟨_,qge (by omega)⟩
     have e1:L2.atI (g.map roD) (d:Int)=some (roD cs):=atI_get (by rw [qgm,hcs];rfl)
     simp! only [zay hs7,e1]
     exact ⟨nofun,p7,f6.trans f7,hs7,cs,qmg hcs,rfl⟩
    rintro l S7 ⟨p7,f7,hs7,cs,hcs,rfl⟩
    have okc:=okg cs hcs
    refine zaz (λl S'=>PQ ns (c+4+20*i+3) S'/\Fn S S'/\S'[S4.length]? = some (.lst (g.map roD))/\∃a:Nat,a<A/\l=[~~~2,‹A›,‹many›,some (.int sh),‹wd›,some (.bl al),some (.int sf),some (.ref S4.length),‹i›,some (roD cs),‹a›]) ?_ ?_
    ·simp! only [zak]
     refine (zbj p7 (by omega) (by omega) (by omega)).mono ?_
     rintro v S8 ⟨d,rfl,hd,p8,f8⟩
     exact ⟨nofun,p8,f7.trans f8,f8 _ _ (by omega) hs7,d,by omega,rfl⟩
    rintro l S8 ⟨p8,f8,hs8,a,ha,rfl⟩
    obtain ⟨d,hd⟩:∃d,cs[a]? = some d:=⟨_,qge (by rw [okc.1];exact ha)⟩
    have e2:L2.atI (cs.map kD) (a:Int)=some (.tup [oD d.1,oD d.2]):=atI_get (by rw [qgm,hd];rfl)
    rw [zcb,zca]
    simp only [zak,qg0,qg1,za7,zf7 hs8,zf9,true_and]
    rw [za6]
    refine ydi (xs:=cs.map kD) (i:=a) (y:=kD (d.1,none)) (λQ'=>by unfold roD;simp_all! only [zak]) (λQ'=>by simp_all! only [zak]) (λQ'=>?_) (by rw [qlm,okc.1];exact ha) (by rw [qlm,okc.1];omega) ?_
    ·have s2:2<=sizeLine:=by omega
     unfold roD
     simp_all! only [e2,s2,true_and]
     rfl
    rw [zbk]
    have:=app S8 (cs.set a (d.1,none)) (some (roD cs)) (some (.int (a:Int))) (p8.mono (by omega)) f8 hs8 ⟨by rw [List.length_set];exact okc.1,λq hq x hx=>by
     rcases List.mem_or_eq_of_mem_set hq with z|rfl
     ·exact okc.2 q z x hx
     ·exact okc.2 d (qmg hd) x hx⟩
    unfold roD at this ⊢
    rw [List.map_set] at this
    refine this.mono ?_
    rintro _ S9 q
    exact .inl ⟨(by first|exact .inl rfl|exact .inl trivial|trivial),q⟩
   ·rintro S6 ⟨p6,f6,hs6,_⟩
    rw [zcb,zca]
    simp only [zak,qg0,qg1,za7,zf7 hs6,zf9,true_and]
    rw [za6,zbe,za6]
    refine ybo (zb3 0 A) (λv=>∃q:Cl,v=kD q/\∀x,q.1=some x->x<many) (λj S'=>PQ ns (c+4+20*i+1+4*j) S'/\Fn S S'/\S'[S4.length]? = some (.lst (g.map roD))) (λl=>∃x0,l=[x0,~~~2,some (.int sh),‹wd›,some (.int sf),‹many›]) (zrc (n:=A) rfl (by omega)) ⟨p6,f6,hs6⟩ ⟨_,rfl⟩ (λj S' _=>rfl) (by rw [zjh];omega) ?_ ?_
    ·rintro j x l S7 hx ⟨x0,rfl⟩ ⟨p7,f7,hs7⟩
     have hj:=(zmv hx).1
     simp only [za0,qs0]
     refine ⟨⟨_,rfl⟩,?_⟩
     simp only [zbe,za6,zbk,zak,qg0,qg1,za7]
     refine (ydl p7 (by omega) hm (by omega) w1 w8).mono ?_
     rintro v S8 ⟨q,rfl,hq,p8,f8⟩
     exact ⟨⟨q,rfl,hq⟩,p8.mono (by omega),f7.trans f8,f8 _ _ (by omega) hs7⟩
    ·rintro vs S7 hvl hv ⟨p7,f7,hs7⟩
     obtain ⟨cs,rfl,hcs⟩:=zsg hv
     rw [zjh] at hvl p7
     rw [qlm] at hvl
     simp only [zbk,zdh,zcx,zbo]
     have:=app (S7++[.lst (cs.map kD)]) cs x9 x10 ((p7.gr ⟨_,rfl⟩).mono (by omega)) (f7.trans (Fn.gr ⟨_,rfl⟩)) (zas hs7) ⟨hvl,hcs⟩
     unfold roD at this ⊢
     refine this.mono ?_
     rintro _ S9 q
     exact .inl ⟨(by first|exact .inl rfl|exact .inl trivial|trivial),q⟩
  ·rintro l' S' ⟨p5,f5,rest⟩
   exact ⟨rfl,p5,f5,rest⟩
 rintro l S5 ⟨p5,f5,g,x8,x9,x10,okg,hl,hs5,rfl⟩
 simp! only [zay hs5]
 exact ⟨by omega,g,rfl,ydm a1 a4 okg hl hm hm2,hl,p5.mono (by omega),f5⟩
theorem zsi {n:Nat}{i:Int}{S:Sto}{xs:List D}(h:S[n]? = some (.lst xs)) (h0:0<=i) (h1:i<xs.length) (h2:xs.length<1000000):∃y,xs[i.toNat]? = some y/\∀Q:D->Sto->Prop,Wo (zg8 (.ref n) [.int i] S) Q=Q y (S.set n (.lst (xs.eraseIdx i.toNat))):=by
 have hl:i.toNat<xs.length:=by omega
 refine ⟨xs[i.toNat],qge hl,λQ=>?_⟩
 have e:PySem.seqIndex? i xs.length=some i.toNat:=by
  unfold PySem.seqIndex?
  first
   | (simp;omega)
   | (rw [if_pos (by omega)];try rw [if_pos (by omega)])
 have:zg8 (.ref n) [.int i] S=some (xs[i.toNat],S.set n (.lst (xs.eraseIdx i.toNat))):=by
  unfold zg8
  dsimp only
  rw [h]
  dsimp only
  rw [e]
  show ((xs[i.toNat]?).bind _)=_
  rw [qge hl]
  show (if _ then _ else _)=_
  rw [if_pos (by omega)]
 rw [this];exact zbb
noncomputable def nD (a:Nat):D:=.int (a:Int)
theorem ydn (n:Nat):zb3 0 n=(List.range n).map nD:=by
 unfold zb3 nD
 apply List.map_congr_left
 intro i _
 show D.int (0+(i:Int))=D.int (i:Int)
 rw [Int.zero_add]
theorem zsj:∀(l:List Nat) (i:Nat) (h:i<l.length),(l[i] :: l.eraseIdx i).Perm l
 | [],i,h=>absurd h (Nat.not_lt_zero _)
 | x :: l,0,_=>.refl _
 | x :: l,i+1,h=>by
  have ih:=zsj l i (by simpa using h)
  show (l[i]'(by simpa using h) :: x :: l.eraseIdx i).Perm (x :: l)
  exact (List.Perm.swap ..).trans (ih.cons x)
theorem zsk {α β:Type}(f:α->β):∀(l:List α) (i:Nat),(l.map f).eraseIdx i=(l.eraseIdx i).map f
 | [],_=>rfl
 | x :: l,0=>rfl
 | x :: l,i+1=>by
  show f x :: (l.map f).eraseIdx i=f x :: (l.eraseIdx i).map f
  rw [zsk f l i]
inductive OrP (ns:List Int) (c many:Nat) (S:Sto) (v:D) (S':Sto):Prop
 | mk (n:Nat) (os:List Nat) (e:v=.ref n) (hn:S.length<=n) (hs:S'[n]? = some (.lst (os.map nD))) (pm:os.Perm (List.range many)) (p:PQ ns (c+many) S') (f:Fn S S')
theorem zsl {ns:List Int}{c many:Nat}{S:Sto}(h:PQ ns c S) (hc:c<80000000) (hm:many<=600):Wo (zf8 [.ref 2,.int (many:Int)] S) (OrP ns c many S):=by
 have sz:=zcs
 have l3:=h.lt
 unfold zf8 zrx
 dsimp! only [zbc]
 have hr0:∀y:Int,0<=y/\y<1000->zb9 (zab (zaa 1) zae) [~~~2,some (.int y),none] S=some ((0,y.toNat),S):=λy hy=>by
  unfold zb9
  show (if _ then _ else _)=_
  rw [if_pos (by omega)]
 have hr:=hr0 (many:Int) (by omega)
 rw [Int.toNat_natCast] at hr
 refine zbr (l':=[~~~2,‹many›,some (.ref S.length)]) (S':=S++[.lst ((List.range many).map nD)]) ?_ ?_
 ·rw [zbg]
  refine ⟨.ref S.length,S++[.lst (zb3 0 many)],?_,?_⟩
  ·unfold zm0
   rw [hr]
   show (if many<=sizeLine then _ else _)=_
   rw [if_pos (by omega)]
  ·rw [ydn]
   simp only [za0,qs0,qs1]
   first|exact ⟨nofun,nofun,nofun⟩|exact ⟨nofun,nofun⟩
 rw [zcc]
 refine zjr (zb3 0 many) (λi acc l S'=>∃(os left:List Nat) (x0:Option D),acc=os.map nD/\os.length=i/\(os++left).Perm (List.range many)/\S'[S.length]? = some (.lst (left.map nD))/\PQ ns (c+i) S'/\Fn S S'/\l=[x0,some (.ref S.length),~~~2]) (zrc (n:=many) rfl (by omega)) ⟨[],List.range many,none,rfl,rfl,.refl _,zba,h.gr ⟨_,rfl⟩,Fn.gr ⟨_,rfl⟩,rfl⟩ (λ_ _ _ _ _=>rfl) ?_ ?_
 ·rintro i x acc l S1 hx ⟨os,left,x0,rfl,hl,pm,hs1,p1,f1,rfl⟩
  have hi:=(zmv hx).1
  have hll:os.length+left.length=many:=by
   have:=pm.length_eq
   rw [qla,List.length_range] at this;exact this
  simp only [za0,qs0]
  refine ⟨true,S1,rfl,?_⟩
  dsimp only
  rw [if_pos rfl,zca]
  simp_all! only [zf7 hs1,zay hs1,zf9,true_and,qlm]
  refine (zbj p1 (by omega) (by omega) (by omega)).mono ?_
  rintro v S2 ⟨d,rfl,hd,p2,f2⟩
  have hs2:=f2 _ _ (by omega) hs1
  have hdl:d<left.length:=by omega
  obtain ⟨y,hy,hq⟩:=zsi (i:=(d:Int)) hs2 (by omega) (by rw [qlm];omega) (by rw [qlm];omega)
  rw [hq]
  rw [Int.toNat_natCast,qgm,qge hdl] at hy
  have hy:nD left[d]=y:=qoi hy
  refine ⟨os++[left[d]],left.eraseIdx d,_,by rw [<-hy];simp,by simp [hl],?_,?_,(p2.setN l3).mono (by omega),(f1.trans f2).setN (qlr _),rfl⟩
  ·rw [List.append_assoc]
   refine List.Perm.trans (List.Perm.append_left os ?_) pm
   exact zsj left d hdl
  ·rw [zhk hs2,Int.toNat_natCast,zsk]
 ·rintro acc l' S1 ⟨os,left,x0,rfl,hl,pm,hs1,p1,f1,rfl⟩
  rw [zjh] at hl p1
  have hll:os.length+left.length=many:=by
   have:=pm.length_eq
   rw [qla,List.length_range] at this;exact this
  have:left=[]:=List.eq_nil_of_length_eq_zero (by omega)
  subst this
  rw [List.append_nil] at pm
  have l1:=f1.len p1.lt
  exact ⟨by rw [qlm];omega,⟨_,os,rfl,l1,zba,pm,p1.gr ⟨_,rfl⟩,f1.trans (Fn.gr ⟨_,rfl⟩)⟩⟩
noncomputable def zl (xs ys:List D):List D:=List.zipWith (λx y=>D.tup [x,y]) xs ys
theorem zj5 (xs ys:List D):(zl xs ys).length=min xs.length ys.length:=by simp [zl]
theorem znt (xs ys:List D) (i:Nat):(zl xs ys)[i]? = (xs[i]?).bind λx=>(ys[i]?).map λy=>D.tup [x,y]:=by
 unfold zl
 rw [List.getElem?_zipWith]
 cases xs[i]? <;> cases ys[i]? <;> rfl
theorem znu {i1 i2:ItM}{i:Nat}{S:Sto}{xs ys:List D}(h1:i1 i S=some xs[i]?) (h2:i2 i S=some ys[i]?):itZ i1 i2 i S=some (zl xs ys)[i]?:=by
 unfold itZ
 rw [h1,znt]
 cases hx:xs[i]? with
 | none=>rfl
 | some x =>
  show (i2 i S).bind _=_
  rw [h2]
  cases hy:ys[i]? <;> rfl
theorem ydo {as:AM}{l:Lo}{S S1:Sto}{n:Nat}{xs ys:List D}(h:as l S=some ([.ref n,.tup ys],S1)) (hn:lstOf S1 n=some xs):zhd as l S=some (itZ (itL n) (itX ys),(zl xs ys).length+1,S1):=by
 unfold zhd
 rw [h]
 have e1:sqI S1 (.ref n)=some (itL n,xs.length):=by
  show (lstOf S1 n).bind _=_
  rw [hn];rfl
 show ((sqI S1 (.ref n)).bind _)=_
 rw [e1]
 show some _=_
 rw [zj5]
theorem zsm {as:AM}{l:Lo}{S S1:Sto}{xs ys:List D}(h:as l S=some ([.tup xs,.tup ys],S1)):zhd as l S=some (itZ (itX xs) (itX ys),(zl xs ys).length+1,S1):=by
 unfold zhd
 rw [h]
 show some _=_
 rw [zj5]
noncomputable def rn (od:List Nat) (c:Cl):Cl:=(c.1.map λx=>od.getD x 0,c.2)
noncomputable def thF (od:List Nat):D->D
 | .tup [.int x,_]=>nD (od.getD x.toNat 0)
 | _=>.non
noncomputable def zpF:D->D
 | .tup [t,.tup [_,s]]=>.tup [t,s]
 | _=>.non
theorem ydp (od:List Nat) (c:Cl):thF od (kD c)=oD (rn od c).1:=by
 obtain ⟨c1,c2⟩:=c
 cases c1 with
 | none=>rfl
 | some x=>rfl
theorem ydq (od:List Nat) (cs:List Cl):(cs.map kD).map (thF od)=cs.map λc=>oD (rn od c).1:=by
 rw [List.map_map]
 apply List.map_congr_left
 intro c _
 exact ydp od c
theorem zsn (od:List Nat):∀cs:List Cl,(zl (cs.map λc=>oD (rn od c).1) (cs.map kD)).map zpF=(cs.map (rn od)).map kD
 | []=>rfl
 | c :: cs=>by
  have:=zsn od cs
  unfold zl at this ⊢
  rw [List.map_cons,List.map_cons,List.zipWith_cons_cons,List.map_cons,this]
  rfl
structure Nmd (od:List Nat) (g g':List (List Cl)):Prop where
 pm:od.Perm (List.range g.length)
 z:od[0]? = some 0
 len:g'.length=g.length
 at_:∀(i j:Nat) cs,g[i]? = some cs->od[i]? = some j->g'[j]? = some (cs.map (rn od))
theorem znv {od:List Nat}{n i j k:Nat}(pm:od.Perm (List.range n)) (hi:od[i]? = some k) (hj:od[j]? = some k):i=j:=by
 have nd:od.Nodup:=pm.nodup_iff.mpr List.nodup_range
 obtain ⟨h1,e1⟩:=qme hi
 obtain ⟨h2,e2⟩:=qme hj
 exact (List.getElem_inj nd).mp (e1.trans e2.symm)
theorem zso {od:List Nat}{n k:Nat}(pm:od.Perm (List.range n)) (hk:k<n):∃i:Nat,i<n/\od[i]? = some k:=by
 have:k∈od:=pm.mem_iff.mpr (List.mem_range.mpr hk)
 obtain ⟨i,hi,e⟩:=List.mem_iff_getElem.mp this
 have hl:=pm.length_eq
 rw [List.length_range] at hl
 exact ⟨i,by omega,by rw [qge hi,e]⟩
theorem znw {od:List Nat}{n i k:Nat}(pm:od.Perm (List.range n)) (h:od[i]? = some k):k<n:=List.mem_range.mp (pm.mem_iff.mp (qmg h))
theorem znx {od:List Nat}{n i:Nat}(pm:od.Perm (List.range n)) (h:i<n):∃k,od[i]? = some k:=by
 have hl:=pm.length_eq
 rw [List.length_range] at hl
 exact ⟨_,qge (by omega)⟩
theorem ydr {od:List Nat}{n:Nat}{c:Cl}(pm:od.Perm (List.range n)) (h:∀x,c.1=some x->x<n):∀x,(rn od c).1=some x->x<n:=by
 intro x hx
 unfold rn at hx
 obtain ⟨y,hy,e⟩:=Option.map_eq_some_iff.mp hx
 obtain ⟨k,hk⟩:=znx pm (h y hy)
 rw [<-e,List.getD_eq_getElem?_getD,hk]
 exact znw pm hk
theorem Nmd.ok {A:Nat}{od:List Nat}{g g':List (List Cl)}(h:Nmd od g g') (ok:OkM A g):OkM A g':=by
 have key:∀cs∈g',∃ds∈g,cs=ds.map (rn od):=λcs hcs=>by
  obtain ⟨k,hk,rfl⟩:=List.mem_iff_getElem.mp hcs
  obtain ⟨i,hi,e⟩:=zso h.pm (by rw [h.len] at hk;exact hk)
  have:=h.at_ i k _ (qge hi) e
  rw [qge hk] at this
  exact ⟨_,List.getElem_mem hi,qoi this⟩
 refine ⟨ok.a1,ok.a4,by rw [h.len];exact ok.r1,by rw [h.len];exact ok.r24,λcs hcs=>?_,λcs hcs c hc x hx=>?_⟩
 ·obtain ⟨ds,hd,rfl⟩:=key cs hcs
  rw [qlm];exact ok.len ds hd
 ·obtain ⟨ds,hd,rfl⟩:=key cs hcs
  obtain ⟨d,hd2,rfl⟩:=List.mem_map.mp hc
  rw [h.len]
  exact ydr h.pm (ok.go ds hd d hd2) x hx
inductive NmP (ns:List Int) (c A:Nat) (g:List (List Cl)) (S:Sto) (v:D) (S':Sto):Prop
 | mk (od:List Nat) (g':List (List Cl)) (e:v=mD A g') (h:Nmd od g g') (p:PQ ns (c+30) S') (f:Fn S S')
theorem yds {ns:List Int}{c A:Nat}{g:List (List Cl)}{S:Sto}(h:PQ ns c S) (hc:c<80000000) (ok:OkM A g):Wo (zj3 [.ref 2,mD A g] S) (NmP ns c A g S):=by
 have sz:=zcs
 have l3:=h.lt
 have r1:=ok.r1
 have r24:=ok.r24
 have a4:=ok.a4
 unfold zj3 zr4 mD
 dsimp! only [zbc]
 generalize hM:D.tup [.int (A:Int),.tup (g.map roD)]=dM
 refine zaz (λl S'=>PQ ns (c+30) S'/\Fn S S'/\∃(od:List Nat) (n:Nat),od.Perm (List.range g.length)/\od[0]? = some 0/\S.length<=n/\3<=n/\S'[n]? = some (.lst (od.map nD))/\l=[~~~2,some dM,~~~n,none,none,none,none]) ?_ ?_
 ·rw [zbg,zbt]
  simp only [zbe,za6,zbk,zbv,zcp,List.length_cons,List.length_nil]
  refine ⟨by omega,?_⟩
  obtain ⟨v,S1,e1,n,os,rfl,hn,hs1,pm,p1,f1⟩:=zsl (many:=g.length-1) (h.gr (⟨_,rfl⟩:Gr S (S++[.lst [.int 0]]))) hc (by omega)
  have key:We (zaf zf8 (zab (zaa 0) (zab (eOp zmc (zaf zbh (zab (eOp zaj (zaa 1) (eC (.int 1))) (zae))) (eC (.int 1))) (zae)))) [~~~2,some dM,none,none,none,none,none] (S++[.lst [.int 0]]) λv T=>v=.ref n/\T=S1:=by
   rw [<-hM]
   simp_all! only [qlm]
   rw [show ((g.length:Nat):Int)-1=((g.length-1:Nat):Int) by omega]
   exact ⟨_,_,e1,nofun,nofun⟩
  obtain ⟨v2,T2,key,hv2,hT2⟩:=key
  rw [hv2,hT2] at key
  rw [qla,List.length_singleton] at hn
  have ol:=pm.length_eq
  rw [List.length_range] at ol
  have h0:S1[S.length]? = some (.lst [.int 0]):=f1 _ _ (by omega) zba
  refine zhw (os.map nD) (λd=>match d with | .int k=>.int (1+k)|_=>.non) (λT=>Gr S1 T) (λl=>∃x0,l=[x0]) (zhe key (zay hs1)) (Gr.refl S1) ⟨none,rfl⟩ (λi T g1=>zf4 (zay (g1.get hs1))) (by rw [qlm];omega) ?_ ?_
  ·rintro x l T hx ⟨x0,rfl⟩ gT
   obtain ⟨k,_,rfl⟩:=List.mem_map.mp hx
   simp only [za0,qs0]
   refine ⟨gT,⟨_,rfl⟩,?_⟩
   unfold nD
   simp_all! only [zak]
   exact ⟨nofun,gT⟩
  ·rintro T gT
   have e2:((os.map nD).map λd=>match d with | .int k=>D.int (1+k)|_=>.non)=(os.map (1 + ·)).map nD:=by
    rw [List.map_map,List.map_map]
    apply List.map_congr_left
    intro k _
    show D.int (1+(k:Int))=D.int ((1+k:Nat):Int)
    rw [show ((1+k:Nat):Int)=1+(k:Int) by omega]
   rw [e2]
   rw [zim (zas (gT.get h0)) zba]
   refine ⟨by simp;omega,?_⟩
   simp only [za0,qs0,qs1]
   have g9:Gr S1 (T++[.lst ((os.map (1 + ·)).map nD)]++[.lst ([.int 0]++(os.map (1 + ·)).map nD)]):=(gT.trans ⟨_,rfl⟩).trans ⟨_,rfl⟩
   have lT:=(Fn.gr gT).len (p1.gr gT).lt
   have lS1:=f1.len p1.lt
   rw [qla,List.length_singleton] at lS1
   refine ⟨nofun,(p1.gr g9).mono (by omega),((Fn.gr ⟨_,rfl⟩:Fn S (S++[.lst [.int 0]])).trans f1).trans (Fn.gr g9),0 :: os.map (1 + ·),_,?_,rfl,?_,?_,zba,rfl⟩
   ·have:List.range g.length=0 :: (List.range (g.length-1)).map (1 + ·):=by
     obtain ⟨m,hm⟩:∃m,g.length=m+1:=⟨g.length-1,by omega⟩
     rw [hm,Nat.add_sub_cancel,List.range_succ_eq_map]
     exact congrArg (List.cons 0) (List.map_congr_left λa _=>Nat.add_comm a 1)
    rw [this]
    exact (pm.map (1 + ·)).cons 0
   ·rw [qla];omega
   ·rw [qla];omega
 rintro l S1 ⟨p1,f1,od,n,pm,od0,hn,n3,hs1,rfl⟩
 have odl:=pm.length_eq
 rw [List.length_range] at odl
 have l1:=p1.lt
 refine zaz (λl S'=>PQ ns (c+30) S'/\Fn S S'/\S'[n]? = some (.lst (od.map nD))/\∃m,m≠n/\3<=m/\S.length<=m/\S'[m]? = some (.lst (List.replicate g.length (.tup [])))/\l=[~~~2,some dM,~~~n,~~~m,none,none,none]) ?_ ?_
 ·rw [zbg]
  refine zhw (od.map nD) (λ_=>.tup []) (λT=>Gr S1 T) (λl=>∃x0,l=[x0]) (zhe rfl (zay hs1)) (Gr.refl S1) ⟨none,rfl⟩ (λi T g1=>zf4 (zay (g1.get hs1))) (by rw [qlm];omega) ?_ ?_
  ·rintro x l T hx ⟨x0,rfl⟩ gT
   simp only [za0,qs0]
   refine ⟨gT,⟨_,rfl⟩,?_⟩
   simp_all! only [zak]
   exact ⟨by omega,nofun,gT⟩
  ·rintro T gT
   simp only [za0,qs0,qs1]
   have lT:=(Fn.gr gT).len (p1.gr gT).lt
   have nT:=(qme hs1).1
   have fl:=f1.len l1
   refine ⟨nofun,(p1.gr gT).gr ⟨_,rfl⟩,f1.trans ((Fn.gr gT).trans (Fn.gr ⟨_,rfl⟩)),zas (gT.get hs1),T.length,by omega,by omega,by omega,?_,rfl⟩
   rw [zba]
   congr 2
   rw [List.eq_replicate_iff]
   refine ⟨by simp [odl],λd hd=>?_⟩
   obtain ⟨_,_,rfl⟩:=List.mem_map.mp hd
   rfl
 rintro l S2 ⟨p2,f2,hs2,m,mn,m3,hm,hm2,rfl⟩
 refine zaz (λl S'=>PQ ns (c+30) S'/\Fn S S'/\∃rs:List D,rs.length=g.length/\(∀(j k:Nat) cs,g[j]? = some cs->od[j]? = some k->rs[k]? = some (roD (cs.map (rn od))))/\S'[m]? = some (.lst rs)/\∃x4 x5 x6,l=[~~~2,some dM,~~~n,~~~m,x4,x5,x6]) ?_ ?_
 ·refine zju (enl (g.map roD)) (λi l S'=>PQ ns (c+30) S'/\Fn S S'/\S'[n]? = some (.lst (od.map nD))/\∃rs:List D,rs.length=g.length/\(∀(j k:Nat) cs,j<i->g[j]? = some cs->od[j]? = some k->rs[k]? = some (roD (cs.map (rn od))))/\S'[m]? = some (.lst rs)/\∃x4 x5 x6,l=[~~~2,some dM,~~~n,~~~m,x4,x5,x6]) (λ_ _=>False) (ybr (by rw [<-hM];rfl)) ⟨p2,f2,hs2,_,by simp,λj k cs hj=>absurd hj (Nat.not_lt_zero _),hm2,_,_,_,rfl⟩ (λ_ _ _ _=>ybq) ?_ ?_ (λd l' S' z=>z.elim)
  ·rintro i x l S3 hx ⟨p3,f3,hs3,rs,hrl,hr,hm3,x4,x5,x6,rfl⟩
   rw [zjt,qgm] at hx
   obtain ⟨y,hy,rfl⟩:=Option.map_eq_some_iff.mp hx
   obtain ⟨cs,hcs,rfl⟩:=Option.map_eq_some_iff.mp hy
   have hi:i<g.length:=(qme hcs).1
   have hcl:=ok.len cs (qmg hcs)
   have hgo:=ok.go cs (qmg hcs)
   obtain ⟨k,hk⟩:=znx pm hi
   have hkl:=znw pm hk
   simp only [zcf,zch,zcg,za0,List.length_cons,List.length_nil,qs0,qs1]
   refine ⟨by first|rfl|trivial,?_⟩
   refine zaz (λl S'=>Gr S3 S'/\S'[S'.length-1]? = some (.lst (cs.map λc=>oD (rn od c).1))/\l=[~~~2,some dM,~~~n,~~~m,‹i›,some (roD cs),~~~(S'.length-1)]) ?_ ?_
   ·rw [zbg]
    refine zhw (cs.map kD) (thF od) (λT=>Gr S3 T) (λl=>∃x0 x1,l=[x0,x1,~~~n]) (ybs rfl) (Gr.refl S3) ⟨none,none,rfl⟩ (λi T g1=>rfl) (by rw [qlm];omega) ?_ ?_
    ·rintro x l T hx ⟨x0,x1,rfl⟩ gT
     obtain ⟨q,hq,rfl⟩:=List.mem_map.mp hx
     obtain ⟨q1,q2⟩:=q
     unfold kD
     simp only [zcf,zch,zcg,za0,List.length_cons,List.length_nil,qs0,qs1]
     refine ⟨by first|rfl|trivial,gT,⟨_,_,rfl⟩,?_⟩
     cases q1 with
     | none =>
      simp_all! only [zdd,Option.isNone_none,if_true]
      exact ⟨nofun,gT⟩
     | some y =>
      obtain ⟨w,hw⟩:=znx pm (hgo _ hq y rfl)
      have e5:L2.atI (od.map nD) (y:Int)=some (nD w):=atI_get (by rw [qgm,hw];rfl)
      simp_all! only [zdd,Option.isNone_some,qbf,if_false,zlf,zay (gT.get hs3),e5]
      refine ⟨?_,gT⟩
      show nD w=nD (od.getD (y:Int).toNat 0)
      rw [Int.toNat_natCast,List.getD_eq_getElem?_getD,hw];rfl
    ·rintro T gT
     rw [ydq]
     simp only [za0,qs0,qs1]
     refine ⟨nofun,gT.trans ⟨_,rfl⟩,?_,?_⟩
     ·rw [qla,List.length_singleton,Nat.add_sub_cancel];exact zba
     ·rw [qla,List.length_singleton,Nat.add_sub_cancel]
   rintro l S4 ⟨g4,hs4,rfl⟩
   rw [zbg,zbe,za6]
   refine zhw (zl (cs.map λc=>oD (rn od c).1) (cs.map kD)) zpF (λT=>Gr S4 T) (λl=>∃x0 x1,l=[x0,x1]) (ydo rfl (zay hs4)) (Gr.refl S4) ⟨none,none,rfl⟩ (λi T g1=>znu (zf4 (zay (g1.get hs4))) rfl) (by rw [zj5];simp;omega) ?_ ?_
   ·rintro x l T hx ⟨x0,x1,rfl⟩ gT
    obtain ⟨j,hj,rfl⟩:=List.mem_iff_getElem.mp hx
    have hj2:=znt (cs.map λc=>oD (rn od c).1) (cs.map kD) j
    rw [qge hj] at hj2
    obtain ⟨t,ht,hj2⟩:=bnd hj2.symm
    obtain ⟨q,hq,e⟩:=Option.map_eq_some_iff.mp hj2
    rw [qgm] at hq
    obtain ⟨q,_,rfl⟩:=Option.map_eq_some_iff.mp hq
    rw [<-e]
    unfold kD
    simp only [zcf,zch,zcg,za0,List.length_cons,List.length_nil,qs0,qs1]
    refine ⟨by first|rfl|trivial,gT,⟨_,_,rfl⟩,?_⟩
    have s2:2<=sizeLine:=by omega
    simp_all! only [s2,true_and]
    first|exact ⟨nofun,gT⟩|exact gT
   ·rintro T gT
    rw [zsn]
    simp only [zbk,zdh,zcx,zbo]
    have g9:Gr S3 (T++[.lst ((cs.map (rn od)).map kD)]):=(g4.trans gT).trans ⟨_,rfl⟩
    have e5:L2.atI (od.map nD) (i:Int)=some (nD k):=atI_get (by rw [qgm,hk];rfl)
    have hm9:=g9.get hm3
    have hs9:=g9.get hs3
    simp only [zdn,zbt,zak,qg0,qg1,za7,zc4,zay hs9,e5,zbo]
    refine ⟨_,ydk hm9 (by rw [hrl];exact hkl),.inl ⟨(by first|exact .inl rfl|exact .inl trivial|trivial),(p3.gr g9).setN m3,(f3.trans (Fn.gr g9)).setN hm,zf6 hs9 mn,rs.set k (roD (cs.map (rn od))),by rw [List.length_set];exact hrl,λj k2 ds hj hds hk2=>?_,zhk hm9,_,_,_,rfl⟩⟩
    rcases Nat.lt_or_ge j i with z|z
    ·have hne:k≠k2:=λe=>by subst e;have:=znv pm hk hk2;omega
     rw [List.getElem?_set_ne hne]
     exact hr j k2 ds z hds hk2
    ·have:j=i:=by omega
     subst this
     rw [hcs] at hds;cases hds
     rw [hk] at hk2;cases hk2
     rw [List.getElem?_set_self (by rw [hrl];exact hkl)]
  ·rintro l' S' ⟨p3,f3,_,rs,hrl,hr,hm3,rest⟩
   rw [zjs,qlm] at hr
   exact ⟨rfl,p3,f3,rs,hrl,λj k cs h1 h2=>hr j k cs (qme h1).1 h1 h2,hm3,rest⟩
 rintro l S3 ⟨p3,f3,rs,hrl,hr,hm3,x4,x5,x6,rfl⟩
 rw [<-hM]
 simp! only [zay hm3]
 refine ⟨by omega,od,(List.range g.length).map λk=>((g[od.idxOf k]?).getD []).map (rn od),?_,⟨pm,od0,by simp,λi j cs h1 h2=>?_⟩,p3,f3⟩
 ·unfold mD
  congr 4
  apply List.ext_getElem?
  intro k
  rw [qgm,qgm]
  rcases Nat.lt_or_ge k g.length with z|z
  ·obtain ⟨i,hi,e⟩:=zso pm z
   have ix:od.idxOf k=i:=by
    have hm:k∈od:=qmg e
    have h1:=List.idxOf_lt_length_of_mem hm
    have h2:od[od.idxOf k]? = some k:=by rw [qge h1,List.getElem_idxOf h1]
    exact znv pm h2 e
   rw [hr i k _ (qge hi) e,List.getElem?_range z]
   show _=some (roD (((g[od.idxOf k]?).getD []).map (rn od)))
   rw [ix,qge hi];rfl
  ·rw [List.getElem?_eq_none (by omega),List.getElem?_eq_none (by simpa using z)];rfl
 ·have hj:=znw pm h2
  rw [qgm,List.getElem?_range hj]
  have ix:od.idxOf j=i:=by
   have hm:j∈od:=qmg h2
   have h1:=List.idxOf_lt_length_of_mem hm
   have h3:od[od.idxOf j]? = some j:=by rw [qge h1,List.getElem_idxOf h1]
   exact znv pm h3 h2
  show some (((g[od.idxOf j]?).getD []).map (rn od))=_
  rw [ix,h1];rfl
structure Cp (many k:Nat) (c d:Cl):Prop where
 go:∀x,c.1=some x->∃y,y<k/\d.1=some (x+many*y)
 an:∀v,c.2=some v->d.2=some v
 lt:∀x,d.1=some x->x<many*k
def CpR (many k:Nat) (cs ds:List Cl):Prop:=ds.length=cs.length/\∀(a:Nat) c,cs[a]? = some c->∃d,ds[a]? = some d/\Cp many k c d
structure Cpy (g:List (List Cl)) (k:Nat) (g2:List (List Cl)):Prop where
 k1:1<=k
 len:g2.length=g.length*k
 at_:∀(i:Nat) ds,g2[i]? = some ds->∃cs,g[i % g.length]? = some cs/\CpR g.length k cs ds
theorem Cpy.ok {A k:Nat}{g g2:List (List Cl)}(h:Cpy g k g2) (ok:OkM A g) (h24:g.length*k<=24):OkM A g2:=by
 have r1:=ok.r1
 have k1:=h.k1
 have:1<=g.length*k:=Nat.mul_pos r1 k1
 refine ⟨ok.a1,ok.a4,by rw [h.len];exact this,by rw [h.len];exact h24,λds hd=>?_,λds hd d hd2 x hx=>?_⟩
 ·obtain ⟨i,hi,rfl⟩:=List.mem_iff_getElem.mp hd
  obtain ⟨cs,h1,h2⟩:=h.at_ i _ (qge hi)
  rw [h2.1];exact ok.len cs (qmg h1)
 ·obtain ⟨i,hi,rfl⟩:=List.mem_iff_getElem.mp hd
  obtain ⟨cs,h1,h2⟩:=h.at_ i _ (qge hi)
  obtain ⟨a,ha,rfl⟩:=List.mem_iff_getElem.mp hd2
  obtain ⟨e,he,q⟩:=h2.2 a _ (qge (by rw [<-h2.1];exact ha))
  rw [qge ha] at he
  cases he
  rw [h.len];exact q.lt x hx
inductive OtP (ns:List Int) (c A:Nat) (g:List (List Cl)) (S:Sto) (v:D) (S':Sto):Prop
 | mk (k:Nat) (g2:List (List Cl)) (od:List Nat) (g3:List (List Cl)) (e:v=mD A g3) (k2:k<=2) (h24:g.length*k<=24) (h:Cpy g k g2) (hn:Nmd od g2 g3) (p:PQ ns (c+500) S') (f:Fn S S')
theorem ydt {ns:List Int}{c A:Nat}{g:List (List Cl)}{S:Sto}(h:PQ ns c S) (hc:c<70000000) (ok:OkM A g):Wo (zj4 [.ref 2,mD A g] S) (OtP ns c A g S):=by
 have sz:=zcs
 have l3:=h.lt
 have r1:=ok.r1
 have r24:=ok.r24
 have a4:=ok.a4
 have a1:=ok.a1
 unfold zj4 zr5 mD
 dsimp! only [zbc]
 generalize hM:D.tup [.int (A:Int),.tup (g.map roD)]=dM
 refine zaz (λl S'=>PQ ns (c+1) S'/\Fn S S'/\∃k:Nat,1<=k/\k<=2/\g.length*k<=24/\l=[~~~2,some dM,‹k›,none,none,none,none,none,none,none]) ?_ ?_
 ·rw [zbg,zbt]
  simp only [zbv,zbe,za6,zbk,zc6,zbt,zak,qg0,qg1,za7]
  refine (zbj h (by omega) (by decide) (by decide)).mono ?_
  rintro v S1 ⟨d,rfl,hd,p1,f1⟩
  have e13:∀Q',Wo (zaj dM (.int 1) S1) Q' = Q' (.tup (g.map roD)) S1:=λQ'=>by rw [<-hM,zcd];exact zbo
  simp_all! only [e13,qlm]
  by_cases hd1:d=1
  ·subst hd1
   by_cases hg:(g.length:Int)<13
   ·simp only [Int.cast_ofNat_Int,decide_true,if_true,hg]
    exact ⟨nofun,p1,f1,2,by omega,by omega,by omega,rfl⟩
   ·simp only [Int.cast_ofNat_Int,decide_true,if_true,hg,decide_false]
    exact ⟨nofun,p1,f1,1,by omega,by omega,by omega,rfl⟩
  ·have hd2:¬(d:Int)=1:=by omega
   simp only [hd2,decide_false,qbf,if_false]
   exact ⟨nofun,p1,f1,1,by omega,by omega,by omega,rfl⟩
 rintro l S1 ⟨p1,f1,k,k1,k2,k24,rfl⟩
 refine zaz (λl S'=>PQ ns (c+2) S'/\Fn S S'/\∃fi:Int,l=[~~~2,some dM,‹k›,some (.int fi),none,none,none,none,none,none]) ?_ ?_
 ·simp! only [zak]
  refine ⟨by omega,?_⟩
  refine (zbj p1 (by omega) (by decide) (by decide)).mono ?_
  rintro v S2 ⟨d,rfl,hd,p2,f2⟩
  obtain ⟨x,hx,_⟩:=zns (a:=0) (b:=3) (c:=6) (d:=8) d hd
  simp! only [hx]
  exact ⟨nofun,p2,f1.trans f2,x,rfl⟩
 rintro l S2 ⟨p2,f2,fi,rfl⟩
 refine zbr (l':=[~~~2,some dM,‹k›,some (.int fi),some (.int (g.length:Int)),none,none,none,none,none]) (S':=S2) ?_ ?_
 ·rw [<-hM]
  simp! only [qlm]
  exact ⟨nofun,nofun,nofun⟩
 have l2:=p2.lt
 have fl2:=f2.len l2
 refine zbr (l':=[~~~2,some dM,‹k›,some (.int fi),some (.int (g.length:Int)),some (.ref S2.length),none,none,none,none]) (S':=S2++[.lst []]) (by simp! only [zak];exact ⟨by omega,nofun,nofun,nofun⟩) ?_
 have hmul:((g.length:Nat):Int)*((k:Nat):Int)=((g.length*k:Nat):Int):=by simp
 refine zaz (λl S'=>PQ ns (c+2+16*(g.length*k)) S'/\Fn S S'/\∃(gs:List (List Cl)) (x6 x7 x8 x9:Option D),gs.length=g.length*k/\(∀(i:Nat) ds,gs[i]? = some ds->∃cs,g[i % g.length]? = some cs/\CpR g.length k cs ds)/\S'[S2.length]? = some (.lst (gs.map roD))/\l=[~~~2,some dM,‹k›,some (.int fi),some (.int (g.length:Int)),some (.ref S2.length),x6,x7,x8,x9]) ?_ ?_
 ·have ha0:zab (eOp zdi (zaa 4) (zaa 2)) zae [~~~2,some dM,‹k›,some (.int fi),some (.int (g.length:Int)),some (.ref S2.length),none,none,none,none] (S2++[.lst []])=some ([.int ((g.length*k:Nat):Int)],S2++[.lst []]):=by
   have:Wa (zab (eOp zdi (zaa 4) (zaa 2)) zae) [~~~2,some dM,‹k›,some (.int fi),some (.int (g.length:Int)),some (.ref S2.length),none,none,none,none] (S2++[.lst []]) λvs S'=>vs=[.int ((g.length*k:Nat):Int)]/\S' = S2++[.lst []]:=by
    have f1:(-(2 ^ 64)<((g.length:Nat):Int)/\((g.length:Nat):Int)<2 ^ 64):=by omega
    simp_all! only [f1,true_or,true_and,hmul]
    all_goals first|trivial|exact ⟨nofun,nofun⟩
   obtain ⟨xs,S',e,rfl,rfl⟩:=this
   exact e
  refine zhf (λi l S'=>PQ ns (c+2+16*i) S'/\Fn S S'/\∃(gs:List (List Cl)) (x6 x7 x8 x9:Option D),gs.length=i/\(∀(i:Nat) ds,gs[i]? = some ds->∃cs,g[i % g.length]? = some cs/\CpR g.length k cs ds)/\S'[S2.length]? = some (.lst (gs.map roD))/\l=[~~~2,some dM,‹k›,some (.int fi),some (.int (g.length:Int)),some (.ref S2.length),x6,x7,x8,x9]) (λ_ _=>False) (n:=g.length*k) ha0 (by omega) ⟨p2.gr ⟨_,rfl⟩,f2.trans (Fn.gr ⟨_,rfl⟩),[],_,_,_,_,rfl,λi ds hd=>(by simp at hd),zba,rfl⟩ ?_ ?_ (λd l' S' z=>z.elim)
  ·rintro i l S3 hi ⟨p3,f3,gs,x6,x7,x8,x9,hgl,hgs,hs3,rfl⟩
   have l33:=p3.lt
   have fl3:=f3.len l33
   have n3:=(qme hs3).1
   simp only [za0,qs0,qs1]
   refine zbr (l':=[~~~2,some dM,‹k›,some (.int fi),some (.int (g.length:Int)),some (.ref S2.length),‹i›,some (.ref S3.length),x8,x9]) (S':=S3++[.lst []]) (by simp! only [zak];exact ⟨by omega,nofun,nofun,nofun⟩) ?_
   have him:i % g.length<g.length:=Nat.mod_lt _ r1
   obtain ⟨cs,hcs⟩:∃cs,g[i % g.length]? = some cs:=⟨_,qge him⟩
   have hcl:=ok.len cs (qmg hcs)
   have hgo:=ok.go cs (qmg hcs)
   refine zaz (λl S'=>PQ ns (c+2+16*i+16) S'/\Fn S S'/\S'[S2.length]? = some (.lst (gs.map roD))/\∃(ds:List Cl) (x8 x9:Option D),CpR g.length k cs ds/\S'[S3.length]? = some (.lst (ds.map kD))/\l=[~~~2,some dM,‹k›,some (.int fi),some (.int (g.length:Int)),some (.ref S2.length),‹i›,some (.ref S3.length),x8,x9]) ?_ ?_
   ·have he:eOp zaj (eOp zaj (zaa 1) (eC (.int 1))) (eOp zd1 (zaa 6) (zaa 4)) [~~~2,some dM,‹k›,some (.int fi),some (.int (g.length:Int)),some (.ref S2.length),‹i›,some (.ref S3.length),x8,x9] (S3++[.lst []])=some (.tup (cs.map kD),S3++[.lst []]):=by
     have:We (eOp zaj (eOp zaj (zaa 1) (eC (.int 1))) (eOp zd1 (zaa 6) (zaa 4))) [~~~2,some dM,‹k›,some (.int fi),some (.int (g.length:Int)),some (.ref S2.length),‹i›,some (.ref S3.length),x8,x9] (S3++[.lst []]) λv S'=>v=.tup (cs.map kD)/\S' = S3++[.lst []]:=by
      have g0:(0:Int)<((g.length:Nat):Int):=by omega
      have e1:L2.atI (g.map roD) ((i:Int) % (g.length:Int))=some (.tup (cs.map kD)):=by
       rw [show (i:Int) % (g.length:Int)=((i % g.length:Nat):Int) by omega]
       exact atI_get (by rw [qgm,hcs];rfl)
      rw [<-hM]
      simp_all! only [g0,e1,decide_true,true_and]
      all_goals first|trivial|exact ⟨nofun,nofun⟩
     obtain ⟨v,S',e,rfl,rfl⟩:=this
     exact e
    refine ybu (cs.map kD) (λj l S'=>PQ ns (c+2+16*i+4*j) S'/\Fn S S'/\S'[S2.length]? = some (.lst (gs.map roD))/\∃(ds:List Cl) (x8 x9:Option D),ds.length=j/\(∀(a:Nat) c,a<j->cs[a]? = some c->∃d,ds[a]? = some d/\Cp g.length k c d)/\S'[S3.length]? = some (.lst (ds.map kD))/\l=[~~~2,some dM,‹k›,some (.int fi),some (.int (g.length:Int)),some (.ref S2.length),‹i›,some (.ref S3.length),x8,x9]) (λ_ _=>False) he ⟨p3.gr ⟨_,rfl⟩,f3.trans (Fn.gr ⟨_,rfl⟩),zas hs3,[],_,_,rfl,λa c ha=>absurd ha (Nat.not_lt_zero _),zba,rfl⟩ ?_ ?_ (λd l' S' z=>z.elim)
    ·rintro j x l S4 hx ⟨p4,f4,hs4,ds,y8,y9,hdl,hds,hd4,rfl⟩
     rw [qgm] at hx
     obtain ⟨q,hq,rfl⟩:=Option.map_eq_some_iff.mp hx
     have hj:j<cs.length:=(qme hq).1
     have hqg:=hgo q (qmg hq)
     unfold kD
     simp only [zcf,zch,zcg,za0,List.length_cons,List.length_nil,qs0,qs1]
     refine ⟨by first|rfl|trivial,?_⟩
     refine zaz (λl S'=>PQ ns (c+2+16*i+4*j+2) S'/\Fn S S'/\S'[S2.length]? = some (.lst (gs.map roD))/\S'[S3.length]? = some (.lst (ds.map kD))/\∃o:Option Nat,(∀x,q.1=some x->∃y,y<k/\o=some (x+g.length*y))/\(∀x,o=some x->x<g.length*k)/\l=[~~~2,some dM,‹k›,some (.int fi),some (.int (g.length:Int)),some (.ref S2.length),‹i›,some (.ref S3.length),some (oD o),some (oD q.2)]) ?_ ?_
     ·cases hq1:q.1 with
      | some x =>
       simp! only [zdd,Option.isNone_some,Bool.not_false,if_true]
       refine (zbj p4 (by omega) (by omega) (by omega)).mono ?_
       rintro v S5 ⟨d,rfl,hd,p5,f5⟩
       have g0:(-(2 ^ 64)<((g.length:Nat):Int)/\((g.length:Nat):Int)<2 ^ 64):=by omega
       have hxl:=hqg x hq1
       simp! only [zlf,g0,true_or,true_and]
       have hb:x+g.length*d<g.length*k:=by
        have:g.length*(d+1)<=g.length*k:=Nat.mul_le_mul_left _ (by omega)
        rw [Nat.mul_add,Nat.mul_one] at this
        omega
       refine ⟨p5.mono (by omega),f4.trans f5,f5 _ _ (by omega) hs4,f5 _ _ (by omega) hd4,some (x+g.length*d),λz hz=>?_,λz hz=>by cases hz;exact hb,?_⟩
       ·cases hz;exact ⟨d,by omega,rfl⟩
       ·rw [zlf,show ((x+g.length*d:Nat):Int)=(x:Int)+(g.length:Int)*(d:Int) by simp]
      | none =>
       simp! only [zdd,Option.isNone_none,Bool.not_true,qbf,if_false]
       refine (zbj p4 (by omega) (by omega) (by omega)).mono ?_
       rintro v S5 ⟨d,rfl,hd,p5,f5⟩
       have g0:(-(2 ^ 64)<((g.length:Nat):Int)/\((g.length:Nat):Int)<2 ^ 64):=by omega
       simp! only [zak]
       split
       ·simp only [g0,true_or,true_and,hmul]
        refine (zbj p5 (by omega) (by have:=Nat.mul_pos r1 k1;omega) (by omega)).mono ?_
        rintro v S6 ⟨e,rfl,he,p6,f6⟩
        exact ⟨p6,f4.trans (f5.trans f6),f6 _ _ (by omega) (f5 _ _ (by omega) hs4),f6 _ _ (by omega) (f5 _ _ (by omega) hd4),some e,(λz hz=>by cases hz),(λz hz=>by cases hz;omega),rfl⟩
       ·exact ⟨nofun,p5.mono (by omega),f4.trans f5,f5 _ _ (by omega) hs4,f5 _ _ (by omega) hd4,none,(λz hz=>by cases hz),(λz hz=>by cases hz),rfl⟩
     rintro l S5 ⟨p5,f5,hs5,hd5,o,ho1,ho2,rfl⟩
     refine zaz (λl S'=>PQ ns (c+2+16*i+4*j+4) S'/\Fn S S'/\S'[S2.length]? = some (.lst (gs.map roD))/\S'[S3.length]? = some (.lst (ds.map kD))/\∃w:Option Nat,(∀v,q.2=some v->w=some v)/\l=[~~~2,some dM,‹k›,some (.int fi),some (.int (g.length:Int)),some (.ref S2.length),‹i›,some (.ref S3.length),some (oD o),some (oD w)]) ?_ ?_
     ·cases hq2:q.2 with
      | some x =>
       simp! only [zdd,Option.isNone_some,qbf,if_false]
       exact ⟨nofun,p5.mono (by omega),f5,hs5,hd5,some x,λv hv=>hv,rfl⟩
      | none =>
       simp! only [zdd,Option.isNone_none,if_true]
       refine (zbj p5 (by omega) (by omega) (by omega)).mono ?_
       rintro v S6 ⟨d,rfl,hd,p6,f6⟩
       simp! only [zak]
       split
       ·refine (zbj p6 (by omega) (by omega) (by omega)).mono ?_
        rintro v S7 ⟨e,rfl,he,p7,f7⟩
        exact ⟨nofun,p7,f5.trans (f6.trans f7),f7 _ _ (by omega) (f6 _ _ (by omega) hs5),f7 _ _ (by omega) (f6 _ _ (by omega) hd5),some e,(λv hv=>by cases hv),rfl⟩
       ·exact ⟨nofun,p6.mono (by omega),f5.trans f6,f6 _ _ (by omega) hs5,f6 _ _ (by omega) hd5,none,(λv hv=>by cases hv),rfl⟩
     rintro l S6 ⟨p6,f6,hs6,hd6,w,hw,rfl⟩
     rw [zcb,zca]
     simp_all! only [zf7 hd6,zf9,true_and]
     refine ⟨by omega,?_⟩
     rw [zjx hd6 (by rw [qlm];omega)]
     refine .inl ⟨(by first|exact .inl rfl|exact .inl trivial|trivial),(p6.setN l33).mono (by omega),f6.setN fl3,zf6 hs6 (by omega),ds++[(o,w)],_,_,by simp [hdl],λa c ha hac=>?_,by rw [zhk hd6];simp [kD],rfl⟩
     rcases Nat.lt_or_ge a j with z|z
     ·obtain ⟨d,hd,hcp⟩:=hds a c z hac
      exact ⟨d,BF.get_left hd,hcp⟩
     ·have:a=j:=by omega
      subst this
      rw [hq] at hac;cases hac
      refine ⟨(o,w),?_,ho1,hw,ho2⟩
      rw [<-hdl];exact List.getElem?_concat_length
    ·rintro l' S' ⟨p4,f4,hs4,ds,y8,y9,hdl,hds,hd4,rfl⟩
     rw [qlm] at hdl hds p4
     refine ⟨rfl,p4.mono (by omega),f4,hs4,ds,_,_,⟨hdl,λa c hac=>hds a c (qme hac).1 hac⟩,hd4,rfl⟩
   rintro l S4 ⟨p4,f4,hs4,ds,y8,y9,hcp,hd4,rfl⟩
   rw [zcb,zca]
   simp_all! only [zf7 hs4,zay hd4,zf9,true_and]
   rw [zjx hs4 (by rw [qlm];omega)]
   refine .inl ⟨(by first|exact .inl rfl|exact .inl trivial|trivial),(p4.setN (by omega)).mono (by omega),f4.setN fl2,gs++[ds],_,_,_,_,by simp [hgl],λa es ha=>?_,by rw [zhk hs4];simp [roD],rfl⟩
   rcases BF.get_snoc ha with z|⟨rfl,rfl⟩
   ·exact hgs a es z
   ·rw [hgl];exact ⟨cs,hcs,hcp⟩
  ·rintro l' S' ⟨p3,f3,rest⟩
   exact ⟨rfl,p3,f3,rest⟩
 rintro l S3 ⟨p3,f3,gs,x6,x7,x8,x9,hgl,hgs,hs3,rfl⟩
 have cpy:Cpy g k gs:=⟨k1,hgl,hgs⟩
 have ok2:=cpy.ok ok k24
 rw [zcc,zbe,za6]
 rw [<-hM]
 simp_all! only [zay hs3]
 refine ⟨by omega,?_⟩
 refine Wo.mono (yds p3 (by omega) ok2) ?_
 rintro v S4 ⟨od,g',rfl,hn,p4,f4⟩
 exact ⟨k,gs,od,g',rfl,k2,k24,cpy,hn,p4.mono (by omega),f3.trans f4⟩
open PyProof.Rows
noncomputable def zeg (x y:Option Nat):Option BF.P:=x.bind λi=>y.bind λj=>some (i,j)
noncomputable def pD (p:BF.P):D:=.tup [.int (p.1:Int),.int (p.2:Int)]
abbrev Tb:=List (List L2.Key × D)
noncomputable def pK (p:BF.P):List L2.Key:=[Sum.inl (p.1:Int),Sum.inl (p.2:Int)]
theorem zny {p q:BF.P}(h:pK p=pK q):p=q:=by
 unfold pK at h
 simp at h
 exact Prod.ext (by omega) (by omega)
theorem zli (p:BF.P):zf2 (pD p)=some (pK p):=rfl
theorem zsp (kvs:Tb) (k j:List L2.Key) (v:D):zbq (zda kvs k v) j=if j=k then some v else zbq kvs j:=by
 unfold zda
 by_cases e:(kvs.any λkv=>decide (kv.1=k))=true
 ·rw [if_pos e]
  by_cases hj:j=k
  ·subst hj
   rw [if_pos rfl]
   obtain ⟨kv,h1,h2⟩:=List.any_eq_true.mp e
   clear e
   induction kvs with
   | nil=>cases h1
   | cons x kvs ih =>
    obtain ⟨xk,xv⟩:=x
    by_cases hx:xk=j
    ·subst hx;simp [zbq]
    ·rcases List.mem_cons.mp h1 with rfl|h1
     ·exact absurd (of_decide_eq_true h2) hx
     ·have:=ih h1
      simp only [zbq,List.map_cons,if_neg hx,List.find?_cons,decide_eq_false hx] at this ⊢
      exact this
  ·rw [if_neg hj]
   clear e
   induction kvs with
   | nil=>rfl
   | cons x kvs ih =>
    obtain ⟨xk,xv⟩:=x
    by_cases hx:xk=k
    ·subst hx
     have hx':¬xk=j:=λz=>hj z.symm
     simp only [zbq,List.map_cons,if_true,List.find?_cons,decide_eq_false hx'] at ih ⊢
     exact ih
    ·by_cases hxj:xk=j
     ·subst hxj
      simp [zbq,hx]
     ·simp only [zbq,List.map_cons,if_neg hx,List.find?_cons,decide_eq_false hxj] at ih ⊢
      exact ih
 ·rw [if_neg e]
  have none:zbq kvs k=none:=by
   unfold zbq
   rw [Option.map_eq_none_iff,List.find?_eq_none]
   intro x hx hk
   exact e (List.any_eq_true.mpr ⟨x,hx,hk⟩)
  by_cases hj:j=k
  ·subst hj
   rw [if_pos rfl]
   unfold zbq at none ⊢
   rw [List.find?_append,Option.map_eq_none_iff.mp none]
   simp
  ·rw [if_neg hj]
   unfold zbq
   rw [List.find?_append]
   cases kvs.find? (λkv=>decide (kv.1=j)) with
   | some x=>rfl
   | none =>
    have hk:¬k=j:=λz=>hj z.symm
    simp [hk]
theorem zsq {f g:D->D->Sto->Option (D × Sto)}{a b c:EM}{l:Lo}{S:Sto}{Q:D->Sto->Prop}:We (zfx f g a b c) l S Q=We a l S λx S1=>We b l S1 λy S2=>Wo (f x y S2) λr S3=>∃k,r=.bl k/\if k=true then We c l S3 λz S4=>Wo (g y z S4) Q else Q (.bl false) S3:=by
 apply propext
 constructor
 ·rintro ⟨v,S',h,q⟩
  obtain ⟨⟨x,S1⟩,h1,h⟩:=bnd h
  obtain ⟨⟨y,S2⟩,h2,h⟩:=bnd h
  obtain ⟨⟨r,S3⟩,h3,h⟩:=bnd h
  refine ⟨x,S1,h1,y,S2,h2,r,S3,h3,?_⟩
  cases r with
  | bl k =>
   cases k with
   | true =>
    obtain ⟨⟨z,S4⟩,h4,h⟩:=bnd h
    exact ⟨true,rfl,z,S4,h4,v,S',h,q⟩
   | false=>cases h;exact ⟨false,rfl,q⟩
  | _=>cases h
 ·rintro ⟨x,S1,h1,y,S2,h2,r,S3,h3,k,rfl,h⟩
  cases k with
  | true =>
   obtain ⟨z,S4,h4,v,S',h,q⟩:=h
   refine ⟨v,S',?_,q⟩
   unfold zfx;rw [h1];show (b l S1).bind _=_;rw [h2];show (f x y S2).bind _=_;rw [h3];show (c l S3).bind _=_;rw [h4];exact h
  | false =>
   refine ⟨_,_,?_,h⟩
   unfold zfx;rw [h1];show (b l S1).bind _=_;rw [h2];show (f x y S2).bind _=_;rw [h3];rfl
theorem zsr:isI "int" "bool" = false:=by decide
theorem zlj {U:String}{x:D}{S:Sto}{Q:D->Sto->Prop}:Wo (zd2 U x S) Q = ∃T,tyD S x=some T/\Q (.bl (isI T U)) S:=by
 show Wo ((tyD S x).bind λT=>some (.bl (isI T U),S)) Q=_
 rw [zg6];simp only [zbb]
theorem zlk {i:Int}{S:Sto}{Q:D->Sto->Prop}:Wo (zg9 (.int i) S) Q=Q (.int (-i)) S:=zbb
noncomputable def zb6 (n:Int):D->Bool
 | .int i=>decide (0<=i) && decide (i<n)
 | _=>false
theorem zss {S:Sto}{d:D}{T:String}(n:Int) (h:tyD S d=some T):zfi [d,.int n] S=some (.bl (zb6 n d),S):=by
 have key:∀{U:String},T=U->isI U "int" = false->zb6 n d=false->zfi [d,.int n] S=some (.bl (zb6 n d),S):=λ{U} e1 e2 e3=>by
  subst e1
  have:Wo (zfi [d,.int n] S) λv S'=>v=.bl false/\S' = S:=by
   unfold zfi zlb
   simp only [zbc,List.map_cons,List.map_nil,List.length_cons,List.length_nil,Nat.reduceAdd,Nat.reduceSub,List.replicate,List.cons_append,List.nil_append,zcc,zc6,zb5,zak,qg0,za7,zlj,h]
   refine ⟨_,rfl,?_⟩
   simp only [e2,zb0,qbf,if_false]
   all_goals first|trivial|exact ⟨nofun,nofun⟩
  obtain ⟨v,S',e,rfl,rfl⟩:=this
  rw [e3];exact e
 cases d with
 | non=>cases h;exact key rfl (by decide) rfl
 | str z=>cases h;exact key rfl (by decide) rfl
 | tup xs=>cases h;exact key rfl (by decide) rfl
 | fn a=>cases h
 | ref k =>
  unfold tyD at h
  dsimp only at h
  split at h
  ·cases h;exact key rfl (by decide) rfl
  ·cases h;exact key rfl (by decide) rfl
  ·cases h
 | bl b =>
  cases h
  have e1:isI "bool" "int" = true:=by decide
  have:Wo (zfi [.bl b,.int n] S) λv S'=>v=.bl false/\S' = S:=by
   unfold zfi zlb
   simp only [zbc,List.map_cons,List.map_nil,List.length_cons,List.length_nil,Nat.reduceAdd,Nat.reduceSub,List.replicate,List.cons_append,List.nil_append,zcc,zc6,zb5,zd5,zak,qg0,za7,zdp,zdb,e1,zb0,if_true,Bool.not_true,qbf,if_false]
   all_goals first|trivial|exact ⟨nofun,nofun⟩
  obtain ⟨v,S',e,rfl,rfl⟩:=this
  exact e
 | int i =>
  have:Wo (zfi [.int i,.int n] S) λv S'=>v=.bl (decide (0<=i) && decide (i<n))/\S' = S:=by
   unfold zfi zlb
   simp! only [zdq,zdb,zsr,zsq,if_true,Bool.not_false]
   by_cases h0:0<=i
   ·simp only [h0,decide_true,if_true,Bool.true_and,zbc,zc3,zbm,zco,zbt,zb5,zak,zbv,zbg,zcc,zcb,zek,za0,zdn,zcf,zcg,zch,zbe,zca,za6,zbk,zd4,zcv,zcw,zc6,zd5,zej,zd6,zd7,zdr,zds,zdw,zdt,zdu,zdv,zdx,zex,zev,zd8,zd9,zcd,zc4,zea,zeb,zdj,zed,zel,zc7,zcp,zdh,zem,zew,zen,zdo,zeo,zep,zdp,zdq,zdk,zdb,List.map_cons,List.map_nil,List.length_cons,List.length_nil,Nat.reduceAdd,Nat.reduceSub,List.replicate,List.cons_append,List.nil_append,qg0,qg1,qs0,qs1,za7,zbo,zb0,zes,zet,zeu,zeq,zer,zcx,decide_eq_true_eq,zef]
    all_goals first|trivial|exact ⟨nofun,nofun⟩
   ·simp only [h0,decide_false,qbf,if_false,Bool.false_and]
    all_goals first|trivial|exact ⟨nofun,nofun⟩
  obtain ⟨v,S',e,rfl,rfl⟩:=this
  exact e
def Ty (S:Sto) (d:D):Prop:=∃T,tyD S d=some T
theorem Ty.gr {S S':Sto}{d:D}(h:Ty S d) (g:Gr S S'):Ty S' d:=by
 obtain ⟨T,h⟩:=h
 cases d with
 | ref k =>
  unfold tyD at h
  dsimp only at h
  split at h
  ·rename_i e;exact ⟨_,by unfold tyD;dsimp only;rw [g.get e]⟩
  ·rename_i e;exact ⟨_,by unfold tyD;dsimp only;rw [g.get e]⟩
  ·cases h
 | fn a=>cases h
 | non=>exact ⟨_,rfl⟩
 | bl b=>exact ⟨_,rfl⟩
 | int i=>exact ⟨_,rfl⟩
 | str z=>exact ⟨_,rfl⟩
 | tup xs=>exact ⟨_,rfl⟩
def Tys (S:Sto):D->Prop
 | .tup ds=>∀d∈ds,Ty S d
 | d=>Ty S d
theorem Tys.gr {S S':Sto}{d:D}(h:Tys S d) (g:Gr S S'):Tys S' d:=by
 cases d with
 | tup ds=>exact λx hx=>(h x hx).gr g
 | non=>exact Ty.gr h g
 | bl b=>exact Ty.gr h g
 | int i=>exact Ty.gr h g
 | str z=>exact Ty.gr h g
 | ref k=>exact Ty.gr h g
 | fn a=>exact Ty.gr h g
noncomputable def zcj (N M:Nat):D->Bool
 | .tup [a,b]=>zb6 N a && zb6 M b
 | _=>false
theorem zst {N M:Nat}{ds:List D}(h:ds.length≠2):zcj N M (.tup ds)=false:=by
 match ds,h with
 | [],_=>rfl
 | [_],_=>rfl
 | [_,_],h=>exact absurd rfl h
 | _ :: _ :: _ :: _,_=>rfl
theorem ydu {N M:Nat}{x:D}(h:zcj N M x=true):∃p:BF.P,x=pD p/\p.1<N/\p.2<M:=by
 unfold zcj at h
 split at h
 ·rename_i a b
  rw [Bool.and_eq_true] at h
  obtain ⟨h1,h2⟩:=h
  unfold zb6 at h1 h2
  split at h1
  ·split at h2
   ·rename_i i _ j
    rw [Bool.and_eq_true,decide_eq_true_eq,decide_eq_true_eq] at h1 h2
    refine ⟨(i.toNat,j.toNat),?_,by show i.toNat<N;omega,by show j.toNat<M;omega⟩
    unfold pD
    dsimp only
    rw [Int.toNat_of_nonneg h1.1,Int.toNat_of_nonneg h2.1]
   ·cases h2
  ·cases h1
 ·cases h
theorem ydv {N M:Nat}{p:BF.P}(h1:p.1<N) (h2:p.2<M):zcj N M (pD p)=true:=by
 have e1:(0:Int)<=(p.1:Int):=by omega
 have e2:(0:Int)<=(p.2:Int):=by omega
 have e3:(p.1:Int)<(N:Int):=by omega
 have e4:(p.2:Int)<(M:Int):=by omega
 simp [zcj,pD,zb6,e1,e2,e3,e4,h1,h2]
theorem zsu {ds:List D}(h:ds.length=2):∃a b,ds=[a,b]:=by
 match ds,h with
 | [a,b],_=>exact ⟨a,b,rfl⟩
theorem zsv {S:Sto}{x:D}(h:Tys S x) (hx:∀ds,x≠.tup ds):∃T,tyD S x=some T/\isI T "tuple" = false:=by
 cases x with
 | non=>exact ⟨_,rfl,by decide⟩
 | bl b=>exact ⟨_,rfl,by decide⟩
 | int i=>exact ⟨_,rfl,by decide⟩
 | str z=>exact ⟨_,rfl,by decide⟩
 | fn a=>obtain ⟨T,e⟩:=h;cases e
 | tup ds=>exact absurd rfl (hx ds)
 | ref k =>
  obtain ⟨T,e⟩:=h
  refine ⟨T,e,?_⟩
  unfold tyD at e
  dsimp only at e
  split at e
  ·cases e;decide
  ·cases e;decide
  ·cases e
theorem zsw {N M:Nat}{x:D}(hx:∀ds,x≠.tup ds):zcj N M x=false:=by
 cases x with
 | tup ds=>exact absurd rfl (hx ds)
 | _=>rfl
theorem znz:isI "tuple" "tuple" = true:=by decide
theorem ydw {S:Sto}{x:D}{N M:Nat}(h:Tys S x):ziu [x,.int (N:Int),.int (M:Int)] S=some (.bl (zcj N M x),S):=by
 have:Wo (ziu [x,.int (N:Int),.int (M:Int)] S) λv S'=>v=.bl (zcj N M x)/\S' = S:=by
  unfold ziu zrr
  dsimp! only [zbc]
  by_cases hx:∀ds,x≠.tup ds
  ·obtain ⟨T,h1,h2⟩:=zsv h hx
   rw [zsw hx]
   simp only [zc3,zbm,zcv,zcw,zco,zb5,zak,qg0,za7,zlj,h1]
   refine ⟨_,rfl,?_⟩
   simp only [h2,zb0,Bool.not_false,if_true,zcc,zbv]
   all_goals first|trivial|exact ⟨nofun,nofun⟩
  ·obtain ⟨ds,rfl⟩:∃ds,x=.tup ds:=by
    cases x with
    | tup ds=>exact ⟨ds,rfl⟩
    | _=>exact absurd (λds e=>by cases e) hx
   have h:∀d∈ds,Ty S d:=h
   simp only [zc3,zbm,zcv,zcw,zco,zb5,zbt,zbv,zbe,za6,zbk,zak,qg0,qg1,za7,zdk,znz,zb0,Bool.not_true,qbf,if_false,zdj,zdo]
   by_cases hl:ds.length=2
   ·obtain ⟨a,b,rfl⟩:=zsu hl
    obtain ⟨T1,t1⟩:=h a (by simp)
    obtain ⟨T2,t2⟩:=h b (by simp)
    simp! only [zss _ t1,zss _ t2,zbb]
    rw [if_neg (by simp)]
    have e:zcj N M (.tup [a,b])=(zb6 N a && zb6 M b):=rfl
    rw [e]
    cases hb:zb6 (N:Int) a with
    | true=>rw [if_pos rfl];exact ⟨by rw [Bool.true_and],nofun⟩
    | false=>rw [if_neg (by decide)];exact ⟨by rw [Bool.false_and],nofun⟩
   ·have hl':¬(ds.length:Int)=2:=by omega
    rw [zst hl]
    simp only [hl',decide_false,Bool.not_false,if_true,zcc,zbv]
    all_goals first|trivial|exact ⟨nofun,nofun⟩
 obtain ⟨v,S',e,rfl,rfl⟩:=this
 exact e
theorem zsx {S:Sto}{l:Lo}{a:D}{n:Int}{R:Bool->Sto->Prop}(h:Ty S a) (h3:l[3]? = some (some a)) (h4:l[4]? = some (some (.int n))) (q:R (!zb6 n a) S) :
  Wt (zd0 (zdm (tE (eUn (zd2 "int") (zaa 3)))) (zd0 (tE (eUn (zd2 "bool") (zaa 3))) (zdm (tE (zfx dLt dLt (eUn zg9 (eC (.int 1))) (zaa 3) (zaa 4)))))) l S R:=by
 have key:∀{T:String},tyD S a=some T->isI T "int" = false->zb6 n a=false->Wt (zd0 (zdm (tE (eUn (zd2 "int") (zaa 3)))) (zd0 (tE (eUn (zd2 "bool") (zaa 3))) (zdm (tE (zfx dLt dLt (eUn zg9 (eC (.int 1))) (zaa 3) (zaa 4)))))) l S R:=λ{T} e1 e2 e3=>by
  rw [e3] at q
  simp only [zcv,zcw,zco,zb5,zak,h3,za7,zlj,e1]
  refine ⟨_,rfl,?_⟩
  simp only [e2,zb0,Bool.not_false,if_true]
  exact q
 cases a with
 | non=>exact key rfl (by decide) rfl
 | str z=>exact key rfl (by decide) rfl
 | tup xs=>exact key rfl (by decide) rfl
 | fn a=>obtain ⟨T,e⟩:=h;cases e
 | ref k =>
  obtain ⟨T,e⟩:=h
  have e0:=e
  unfold tyD at e
  dsimp only at e
  split at e
  ·cases e;exact key e0 (by decide) rfl
  ·cases e;exact key e0 (by decide) rfl
  ·cases e
 | bl b =>
  have e1:isI "bool" "int" = true:=by decide
  have q:R true S:=q
  simp only [zcv,zcw,zco,zb5,zak,h3,za7,zdp,zdb,e1,zb0,if_true,Bool.not_true,qbf,if_false]
  exact q
 | int i =>
  have q:R (!(decide (0<=i) && decide (i<n))) S:=q
  simp only [zcv,zcw,zco,zb5,zak,zbv,h3,h4,za7,zdq,zdb,zsr,zb0,if_true,Bool.not_true,qbf,if_false,zsq,zlk,zd6]
  by_cases h0:0<=i
  ·have h1:(-1:Int)<i:=by omega
   simp only [h0,decide_true,Bool.true_and] at q
   simp only [h1,decide_true,if_true,zb0]
   exact q
  ·have h1:¬(-1:Int)<i:=by omega
   simp only [h0,decide_false,Bool.false_and,Bool.not_false] at q
   simp only [h1,decide_false,qbf,if_false,zb0,Bool.not_false]
   exact q
theorem ydx {S:Sto}{x:D}{N M:Nat}(h:Tys S x):zhx [x,.int (N:Int),.int (M:Int)] S=some (.bl (zcj N M x),S):=by
 have s2:2<=sizeLine:=by decide
 have:Wo (zhx [x,.int (N:Int),.int (M:Int)] S) λv S'=>v=.bl (zcj N M x)/\S' = S:=by
  unfold zhx zrt
  dsimp! only [zbc]
  by_cases hx:∀ds,x≠.tup ds
  ·obtain ⟨T,h1,h2⟩:=zsv h hx
   rw [zsw hx]
   simp only [zc3,zbm,zcv,zcw,zco,zb5,zak,qg0,za7,zlj,h1]
   refine ⟨_,rfl,?_⟩
   simp only [h2,zb0,Bool.not_false,if_true,zcc,zbv]
   all_goals first|trivial|exact ⟨nofun,nofun⟩
  ·obtain ⟨ds,rfl⟩:∃ds,x=.tup ds:=by
    cases x with
    | tup ds=>exact ⟨ds,rfl⟩
    | _=>exact absurd (λds e=>by cases e) hx
   have h:∀d∈ds,Ty S d:=h
   by_cases hl:ds.length=2
   ·obtain ⟨a,b,rfl⟩:=zsu hl
    refine zbr (l':=[some (.tup [a,b]),‹N›,‹M›,none,none]) (S':=S) ?_ ?_
    ·simp! only [zdk,znz,Bool.not_true,qbf,if_false]
     all_goals first|trivial|exact ⟨nofun,nofun,nofun⟩
    have ha0:zab (zaa 0) (zab (zaf zau (zab (zaa 1) (zab (zaa 2) zae))) zae) [some (.tup [a,b]),‹N›,‹M›,none,none] S=some ([.tup [a,b],.tup [.int (N:Int),.int (M:Int)]],S):=by
     have:Wa (zab (zaa 0) (zab (zaf zau (zab (zaa 1) (zab (zaa 2) zae))) zae)) [some (.tup [a,b]),‹N›,‹M›,none,none] S λvs S'=>vs=[.tup [a,b],.tup [.int (N:Int),.int (M:Int)]]/\S' = S:=by
      simp_all! only [List.length_cons,List.length_nil,s2,true_and]
      all_goals first|trivial|exact ⟨s2,nofun,nofun⟩|exact ⟨nofun,nofun⟩
     obtain ⟨xs,S',e,rfl,rfl⟩:=this
     exact e
    refine zdy (λl S'=>S' = S/\zcj N M (.tup [a,b])=true) (λv S'=>v=.bl (zcj N M (.tup [a,b]))/\S' = S) ?_ ?_ (λd l1 S1 o=>o)
    ·refine zju (zl [a,b] [.int (N:Int),.int (M:Int)]) (λi l S'=>S' = S/\(1<=i->zb6 N a=true)/\(2<=i->zb6 M b=true)/\∃x3 x4,l=[some (.tup [a,b]),‹N›,‹M›,x3,x4]) (λv S'=>v=.bl (zcj N M (.tup [a,b]))/\S' = S) (zsm ha0) ⟨rfl,λz=>by omega,λz=>by omega,_,_,rfl⟩ (λi l S' _=>znu rfl rfl) ?_ ?_ (λd l' S' q=>.inr ⟨d,rfl,q⟩)
     ·rintro i x l S4 hx ⟨rfl,c1,c2,x3,x4,rfl⟩
      have hi:i=0\/i=1:=by
       have:=(qme hx).1
       rw [zj5] at this
       simp at this
       omega
      rcases hi with rfl|rfl
      ·cases (show D.tup [a,.int (N:Int)]=x by simpa [zl] using hx)
       simp only [zcf,zch,zcg,za0,List.length_cons,List.length_nil,qs0,qs1]
       refine ⟨by first|rfl|trivial,?_⟩
       refine zcy (λb' S'=>b' = (!zb6 N a)/\S' = S4) (zsx (h a (by simp)) rfl rfl ⟨rfl,rfl⟩) ?_ ?_
       ·rintro S1 ⟨hb,rfl⟩
        have hb:zb6 N a=false:=by simpa using hb.symm
        simp! only [zak]
        exact .inr ⟨_,rfl,by show _=D.bl (zb6 N a && zb6 M b);rw [hb];rfl,nofun⟩
       ·rintro S1 ⟨hb,rfl⟩
        have hb:zb6 N a=true:=by simpa using hb.symm
        simp! only [zak]
        exact .inl ⟨(by first|exact .inl rfl|exact .inl trivial|trivial),nofun,λ_=>hb,λz=>by omega,_,_,rfl⟩
      ·cases (show D.tup [b,.int (M:Int)]=x by simpa [zl] using hx)
       simp only [zcf,zch,zcg,za0,List.length_cons,List.length_nil,qs0,qs1]
       refine ⟨by first|rfl|trivial,?_⟩
       refine zcy (λb' S'=>b' = (!zb6 M b)/\S' = S4) (zsx (h b (by simp)) rfl rfl ⟨rfl,rfl⟩) ?_ ?_
       ·rintro S1 ⟨hb,rfl⟩
        have hb:zb6 M b=false:=by simpa using hb.symm
        simp! only [zak]
        exact .inr ⟨_,rfl,by show _=D.bl (zb6 N a && zb6 M b);rw [hb,Bool.and_false],nofun⟩
       ·rintro S1 ⟨hb,rfl⟩
        have hb:zb6 M b=true:=by simpa using hb.symm
        simp! only [zak]
        exact .inl ⟨(by first|exact .inl rfl|exact .inl trivial|trivial),nofun,λ_=>c1 (by omega),λ_=>hb,_,_,rfl⟩
     ·rintro l' S' ⟨rfl,c1,c2,_⟩
      rw [zj5] at c1 c2
      exact .inl ⟨rfl,rfl,by show (zb6 N a && zb6 M b)=true;rw [c1 (by simp),c2 (by simp)];rfl⟩
    rintro l S1 ⟨rfl,hok⟩
    rw [hok]
    simp! only [zak]
    all_goals first|trivial|exact ⟨nofun,nofun⟩
   ·have hl':¬(ds.length:Int)=2:=by omega
    rw [zst hl]
    refine zdy (λ_ _=>False) (λv S'=>v=.bl false/\S' = S) ?_ (λ_ _ z=>z.elim) (λd _ _ o=>o)
    simp only [zc3,zbm,zcv,zcw,zco,zb5,zbt,zbv,zbe,za6,zbk,zak,qg0,qg1,za7,zdk,znz,zb0,Bool.not_true,qbf,if_false,zdj,zdo,hl',decide_false,Bool.not_false,if_true,zcc]
    exact .inr ⟨_,rfl,nofun,nofun⟩
 obtain ⟨v,S',e,rfl,rfl⟩:=this
 exact e
inductive SpP (ns:List Int) (c A many:Nat) (S:Sto) (v:D) (S':Sto):Prop
 | mk (g:List (List Cl)) (e:v=mD A g) (ok:OkM A g) (l:g.length=many) (p:PQ ns (c+10) S') (f:Fn S S')
theorem ydy {ns:List Int}{c A:Nat}{g:List (List Cl)}{S:Sto}(h:PQ ns c S) (hc:c<80000000) (ok:OkM A g):Wo (zj1 [.ref 2,mD A g] S) (SpP ns c A g.length S):=by
 have sz:=zcs
 have r1:=ok.r1
 have r24:=ok.r24
 have a1:=ok.a1
 have a4:=ok.a4
 unfold zj1 zr1 mD
 dsimp! only [zbc]
 generalize hM:D.tup [.int (A:Int),.tup (g.map roD)]=dM
 refine zaz (λl S'=>∃w:Nat,w<4/\PQ ns (c+1) S'/\Fn S S'/\l=[~~~2,some dM,‹w›,none,none,none,none,none,none,none,none]) ?_ ?_
 ·simp! only [zak]
  refine (zbj h (by omega) (by decide) (by decide)).mono ?_
  rintro v S1 ⟨d,rfl,hd,p1,f1⟩
  exact ⟨nofun,d,by omega,p1,f1,rfl⟩
 rintro l S1 ⟨w,hw,p1,f1,rfl⟩
 refine zbr (l':=[~~~2,some dM,‹w›,some (.int (g.length:Int)),none,none,none,none,none,none,none]) (S':=S1) ?_ ?_
 ·rw [<-hM]
  simp! only [qlm]
  exact ⟨nofun,nofun,nofun⟩
 refine zaz (λl S'=>∃r:Nat,r<g.length/\PQ ns (c+2) S'/\Fn S S'/\l=[~~~2,some dM,‹w›,some (.int (g.length:Int)),‹r›,none,none,none,none,none,none]) ?_ ?_
 ·simp! only [zak]
  refine (zbj p1 (by omega) (by omega) (by omega)).mono ?_
  rintro v S2 ⟨d,rfl,hd,p2,f2⟩
  exact ⟨nofun,d,by omega,p2,f1.trans f2,rfl⟩
 rintro l S2 ⟨r,hr,p2,f2,rfl⟩
 refine zaz (λl S'=>∃a:Nat,a<A/\PQ ns (c+3) S'/\Fn S S'/\l=[~~~2,some dM,‹w›,some (.int (g.length:Int)),‹r›,‹a›,none,none,none,none,none]) ?_ ?_
 ·rw [<-hM]
  simp! only [zak]
  refine (zbj p2 (by omega) (by omega) (by omega)).mono ?_
  rintro v S3 ⟨d,rfl,hd,p3,f3⟩
  exact ⟨nofun,d,by omega,p3,f2.trans f3,rfl⟩
 rintro l S3 ⟨a,ha,p3,f3,rfl⟩
 obtain ⟨cs,hcs,hca,hcg,hcm⟩:=zse ok hr ha
 have hcl:=ok.len cs hcg
 have hgo:=ok.go cs hcg _ hcm
 generalize cell g r a=q at hca hcm hgo
 have e1:L2.atI (g.map roD) (r:Int)=some (.tup (cs.map kD)):=atI_get (by rw [qgm,hcs];rfl)
 have e2:L2.atI (cs.map kD) (a:Int)=some (.tup [oD q.1,oD q.2]):=atI_get (by rw [qgm,hca];rfl)
 refine zbr (l':=[~~~2,some dM,‹w›,some (.int (g.length:Int)),‹r›,‹a›,some (oD q.1),some (oD q.2),none,none,none]) (S':=S3) ?_ ?_
 ·rw [<-hM]
  simp! only [e1,e2,true_and]
  all_goals first|trivial|exact ⟨nofun,nofun⟩
 refine zaz (λl S'=>∃t:Nat,t<g.length/\PQ ns (c+4) S'/\Fn S S'/\l=[~~~2,some dM,‹w›,some (.int (g.length:Int)),‹r›,‹a›,some (oD q.1),some (oD q.2),‹t›,none,none]) ?_ ?_
 ·simp! only [zak]
  refine (zbj p3 (by omega) (by omega) (by omega)).mono ?_
  rintro v S4 ⟨d,rfl,hd,p4,f4⟩
  exact ⟨nofun,d,by omega,p4,f3.trans f4,rfl⟩
 rintro l S4 ⟨t,ht,p4,f4,rfl⟩
 refine zaz (λl S'=>∃z:Cl,(∀x,z.1=some x->x<g.length)/\PQ ns (c+5) S'/\Fn S S'/\l=[~~~2,some dM,‹w›,some (.int (g.length:Int)),‹r›,‹a›,some (oD q.1),some (oD q.2),‹t›,some (kD z),none]) ?_ ?_
 ·have s2:2<=sizeLine:=by omega
  have s4:4<=sizeLine:=by omega
  simp! only [s2,true_and]
  refine (zbj p4 (by omega) (by decide) (by decide)).mono ?_
  rintro v S5 ⟨d,rfl,hd,p5,f5⟩
  simp! only [s2,s4,true_and]
  have:∃z:Cl,L2.atI [D.tup [oD q.1,.non],.tup [.non,oD q.2],.tup [oD q.1,.int (d:Int)],.tup [.int (t:Int),oD q.2]] (w:Int)=some (kD z)/\(∀x,z.1=some x->x<g.length):=by
   have:w=0\/w=1\/w=2\/w=3:=by omega
   rcases this with rfl|rfl|rfl|rfl
   ·exact ⟨(q.1,none),rfl,hgo⟩
   ·exact ⟨(none,q.2),rfl,λx hx=>by cases hx⟩
   ·exact ⟨(q.1,some d),rfl,hgo⟩
   ·exact ⟨(some t,q.2),rfl,λx hx=>by cases hx;exact ht⟩
  obtain ⟨z,hz,hz2⟩:=this
  simp only [hz]
  exact ⟨_,rfl,z,hz2,p5.gr ⟨_,rfl⟩,(f4.trans f5).trans (Fn.gr ⟨_,rfl⟩),rfl⟩
 rintro l S5 ⟨z,hz,p5,f5,rfl⟩
 refine zbr (l':=[~~~2,some dM,‹w›,some (.int (g.length:Int)),‹r›,‹a›,some (oD q.1),some (oD q.2),‹t›,some (kD z),some (roD (cs.set a z))]) (S':=S5) ?_ ?_
 ·rw [zbg]
  refine znr (xs:=cs.map kD) (i:=a) (y:=kD z) (λQ'=>by rw [<-hM];simp_all! only [e1]) (λQ'=>by simp_all! only [zak]) rfl (by rw [qlm];omega) (by rw [qlm];omega) ?_
  simp only [za0,qs0,qs1]
  refine ⟨nofun,?_,nofun⟩
  unfold roD;rw [List.map_set]
 rw [zcc,zbe,za6]
 have e0:∀Q':D->Sto->Prop,We (eOp zaj (zaa 1) (eC (.int 0))) [~~~2,some dM,‹w›,some (.int (g.length:Int)),‹r›,‹a›,some (oD q.1),some (oD q.2),‹t›,some (kD z),some (roD (cs.set a z))] S5 Q' = Q' (.int (A:Int)) S5:=λQ'=>by rw [<-hM];simp_all! only [zak]
 rw [e0,za6]
 refine znr (xs:=g.map roD) (i:=r) (y:=roD (cs.set a z)) (λQ'=>by rw [<-hM];simp_all! only [zak]) (λQ'=>by simp_all! only [zak]) rfl (by rw [qlm];omega) (by rw [qlm];omega) ?_
 simp_all! only [zak]
 refine ⟨by omega,put g r cs a z,?_,ydj ok hcs hz,by simp [put],p5.mono (by omega),f5⟩
 unfold put mD;rw [List.map_set]
theorem zll {α:Type}{f:Nat->Option α}{n i:Nat}{v:α}(h:∀j,j<i->f j=none) (hi:i<n) (e:f i=some v):(List.range n).findSome? f=some v:=by
 have e1:List.range n=List.range i++i :: (List.range (n-i-1)).map (λk=>i+1+k):=by
  have h1:=List.range_add (n:=i+1) (m:=n-i-1)
  rw [show i+1+(n-i-1)=n by omega,List.range_succ,List.append_assoc] at h1
  exact h1
 rw [e1,List.findSome?_append]
 have e2:(List.range i).findSome? f=none:=List.findSome?_eq_none_iff.mpr λj hj=>h j (List.mem_range.mp hj)
 rw [e2,List.findSome?_cons,e];rfl
theorem zlm {α:Type}{f:Nat->Option α}{n:Nat}(h:∀j,j<n->f j=none):(List.range n).findSome? f=none:=List.findSome?_eq_none_iff.mpr λj hj=>h j (List.mem_range.mp hj)
noncomputable def zga (c d:Cl):Bool:=c.2.isSome && decide (d.2≠c.2)
noncomputable def goB (c d:Cl):Bool:=c.1.isSome && d.1.isNone
noncomputable def zgb (c d:Cl):Option Str:=if zga c d then some "says" else if goB c d then some "goes" else none
noncomputable def zhl (ps:List BF.P) (c d:Cl):Bool:=match zeg c.1 d.1 with
 | none=>false
 | some q=>!decide (q∈ps)
noncomputable def zeh (ps:List BF.P) (c d:Cl):Option Str:=if zga c d then some "says" else if goB c d then some "goes" else if zhl ps c d then some "behind" else none
noncomputable def stD:Option Str->D
 | none=>.non
 | some w=>.str w
theorem zln (o:Option Str):ze0 (stD o)=o.isNone:=by cases o <;> rfl
theorem ydz (c d:Cl) (S:Sto):zis [kD c,kD d] S=some (stD (zgb c d),S):=by
 obtain ⟨c1,c2⟩:=c
 obtain ⟨d1,d2⟩:=d
 have:Wo (zis [kD (c1,c2),kD (d1,d2)] S) λv S'=>v=stD (zgb (c1,c2) (d1,d2))/\S' = S:=by
  cases c2 with
  | none=>cases c1 with
   | none=>exact ⟨_,_,rfl,rfl,rfl⟩
   | some i=>cases d1 <;> exact ⟨_,_,rfl,rfl,rfl⟩
  | some k =>
   cases d2 with
   | none=>exact ⟨_,_,rfl,rfl,rfl⟩
   | some e =>
    unfold zis zrp kD
    dsimp! only [zbc]
    by_cases he:e=k
    ·subst he
     cases c1 with
     | none=>simp [zbc,zc3,zbm,zco,zbt,zb5,zak,zbv,zbg,zcc,zcb,zek,za0,zdn,zcf,zcg,zch,zbe,zca,za6,zbk,zd4,zcv,zcw,zc6,zd5,zej,zd6,zd7,zdr,zds,zdw,zdt,zdu,zdv,zdx,zex,zev,zd8,zd9,zcd,zc4,zea,zeb,zdj,zed,zel,zc7,zcp,zdh,zem,zew,zen,zdo,zeo,zep,zdp,zdq,zdk,zdb,List.map_cons,List.map_nil,List.length_cons,List.length_nil,Nat.reduceAdd,Nat.reduceSub,List.replicate,List.cons_append,List.nil_append,qg0,qg1,qs0,qs1,za7,zbo,zb0,zes,zet,zeu,zeq,zer,zcx,decide_eq_true_eq,zef,zdd,oD,zgb,zga,goB,stD,ze0]
     | some i=>cases d1 <;> simp [zbc,zc3,zbm,zco,zbt,zb5,zak,zbv,zbg,zcc,zcb,zek,za0,zdn,zcf,zcg,zch,zbe,zca,za6,zbk,zd4,zcv,zcw,zc6,zd5,zej,zd6,zd7,zdr,zds,zdw,zdt,zdu,zdv,zdx,zex,zev,zd8,zd9,zcd,zc4,zea,zeb,zdj,zed,zel,zc7,zcp,zdh,zem,zew,zen,zdo,zeo,zep,zdp,zdq,zdk,zdb,List.map_cons,List.map_nil,List.length_cons,List.length_nil,Nat.reduceAdd,Nat.reduceSub,List.replicate,List.cons_append,List.nil_append,qg0,qg1,qs0,qs1,za7,zbo,zb0,zes,zet,zeu,zeq,zer,zcx,decide_eq_true_eq,zef,zdd,oD,zgb,zga,goB,stD,ze0]
    ·have he2:¬(e:Int)=(k:Int):=by omega
     cases c1 <;> simp [zbc,zc3,zbm,zco,zbt,zb5,zak,zbv,zbg,zcc,zcb,zek,za0,zdn,zcf,zcg,zch,zbe,zca,za6,zbk,zd4,zcv,zcw,zc6,zd5,zej,zd6,zd7,zdr,zds,zdw,zdt,zdu,zdv,zdx,zex,zev,zd8,zd9,zcd,zc4,zea,zeb,zdj,zed,zel,zc7,zcp,zdh,zem,zew,zen,zdo,zeo,zep,zdp,zdq,zdk,zdb,List.map_cons,List.map_nil,List.length_cons,List.length_nil,Nat.reduceAdd,Nat.reduceSub,List.replicate,List.cons_append,List.nil_append,qg0,qg1,qs0,qs1,za7,zbo,zb0,zes,zet,zeu,zeq,zer,zcx,decide_eq_true_eq,zef,zdd,oD,zgb,zga,goB,stD,ze0,he,he2]
 obtain ⟨v,S',e,rfl,rfl⟩:=this
 exact e
theorem zsy (A:Nat) (t g:List (List Cl)) (S:Sto):ziv [mD A t,mD A g] S=some (.non,S):=by
 have:Wo (ziv [mD A t,mD A g] S) λv S'=>v=.non/\S' = S:=by
  unfold ziv zrs mD
  dsimp! only [zbc]
  simp [zbc,zc3,zbm,zco,zbt,zb5,zak,zbv,zbg,zcc,zcb,zek,za0,zdn,zcf,zcg,zch,zbe,zca,za6,zbk,zd4,zcv,zcw,zc6,zd5,zej,zd6,zd7,zdr,zds,zdw,zdt,zdu,zdv,zdx,zex,zev,zd8,zd9,zcd,zc4,zea,zeb,zdj,zed,zel,zc7,zcp,zdh,zem,zew,zen,zdo,zeo,zep,zdp,zdq,zdk,zdb,List.map_cons,List.map_nil,List.length_cons,List.length_nil,Nat.reduceAdd,Nat.reduceSub,List.replicate,List.cons_append,List.nil_append,qg0,qg1,qs0,qs1,za7,zbo,zb0,zes,zet,zeu,zeq,zer,zcx,decide_eq_true_eq,zef]
 obtain ⟨v,S',e,rfl,rfl⟩:=this
 exact e
def InR (t g:List (List Cl)) (ps:List BF.P):Prop:=∀p∈ps,p.1<t.length/\p.2<g.length
theorem yd0 (xs:List D) (f:D->Bool):((xs.map λx=>D.bl (f x)).all zig=true)/\(xs.map λx=>D.bl (f x)).all isT=xs.all f:=by
 constructor
 ·rw [List.all_map];exact List.all_eq_true.mpr λ_ _=>rfl
 ·rw [List.all_map]
  apply congrArg (λf=>xs.all f)
  funext d
  show isT (.bl (f d))=_
  cases f d <;> rfl
theorem zn0 {S:Sto}{n:Nat}{xs:List D}{Q:D->Sto->Prop}(h:S[n]? = some (.lst xs)):Wo (zgy "list" (.ref n) S) Q=Q (.bl true) S:=by
 have:zgy "list" (.ref n) S=some (.bl true,S):=by
  have e:tyD S (.ref n)=some "list":=by unfold tyD;dsimp only;rw [h]
  unfold zgy tyE;rw [e];rfl
 rw [this,zbb]
theorem zsz {S:Sto}{d:D}{T:String}{Q:D->Sto->Prop}(h:tyE S d=some T) (hT:isI T "list" = false):Wo (zgy "list" d S) Q=Q (.bl false) S:=by
 have:zgy "list" d S=some (.bl false,S):=by
  unfold zgy;rw [h];show some (D.bl (isI T "list"),S)=_;rw [hT]
 rw [this,zbb]
theorem zs0 {S:Sto}{n N M:Nat}{xs:List D}(hn:S[n]? = some (.lst xs)) (hl:xs.length<=1000) (h:∀x∈xs,Tys S x):Wo (zhi [.ref n,.int (N:Int),.int (M:Int)] S) λv S'=>v=.bl (xs.all (zcj N M))/\Gr S S':=by
 have sz:=zcs
 unfold zhi znp
 dsimp! only [zbc]
 simp only [zcc,zc6,zb5,zak,qg0,qg1,za7,zn0 hn,if_true]
 refine ⟨true,rfl,?_⟩
 rw [if_pos rfl,zbe,za6]
 refine zhw xs (λx=>.bl (zcj N M x)) (λS'=>S' = S) (λl=>∃x0,l=[x0,‹N›,‹M›]) (zhe (n:=n) rfl (zay hn)) rfl ⟨_,rfl⟩ (λi S' e=>by subst e;exact zf4 (zay hn)) (by omega) ?_ ?_
 ·rintro x l S' hx ⟨x0,rfl⟩ rfl
  simp only [za0,qs0]
  refine ⟨nofun,⟨_,rfl⟩,?_⟩
  simp only [zbe,za6,zbk,zak,qg0,qg1,za7]
  exact ⟨_,_,ydw (h x hx),rfl,rfl⟩
 ·rintro S' rfl
  simp only [zbk,ybn,zcx]
  obtain ⟨h1,h2⟩:=yd0 xs (zcj N M)
  exact ⟨_,rfl,h1,by rw [h2],⟨_,rfl⟩⟩
theorem zn1:∀(ps:List BF.P) (acc:Tb),∃kvs,zhc (ps.map λp=>.tup [pD p,.bl true]) acc=some kvs/\∀p,(zbq kvs (pK p)).isSome=(decide (p∈ps) || (zbq acc (pK p)).isSome)
 | [],acc=>⟨acc,rfl,λp=>by simp⟩
 | q :: ps,acc=>by
  obtain ⟨kvs,h1,h2⟩:=zn1 ps (zda acc (pK q) (.bl true))
  refine ⟨kvs,h1,λp=>?_⟩
  rw [h2,zsp]
  by_cases e:p=q
  ·subst e;simp
  ·have:¬pK p=pK q:=λz=>e (zny z)
   rw [if_neg this];simp [e]
structure Kn (S:Sto) (m:Nat) (ps:List BF.P):Prop where
 w:∃kvs,S[m]? = some (.tdct kvs)/\∀p,(zbq kvs (pK p)).isSome=decide (p∈ps)
theorem yd1 {l:Lo}{S:Sto}{n:Nat}{ps:List BF.P}{Q:D->Sto->Prop}(h:l[2]? = some (some (.ref n))) (hn:S[n]? = some (.lst (ps.map pD))) (hl:ps.length<=1000) (q:∀S',Gr S S'->Kn S' S.length ps->Q (.ref S.length) S') :
  We (zjq (zdg (zaa 2)) [none] (zal 0) (zcu) (zaa 0) (eC (.bl true))) l S Q:=by
 have sz:=zcs
 obtain ⟨ys,S',e,q1,q2⟩:∃ys S',zc2 (itL n) (zal 0) zcu (zht (zaa 0) (eC (.bl true))) ((ps.map pD).length+1) 0 [none] S=some (ys,S')/\ys=(ps.map λp=>.tup [pD p,.bl true])/\S' = S:=by
  obtain ⟨ys,S',l',e,h1,h2,_⟩:=zk9 (it:=itL n) (g:=zal 0) (t:=zcu) (e:=zht (zaa 0) (eC (.bl true))) (ps.map pD) (λi acc l S'=>acc=(ps.take i).map (λp=>.tup [pD p,.bl true])/\S' = S/\∃x,l=[x]) (λi acc l S' hx1_=>by obtain ⟨_,h,_⟩:=hx1_;subst h;exact zf4 (zay hn)) (by
   rintro i x acc l S' hx ⟨rfl,rfl,u,rfl⟩
   rw [qgm] at hx
   obtain ⟨p,hp,rfl⟩:=Option.map_eq_some_iff.mp hx
   simp only [za0,qs0]
   rw [zkt,if_pos rfl]
   refine ⟨.tup [pD p,.bl true],S',rfl,?_,rfl,_,rfl⟩
   rw [List.take_add_one,hp];simp) (ps.map pD).length 0 [] [none] S rfl ⟨rfl,rfl,_,rfl⟩
  rw [List.nil_append,qlm,List.take_length] at h1
  exact ⟨ys,S',e,h1,h2⟩
 subst q1 q2
 obtain ⟨kvs,f1,f2⟩:=zn1 ps []
 refine ⟨_,_,?_,q (S'++[.tdct kvs]) ⟨_,rfl⟩ ⟨kvs,zba,λp=>by rw [f2];simp [zbq]⟩⟩
 unfold zjq
 rw [zhe (n:=n) (by unfold zaa;rw [h]) (zay hn)]
 show (zc2 (itL n) _ zcu (zht (zaa 0) (eC (.bl true))) ((ps.map pD).length+1) 0 [none] S').bind _=_
 rw [e]
 show (if (ps.map λp=>D.tup [pD p,.bl true]).length<=sizeLine then _ else _)=_
 rw [if_pos (by rw [qlm];omega),f1]
 rfl
theorem yd2 {S:Sto}{m:Nat}{ps:List BF.P}(k:Kn S m ps) (c d:Cl):zit [kD c,kD d,.ref m] S=some (stD (zeh ps c d),S):=by
 obtain ⟨kvs,hk,hg⟩:=k.w
 have e:=ydz c d S
 have:Wo (zit [kD c,kD d,.ref m] S) λv S'=>v=stD (zeh ps c d)/\S' = S:=by
  unfold zit zrq
  dsimp! only [zbc]
  refine zbr (l':=[some (kD c),some (kD d),~~~m,some (stD (zgb c d))]) (S':=S) ?_ ?_
  ·simp_all! only [zbg]
   exact ⟨_,_,e,nofun,nofun,nofun⟩
  cases hl:zgb c d with
  | some w =>
   refine zdy (λ_ _=>False) (λv S'=>v=.str w/\S' = S) ?_ (λ_ _ z=>z.elim) (λd' _ _ o=>?_)
   ·simp! only [zln,Option.isNone_some,Bool.not_false,if_true]
    exact .inr ⟨_,rfl,rfl,nofun⟩
   ·have:zeh ps c d=some w:=by
     unfold zgb at hl
     unfold zeh
     split at hl
     ·rename_i h1;rw [if_pos h1];exact hl
     ·rename_i h1
      rw [if_neg h1]
      split at hl
      ·rename_i h2;rw [if_pos h2];exact hl
      ·cases hl
    rw [this];exact o
  | none =>
   have hp:zeh ps c d=(if zhl ps c d then some ("behind":Str) else (none:Option Str)):=by
    unfold zgb at hl
    unfold zeh
    split at hl
    ·cases hl
    ·rename_i h1
     rw [if_neg h1]
     split at hl
     ·cases hl
     ·rename_i h2;rw [if_neg h2]
   have hgo:goB c d=false:=by
    unfold zgb at hl
    split at hl
    ·cases hl
    ·split at hl
     ·cases hl
     ·rename_i h2;simpa using h2
   rw [hp]
   refine zbr (l':=[some (kD c),some (kD d),~~~m,some .non]) (S':=S) ?_ ?_
   ·simp! only [zln,Option.isNone_none,Bool.not_true,qbf,if_false]
    all_goals first|trivial|exact ⟨nofun,nofun,nofun⟩|exact ⟨nofun,nofun⟩
   obtain ⟨c1,c2⟩:=c
   obtain ⟨d1,d2⟩:=d
   cases c1 with
   | none =>
    unfold kD
    simp! only [zdd,Option.isNone_none,Bool.not_true,qbf,if_false]
    simp [zhl,zeg,stD]
   | some i =>
    cases d1 with
    | none=>simp [goB] at hgo
    | some j =>
     have s2:2<=sizeLine:=by decide
     have hr:dRd S (.ref m) (.tup [oD (some i),oD (some j)])=some (zbq kvs (pK (i,j))):=zjw hk (zli (i,j))
     have hgg:=hg (i,j)
     unfold kD
     by_cases hin:(i,j)∈ps
     ·rw [decide_eq_true hin] at hgg
      refine zbr (l':=[some (.tup [oD (some i),oD c2]),some (.tup [oD (some j),oD d2]),~~~m,some .non]) (S':=S) ?_ ?_
      ·simp! only [zdd,Option.isNone_some,Bool.not_false,if_true,s2,true_and,zin]
       refine ⟨_,hr,?_⟩
       rw [hgg]
       simp [zbc,zc3,zbm,zco,zbt,zb5,zak,zbv,zbg,zcc,zcb,zek,za0,zdn,zcf,zcg,zch,zbe,zca,za6,zbk,zd4,zcv,zcw,zc6,zd5,zej,zd6,zd7,zdr,zds,zdw,zdt,zdu,zdv,zdx,zex,zev,zd8,zd9,zcd,zc4,zea,zeb,zdj,zed,zel,zc7,zcp,zdh,zem,zew,zen,zdo,zeo,zep,zdp,zdq,zdk,zdb,List.map_cons,List.map_nil,List.length_cons,List.length_nil,Nat.reduceAdd,Nat.reduceSub,List.replicate,List.cons_append,List.nil_append,qg0,qg1,qs0,qs1,za7,zbo,zb0,zes,zet,zeu,zeq,zer,zcx,decide_eq_true_eq,zef]
      simp [zbc,zc3,zbm,zco,zbt,zb5,zak,zbv,zbg,zcc,zcb,zek,za0,zdn,zcf,zcg,zch,zbe,zca,za6,zbk,zd4,zcv,zcw,zc6,zd5,zej,zd6,zd7,zdr,zds,zdw,zdt,zdu,zdv,zdx,zex,zev,zd8,zd9,zcd,zc4,zea,zeb,zdj,zed,zel,zc7,zcp,zdh,zem,zew,zen,zdo,zeo,zep,zdp,zdq,zdk,zdb,List.map_cons,List.map_nil,List.length_cons,List.length_nil,Nat.reduceAdd,Nat.reduceSub,List.replicate,List.cons_append,List.nil_append,qg0,qg1,qs0,qs1,za7,zbo,zb0,zes,zet,zeu,zeq,zer,zcx,decide_eq_true_eq,zef,stD,zhl,zeg,hin]
     ·rw [decide_eq_false hin] at hgg
      refine zdy (λ_ _=>False) (λv S'=>v=.str "behind"/\S' = S) ?_ (λ_ _ z=>z.elim) (λd _ _ o=>by simpa [zhl,zeg,hin,stD] using o)
      simp! only [zdd,Option.isNone_some,Bool.not_false,if_true,s2,true_and,zin]
      refine ⟨_,hr,?_⟩
      rw [hgg]
      simp [zbc,zc3,zbm,zco,zbt,zb5,zak,zbv,zbg,zcc,zcb,zek,za0,zdn,zcf,zcg,zch,zbe,zca,za6,zbk,zd4,zcv,zcw,zc6,zd5,zej,zd6,zd7,zdr,zds,zdw,zdt,zdu,zdv,zdx,zex,zev,zd8,zd9,zcd,zc4,zea,zeb,zdj,zed,zel,zc7,zcp,zdh,zem,zew,zen,zdo,zeo,zep,zdp,zdq,zdk,zdb,List.map_cons,List.map_nil,List.length_cons,List.length_nil,Nat.reduceAdd,Nat.reduceSub,List.replicate,List.cons_append,List.nil_append,qg0,qg1,qs0,qs1,za7,zbo,zb0,zes,zet,zeu,zeq,zer,zcx,decide_eq_true_eq,zef]
 obtain ⟨v,S',e,rfl,rfl⟩:=this
 exact e
noncomputable def zfs (t g:List (List Cl)) (ps:List BF.P) (k:Nat) (p:BF.P) (a:Nat):Option D:=(zeh ps (cell t p.1 a) (cell g p.2 a)).map λw=>.tup [.str w,.int (k:Int),.int (a:Int)]
noncomputable def zj6 (A:Nat) (t g:List (List Cl)) (ps:List BF.P) (k:Nat) (p:BF.P):Option D:=(List.range A).findSome? (zfs t g ps k p)
noncomputable def ziz (A:Nat) (t g:List (List Cl)) (ps:List BF.P):Option D:=(List.range ps.length).findSome? λk=>(ps[k]?).bind (zj6 A t g ps k)
noncomputable def zck (A:Nat) (t g:List (List Cl)) (ps:List BF.P):D:=if (0,0)∈ps then (ziz A t g ps).getD .non else .tup [.str "begin"]
noncomputable def SHP:D:=.tup [.str "shape"]
theorem zs1 {as:AM}{l:Lo}{S S1:Sto}{n:Nat}{xs:List D}(h:as l S=some ([.ref n],S1)) (hn:lstOf S1 n=some xs):zhb as l S=some (itN (itL n),(enl xs).length+1,S1):=by
 unfold zhb;rw [h,zjs];show (lstOf S1 n).bind _=_;rw [hn];rfl
theorem zs2 {n i:Nat}{S:Sto}{xs:List D}(hn:lstOf S n=some xs):itN (itL n) i S=some (enl xs)[i]?:=by
 rw [zjt];unfold itN;rw [zf4 hn];rfl
theorem zs3 {t g:List (List Cl)}{ps:List BF.P}(inn:InR t g ps):(ps.map pD).all (zcj t.length g.length)=true:=by
 rw [List.all_eq_true]
 intro x hx
 obtain ⟨p,hp,rfl⟩:=List.mem_map.mp hx
 exact ydv (inn p hp).1 (inn p hp).2
theorem zlo {S:Sto}{ps:List BF.P}:∀x∈ps.map pD,Tys S x:=by
 intro x hx
 obtain ⟨p,hp,rfl⟩:=List.mem_map.mp hx
 intro d hd
 simp only [List.mem_cons,List.not_mem_nil,or_false] at hd
 rcases hd with rfl|rfl <;> exact ⟨_,rfl⟩
theorem zs4 {A:Nat}{t g:List (List Cl)}{S:Sto}{d:D}(h:Wo (zhi [d,.int (t.length:Int),.int (g.length:Int)] S) λv S'=>v=.bl false/\Gr S S'):Wo (zfr [mD A t,mD A g,d] S) λv S'=>v=SHP/\Gr S S':=by
 have s1:1<=sizeLine:=by decide
 unfold zfr znq
 dsimp! only [zbc]
 generalize hM:mD A t=dM
 generalize hO:mD A g=dO
 refine zbr (l':=[some dM,some dO,some d,none,none,none,none,none,none]) (S':=S) ?_ ?_
 ·rw [<-hM,<-hO]
  simp_all! only [zcb]
  exact ⟨_,_,zsy A t g S,nofun,nofun,nofun⟩
 refine zdy (λ_ _=>False) (λv S'=>v=SHP/\Gr S S') ?_ (λ_ _ z=>z.elim) (λd _ _ o=>o)
 refine zcy (λb S'=>b=true/\Gr S S') ?_ ?_ ?_
 ·have e1:∀Q':D->Sto->Prop,Wo (zaj dM (.int 1) S) Q' = Q' (.tup (t.map roD)) S:=λQ'=>by rw [<-hM];unfold mD;rw [zcd];exact zbo
  have e2:∀Q':D->Sto->Prop,Wo (zaj dO (.int 1) S) Q' = Q' (.tup (g.map roD)) S:=λQ'=>by rw [<-hO];unfold mD;rw [zcd];exact zbo
  simp_all! only [e1,e2,qlm]
  refine h.mono ?_
  rintro v S1 ⟨rfl,g1⟩
  exact ⟨false,rfl,rfl,g1⟩
 ·rintro S1 ⟨_,g1⟩
  simp! only [s1,true_and]
  exact .inr ⟨_,rfl,rfl,g1⟩
 ·rintro S1 ⟨hb,_⟩;cases hb
theorem yd3 {A:Nat}{t g:List (List Cl)}{S:Sto}{n:Nat}{ps:List BF.P}(ok:OkM A t) (ok':OkM A g) (hn:S[n]? = some (.lst (ps.map pD))) (hl:ps.length<=1000) (inn:InR t g ps):Wo (zfr [mD A t,mD A g,.ref n] S) λv S'=>v=zck A t g ps/\Gr S S':=by
 have sz:=zcs
 have a4:=ok.a4
 unfold zfr znq
 dsimp! only [zbc]
 generalize hM:mD A t=dM
 generalize hO:mD A g=dO
 refine zbr (l':=[some dM,some dO,~~~n,none,none,none,none,none,none]) (S':=S) ?_ ?_
 ·rw [<-hM,<-hO]
  simp_all! only [zcb]
  exact ⟨_,_,zsy A t g S,nofun,nofun,nofun⟩
 refine zaz (λl S'=>Gr S S'/\l=[some dM,some dO,~~~n,none,none,none,none,none,none]) ?_ ?_
 ·refine zcy (λb S'=>b=false/\Gr S S') ?_ ?_ ?_
  ·have e1:∀Q':D->Sto->Prop,Wo (zaj dM (.int 1) S) Q' = Q' (.tup (t.map roD)) S:=λQ'=>by rw [<-hM];unfold mD;rw [zcd];exact zbo
   have e2:∀Q':D->Sto->Prop,Wo (zaj dO (.int 1) S) Q' = Q' (.tup (g.map roD)) S:=λQ'=>by rw [<-hO];unfold mD;rw [zcd];exact zbo
   simp_all! only [e1,e2,qlm]
   refine (zs0 hn (by rw [qlm];exact hl) zlo).mono ?_
   rintro v S1 ⟨rfl,g1⟩
   rw [zs3 inn]
   exact ⟨true,rfl,rfl,g1⟩
  ·rintro S1 ⟨hb,_⟩;cases hb
  ·rintro S1 ⟨_,g1⟩
   simp! only [zak]
   exact ⟨nofun,g1,nofun⟩
 rintro l S1 ⟨g1,rfl⟩
 have hn1:=g1.get hn
 refine zaz (λl S'=>Gr S S'/\∃m,Kn S' m ps/\l=[some dM,some dO,~~~n,~~~m,none,none,none,none,none]) ?_ ?_
 ·rw [zbg]
  refine yd1 (n:=n) rfl hn1 hl λS2 g2 k2=>?_
  simp only [za0,qs0,qs1]
  exact ⟨nofun,g1.trans g2,_,k2,rfl⟩
 rintro l S2 ⟨g2,m,kn,rfl⟩
 have hn2:=g2.get hn
 obtain ⟨kvs,hk,hg⟩:=kn.w
 refine zdy (λl S'=>S' = S2/\(0,0)∈ps/\l=[some dM,some dO,~~~n,~~~m,none,none,none,none,none]) (λv S'=>v=zck A t g ps/\Gr S S') ?_ ?_ (λd l1 S1 o=>o)
 ·have s2:2<=sizeLine:=by omega
  have s1:1<=sizeLine:=by omega
  have hr:dRd S2 (.ref m) (.tup [.int 0,.int 0])=some (zbq kvs (pK (0,0))):=zjw hk rfl
  have hgg:=hg (0,0)
  refine zcy (λb S'=>S' = S2/\b = !decide ((0,0)∈ps)) ?_ ?_ ?_
  ·simp_all! only [s2,true_and,zin]
   refine ⟨_,hr,?_⟩
   rw [hgg]
   rfl
  ·rintro S3 ⟨rfl,hb⟩
   simp! only [s1,true_and]
   refine .inr ⟨_,rfl,?_,g2⟩
   have hb:(0,0) ∉ ps:=by simpa using hb.symm
   unfold zck;rw [if_neg hb]
  ·rintro S3 ⟨rfl,hb⟩
   simp! only [zak]
   exact .inl ⟨nofun,nofun,by simpa using hb,nofun⟩
 rintro l S3 ⟨rfl,hz,rfl⟩
 refine zdy (λl S'=>S' = S3/\ziz A t g ps=none/\∃x4 x5 x6 x7 x8,l=[some dM,some dO,~~~n,~~~m,x4,x5,x6,x7,x8]) (λv S'=>v=zck A t g ps/\Gr S S') ?_ ?_ (λd l1 S1 o=>o)
 ·refine zju (enl (ps.map pD)) (λi l S'=>S' = S3/\(∀k:Nat,k<i->(ps[k]?).bind (zj6 A t g ps k)=none)/\∃x4 x5 x6 x7 x8,l=[some dM,some dO,~~~n,~~~m,x4,x5,x6,x7,x8]) (λv S'=>v=zck A t g ps/\Gr S S') (zs1 (n:=n) rfl (zay hn2)) ⟨rfl,λk hk=>absurd hk (Nat.not_lt_zero _),_,_,_,_,_,rfl⟩ (λi l S' h=>by obtain ⟨rfl,_⟩:=h;exact zs2 (zay hn2)) ?_ ?_ (λd l' S' q=>.inr ⟨d,rfl,q⟩)
  ·rintro i x l S4 hx ⟨rfl,hd,x4,x5,x6,x7,x8,rfl⟩
   rw [zjt,qgm] at hx
   obtain ⟨y,hy,rfl⟩:=Option.map_eq_some_iff.mp hx
   obtain ⟨p,hp,rfl⟩:=Option.map_eq_some_iff.mp hy
   have hpi:=inn p (qmg hp)
   unfold pD
   simp only [zcf,zch,zcg,za0,List.length_cons,List.length_nil,qs0,qs1]
   refine ⟨by first|rfl|trivial,by first|rfl|trivial,?_⟩
   have ha0:zab (eOp zaj (zaa 0) (eC (.int 0))) zae [some dM,some dO,~~~n,~~~m,‹i›,some (.int (p.1:Int)),some (.int (p.2:Int)),x7,x8] S4=some ([.int (A:Int)],S4):=by rw [<-hM];rfl
   refine zhf (λc l S'=>S' = S4/\(∀a,a<c->zfs t g ps i p a=none)/\∃x7 x8,l=[some dM,some dO,~~~n,~~~m,‹i›,some (.int (p.1:Int)),some (.int (p.2:Int)),x7,x8]) (λv S'=>v=zck A t g ps/\Gr S S') ha0 (by omega) ⟨rfl,λa ha=>absurd ha (Nat.not_lt_zero _),_,_,rfl⟩ ?_ ?_ (λd l' S' q=>.inr ⟨d,rfl,q⟩)
   ·rintro c l S5 hc ⟨rfl,ha,x7,x8,rfl⟩
    obtain ⟨cs,c1,c2⟩:=zlg ok hpi.1 hc
    obtain ⟨ds,c3,c4⟩:=zlg ok' hpi.2 hc
    have e:=yd2 kn (cell t p.1 c) (cell g p.2 c)
    generalize hv:zeh ps (cell t p.1 c) (cell g p.2 c)=o at e
    simp only [za0,qs0,qs1]
    refine zbr (l':=[some dM,some dO,~~~n,~~~m,‹i›,some (.int (p.1:Int)),some (.int (p.2:Int)),‹c›,some (stD o)]) (S':=S5) ?_ ?_
    ·rw [<-hM,<-hO]
     unfold kD at e
     simp_all! only [zbg,mD,c1,c2,c3,c4]
     exact ⟨_,_,e,nofun,nofun,nofun⟩
    cases o with
    | none =>
     simp! only [zln,Option.isNone_none,Bool.not_true,qbf,if_false]
     refine .inl ⟨(by first|exact .inl rfl|exact .inl trivial|trivial),nofun,λa ha2=>?_,_,_,rfl⟩
     by_cases e2:a=c
     ·subst e2;unfold zfs;rw [hv];rfl
     ·exact ha a (by omega)
    | some w =>
     have s3:3<=sizeLine:=by omega
     simp! only [zln,Option.isNone_some,Bool.not_false,if_true,s3,true_and]
     refine .inr ⟨_,rfl,?_,g2⟩
     have hil:i<ps.length:=(qme hp).1
     have ec:zfs t g ps i p c=some (.tup [.str w,.int (i:Int),.int (c:Int)]):=by unfold zfs;rw [hv];rfl
     have er:zj6 A t g ps i p=some (.tup [.str w,.int (i:Int),.int (c:Int)]):=zll ha hc ec
     have ea:ziz A t g ps=some (.tup [.str w,.int (i:Int),.int (c:Int)]):=zll hd hil (by rw [hp];exact er)
     unfold zck
     rw [if_pos hz,ea];rfl
   ·rintro l' S' ⟨rfl,ha,x7,x8,rfl⟩
    refine .inl ⟨.inl rfl,rfl,λk hk=>?_,_,_,_,_,_,rfl⟩
    by_cases e2:k=i
    ·subst e2;rw [hp];exact zlm ha
    ·exact hd k (by omega)
  ·rintro l' S' ⟨rfl,hd,rest⟩
   rw [zjs,qlm] at hd
   exact .inl ⟨rfl,rfl,zlm hd,rest⟩
 rintro l S4 ⟨rfl,sm,x4,x5,x6,x7,x8,rfl⟩
 simp! only [zak]
 refine ⟨?_,g2⟩
 unfold zck
 rw [if_pos hz,sm];rfl
theorem yd4 {S:Sto}{n:Nat}{xs:List D}{f:D->Bool}{Q:D->Sto->Prop}(h:lstOf S n=some (xs.map λx=>.bl (f x))):Wo (dIn false (.bl false) (.ref n) S) Q=Q (.bl (!xs.all f)) S:=by
 have e1:(xs.map λx=>D.bl (f x)).all zjj=true:=by rw [List.all_map];exact List.all_eq_true.mpr λ_ _=>rfl
 have e2:((xs.map λx=>D.bl (f x)).any λy=>zjk y (.bl false)) = !xs.all f:=by
  rw [List.any_map]
  induction xs with
  | nil=>rfl
  | cons x xs ih =>
   rw [List.any_cons,List.all_cons,Bool.not_and]
   congr 1
   ·show (f x == false)=_
    cases f x <;> rfl
   ·clear ih h e1
    induction xs with
    | nil=>rfl
    | cons y ys ih =>
     rw [List.any_cons,List.all_cons,Bool.not_and,ih]
     congr 1
     show (f y == false)=_
     cases f y <;> rfl
 have:dIn false (.bl false) (.ref n) S=some (.bl (!xs.all f),S):=by
  show zku false (.bl false) (.ref n) S=_
  unfold zku
  show (lstOf S n).bind _=_
  rw [h]
  dsimp only [Option.bind_some]
  rw [if_pos ⟨rfl,e1⟩,e2]
  rfl
 rw [this,zbb]
theorem yd5 {l:Lo}{S:Sto}{n:Nat}{ps:List BF.P}{Q:D->Sto->Prop}(h:l[2]? = some (some (.ref n))) (hn:S[n]? = some (.lst (ps.map pD))) (hl:ps.length<=1000) (q:∀S' m,Gr S S'->Kn S' m ps->Q (.ref m) S') :
  We (zaf zio (zab (zcn (zdg (zaa 2)) [none] (zal 0) (zcu) (zaf zau (zab (zaa 0) (zab (eC (.bl true)) (zae))))) (zae))) l S Q:=by
 have sz2:2<=sizeLine:=by decide
 have sz:=zcs
 have v5:zaa 2 l S=some (.ref n,S):=by unfold zaa;rw [h]
 rw [zbe,za6]
 refine zhw (ps.map pD) (λx=>.tup [x,.bl true]) (λS'=>S' = S) (λl=>∃y,l=[y]) (zhe v5 (zay hn)) rfl ⟨_,rfl⟩ (λi T hT=>by rw [hT];exact zf4 (zay hn)) (by rw [qlm];omega) ?_ ?_
 ·rintro x l T hx ⟨y,rfl⟩ rfl
  simp only [za0,qs0]
  refine ⟨nofun,⟨_,rfl⟩,?_⟩
  simp_all! only [sz2,true_and]
  all_goals first|exact ⟨nofun,nofun⟩|trivial
 ·rintro T rfl
  have e:(ps.map pD).map (λx=>D.tup [x,.bl true])=ps.map λp=>.tup [pD p,.bl true]:=by rw [List.map_map];rfl
  rw [e,zbk]
  obtain ⟨kvs,f1,f2⟩:=zn1 ps []
  refine ⟨.ref (T++[Ob.lst (ps.map λp=>.tup [pD p,.bl true])]).length,T++[Ob.lst (ps.map λp=>.tup [pD p,.bl true])]++[Ob.tdct kvs],?_,?_⟩
  ·unfold zio
   dsimp only
   rw [zba]
   dsimp only
   rw [f1];rfl
  ·refine q _ _ (((Gr.refl T).push _).push _) ⟨kvs,zba,λp=>by rw [f2];simp [zbq]⟩
theorem yd6 {A:Nat}{t g:List (List Cl)}{S:Sto}{d:D}{T:String}(h:tyE S d=some T) (hT:isI T "list" = false):Wo (zey [mD A t,mD A g,d] S) λv S'=>v=SHP/\Gr S S':=by
 have s1:1<=sizeLine:=by decide
 unfold zey zlc
 dsimp! only [zbc]
 generalize mD A t=dM
 generalize mD A g=dO
 refine zdy (λ_ _=>False) (λv S'=>v=SHP/\Gr S S') ?_ (λ_ _ z=>z.elim) (λd _ _ o=>o)
 simp! only [zsz h hT,Bool.not_false,if_true,s1,true_and]
 exact .inr ⟨_,rfl,rfl,Gr.refl _⟩
section
variable {A:Nat}{t g:List (List Cl)}{S:Sto}{n:Nat}{xs:List D}
theorem zs5 (hn:S[n]? = some (.lst xs)) (hl:xs.length<=1000) (h:∀x∈xs,Tys S x) (l:Lo) (h0:l[0]? = some (some (mD A t))) (h1:l[1]? = some (some (mD A g))) (h2:l[2]? = some (some (.ref n))) :
  Wt (tE (eOp (dIn false) (eC (.bl false)) (zcn (zdg (zaa 2)) [none,some 0,some 1] (zal 0) (zcu) (zaf zhx (zab (zaa 0) (zab (zaf zbh (zab (eOp zaj (zaa 1) (eC (.int 1))) (zae))) (zab (zaf zbh (zab (eOp zaj (zaa 2) (eC (.int 1))) (zae))) (zae)))))))) l S λb S'=>b=(!xs.all (zcj t.length g.length))/\Gr S S':=by
 have sz:=zcs
 have v2:zaa 2 l S=some (.ref n,S):=by unfold zaa;rw [h2]
 rw [zco,zbt,zbv]
 refine zhw xs (λx=>.bl (zcj t.length g.length x)) (λS'=>S' = S) (λl=>∃x0,l=[x0,some (mD A t),some (mD A g)]) (zhe v2 (zay hn)) rfl ⟨none,by unfold zbu;simp [h0,h1]⟩ (λi S' e=>by subst e;exact zf4 (zay hn)) (by omega) ?_ ?_
 ·rintro x l S' hx ⟨x0,rfl⟩ rfl
  simp only [za0,qs0]
  refine ⟨nofun,⟨_,rfl⟩,?_⟩
  have e1:∀Q':D->Sto->Prop,Wo (zaj (mD A t) (.int 1) S') Q' = Q' (.tup (t.map roD)) S':=λQ'=>by unfold mD;rw [zcd];exact zbo
  have e2:∀Q':D->Sto->Prop,Wo (zaj (mD A g) (.int 1) S') Q' = Q' (.tup (g.map roD)) S':=λQ'=>by unfold mD;rw [zcd];exact zbo
  simp only [zbe,zbt,zbv,za6,zbk,zak,qg0,qg1,za7,e1,e2,zdj,qlm]
  exact ⟨_,_,ydx (h x hx),rfl,rfl⟩
 ·rintro S' rfl
  rw [yd4 zcx]
  exact ⟨_,rfl,rfl,⟨_,rfl⟩⟩
theorem yd7 (hn:S[n]? = some (.lst xs)) (hl:xs.length<=1000) (h:∀x∈xs,Tys S x) (hb:xs.all (zcj t.length g.length)=false):Wo (zey [mD A t,mD A g,.ref n] S) λv S'=>v=SHP/\Gr S S':=by
 have s1:1<=sizeLine:=by decide
 unfold zey zlc
 dsimp! only [zbc]
 refine zbr (l':=[some (mD A t),some (mD A g),~~~n,none,none,none,none,none,none,none]) (S':=S) ?_ ?_
 ·generalize mD A t=dM
  generalize mD A g=dO
  simp! only [zn0 hn,Bool.not_true,qbf,if_false]
  all_goals first|trivial|exact ⟨nofun,nofun,nofun⟩|exact ⟨nofun,nofun⟩
 refine zdy (λ_ _=>False) (λv S'=>v=SHP/\Gr S S') ?_ (λ_ _ z=>z.elim) (λd _ _ o=>o)
 refine zcy _ (zs5 (A:=A) (t:=t) (g:=g) hn hl h _ rfl rfl rfl) ?_ ?_
 ·rintro S1 ⟨_,g1⟩
  generalize mD A t=dM
  generalize mD A g=dO
  simp! only [s1,true_and]
  exact .inr ⟨_,rfl,rfl,g1⟩
 ·rintro S1 ⟨e,_⟩;rw [hb] at e;cases e
theorem yd8 {ps:List BF.P}(ok:OkM A t) (ok':OkM A g) (hn:S[n]? = some (.lst (ps.map pD))) (hl:ps.length<=1000) (inn:InR t g ps):Wo (zey [mD A t,mD A g,.ref n] S) λv S'=>v=zck A t g ps/\Gr S S':=by
 have sz:=zcs
 have a4:=ok.a4
 have s1:1<=sizeLine:=by decide
 have s2:2<=sizeLine:=by decide
 have s3:3<=sizeLine:=by decide
 unfold zey zlc
 dsimp! only [zbc]
 refine zbr (l':=[some (mD A t),some (mD A g),~~~n,none,none,none,none,none,none,none]) (S':=S) ?_ ?_
 ·generalize mD A t=dM
  generalize mD A g=dO
  simp! only [zn0 hn,Bool.not_true,qbf,if_false]
  all_goals first|trivial|exact ⟨nofun,nofun,nofun⟩|exact ⟨nofun,nofun⟩
 refine zaz (λl S'=>Gr S S'/\l=[some (mD A t),some (mD A g),~~~n,none,none,none,none,none,none,none]) ?_ ?_
 ·refine zcy _ (zs5 (A:=A) (t:=t) (g:=g) hn (by rw [qlm];exact hl) zlo _ rfl rfl rfl) ?_ ?_
  ·rintro S1 ⟨e,_⟩;rw [zs3 inn] at e;cases e
  ·rintro S1 ⟨_,g1⟩
   rw [zek]
   exact ⟨nofun,g1,nofun⟩
 rintro l S1 ⟨g1,rfl⟩
 have hn1:=g1.get hn
 generalize hM:mD A t=dM
 generalize hO:mD A g=dO
 refine zaz (λl S'=>Gr S S'/\∃m,Kn S' m ps/\l=[some dM,some dO,~~~n,~~~m,none,none,none,none,none,none]) ?_ ?_
 ·rw [zbg]
  refine yd5 (n:=n) rfl hn1 hl λS2 m g2 k2=>?_
  simp only [za0,qs0,qs1]
  exact ⟨nofun,g1.trans g2,_,k2,rfl⟩
 rintro l S2 ⟨g2,m,kn,rfl⟩
 have hn2:=g2.get hn
 obtain ⟨kvs,hk,hg⟩:=kn.w
 refine zdy (λl S'=>S' = S2/\(0,0)∈ps/\l=[some dM,some dO,~~~n,~~~m,none,none,none,none,none,none]) (λv S'=>v=zck A t g ps/\Gr S S') ?_ ?_ (λd l1 S1 o=>o)
 ·have hr:dRd S2 (.ref m) (.tup [.int 0,.int 0])=some (zbq kvs (pK (0,0))):=zjw hk rfl
  have hgg:=hg (0,0)
  refine zcy (λb S'=>S' = S2/\b = !decide ((0,0)∈ps)) ?_ ?_ ?_
  ·simp_all! only [s2,true_and,zin]
   refine ⟨_,hr,?_⟩
   rw [hgg]
   rfl
  ·rintro S3 ⟨rfl,hb⟩
   simp! only [s1,true_and]
   refine .inr ⟨_,rfl,?_,g2⟩
   have hb:(0,0) ∉ ps:=by simpa using hb.symm
   unfold zck;rw [if_neg hb]
  ·rintro S3 ⟨rfl,hb⟩
   simp! only [zak]
   exact .inl ⟨nofun,nofun,by simpa using hb,nofun⟩
 rintro l S3 ⟨rfl,hz,rfl⟩
 refine zdy (λl S'=>S' = S3/\ziz A t g ps=none/\∃x4 x5 x6 x7 x8 x9,l=[some dM,some dO,~~~n,~~~m,x4,x5,x6,x7,x8,x9]) (λv S'=>v=zck A t g ps/\Gr S S') ?_ ?_ (λd l1 S1 o=>o)
 ·refine zju (enl (ps.map pD)) (λi l S'=>S' = S3/\(∀k:Nat,k<i->(ps[k]?).bind (zj6 A t g ps k)=none)/\∃x4 x5 x6 x7 x8 x9,l=[some dM,some dO,~~~n,~~~m,x4,x5,x6,x7,x8,x9]) (λv S'=>v=zck A t g ps/\Gr S S') (zs1 (n:=n) rfl (zay hn2)) ⟨rfl,λk hk=>absurd hk (Nat.not_lt_zero _),_,_,_,_,_,_,rfl⟩ (λi l S' h=>by obtain ⟨rfl,_⟩:=h;exact zs2 (zay hn2)) ?_ ?_ (λd l' S' q=>.inr ⟨d,rfl,q⟩)
  ·rintro i x l S4 hx ⟨rfl,hd,x4,x5,x6,x7,x8,x9,rfl⟩
   rw [zjt,qgm] at hx
   obtain ⟨y,hy,rfl⟩:=Option.map_eq_some_iff.mp hx
   obtain ⟨p,hp,rfl⟩:=Option.map_eq_some_iff.mp hy
   have hpi:=inn p (qmg hp)
   unfold pD
   simp only [zcf,zch,zcg,za0,List.length_cons,List.length_nil,qs0,qs1]
   refine ⟨by first|rfl|trivial,by first|rfl|trivial,?_⟩
   have ha0:zab (eOp zaj (zaa 0) (eC (.int 0))) zae [some dM,some dO,~~~n,~~~m,‹i›,some (.int (p.1:Int)),some (.int (p.2:Int)),x7,x8,x9] S4=some ([.int (A:Int)],S4):=by rw [<-hM];rfl
   refine zhf (λc l S'=>S' = S4/\(∀a,a<c->zfs t g ps i p a=none)/\∃x7 x8 x9,l=[some dM,some dO,~~~n,~~~m,‹i›,some (.int (p.1:Int)),some (.int (p.2:Int)),x7,x8,x9]) (λv S'=>v=zck A t g ps/\Gr S S') ha0 (by omega) ⟨rfl,λa ha=>absurd ha (Nat.not_lt_zero _),_,_,_,rfl⟩ ?_ ?_ (λd l' S' q=>.inr ⟨d,rfl,q⟩)
   ·rintro c l S5 hc ⟨rfl,ha,x7,x8,x9,rfl⟩
    obtain ⟨cs,c1,c2⟩:=zlg ok hpi.1 hc
    obtain ⟨ds,c3,c4⟩:=zlg ok' hpi.2 hc
    have hil:i<ps.length:=(qme hp).1
    have fin:∀w,zeh ps (cell t p.1 c) (cell g p.2 c)=some w->D.tup [.str w,.int (i:Int),.int (c:Int)]=zck A t g ps:=λw hv=>by
     have ec:zfs t g ps i p c=some (.tup [.str w,.int (i:Int),.int (c:Int)]):=by unfold zfs;rw [hv];rfl
     have er:zj6 A t g ps i p=some (.tup [.str w,.int (i:Int),.int (c:Int)]):=zll ha hc ec
     have ea:ziz A t g ps=some (.tup [.str w,.int (i:Int),.int (c:Int)]):=zll hd hil (by rw [hp];exact er)
     unfold zck
     rw [if_pos hz,ea];rfl
    have nxt:zeh ps (cell t p.1 c) (cell g p.2 c)=none->∀a,a<c+1->zfs t g ps i p a=none:=λhv a ha2=>by
     by_cases e2:a=c
     ·subst e2;unfold zfs;rw [hv];rfl
     ·exact ha a (by omega)
    generalize cell t p.1 c=u at c2 fin nxt
    generalize cell g p.2 c=w at c4 fin nxt
    obtain ⟨u1,u2⟩:=u
    obtain ⟨w1,w2⟩:=w
    dsimp only at c2 c4
    simp only [za0,qs0,qs1]
    refine zbr (l':=[some dM,some dO,~~~n,~~~m,‹i›,some (.int (p.1:Int)),some (.int (p.2:Int)),‹c›,some (.tup [oD u1,oD u2]),x9]) (S':=S5) ?_ ?_
    ·rw [<-hM]
     simp! only [mD,c1,c2,true_and]
     all_goals first|trivial|exact ⟨nofun,nofun⟩
    refine zbr (l':=[some dM,some dO,~~~n,~~~m,‹i›,some (.int (p.1:Int)),some (.int (p.2:Int)),‹c›,some (.tup [oD u1,oD u2]),some (.tup [oD w1,oD w2])]) (S':=S5) ?_ ?_
    ·rw [<-hO]
     simp! only [mD,c3,c4,true_and]
     all_goals first|trivial|exact ⟨nofun,nofun⟩
    refine zdy (λl S'=>S' = S5/\zga (u1,u2) (w1,w2)=false/\l=[some dM,some dO,~~~n,~~~m,‹i›,some (.int (p.1:Int)),some (.int (p.2:Int)),‹c›,some (.tup [oD u1,oD u2]),some (.tup [oD w1,oD w2])]) (λv S'=>v=zck A t g ps/\Gr S S') ?_ ?_ (λd l1 S1 o=>.inr ⟨d,rfl,o⟩)
    ·refine zcy (λb S'=>b=zga (u1,u2) (w1,w2)/\S' = S5) ?_ ?_ ?_
     ·cases u2 with
      | none=>simp! only [zdd,Option.isNone_none,Bool.not_true,qbf,if_false];simp [zga]
      | some k =>
       cases w2 with
       | none=>simp [zbc,zc3,zbm,zco,zbt,zb5,zak,zbv,zbg,zcc,zcb,zek,za0,zdn,zcf,zcg,zch,zbe,zca,za6,zbk,zd4,zcv,zcw,zc6,zd5,zej,zd6,zd7,zdr,zds,zdw,zdt,zdu,zdv,zdx,zex,zev,zd8,zd9,zcd,zc4,zea,zeb,zdj,zed,zel,zc7,zcp,zdh,zem,zew,zen,zdo,zeo,zep,zdp,zdq,zdk,zdb,List.map_cons,List.map_nil,List.length_cons,List.length_nil,Nat.reduceAdd,Nat.reduceSub,List.replicate,List.cons_append,List.nil_append,qg0,qg1,qs0,qs1,za7,zbo,zb0,zes,zet,zeu,zeq,zer,zcx,decide_eq_true_eq,zef,zdd,oD,zga,ze0];first|done|exact ⟨_,_,rfl,by simp [zbc,zc3,zbm,zco,zbt,zb5,zak,zbv,zbg,zcc,zcb,zek,za0,zdn,zcf,zcg,zch,zbe,zca,za6,zbk,zd4,zcv,zcw,zc6,zd5,zej,zd6,zd7,zdr,zds,zdw,zdt,zdu,zdv,zdx,zex,zev,zd8,zd9,zcd,zc4,zea,zeb,zdj,zed,zel,zc7,zcp,zdh,zem,zew,zen,zdo,zeo,zep,zdp,zdq,zdk,zdb,List.map_cons,List.map_nil,List.length_cons,List.length_nil,Nat.reduceAdd,Nat.reduceSub,List.replicate,List.cons_append,List.nil_append,qg0,qg1,qs0,qs1,za7,zbo,zb0,zes,zet,zeu,zeq,zer,zcx,decide_eq_true_eq,zef]⟩
       | some e=>by_cases he:e=k <;> simp [zbc,zc3,zbm,zco,zbt,zb5,zak,zbv,zbg,zcc,zcb,zek,za0,zdn,zcf,zcg,zch,zbe,zca,za6,zbk,zd4,zcv,zcw,zc6,zd5,zej,zd6,zd7,zdr,zds,zdw,zdt,zdu,zdv,zdx,zex,zev,zd8,zd9,zcd,zc4,zea,zeb,zdj,zed,zel,zc7,zcp,zdh,zem,zew,zen,zdo,zeo,zep,zdp,zdq,zdk,zdb,List.map_cons,List.map_nil,List.length_cons,List.length_nil,Nat.reduceAdd,Nat.reduceSub,List.replicate,List.cons_append,List.nil_append,qg0,qg1,qs0,qs1,za7,zbo,zb0,zes,zet,zeu,zeq,zer,zcx,decide_eq_true_eq,zef,zdd,oD,zga,ze0,he] <;> first|done|omega
     ·rintro S6 ⟨hb,rfl⟩
      simp! only [s3,true_and]
      exact .inr ⟨_,rfl,fin "says" (by unfold zeh;rw [if_pos hb.symm]),g2⟩
     ·rintro S6 ⟨hb,rfl⟩
      simp! only [zak]
      exact .inl ⟨nofun,nofun,hb.symm,nofun⟩
    rintro l S6 ⟨rfl,hsay,rfl⟩
    refine zdy (λl S'=>S' = S6/\goB (u1,u2) (w1,w2)=false/\l=[some dM,some dO,~~~n,~~~m,‹i›,some (.int (p.1:Int)),some (.int (p.2:Int)),‹c›,some (.tup [oD u1,oD u2]),some (.tup [oD w1,oD w2])]) (λv S'=>v=zck A t g ps/\Gr S S') ?_ ?_ (λd l1 S1 o=>.inr ⟨d,rfl,o⟩)
    ·refine zcy (λb S'=>b=goB (u1,u2) (w1,w2)/\S' = S6) ?_ ?_ ?_
     ·cases u1 <;> cases w1 <;> simp [zbc,zc3,zbm,zco,zbt,zb5,zak,zbv,zbg,zcc,zcb,zek,za0,zdn,zcf,zcg,zch,zbe,zca,za6,zbk,zd4,zcv,zcw,zc6,zd5,zej,zd6,zd7,zdr,zds,zdw,zdt,zdu,zdv,zdx,zex,zev,zd8,zd9,zcd,zc4,zea,zeb,zdj,zed,zel,zc7,zcp,zdh,zem,zew,zen,zdo,zeo,zep,zdp,zdq,zdk,zdb,List.map_cons,List.map_nil,List.length_cons,List.length_nil,Nat.reduceAdd,Nat.reduceSub,List.replicate,List.cons_append,List.nil_append,qg0,qg1,qs0,qs1,za7,zbo,zb0,zes,zet,zeu,zeq,zer,zcx,decide_eq_true_eq,zef,zdd,goB]
     ·rintro S6 ⟨hb,rfl⟩
      simp! only [s3,true_and]
      exact .inr ⟨_,rfl,fin "goes" (by unfold zeh;rw [if_neg (by rw [hsay];decide),if_pos hb.symm]),g2⟩
     ·rintro S6 ⟨hb,rfl⟩
      simp! only [zak]
      exact .inl ⟨nofun,nofun,hb.symm,nofun⟩
    rintro l S7 ⟨rfl,hgo,rfl⟩
    refine zcy (λb S'=>b=zhl ps (u1,u2) (w1,w2)/\S' = S7) ?_ ?_ ?_
    ·cases u1 with
     | none=>simp! only [zdd,Option.isNone_none,Bool.not_true,qbf,if_false];simp [zhl,zeg]
     | some a =>
      cases w1 with
      | none=>simp [goB] at hgo
      | some b =>
       have hr:dRd S7 (.ref m) (.tup [oD (some a),oD (some b)])=some (zbq kvs (pK (a,b))):=zjw hk (zli (a,b))
       simp! only [zdd,Option.isNone_some,Bool.not_false,if_true,s2,true_and,zin]
       refine ⟨_,hr,?_⟩
       rw [hg (a,b)]
       simp [zhl,zeg]
    ·rintro S8 ⟨hb,rfl⟩
     simp! only [s3,true_and]
     exact .inr ⟨_,rfl,fin "behind" (by unfold zeh;rw [if_neg (by rw [hsay];decide),if_neg (by rw [hgo];decide),if_pos hb.symm]),g2⟩
    ·rintro S8 ⟨hb,rfl⟩
     simp! only [zak]
     exact .inl ⟨(by first|exact .inl rfl|exact .inl trivial|trivial),nofun,nxt (by unfold zeh;rw [if_neg (by rw [hsay];decide),if_neg (by rw [hgo];decide),if_neg (by rw [<-hb];decide)]),_,_,_,rfl⟩
   ·rintro l' S' ⟨rfl,ha,x7,x8,x9,rfl⟩
    refine .inl ⟨.inl rfl,rfl,λk hk=>?_,_,_,_,_,_,_,rfl⟩
    by_cases e2:k=i
    ·subst e2;rw [hp];exact zlm ha
    ·exact hd k (by omega)
  ·rintro l' S' ⟨rfl,hd,rest⟩
   rw [zjs,qlm] at hd
   exact .inl ⟨rfl,rfl,zlm hd,rest⟩
 rintro l S4 ⟨rfl,sm,x4,x5,x6,x7,x8,x9,rfl⟩
 simp! only [zak]
 refine ⟨?_,g2⟩
 unfold zck
 rw [if_pos hz,sm];rfl
end
theorem zs6 {as:List D}{x:D}:L2.atI (as++[x]) (-1)=some x:=by
 unfold L2.atI
 have:L2.ixN (as++[x]).length (-1)=some as.length:=by
  unfold L2.ixN
  simp
  try omega
 rw [this]
 simp
theorem yd9 {n:Nat}{S:Sto}{xs:List D}{x:D}{Q:D->Sto->Prop}(hn:S[n]? = some (.lst (xs++[x]))) (q:Q x (S.set n (.lst xs))):Wo (zh9 (.ref n) [] S) Q:=by
 refine ⟨_,_,?_,q⟩
 unfold zh9
 dsimp only
 rw [hn]
 simp
theorem zs7 {S:Sto}{n:Nat}{xs:List D}{Q:D->Sto->Prop}(h:lstOf S n=some xs):Wo (zfy [.ref n] S) Q=Q (.ref S.length) (S++[.lst xs]):=by
 have:zfy [.ref n] S=some (.ref S.length,S++[.lst xs]):=by unfold zfy;dsimp only;rw [h];rfl
 rw [this,zbb]
inductive Thg (S:Sto):D->Prop
 | lst (n:Nat) (xs:List D) (hn:S[n]? = some (.lst xs)) (hl:xs.length<=1000) (h:∀x∈xs,Tys S x):Thg S (.ref n)
 | no (d:D) (T:String) (h:tyE S d=some T) (hT:isI T "list" = false):Thg S d
theorem zn2 {S S':Sto}{d:D}{T:String}(h:tyE S d=some T) (g:Gr S S'):tyE S' d=some T:=by
 cases d with
 | ref k =>
  unfold tyE at h ⊢
  cases e:S[k]? with
  | none=>simp [tyD,e] at h
  | some o =>
   have e':=g.get e
   simp only [tyD,e,e'] at h ⊢
   exact h
 | fn a=>cases h
 | non=>exact h
 | bl b=>exact h
 | int i=>exact h
 | str z=>exact h
 | tup xs=>exact h
theorem Thg.gr {S S':Sto}{d:D}(h:Thg S d) (g:Gr S S'):Thg S' d:=by
 cases h with
 | lst n xs hn hl h=>exact .lst n xs (g.get hn) hl λx hx=>(h x hx).gr g
 | no d T h hT=>exact .no d T (zn2 h g) hT
def Rp (S:Sto) (d:D):Prop:=∃z:Str,∀(T:Sto) (Q:D->Sto->Prop),Gr S T->Wo (zdc [d] T) Q=Q (.str z) T
theorem yea {S:Sto}{d v:D}{T:Sto}{Q:D->Sto->Prop}(h:zf1 [d] S=some (v,T)):Wo (zdc [d] S) Q=Q v T:=by
 have:zdc [d] S=some (v,T):=by unfold zdc;rw [h]
 rw [this,zbb]
theorem zs8 {S:Sto}{x:D}{p:PyData}{Q:D->Sto->Prop}(h:zat S 140 x=some p\/pyT S 140 x=some p) (hz:p.shown.length<=sizeLine):Wo (zdc [x] S) Q=Q (.str p.shown) S:=by
 have:Wo (zf1 [x] S) λv S'=>v=.str p.shown/\S' = S:=by rw [zzx h hz];exact ⟨rfl,rfl⟩
 obtain ⟨v,S',e,rfl,rfl⟩:=this
 exact yea e
theorem zei {S:Sto}{B:Nat}{d:D}(h:Sh S 140 B d) (hB:B<=1000000):Rp S d:=by
 have sz:=zcs
 obtain ⟨p,h1,h2⟩:=h
 exact ⟨p.shown,λT Q g=>zs8 (.inl (h2 T g)) (by omega)⟩
inductive Flat:D->Prop
 | non:Flat .non
 | tri (w:Str) (k a:Nat) (hw:w = "says"\/w = "goes"\/w = "behind") (hk:k<=1000) (ha:a<10):Flat (.tup [.str w,.int (k:Int),.int (a:Int)])
inductive Res (t g:List (List Cl)) (S:Sto) (d v:D):Prop
 | shp (e:v=SHP)
 | beg (e:v=.tup [.str "begin"])
 | lst (n:Nat) (ps:List BF.P) (ed:d=.ref n) (hn:S[n]? = some (.lst (ps.map pD))) (inn:InR t g ps) (hz:(0,0)∈ps) (hl:ps.length<=1000) (f:Flat v)
theorem zs9 {S:Sto}{k:Nat}{w:Str}(h:w = "says"\/w = "goes"\/w = "behind"\/w = "shape"\/w = "begin"):Sh S (k+1) 102 (.str w):=by
 rcases h with rfl|rfl|rfl|rfl|rfl <;> exact zrh (B:=10) (by decide +kernel) (by decide +kernel)
theorem zta {S:Sto}{k B C:Nat}{d:D}(h:Sh S k B d) (hB:B<=C):Sh S k C d:=by
 obtain ⟨p,h1,h2⟩:=h
 exact ⟨p,by omega,h2⟩
theorem yeb {S:Sto}{v:D}(h:Flat v):Rp S v:=by
 cases h with
 | non=>exact zei (zjv (k:=139)) (by decide)
 | tri w k a hw hk ha =>
  refine zei (zee (k:=139) (B:=102) (n:=3) (λx hx=>?_) (by simp)) (by decide)
  simp only [List.mem_cons,List.not_mem_nil,or_false] at hx
  rcases hx with rfl|rfl|rfl
  ·exact zs9 (by rcases hw with e|e|e <;> simp [e])
  ·exact zta (zfh (by omega)) (by decide)
  ·exact zta (zfh (by omega)) (by decide)
theorem ztb {S:Sto}{w:Str}(h:w = "shape"\/w = "begin"):Rp S (.tup [.str w]):=by
 refine zei (zee (k:=139) (B:=102) (n:=1) (λx hx=>?_) (by simp)) (by decide)
 rw [List.mem_singleton.mp hx]
 exact zs9 (by rcases h with e|e <;> simp [e])
theorem Res.rp {t g:List (List Cl)}{S:Sto}{d v:D}(h:Res t g S d v):Rp S v:=by
 cases h with
 | shp e=>subst e;exact ztb (.inl rfl)
 | beg e=>subst e;exact ztb (.inr rfl)
 | lst n ps ed hn inn hz hl f=>exact yeb f
theorem yec {A:Nat}{t g:List (List Cl)}{ps:List BF.P}(hA:A<=4) (hl:ps.length<=1000) (hz:(0,0)∈ps):Flat (zck A t g ps):=by
 unfold zck
 rw [if_pos hz]
 cases e:ziz A t g ps with
 | none=>exact .non
 | some v =>
  obtain ⟨k,hk,e⟩:=List.exists_of_findSome?_eq_some e
  obtain ⟨p,_,e⟩:=bnd e
  obtain ⟨a,ha,e⟩:=List.exists_of_findSome?_eq_some e
  have hk:=List.mem_range.mp hk
  have ha:=List.mem_range.mp ha
  unfold zfs at e
  obtain ⟨w,hw,rfl⟩:=Option.map_eq_some_iff.mp e
  refine .tri w k a ?_ (by omega) (by omega)
  unfold zeh at hw
  split at hw
  ·cases hw;exact .inl rfl
  ·split at hw
   ·cases hw;exact .inr (.inl rfl)
   ·split at hw
    ·cases hw;exact .inr (.inr rfl)
    ·cases hw
theorem ztc {N M:Nat}:∀{xs:List D},xs.all (zcj N M)=true->∃ps:List BF.P,xs=ps.map pD/\∀p∈ps,p.1<N/\p.2<M
 | [],_=>⟨[],rfl,λp hp=>by cases hp⟩
 | x :: xs,h=>by
  rw [List.all_cons,Bool.and_eq_true] at h
  obtain ⟨p,rfl,h1,h2⟩:=ydu h.1
  obtain ⟨ps,rfl,h3⟩:=ztc h.2
  refine ⟨p :: ps,rfl,λq hq=>?_⟩
  rcases List.mem_cons.mp hq with rfl|hq
  ·exact ⟨h1,h2⟩
  ·exact h3 q hq
def Bo (A:Nat) (t g:List (List Cl)) (S:Sto) (d v:D):Prop:=∀T,Gr S T->Wo (zfr [mD A t,mD A g,d] T) (λv' S'=>v' = v/\Gr T S')/\Wo (zey [mD A t,mD A g,d] T) (λv' S'=>v' = v/\Gr T S')
theorem yed {S:Sto}{N M:Int}{d:D}{T:String}(h:tyE S d=some T) (hT:isI T "list" = false):Wo (zhi [d,.int N,.int M] S) λv S'=>v=.bl false/\Gr S S':=by
 unfold zhi znp
 dsimp! only [zbc]
 simp only [zcc,zc6,zb5,zak,qg0,za7,zsz h hT,zb0,qbf,if_false]
 exact ⟨nofun,Gr.refl _⟩
theorem zn3 {A:Nat}{t g:List (List Cl)}{S:Sto}{d:D}(ok:OkM A t) (ok':OkM A g) (th:Thg S d):∃v,Res t g S d v/\Bo A t g S d v:=by
 cases th with
 | no d T h hT=>exact ⟨_,.shp rfl,λR g1=>⟨zs4 (yed (zn2 h g1) hT),yd6 (zn2 h g1) hT⟩⟩
 | lst n xs hn hl h =>
  cases hb:xs.all (zcj t.length g.length) with
  | false =>
   refine ⟨_,.shp rfl,λR g1=>⟨zs4 ?_,yd7 (g1.get hn) hl (λx hx=>(h x hx).gr g1) hb⟩⟩
   refine (zs0 (g1.get hn) hl λx hx=>(h x hx).gr g1).mono ?_
   rintro v S' ⟨rfl,g2⟩
   rw [hb];exact ⟨rfl,g2⟩
  | true =>
   obtain ⟨ps,rfl,inn⟩:=ztc hb
   rw [qlm] at hl
   refine ⟨zck A t g ps,?_,λR g1=>⟨yd3 ok ok' (g1.get hn) hl inn,yd8 ok ok' (g1.get hn) hl inn⟩⟩
   by_cases hz:(0,0)∈ps
   ·exact .lst n ps rfl hn inn hz hl (yec ok.a4 hl hz)
   ·exact .beg (by unfold zck;rw [if_neg hz])
theorem zn4 {α:Type}:∀{l:List α},1<=l.length->∃as a,l=as++[a]
 | [],h=>by simp at h
 | [a],_=>⟨[],a,rfl⟩
 | a :: b :: l,_=>by
  obtain ⟨as,c,e⟩:=zn4 (l:=b :: l) (by simp)
  exact ⟨a :: as,c,by rw [e];rfl⟩
section
variable {A:Nat}{t g:List (List Cl)}{S:Sto}
theorem ztd {d:D}(ok:OkM A t) (ok':OkM A g) (th:Thg S d) (rp:Rp S d):Wo (ziw [mD A t,mD A g,d] S) λv S'=>v=.bl true/\Gr S S':=by
 obtain ⟨v,res,hf⟩:=zn3 ok ok' th
 obtain ⟨z,hz⟩:=rp
 obtain ⟨y,hy⟩:=res.rp
 unfold ziw zru
 dsimp! only [zbc]
 generalize hM:mD A t=dM
 generalize hO:mD A g=dO
 refine zbr (l':=[some dM,some dO,some d,some (.str z),none]) (S':=S) ?_ ?_
 ·simp! only [hz S _ (Gr.refl _)]
  all_goals first|trivial|exact ⟨nofun,nofun,nofun⟩|exact ⟨nofun,nofun⟩
 refine zaz (λl S'=>Gr S S'/\l=[some dM,some dO,some d,some (.str z),some v]) ?_ ?_
 ·simp! only [zak]
  rw [<-hM,<-hO]
  refine (hf S (Gr.refl _)).2.mono ?_
  rintro v' S1 ⟨rfl,g1⟩
  exact ⟨nofun,g1,nofun⟩
 rintro l S1 ⟨g1,rfl⟩
 refine zaz (λl S'=>Gr S S'/\l=[some dM,some dO,some d,some (.str z),some v]) ?_ ?_
 ·refine zcy (λb S'=>b=false/\Gr S S') ?_ ?_ ?_
  ·simp_all! only [zak]
   rw [<-hM,<-hO]
   refine (hf S1 g1).1.mono ?_
   rintro v' S2 ⟨rfl,g2⟩
   have g12:=g1.trans g2
   simp_all! only [hy S2 _ g12,hz S2 _ g12,decide_true,Bool.not_true,qbf,if_false]
   exact ⟨nofun,g12⟩
  ·rintro S2 ⟨e,_⟩;cases e
  ·rintro S2 ⟨_,g2⟩
   simp! only [zak]
   exact ⟨nofun,g2,nofun⟩
 rintro l S2 ⟨g2,rfl⟩
 simp! only [zak]
 rw [<-hM,<-hO]
 refine (hf S2 g2).1.mono ?_
 rintro v' S3 ⟨rfl,g3⟩
 have g13:=g2.trans g3
 simp! only [hy S3 _ g13,decide_true]
 exact ⟨nofun,g13⟩
theorem yee {n:Nat}{ps:List BF.P}(ok:OkM A t) (ok':OkM A g) (hn:S[n]? = some (.lst (ps.map pD))) (h1:1<=ps.length) (hl:ps.length<=900) (inn:InR t g ps):Wo (zjz [mD A t,mD A g,.ref n] S) λv S'=>v=.bl true/\Gr S S':=by
 have sz:=zcs
 obtain ⟨us0,q,rfl⟩:=zn4 h1
 have hq:=inn q (by simp)
 have hn':S[n]? = some (.lst (us0.map pD++[pD q])):=by rw [hn,List.map_append];rfl
 unfold zjz zrz
 dsimp! only [zbc]
 generalize hM:mD A t=dM
 generalize hO:mD A g=dO
 refine zbr (l':=[some dM,some dO,~~~n,some (.ref S.length),none]) (S':=S++[.lst ((us0++[q]).map pD)]) ?_ ?_
 ·simp! only [zs7 (zay hn)]
  all_goals first|trivial|exact ⟨nofun,nofun,nofun⟩|exact ⟨nofun,nofun⟩
 have g0:Gr S (S++[.lst ((us0++[q]).map pD)]):=⟨_,rfl⟩
 refine zaz (λl S'=>Gr S S'/\∃x,l=[some dM,some dO,~~~n,some (.ref S.length),x]) ?_ ?_
 ·refine zhf (n:=4) (λi l S'=>Gr S S'/\(∃rs:List BF.P,S'[S.length]? = some (.lst (rs.map pD))/\InR t g rs/\rs.length+(if i=1 then 1 else 0)=(us0++[q]).length)/\∃x,l=[some dM,some dO,~~~n,some (.ref S.length),x]) (λ_ _=>False) rfl (by omega) ⟨g0,⟨_,zba,inn,rfl⟩,_,rfl⟩ ?_ ?_ (λ_ _ _ z=>z.elim)
  ·rintro i l S1 hi ⟨g1,⟨rs,hs,inr,hln⟩,x,rfl⟩
   have hrl:rs.length<=900:=by omega
   simp only [za0,qs0,qs1]
   refine zaz (λl S'=>Gr S S'/\S'[S.length]? = some (.lst (rs.map pD))/\l=[some dM,some dO,~~~n,some (.ref S.length),‹i›]) ?_ ?_
   ·obtain ⟨v,res,hf⟩:=zn3 (S:=S1) (d:=.ref S.length) ok ok' (.lst _ _ hs (by rw [qlm];omega) zlo)
    obtain ⟨y,hy⟩:=res.rp
    refine zcy (λb S'=>b=false/\Gr S1 S') ?_ ?_ ?_
    ·simp_all! only [zak]
     rw [<-hM,<-hO]
     refine (hf S1 (Gr.refl _)).1.mono ?_
     rintro v' S2 ⟨rfl,g2⟩
     simp_all! only [hy S2 _ g2]
     refine (hf S2 g2).2.mono ?_
     rintro v' S3 ⟨rfl,g3⟩
     simp_all! only [hy S3 _ (g2.trans g3),decide_true,Bool.not_true]
     exact ⟨nofun,g2.trans g3⟩
    ·rintro S2 ⟨e,_⟩;cases e
    ·rintro S2 ⟨_,g2⟩
     simp! only [zak]
     exact ⟨nofun,g1.trans g2,g2.get hs,nofun⟩
   rintro l S2 ⟨g2,hs2,rfl⟩
   have hs2':=hs2
   by_cases h0:i=0
   ·subst h0
    rw [if_neg (by decide)] at hln
    obtain ⟨as,a,rfl⟩:=zn4 (l:=rs) (by omega)
    rw [List.map_append] at hs2
    simp only [zbm,zcb,zca]
    simp_all! only [Int.cast_ofNat_Int,decide_true,if_true,zf7 hs2',zf9,true_and]
    refine yd9 hs2 (.inl ⟨(by first|exact .inl rfl|exact .inl trivial|trivial),g2.set (qlr _) _,⟨as,zgw hs2,λp hp=>inr p (by simp [hp]),?_⟩,_,rfl⟩)
    simpa using hln
   ·have e0:¬(i:Int)=0:=by omega
    by_cases h1':i=1
    ·subst h1'
     rw [if_pos rfl] at hln
     simp only [zbm,zcb,zca]
     simp_all! only [zlk,zay (g2.get hn'),zs6,(by decide:¬(1:Int)=0),decide_false,qbf,if_false,Int.cast_ofNat_Int,decide_true,if_true,zf7 hs2',zf9,true_and]
     rw [zjx hs2 (by rw [qlm];omega)]
     refine .inl ⟨(by first|exact .inl rfl|exact .inl trivial|trivial),g2.set (qlr _) _,⟨rs++[q],by rw [zgw hs2,List.map_append];rfl,λp hp=>?_,?_⟩,_,rfl⟩
     ·rcases List.mem_append.mp hp with z|z
      ·exact inr p z
      ·rw [List.mem_singleton.mp z];exact hq
     ·(rw [if_neg (by decide)];simpa using hln)
    ·have e1:¬(i:Int)=1:=by omega
     rw [if_neg h1'] at hln
     obtain ⟨a,as,rfl⟩:∃a as,rs=a :: as:=by
      cases rs with
      | nil=>simp at hln
      | cons a as=>exact ⟨a,as,rfl⟩
     have hset:zd3 (.ref S.length) (.int 0) (pD q) S2=some (S2.set S.length (.lst ((q :: as).map pD))):=by
      have hix:L2.ixN ((a :: as).map pD).length 0=some 0:=by unfold L2.ixN;simp
      unfold zd3;dsimp only;rw [hs2];dsimp only;rw [hix];rfl
     simp only [zbm,zbg]
     simp_all! only [zlk,zay (g2.get hn'),zs6,e0,e1,decide_false,qbf,if_false,hset]
     refine .inl ⟨(by first|exact .inl rfl|exact .inl trivial|trivial),g2.set (qlr _) _,⟨q :: as,zgw hs2,λp hp=>?_,?_⟩,_,rfl⟩
     ·rcases List.mem_cons.mp hp with rfl|z
      ·exact hq
      ·exact inr p (by simp [z])
     ·(rw [if_neg (by omega)];simpa using hln)
  ·rintro l' S' ⟨g1,_,x,rfl⟩
   exact ⟨rfl,g1,_,rfl⟩
 rintro l S1 ⟨g1,x,rfl⟩
 simp! only [zak]
 exact ⟨nofun,g1⟩
end
theorem yef {x y:Option Nat}{neg:Bool}{S:Sto}{Q:D->Sto->Prop}:Wo (dIn neg .non (.tup [oD x,oD y]) S) Q=Q (.bl (if neg then (zeg x y).isSome else !(zeg x y).isSome)) S:=by
 have:dIn neg .non (.tup [oD x,oD y]) S=some (.bl (if neg then (zeg x y).isSome else !(zeg x y).isSome),S):=by
  cases x <;> cases y <;> cases neg <;> rfl
 rw [this];exact zbb
theorem zte {x y:Option Nat}{p:BF.P}(h:zeg x y=some p):D.tup [oD x,oD y]=pD p:=by
 unfold zeg at h
 obtain ⟨i,h1,h⟩:=bnd h
 obtain ⟨j,h2,h⟩:=bnd h
 cases h;subst h1 h2;rfl
structure Ld (t g:List (List Cl)) (S T:Sto) (ps:List BF.P):Prop where
 g0:Gr S T
 hl:T[S.length]? = some (.lst (ps.map pD))
 hk:∃kvs:Tb,T[S.length+1]? = some (.tdct kvs)/\kvs.length<=ps.length/\∀p,(zbq kvs (pK p)).isSome=decide (p∈ps)
 nd:ps.Nodup
 inn:InR t g ps
 one:1<=ps.length
theorem Ld.few {A:Nat}{t g:List (List Cl)}{S T:Sto}{ps:List BF.P}(h:Ld t g S T ps) (ok:OkM A t) (ok':OkM A g):ps.length<=576:=by
 have h1:=BF.few2 ps h.nd h.inn
 have h2:t.length*g.length<=24*24:=Nat.mul_le_mul ok.r24 ok'.r24
 omega
theorem tvPut_len (kvs:Tb) (k:List L2.Key) (v:D):(zda kvs k v).length<=kvs.length+1:=by
 unfold zda
 split
 ·rw [qlm];omega
 ·rw [qla];simp
theorem Ld.put {A:Nat}{t g:List (List Cl)}{S T:Sto}{ps:List BF.P}{q:BF.P}{kvs:Tb}(h:Ld t g S T ps) (e:T[S.length+1]? = some (.tdct kvs)) (hq:q ∉ ps) (hi:q.1<t.length/\q.2<g.length):Ld t g S ((T.set (S.length+1) (.tdct (zda kvs (pK q) (.bl true)))).set S.length (.lst (ps.map pD++[pD q]))) (ps++[q]):=by
 obtain ⟨kvs',k1,k2,k3⟩:=h.hk
 rw [e] at k1;cases k1
 refine ⟨(h.g0.set (by omega) _).set (by omega) _,?_,⟨_,zf6 (zgw e) (by omega),?_,λp=>?_⟩,?_,λp hp=>?_,by simp⟩
 ·rw [zgw (zf6 h.hl (by omega)),List.map_append];rfl
 ·have:=tvPut_len kvs (pK q) (.bl true)
  rw [qla];simp;omega
 ·rw [zsp]
  by_cases z:p=q
  ·subst z;simp
  ·rw [if_neg λw=>z (zny w),k3];simp [z]
 ·rw [List.nodup_append]
  exact ⟨h.nd,by simp,λa ha b hb=>by rw [List.mem_singleton.mp hb];exact λw=>hq (w ▸ ha)⟩
 ·rcases List.mem_append.mp hp with z|z
  ·exact h.inn p z
  ·rw [List.mem_singleton.mp z];exact hi
theorem yeg {S:Sto}{n:Nat}{kvs:Tb}{y v:D}{k:List L2.Key}(h:S[n]? = some (.tdct kvs)) (hk:zf2 y=some k) (hz:kvs.length<sizeLine):zhu (.ref n) y v S=some (S.set n (.tdct (zda kvs k v))):=by
 unfold zhu;dsimp only;rw [h];dsimp only;rw [hk];dsimp only [Option.bind_some];rw [if_pos hz]
inductive LdP (t g:List (List Cl)) (S:Sto) (v:D) (S':Sto):Prop
 | mk (ps:List BF.P) (e:v=.ref S.length) (h:Ld t g S S' ps)
theorem yeh {A:Nat}{t g:List (List Cl)}{S:Sto}(ok:OkM A t) (ok':OkM A g):Wo (zj0 [mD A t,mD A g] S) (LdP t g S):=by
 have sz:=zcs
 have s2:2<=sizeLine:=by decide
 have s1:1<=sizeLine:=by decide
 have r1:=ok.r1
 have r2:=ok'.r1
 have q1:=ok.r24
 have q2:=ok'.r24
 have h24:t.length*g.length<=24*24:=Nat.mul_le_mul q1 q2
 unfold zj0 zr0
 dsimp! only [zbc]
 generalize hM:mD A t=dM
 generalize hO:mD A g=dO
 refine zbr (l':=[some dM,some dO,some (.ref S.length),none,none,none,none,none]) (S':=S++[.lst [pD (0,0)]]) ?_ ?_
 ·simp! only [s2,s1,true_and]
  all_goals first|trivial|exact ⟨nofun,nofun,nofun⟩|exact ⟨nofun,nofun⟩
 have ed:zgv (zaf zau (zab (eC (.int 0)) (zab (eC (.int 0)) (zae)))) (eC (.bl true)) [some dM,some dO,some (.ref S.length),none,none,none,none,none] (S++[.lst [pD (0,0)]])=some (.ref (S.length+1),S++[.lst [pD (0,0)]]++[.tdct [(pK (0,0),.bl true)]]):=by
  have e1:zaf zau (zab (eC (.int 0)) (zab (eC (.int 0)) (zae))) [some dM,some dO,some (.ref S.length),none,none,none,none,none] (S++[.lst [pD (0,0)]])=some (pD (0,0),S++[.lst [pD (0,0)]]):=by
   have:We (zaf zau (zab (eC (.int 0)) (zab (eC (.int 0)) (zae)))) [some dM,some dO,some (.ref S.length),none,none,none,none,none] (S++[.lst [pD (0,0)]]) λv S'=>v=pD (0,0)/\S' = S++[.lst [pD (0,0)]]:=by
    simp_all! only [s2,true_and]
    all_goals first|trivial|exact ⟨nofun,nofun⟩
   obtain ⟨v,S',e,rfl,rfl⟩:=this
   exact e
  unfold zgv
  rw [e1]
  show some (D.ref (S++[Ob.lst [pD (0,0)]]).length,_)=_
  rw [qla];rfl
 refine zbr (l':=[some dM,some dO,some (.ref S.length),~~~(S.length+1),none,none,none,none]) (S':=S++[.lst [pD (0,0)]]++[.tdct [(pK (0,0),.bl true)]]) ?_ ?_
 ·rw [zbg]
  refine ⟨_,_,ed,?_⟩
  simp only [za0,qs0,qs1]
  exact ⟨nofun,nofun,nofun⟩
 have w0:Ld t g S (S++[.lst [pD (0,0)]]++[.tdct [(pK (0,0),.bl true)]]) [(0,0)]:=by
  refine ⟨((Gr.refl S).push _).push _,zas zba,⟨[(pK (0,0),.bl true)],?_,by simp,λp=>?_⟩,by simp,λp hp=>?_,by simp⟩
  ·have:=@zba (S++[Ob.lst [pD (0,0)]]) (.tdct [(pK (0,0),.bl true)]);rw [qla] at this;exact this
  ·by_cases z:p=(0,0)
   ·subst z;simp [zbq]
   ·have:¬pK (0,0)=pK p:=λw=>z (zny w.symm)
    simp [zbq,z,this]
  ·rw [List.mem_singleton.mp hp];exact ⟨r1,r2⟩
 have hmul:((t.length:Nat):Int)*((g.length:Nat):Int)=((t.length*g.length:Nat):Int):=by simp
 have ha0:zab (eOp zdi (zaf zbh (zab (eOp zaj (zaa 0) (eC (.int 1))) (zae))) (zaf zbh (zab (eOp zaj (zaa 1) (eC (.int 1))) (zae)))) (zae) [some dM,some dO,some (.ref S.length),~~~(S.length+1),none,none,none,none] (S++[.lst [pD (0,0)]]++[.tdct [(pK (0,0),.bl true)]])=some ([.int ((t.length*g.length:Nat):Int)],S++[.lst [pD (0,0)]]++[.tdct [(pK (0,0),.bl true)]]):=by
  generalize S++[Ob.lst [pD (0,0)]]++[Ob.tdct [(pK (0,0),.bl true)]]=T
  have:Wa (zab (eOp zdi (zaf zbh (zab (eOp zaj (zaa 0) (eC (.int 1))) (zae))) (zaf zbh (zab (eOp zaj (zaa 1) (eC (.int 1))) (zae)))) (zae)) [some dM,some dO,some (.ref S.length),~~~(S.length+1),none,none,none,none] T λvs S'=>vs=[.int ((t.length*g.length:Nat):Int)]/\S' = T:=by
   have f1:(-(2 ^ 64)<((t.length:Nat):Int)/\((t.length:Nat):Int)<2 ^ 64):=by omega
   rw [<-hM,<-hO]
   unfold mD
   simp_all! only [qlm,f1,true_or,true_and,hmul]
   all_goals first|trivial|exact ⟨nofun,nofun⟩
  obtain ⟨xs,S',e,rfl,rfl⟩:=this
  exact e
 refine zaz (λl T=>∃ps x4 x5 x6 x7,Ld t g S T ps/\l=[some dM,some dO,some (.ref S.length),~~~(S.length+1),x4,x5,x6,x7]) ?_ ?_
 ·refine zhf (λi l T=>∃ps x4 x5 x6 x7,Ld t g S T ps/\l=[some dM,some dO,some (.ref S.length),~~~(S.length+1),x4,x5,x6,x7]) (λ_ _=>False) ha0 (by omega) ⟨_,_,_,_,_,w0,rfl⟩ ?_ ?_ (λ_ _ _ z=>z.elim)
  ·rintro i l T hi ⟨ps,x4,x5,x6,x7,ld,rfl⟩
   simp only [za0,qs0,qs1]
   by_cases hlt:(i:Int)<(ps.length:Int)
   ·have hil:i<ps.length:=by omega
    obtain ⟨p,hp⟩:∃p,ps[i]? = some p:=⟨_,qge hil⟩
    have hpi:=ld.inn p (qmg hp)
    obtain ⟨cs,hcs⟩:∃cs,t[p.1]? = some cs:=⟨_,qge hpi.1⟩
    obtain ⟨ds,hds⟩:∃ds,g[p.2]? = some ds:=⟨_,qge hpi.2⟩
    have c1:L2.atI (t.map roD) (p.1:Int)=some (.tup (cs.map kD)):=atI_get (by rw [qgm,hcs];rfl)
    have c2:L2.atI (g.map roD) (p.2:Int)=some (.tup (ds.map kD)):=atI_get (by rw [qgm,hds];rfl)
    have c3:L2.atI (ps.map pD) (i:Int)=some (.tup [.int (p.1:Int),.int (p.2:Int)]):=atI_get (by rw [qgm,hp];rfl)
    have cg:=ok.go cs (qmg hcs)
    have dg:=ok'.go ds (qmg hds)
    rw [zbm]
    simp_all! only [zay ld.hl,qlm,hlt,decide_true,if_true]
    have hb0:zab (eOp zaj (eOp zaj (zaa 0) (eC (.int 1))) (eOp zaj (eOp zaj (zaa 2) (zaa 4)) (eC (.int 0)))) (zab (eOp zaj (eOp zaj (zaa 1) (eC (.int 1))) (eOp zaj (eOp zaj (zaa 2) (zaa 4)) (eC (.int 1)))) (zae)) [some dM,some dO,some (.ref S.length),~~~(S.length+1),‹i›,x5,x6,x7] T=some ([.tup (cs.map kD),.tup (ds.map kD)],T):=by
     have:Wa (zab (eOp zaj (eOp zaj (zaa 0) (eC (.int 1))) (eOp zaj (eOp zaj (zaa 2) (zaa 4)) (eC (.int 0)))) (zab (eOp zaj (eOp zaj (zaa 1) (eC (.int 1))) (eOp zaj (eOp zaj (zaa 2) (zaa 4)) (eC (.int 1)))) (zae))) [some dM,some dO,some (.ref S.length),~~~(S.length+1),‹i›,x5,x6,x7] T λvs S'=>vs=[.tup (cs.map kD),.tup (ds.map kD)]/\S' = T:=by
      rw [<-hM,<-hO]
      unfold mD
      simp_all! only [zay ld.hl,c1,c2,c3]
      all_goals first|trivial|exact ⟨nofun,nofun⟩
     obtain ⟨xs,S',e,rfl,rfl⟩:=this
     exact e
    refine zju (zl (cs.map kD) (ds.map kD)) (λj l T=>∃ps x5 x6 x7,Ld t g S T ps/\l=[some dM,some dO,some (.ref S.length),~~~(S.length+1),‹i›,x5,x6,x7]) (λ_ _=>False) (zsm hb0) ⟨_,_,_,_,ld,rfl⟩ (λi l S' _=>znu rfl rfl) ?_ ?_ (λ_ _ _ z=>z.elim)
    ·rintro j x l T1 hx ⟨ps1,y5,y6,y7,ld1,rfl⟩
     rw [znt,qgm,qgm] at hx
     obtain ⟨y,h1,hx⟩:=bnd hx
     obtain ⟨c,hc,rfl⟩:=Option.map_eq_some_iff.mp h1
     obtain ⟨z,h2,rfl⟩:=Option.map_eq_some_iff.mp hx
     obtain ⟨d,hd,rfl⟩:=Option.map_eq_some_iff.mp h2
     have cgo:=cg c (qmg hc)
     have dgo:=dg d (qmg hd)
     have hfew:=ld1.few ok ok'
     obtain ⟨kvs,k1,k2,k3⟩:=ld1.hk
     simp only [zcf,zch,zcg,za0,List.length_cons,List.length_nil,qs0,qs1]
     refine ⟨by first|rfl|trivial,?_⟩
     refine zbr (l':=[some dM,some dO,some (.ref S.length),~~~(S.length+1),‹i›,some (kD c),some (kD d),some (.tup [oD c.1,oD d.1])]) (S':=T1) ?_ ?_
     ·unfold kD
      simp! only [s2,true_and]
      all_goals first|trivial|exact ⟨nofun,nofun⟩|exact ⟨nofun,nofun,nofun⟩
     refine zcy (λb T'=>T' = T1/\(b=true->∃q,zeg c.1 d.1=some q/\q ∉ ps1)) ?_ ?_ ?_
     ·simp_all! only [yef]
      cases hbo:zeg c.1 d.1 with
      | none =>
       simp_all! only [Option.isSome_none,qbf,if_false,if_true]
       refine ⟨nofun,λz=>?_⟩
       exact z.elim
      | some q =>
       simp_all! only [Option.isSome_some,if_true,zin]
       rw [zte hbo]
       refine ⟨_,zjw k1 (zli q),?_⟩
       rw [k3 q]
       exact ⟨nofun,λz=>by simpa using z⟩
     ·rintro T2 ⟨rfl,hb⟩
      obtain ⟨q,hbo,hq⟩:=hb rfl
      rw [zte hbo]
      have hqi:q.1<t.length/\q.2<g.length:=by
       unfold zeg at hbo
       obtain ⟨a,e1,hbo⟩:=bnd hbo
       obtain ⟨b,e2,hbo⟩:=bnd hbo
       cases hbo
       exact ⟨cgo a e1,dgo b e2⟩
      refine zbr (l':=[some dM,some dO,some (.ref S.length),~~~(S.length+1),‹i›,some (kD c),some (kD d),some (pD q)]) (S':=T2.set (S.length+1) (.tdct (zda kvs (pK q) (.bl true)))) ?_ ?_
      ·simp only [zbg,zbv,zef,zak,qg0,qg1,za7]
       refine ⟨_,yeg k1 (zli q) (by omega),?_⟩
       exact ⟨nofun,nofun,nofun⟩
      have g1:(T2.set (S.length+1) (.tdct (zda kvs (pK q) (.bl true))))[S.length]? = some (.lst (ps1.map pD)):=zf6 ld1.hl (by omega)
      rw [zcb,zca]
      simp_all! only [zf7 g1,zf9,true_and]
      rw [zjx g1 (by rw [qlm];omega)]
      exact .inl ⟨(by first|exact .inl rfl|exact .inl trivial|trivial),_,_,_,_,ld1.put (A:=A) k1 hq hqi,rfl⟩
     ·rintro T2 ⟨rfl,_⟩
      simp! only [zak]
      exact .inl ⟨(by first|exact .inl rfl|exact .inl trivial|trivial),_,_,_,_,ld1,rfl⟩
    ·rintro l' T' ⟨ps1,y5,y6,y7,ld1,rfl⟩
     exact .inl ⟨.inl rfl,_,_,_,_,_,ld1,rfl⟩
   ·rw [zbm]
    simp! only [zay ld.hl,qlm,hlt,decide_false,qbf,if_false]
    exact .inl ⟨(by first|exact .inl rfl|exact .inl trivial|trivial),_,_,_,_,_,ld,rfl⟩
  ·rintro l' T' h
   exact ⟨rfl,h⟩
 rintro l T ⟨ps,x4,x5,x6,x7,ld,rfl⟩
 simp! only [zak]
 exact ⟨ps,rfl,ld⟩
def ShE (S:Sto) (x:D):Prop:=∃p:PyData,p.shown.length<=1000/\∀T,Gr S T->pyE T 100 x=some p
theorem zlp {S:Sto}{x:D}{p:PyData}(hp:p.shown.length<=1000) (h:∀T,Gr S T->pyT T 100 x=some p):ShE S x:=⟨p,hp,λT g=>by unfold pyE;rw [h T g]⟩
theorem zlq {T:Sto}{k a:Nat}(h:a<1000000):pyT T (k+1) (.int (a:Int))=some (.int (a:Int)):=by unfold pyT;rw [if_pos (zla h)]
theorem ztf {a:Nat}(h:a<1000000):(PyData.int (a:Int)).shown.length<=10:=by
 show (PySem.Str.ofString (toString (a:Int))).length<=10
 exact PySem.W.KT.len_num (by omega) (by omega)
theorem yei {S:Sto}{p:BF.P}(h1:p.1<1000) (h2:p.2<1000):ShE S (pD p):=by
 refine zlp (p:=.tuple [.int (p.1:Int),.int (p.2:Int)]) ?_ λT g=>?_
 ·have:=znm 10 [.int (p.1:Int),.int (p.2:Int)] λx hx=>by
   simp only [List.mem_cons,List.not_mem_nil,or_false] at hx
   rcases hx with rfl|rfl <;> exact ztf (by omega)
  simp at this;omega
 ·unfold pD pyT pyTs pyTs pyTs
  rw [zlq (by omega),zlq (by omega)];rfl
theorem zn5 {S:Sto}{p:BF.P}(h1:p.1<1000) (h2:p.2<1000):Sh S 139 1000 (pD p):=by
 refine Sh.le (zee (k:=138) (B:=10) (n:=2) (λx hx=>?_) (by simp)) (by decide)
 simp only [List.mem_cons,List.not_mem_nil,or_false] at hx
 rcases hx with rfl|rfl <;> exact zfh (by omega)
theorem ztg {S:Sto}{n:Nat}{xs:List D}(hn:S[n]? = some (.lst xs)) (h:∀x∈xs,Sh S 139 1000 x) (hl:xs.length<=700):Rp S (.ref n):=zei (zf5 (k:=139) (B:=1000) (n:=700) (zay hn) h hl) (by decide)
theorem zth {S:Sto}:∀(xs:List D),(∀x∈xs,ShE S x)->∃ps:List PyData,ps.length=xs.length/\(∀p∈ps,p.shown.length<=1000)/\∀T,Gr S T->zir T 100 xs=some ps
 | [],_=>⟨[],rfl,(λp hp=>by cases hp),λT _=>rfl⟩
 | x :: xs,h=>by
  obtain ⟨p,h1,h2⟩:=h x List.mem_cons_self
  obtain ⟨ps,h3,h4,h5⟩:=zth xs λy hy=>h y (List.mem_cons_of_mem _ hy)
  refine ⟨p :: ps,by simp [h3],λq hq=>?_,λT g=>?_⟩
  ·rcases List.mem_cons.mp hq with rfl|hq
   ·exact h1
   ·exact h4 q hq
  ·unfold zir;rw [h2 T g,h5 T g];rfl
theorem zn6 {T:Sto}{k:Nat}:∀{xs:List D}{x:D},x∈xs->zat T k x=none->pyAll T k xs=none
 | [],_,h,_=>by cases h
 | y :: ys,x,h,e=>by
  unfold pyAll
  rcases List.mem_cons.mp h with rfl|h
  ·rw [e];rfl
  ·rw [zn6 h e]
   cases zat T k y <;> rfl
theorem yej {S:Sto}{n:Nat}{xs:List D}{x:D}(hn:S[n]? = some (.lst xs)) (h:∀y∈xs,ShE S y) (hx:x∈xs) (no:∀T,Gr S T->zat T 139 x=none) (hl:xs.length<=700):Rp S (.ref n):=by
 have sz:=zcs
 obtain ⟨ps,h1,h2,h3⟩:=zth xs h
 have hz:(PyData.list ps).shown.length<=sizeLine:=by
  have:=zrg 1000 ps h2
  omega
 refine ⟨(PyData.list ps).shown,λT Q g=>?_⟩
 have e:zdc [.ref n] T=some (.str (PyData.list ps).shown,T):=by
  have e1:zec [.ref n] T=none:=by
   unfold zec;dsimp only
   unfold pyT;rw [g.get hn];rfl
  have e2:zgq [.ref n] T=none:=by
   unfold zgq;dsimp only
   unfold zat;rw [zay (g.get hn)]
   show ((pyAll T 139 xs).bind _).bind _=_
   rw [zn6 hx (no T g)];rfl
  unfold zdc zf1
  rw [e1,e2]
  show zgx [.ref n] T=_
  unfold zgx
  dsimp only
  rw [g.get hn]
  dsimp only
  rw [h3 T g]
  dsimp only [Option.bind_some]
  unfold txU
  rw [if_pos hz]
 rw [e,zbb]
structure OdT (S:Sto) (x:D):Prop where
 ty:Tys S x
 sh:Sh S 139 1000 x\/(ShE S x/\∀T,Gr S T->zat T 139 x=none)
theorem zn7 {S:Sto}{p:BF.P}(h1:p.1<1000) (h2:p.2<1000):OdT S (pD p):=⟨zlo (ps:=[p]) _ (by simp),.inl (zn5 h1 h2)⟩
theorem zti {S:Sto}{n:Nat}{xs:List D}{x:D}(hn:S[n]? = some (.lst xs)) (hl:xs.length<=700) (h:∀y∈xs,(∃p:BF.P,y=pD p/\p.1<1000/\p.2<1000)\/y=x) (od:OdT S x):Thg S (.ref n)/\Rp S (.ref n):=by
 refine ⟨.lst n xs hn (by omega) λy hy=>?_,?_⟩
 ·rcases h y hy with ⟨p,rfl,h1,h2⟩|rfl
  ·exact (zn7 h1 h2).ty
  ·exact od.ty
 ·by_cases hx:x∈xs
  ·rcases od.sh with sh|⟨sh,no⟩
   ·refine ztg hn (λy hy=>?_) hl
    rcases h y hy with ⟨p,rfl,h1,h2⟩|rfl
    ·exact zn5 h1 h2
    ·exact sh
   ·refine yej hn (λy hy=>?_) hx no hl
    rcases h y hy with ⟨p,rfl,h1,h2⟩|rfl
    ·exact yei h1 h2
    ·exact sh
  ·refine ztg hn (λy hy=>?_) hl
   rcases h y hy with ⟨p,rfl,h1,h2⟩|rfl
   ·exact zn5 h1 h2
   ·exact absurd hy hx
theorem zn8 {l:Lo}{S:Sto}{Q:D->Sto->Prop}:We zjm l S Q=Q (.ref S.length) (S++[.dct []]):=zbb
structure OdI (S:Sto) (d:D):Prop where
 ty:Ty S d
 sh:Sh S 138 200 d\/((∀T,Gr S T->pyT T 99 d=some (.dict []))/\∀T,Gr S T->zat T 138 d=none)
noncomputable def zfj (m i j:Nat):List D:=[.int (m:Int),.int (-1),.bl true,.bl false,.non,.str "0",.tup [.int 0],.ref i,.int (10 ^ 40),.ref j,.int 99]
theorem zhy {S:Sto}{k B:Nat}{d:D}(p:PyData) (h:p.shown.length<=B) (e:∀S',zat S' (k+1) d=some p):Sh S (k+1) B d:=⟨p,h,λS' _=>e S'⟩
theorem yek {m i j:Nat}{S:Sto}(hm:m<=24) (hi:S[i]? = some (.lst [.int 0])) (hj:S[j]? = some (.dct [])):∀d∈zfj m i j,OdI S d:=by
 have ti:tyD S (.ref i)=some "list":=by unfold tyD;dsimp only;rw [hi]
 have tj:tyD S (.ref j)=some "dict":=by unfold tyD;dsimp only;rw [hj]
 intro d hd
 unfold zfj at hd
 simp only [List.mem_cons,List.not_mem_nil,or_false] at hd
 rcases hd with rfl|rfl|rfl|rfl|rfl|rfl|rfl|rfl|rfl|rfl|rfl
 ·exact ⟨⟨_,rfl⟩,.inl (Sh.le (zfh (k:=137) (by omega)) (by decide))⟩
 ·exact ⟨⟨_,rfl⟩,.inl (zhy (k:=137) (.int (-1)) (by decide +kernel) λS'=>by unfold zat;rfl)⟩
 ·exact ⟨⟨_,rfl⟩,.inl (zhy (k:=137) (.bool true) (by decide +kernel) λS'=>by unfold zat;rfl)⟩
 ·exact ⟨⟨_,rfl⟩,.inl (zhy (k:=137) (.bool false) (by decide +kernel) λS'=>by unfold zat;rfl)⟩
 ·exact ⟨⟨_,rfl⟩,.inl (Sh.le (zjv (k:=137)) (by decide))⟩
 ·exact ⟨⟨_,rfl⟩,.inl (zhy (k:=137) (.str "0") (by decide +kernel) λS'=>by unfold zat;rfl)⟩
 ·refine ⟨⟨_,rfl⟩,.inl (Sh.le (zee (k:=137) (B:=10) (n:=1) (λy hy=>?_) (by simp)) (by decide))⟩
  rw [List.mem_singleton.mp hy]
  exact zfh (k:=136) (n:=0) (by omega)
 ·refine ⟨⟨_,ti⟩,.inl (Sh.le (zf5 (k:=137) (B:=10) (n:=1) (zay hi) (λy hy=>?_) (by simp)) (by decide))⟩
  rw [List.mem_singleton.mp hy]
  exact zfh (k:=136) (n:=0) (by omega)
 ·refine ⟨⟨_,rfl⟩,.inl (zhy (k:=137) (.int (10 ^ 40)) (by decide +kernel) λS'=>?_)⟩
  unfold zat
  rw [if_pos (by decide +kernel)]
 ·refine ⟨⟨_,tj⟩,.inr ⟨λT g=>?_,λT g=>?_⟩⟩
  ·unfold pyT;rw [g.get hj]
  ·unfold zat lstOf;rw [g.get hj];rfl
 ·exact ⟨⟨_,rfl⟩,.inl (Sh.le (zfh (k:=137) (n:=99) (by omega)) (by decide))⟩
theorem yel {S:Sto}{p:BF.P}{a:Nat}{o:D}(h1:p.1<1000) (h2:p.2<1000) (ha:a<2) (od:OdI S o):OdT S (.tup ([D.int (p.1:Int),.int (p.2:Int)].set a o)):=by
 have key:∀(x:Nat) (l:List D),x<1000->(l=[o,.int (x:Int)]\/l=[.int (x:Int),o])->OdT S (.tup l):=λx l hx hl=>by
  have mem:∀d∈l,d=o\/d=.int (x:Int):=λd hd=>by
   rcases hl with rfl|rfl <;> simp only [List.mem_cons,List.not_mem_nil,or_false] at hd <;> rcases hd with rfl|rfl <;> simp
  have mo:o∈l:=by rcases hl with rfl|rfl <;> simp
  have ll:l.length=2:=by rcases hl with rfl|rfl <;> rfl
  refine ⟨λd hd=>?_,?_⟩
  ·rcases mem d hd with rfl|rfl
   ·exact od.ty
   ·exact ⟨_,rfl⟩
  ·rcases od.sh with sh|⟨sh,no⟩
   ·refine .inl (Sh.le (zee (k:=138) (B:=200) (n:=2) (λd hd=>?_) (by omega)) (by decide))
    rcases mem d hd with rfl|rfl
    ·exact sh
    ·exact Sh.le (zfh (by omega)) (by decide)
   ·refine .inr ⟨?_,λT g=>?_⟩
    ·have bd:∀ps:List PyData,(ps=[.dict [],.int (x:Int)]\/ps=[.int (x:Int),.dict []])->(PyData.tuple ps).shown.length<=1000:=λps hps=>by
      have:=znm 10 ps λy hy=>by
       rcases hps with rfl|rfl <;> simp only [List.mem_cons,List.not_mem_nil,or_false] at hy <;> rcases hy with rfl|rfl <;> first|exact ztf (by omega)|decide +kernel
      have:ps.length=2:=by rcases hps with rfl|rfl <;> rfl
      omega
     rcases hl with rfl|rfl
     ·refine zlp (bd _ (.inl rfl)) λT g=>?_
      unfold pyT pyTs pyTs pyTs
      rw [sh T g,zlq (by omega)];rfl
     ·refine zlp (bd _ (.inr rfl)) λT g=>?_
      unfold pyT pyTs pyTs pyTs
      rw [sh T g,zlq (by omega)];rfl
    ·unfold zat
     rw [zn6 mo (no T g)];rfl
 have:a=0\/a=1:=by omega
 rcases this with rfl|rfl
 ·exact key p.2 _ h2 (.inl rfl)
 ·exact key p.1 _ h1 (.inr rfl)
theorem yem {S:Sto}{xs:List D}{Q:D->Sto->Prop}:Wo (zfy [.tup xs] S) Q=Q (.ref S.length) (S++[.lst xs]):=zbb
theorem yen {m:EM}{l:Lo}{S:Sto}{xs:List D}{Q:D->Sto->Prop}(h:m l S=some (.tup xs,S)):We (ziq m) l S Q=Q (.tup xs.reverse) S:=by
 have:ziq m l S=some (.tup xs.reverse,S):=by unfold ziq;rw [h];rfl
 show Wo (ziq m l S) Q=_
 rw [this,zbb]
inductive Bs (m:Nat) (S:Sto) (v:D):Prop
 | od (N i j a:Nat) (p:BF.P) (o:D) (hN:N<=24) (h1:p.1<24) (h2:p.2<24) (ha:a<2) (hi:S[i]? = some (.lst [.int 0])) (hj:S[j]? = some (.dct [])) (mi:m<=i) (mj:m<=j) (ho:o∈zfj N i j) (e:v=.tup ([D.int (p.1:Int),.int (p.2:Int)].set a o))
 | ls (j:Nat) (p:BF.P) (h1:p.1<24) (h2:p.2<24) (mj:m<=j) (hj:S[j]? = some (.lst [.int (p.1:Int),.int (p.2:Int)])) (e:v=.ref j)
 | nt (l:List D) (hl:l.length<=3) (hy:∀y∈l,∃k:Nat,y=.int (k:Int)/\k<1000) (e:v=.tup l)
theorem Bs.up {m:Nat}{S T:Sto}{v:D}(h:Bs m S v) (f:∀j o,m<=j->S[j]? = some o->T[j]? = some o):Bs m T v:=by
 cases h with
 | od N i j a p o hN h1 h2 ha hi hj mi mj ho e=>exact .od N i j a p o hN h1 h2 ha (f _ _ mi hi) (f _ _ mj hj) mi mj ho e
 | ls j p h1 h2 mj hj e=>exact .ls j p h1 h2 mj (f _ _ mj hj) e
 | nt l hl hy e=>exact .nt l hl hy e
theorem Bs.odT {m:Nat}{S:Sto}{v:D}(h:Bs m S v):OdT S v:=by
 cases h with
 | od N i j a p o hN h1 h2 ha hi hj mi mj ho e=>subst e;exact yel (by omega) (by omega) ha (yek hN hi hj o ho)
 | ls j p h1 h2 mj hj e =>
  subst e
  have tj:tyD S (.ref j)=some "list":=by unfold tyD;dsimp only;rw [hj]
  refine ⟨⟨_,tj⟩,.inl (Sh.le (zf5 (k:=138) (B:=10) (n:=2) (zay hj) (λy z=>?_) (by simp)) (by decide))⟩
  simp only [List.mem_cons,List.not_mem_nil,or_false] at z
  rcases z with rfl|rfl <;> exact zfh (by omega)
 | nt l hl hy e =>
  subst e
  refine ⟨λy z=>?_,.inl (Sh.le (zee (k:=138) (B:=10) (n:=3) (λy z=>?_) hl) (by decide))⟩
  ·obtain ⟨k,rfl,_⟩:=hy y z;exact ⟨_,rfl⟩
  ·obtain ⟨k,rfl,_⟩:=hy y z;exact zfh (by omega)
inductive BpP (ns:List Int) (c:Nat) (S:Sto) (v:D) (S':Sto):Prop
 | mk (od:Bs S.length S' v) (p:PQ ns (c+3) S') (f:Fn S S')
theorem zlr {xs:List D}{i:Nat}(h:i<xs.length):∃x∈xs,L2.atI xs (i:Int)=some x:=⟨_,List.getElem_mem h,atI_get (qge h)⟩
theorem yeo {ns:List Int}{c N:Nat}{p:BF.P}{S:Sto}(h:PQ ns c S) (hc:c<90000000) (hN:N<=24) (h1:p.1<24) (h2:p.2<24):Wo (zjy [.ref 2,pD p,.int (N:Int)] S) (BpP ns c S):=by
 have sz:=zcs
 have sz1:1<=sizeLine:=by decide
 have sz2:2<=sizeLine:=by decide
 have sz11:11<=sizeLine:=by decide
 have sz4:4<=sizeLine:=by decide
 unfold zjy zrw
 dsimp! only [zbc]
 refine zaz (λl S'=>∃w:Nat,w<6/\PQ ns (c+1) S'/\Fn S S'/\l=[~~~2,some (pD p),‹N›,‹w›,none,none,none]) ?_ ?_
 ·simp! only [zak]
  refine (zbj h (by omega) (by decide) (by decide)).mono ?_
  rintro v S1 ⟨d,rfl,hd,p1,f1⟩
  exact ⟨nofun,d,by omega,p1,f1,rfl⟩
 rintro l S1 ⟨w,hw,p1,f1,rfl⟩
 refine zaz (λl S'=>∃a:Nat,a<2/\PQ ns (c+2) S'/\Fn S S'/\l=[~~~2,some (pD p),‹N›,‹w›,‹a›,none,none]) ?_ ?_
 ·simp! only [zak]
  refine (zbj p1 (by omega) (by decide) (by decide)).mono ?_
  rintro v S2 ⟨d,rfl,hd,p2,f2⟩
  exact ⟨nofun,d,by omega,p2,f1.trans f2,rfl⟩
 rintro l S2 ⟨a,ha,p2,f2,rfl⟩
 have l3:=p2.lt
 have fl2:=f2.len l3
 refine zaz (λl S'=>∃o i j,o∈zfj N i j/\S.length<=i/\S.length<=j/\S'[i]? = some (.lst [.int 0])/\S'[j]? = some (.dct [])/\PQ ns (c+3) S'/\Fn S S'/\l=[~~~2,some (pD p),‹N›,‹w›,‹a›,some o,none]) ?_ ?_
 ·have c3:(0:Int)<=40/\(40:Int)<=1000000/\(10:Int).natAbs<2 ^ 64:=by decide
  have e40:((10:Int) ^ (40:Int).toNat)=10 ^ 40:=by decide
  simp only [zbg,zbe,zbt,zb5,za6,zbk,zak,zbv,qg0,qg1,za7,zlk,zc7,zcp,List.length_cons,List.length_nil,Nat.reduceAdd,sz1,sz11,true_and,zn8,zd7,decide_eq_true_eq,c3,e40,za0,qs0,qs1]
  have gg:Gr S2 (S2++[Ob.lst [.int 0]]++[Ob.dct []]++[Ob.lst (zfj N S2.length (S2++[Ob.lst [.int 0]]).length)]):=((Gr.refl S2).push _).push _ |>.push _
  have q1:(S2++[Ob.lst [.int 0]]++[Ob.dct []]++[Ob.lst (zfj N S2.length (S2++[Ob.lst [.int 0]]).length)])[S2.length]? = some (.lst [.int 0]):=zas (zas zba)
  have q2:(S2++[Ob.lst [.int 0]]++[Ob.dct []]++[Ob.lst (zfj N S2.length (S2++[Ob.lst [.int 0]]).length)])[(S2++[Ob.lst [.int 0]]).length]? = some (.dct []):=zas zba
  have q3:(S2++[Ob.lst [.int 0]]++[Ob.dct []]++[Ob.lst (zfj N S2.length (S2++[Ob.lst [.int 0]]).length)])[(S2++[Ob.lst [.int 0]]++[Ob.dct []]).length]? = some (.lst (zfj N S2.length (S2++[Ob.lst [.int 0]]).length)):=zba
  have lm:S2.length<(S2++[Ob.lst [.int 0]]).length:=by simp
  have ln:S2.length<(S2++[Ob.lst [.int 0]]++[Ob.dct []]).length:=by simp
  show Wo (za4 [.ref 2,.int 11] (S2++[Ob.lst [.int 0]]++[Ob.dct []]++[Ob.lst (zfj N S2.length (S2++[Ob.lst [.int 0]]).length)])) _
  generalize (S2++[Ob.lst [.int 0]]++[Ob.dct []]++[Ob.lst (zfj N S2.length (S2++[Ob.lst [.int 0]]).length)])=T at gg q1 q2 q3
  generalize (S2++[Ob.lst [.int 0]]).length=j at q2 q3 lm
  generalize (S2++[Ob.lst [.int 0]]++[Ob.dct []]).length=k at q3 ln
  refine (zbj (p2.gr gg) (by omega) (by decide) (by decide)).mono ?_
  rintro v S3 ⟨d,rfl,hd,p3,f3⟩
  have r1:=f3 _ _ (by omega) q1
  have r2:=f3 _ _ (by omega) q2
  have r3:=f3 _ _ (by omega) q3
  obtain ⟨x,hx,e⟩:=zlr (xs:=zfj N S2.length j) (i:=d) (by show d<11;omega)
  simp only [zc4,zay r3,zbo,e]
  exact ⟨x,_,_,hx,fl2,by omega,r1,r2,p3,f2.trans ((Fn.gr gg).trans f3),rfl⟩
 rintro l S3 ⟨o,i1,j1,ho,mi,mj,hi1,hj1,p3,f3,rfl⟩
 have fl3:=f3.len p3.lt
 have ep:pD p=.tup [.int (p.1:Int),.int (p.2:Int)]:=rfl
 have esp:∀Q':D->Sto->Prop,Q' (.tup ([D.int (p.1:Int),.int (p.2:Int)].set a o)) S3->We (eOp za2 (eOp za2 (zcq (zaa 1) (zct) (zcl (zaa 4))) (zaf zau (zab (zaa 5) (zae)))) (zcq (zaa 1) (zcl (eOp za2 (zaa 4) (eC (.int 1)))) (zct))) [~~~2,some (pD p),‹N›,‹w›,‹a›,some o,none] S3 Q':=λQ' q=>znr (xs:=[.int (p.1:Int),.int (p.2:Int)]) (i:=a) (y:=o) (λQ'=>by rw [ep];simp_all! only [zak]) (λQ'=>by simp_all! only [zak]) rfl (by simpa using ha) (by simp) q
 refine zaz (λl S'=>∃n j,Gr S3 S'/\S.length<=j/\S'[j]? = some (.lst [.int (p.1:Int),.int (p.2:Int)])/\S'[n]? = some (.lst [.tup ([D.int (p.1:Int),.int (p.2:Int)].set a o),.tup ([D.int (p.1:Int),.int (p.2:Int)].set a o),.tup [.int (p.2:Int),.int (p.1:Int)],.ref j])/\l=[~~~2,some (pD p),‹N›,‹w›,‹a›,some o,~~~n]) ?_ ?_
 ·rw [zbg,zbe,za6]
  refine esp _ ?_
  rw [za6]
  refine esp _ ?_
  rw [za6,yen (xs:=[.int (p.1:Int),.int (p.2:Int)]) rfl,za6,zbe,za6,zak]
  simp only [qg0,qg1,za7,zbk,ep,yem,zcp,List.length_cons,List.length_nil,Nat.reduceAdd,sz4,true_and,za0,qs0,qs1]
  refine ⟨_,_,((Gr.refl S3).push _).push _,fl3,zas zba,zba,nofun⟩
 rintro l S4 ⟨n,j,g4,mj4,hj,hn,rfl⟩
 rw [ep]
 have cut1:cutD [D.int (p.1:Int),.int (p.2:Int)] none (some (1:Int))=[.int (p.1:Int)]:=zlh _ 1 (by simp)
 simp! only [ep,sz1,sz2,true_and,cut1]
 refine ⟨by omega,?_⟩
 rw [zim (zas hn) zba]
 refine ⟨by simp only [List.length_cons,List.length_nil];omega,?_⟩
 simp only [zc4,zcx,zbo]
 obtain ⟨x,hx,e⟩:=zlr (xs:=[D.tup ([D.int (p.1:Int),.int (p.2:Int)].set a o),.tup ([D.int (p.1:Int),.int (p.2:Int)].set a o),.tup [.int (p.2:Int),.int (p.1:Int)],.ref j]++[.tup [.int (p.1:Int),.int (p.2:Int),.int 0],.tup [.int (p.1:Int)]]) (i:=w) (by simp;omega)
 refine ⟨x,e,?_⟩
 refine ⟨?_,(p3.gr g4).gr (((Gr.refl S4).push _).push _),f3.trans ((Fn.gr g4).trans (Fn.gr (((Gr.refl S4).push _).push _)))⟩
 have g5:∀o1 o2,Gr S4 (S4++[o1]++[o2]):=λo1 o2=>((Gr.refl S4).push _).push _
 refine Bs.up (S:=S4) ?_ (λ_ _ _ z=>Gr.get (g5 _ _) z)
 clear e
 simp only [List.cons_append,List.nil_append,List.mem_cons,List.not_mem_nil,or_false] at hx
 rcases hx with rfl|rfl|rfl|rfl|rfl|rfl
 ·exact .od N i1 j1 a p o hN h1 h2 ha (g4.get hi1) (g4.get hj1) mi mj ho rfl
 ·exact .od N i1 j1 a p o hN h1 h2 ha (g4.get hi1) (g4.get hj1) mi mj ho rfl
 ·refine .nt _ (by simp) (λy z=>?_) rfl
  simp only [List.mem_cons,List.not_mem_nil,or_false] at z
  rcases z with rfl|rfl
  ·exact ⟨p.2,rfl,by omega⟩
  ·exact ⟨p.1,rfl,by omega⟩
 ·exact .ls j p h1 h2 mj4 hj rfl
 ·refine .nt _ (by simp) (λy z=>?_) rfl
  simp only [List.mem_cons,List.not_mem_nil,or_false] at z
  rcases z with rfl|rfl|rfl
  ·exact ⟨p.1,rfl,by omega⟩
  ·exact ⟨p.2,rfl,by omega⟩
  ·exact ⟨0,rfl,by omega⟩
 ·refine .nt _ (by simp) (λy z=>?_) rfl
  simp only [List.mem_cons,List.not_mem_nil,or_false] at z
  subst z
  exact ⟨p.1,rfl,by omega⟩
structure Out (ns:List Int) (c L:Nat) (S:Sto) (v:D) (T:Sto):Prop where
 th:Thg T v
 rp:Rp T v
 ln:∀n xs,v=.ref n->T[n]? = some (.lst xs)->xs.length<=max (L+1) 580
 p:PQ ns (c+700) T
 f:Fn S T
theorem zhz {ns:List Int}{c c' L:Nat}{S T:Sto}{k:Nat}{xs:List D}{x:D}(hk:T[k]? = some (.lst xs)) (hl:xs.length<=max (L+1) 580) (hL:L<=600) (h:∀y∈xs,(∃p:BF.P,y=pD p/\p.1<1000/\p.2<1000)\/y=x) (od:OdT T x) (p:PQ ns c' T) (hc:c'<=c+700) (f:Fn S T):Out ns c L S (.ref k) T:=by
 have h7:xs.length<=700:=by omega
 obtain ⟨t1,t2⟩:=zti hk h7 h od
 refine ⟨t1,t2,λn ys e hn=>?_,p.mono hc,f⟩
 cases e
 rw [hk] at hn;cases hn
 exact hl
theorem zgc {ns:List Int}{c c' L:Nat}{S T:Sto}{d:D}{U:String}(h:tyE T d=some U) (hU:isI U "list" = false) (rp:Rp T d) (p:PQ ns c' T) (hc:c'<=c+700) (f:Fn S T):Out ns c L S d T:=by
 refine ⟨.no d U h hU,rp,λn xs e hn=>?_,p.mono hc,f⟩
 subst e
 have:tyE T (.ref n)=some "list":=by
  have e1:tyD T (.ref n)=some "list":=by unfold tyD;dsimp only;rw [hn]
  unfold tyE;rw [e1]
 rw [this] at h
 cases h
 cases hU
noncomputable def els (i0 i1 i2 i4:Nat):List D:=[.non,.int 0,.tup [],.ref i0,.str "00",.bl true,.ref i1,.tup [.tup [.int 0,.int 0]],.tup [.int 0,.int 0,.int 0],.ref i2,.str "",.tup [.non,.non],.ref i4]
theorem zls {S:Sto}{k:Nat}{z:Str}(h:z = "00"\/z = ""\/z = "pairs"):Sh S (k+1) 102 (.str z):=by
 rcases h with rfl|rfl|rfl <;> exact zrh (B:=10) (by decide +kernel) (by decide +kernel)
theorem zi0 {S:Sto}{k:Nat}:Sh S (k+1) 10 (.int 0):=zfh (n:=0) (by decide)
theorem yep {T:Sto}{i0 i1 i2 i4:Nat}(h0:T[i0]? = some (.lst [])) (h1:T[i1]? = some (.dct [])) (h2:T[i2]? = some (.lst [.int 0,.int 0])) (h4:T[i4]? = some (.dct [(Sum.inl 0,.int 0),(Sum.inl 1,.int 1)])):∀x∈els i0 i1 i2 i4,OdT T x:=by
 have t0:tyD T (.ref i0)=some "list":=by unfold tyD;dsimp only;rw [h0]
 have t1:tyD T (.ref i1)=some "dict":=by unfold tyD;dsimp only;rw [h1]
 have t2:tyD T (.ref i2)=some "list":=by unfold tyD;dsimp only;rw [h2]
 have t4:tyD T (.ref i4)=some "dict":=by unfold tyD;dsimp only;rw [h4]
 have pr:∀{k:Nat},Sh T (k+2) 27 (.tup [.int 0,.int 0]):=λ{k}=>Sh.le (zee (k:=k+1) (B:=10) (n:=2) (λy hy=>by
  simp only [List.mem_cons,List.not_mem_nil,or_false] at hy
  rcases hy with rfl|rfl <;> exact zi0) (by simp)) (by decide)
 intro x hx
 unfold els at hx
 simp only [List.mem_cons,List.not_mem_nil,or_false] at hx
 rcases hx with rfl|rfl|rfl|rfl|rfl|rfl|rfl|rfl|rfl|rfl|rfl|rfl|rfl
 ·exact ⟨⟨_,rfl⟩,.inl (Sh.le (zjv (k:=138)) (by decide))⟩
 ·exact ⟨⟨_,rfl⟩,.inl (Sh.le (zi0 (k:=138)) (by decide))⟩
 ·exact ⟨λd hd=>(by cases hd),.inl (Sh.le (zee (k:=138) (B:=10) (n:=1) (λy hy=>by cases hy) (by simp)) (by decide))⟩
 ·exact ⟨⟨_,t0⟩,.inl (Sh.le (zf5 (k:=138) (B:=10) (n:=1) (zay h0) (λy hy=>by cases hy) (by simp)) (by decide))⟩
 ·exact ⟨⟨_,rfl⟩,.inl (Sh.le (zls (k:=138) (.inl rfl)) (by decide))⟩
 ·exact ⟨⟨_,rfl⟩,.inl (zhy (k:=138) (.bool true) (by decide +kernel) λS'=>by unfold zat;rfl)⟩
 ·refine ⟨⟨_,t1⟩,.inr ⟨zlp (p:=.dict []) (by decide +kernel) λS' g=>by unfold pyT;rw [g.get h1],λS' g=>?_⟩⟩
  unfold zat lstOf;rw [g.get h1];rfl
 ·refine ⟨λd hd=>?_,.inl (Sh.le (zee (k:=138) (B:=27) (n:=1) (λy hy=>?_) (by simp)) (by decide))⟩
  ·rw [List.mem_singleton.mp hd];exact ⟨_,rfl⟩
  ·rw [List.mem_singleton.mp hy];exact pr
 ·refine ⟨λd hd=>?_,.inl (Sh.le (zee (k:=138) (B:=10) (n:=3) (λy hy=>?_) (by simp)) (by decide))⟩
  ·simp only [List.mem_cons,List.not_mem_nil,or_false] at hd
   rcases hd with rfl|rfl|rfl <;> exact ⟨_,rfl⟩
  ·simp only [List.mem_cons,List.not_mem_nil,or_false] at hy
   rcases hy with rfl|rfl|rfl <;> exact zi0
 ·refine ⟨⟨_,t2⟩,.inl (Sh.le (zf5 (k:=138) (B:=10) (n:=2) (zay h2) (λy hy=>?_) (by simp)) (by decide))⟩
  simp only [List.mem_cons,List.not_mem_nil,or_false] at hy
  rcases hy with rfl|rfl <;> exact zi0
 ·exact ⟨⟨_,rfl⟩,.inl (Sh.le (zls (k:=138) (.inr (.inl rfl))) (by decide))⟩
 ·refine ⟨λd hd=>?_,.inl (Sh.le (zee (k:=138) (B:=10) (n:=2) (λy hy=>?_) (by simp)) (by decide))⟩
  ·simp only [List.mem_cons,List.not_mem_nil,or_false] at hd
   rcases hd with rfl|rfl <;> exact ⟨_,rfl⟩
  ·simp only [List.mem_cons,List.not_mem_nil,or_false] at hy
   rcases hy with rfl|rfl <;> exact zjv
 ·refine ⟨⟨_,t4⟩,.inr ⟨⟨.dict [(.int 0,.int 0),(.int 1,.int 1)],by decide +kernel,λS' g=>?_⟩,λS' g=>?_⟩⟩
  ·have e:pyT S' 100 (.ref i4)=none:=by unfold pyT;rw [g.get h4]
   unfold pyE
   rw [e]
   dsimp only
   rw [g.get h4]
   show (if (sm 0 && sm 0 && sm 1 && sm 1)=true then _ else _)=_
   rw [if_pos (by unfold sm;decide)]
  ·unfold zat lstOf;rw [g.get h4];rfl
noncomputable def ths (ps:List BF.P) (n i1 i2 i3 i4 i5:Nat):List D:=[.tup (ps.map pD),.non,.ref i1,.str "",.int 0,.bl true,.tup [.int 0,.int 0],.tup [],.ref i2,.ref i3,.str "pairs",.ref i4,.ref i5]
theorem yeq {ns:List Int}{c c' L:Nat}{S T:Sto}{ps:List BF.P}{n i1 i2 i3 j3 i4 i5:Nat}(inn:∀p∈ps,p.1<1000/\p.2<1000) (hL:ps.length<=600) (hn:T[n]? = some (.lst (ps.map pD))) (h1:T[i1]? = some (.dct [])) (h2:T[i2]? = some (.lst [])) (h3:T[i3]? = some (.lst [.ref j3])) (hj:T[j3]? = some (.lst [])) (h4:T[i4]? = some (.lst [.ref n])) (h5:T[i5]? = some (.tdct [(pK (0,0),.bl true)])) (p:PQ ns c' T) (hc:c'<=c+700) (f:Fn S T):∀x∈ths ps n i1 i2 i3 i4 i5,Out ns c L S x T:=by
 have sz:=zcs
 have t1:tyE T (.ref i1)=some "dict":=by
  have:tyD T (.ref i1)=some "dict":=by unfold tyD;dsimp only;rw [h1]
  unfold tyE;rw [this]
 have t5:tyE T (.ref i5)=some "dict":=by
  have:tyD T (.ref i5)=none:=by unfold tyD;dsimp only;rw [h5]
  unfold tyE;rw [this];dsimp only;rw [h5]
 have nl:∀{k:Nat} {xs:List D},T[k]? = some (.lst xs)->xs.length<=1->(∀y∈xs,Tys T y)->Rp T (.ref k)->Out ns c L S (.ref k) T:=λ{k xs} hk hl ty rp=>by
  refine ⟨.lst k xs hk (by omega) ty,rp,λm ys e hm=>?_,p.mono hc,f⟩
  cases e
  rw [hk] at hm;cases hm
  omega
 have prsk:∀(k:Nat),∀y∈ps.map pD,Sh T (k+2) 27 y:=λk y hy=>by
  obtain ⟨q,hq,rfl⟩:=List.mem_map.mp hy
  refine Sh.le (zee (k:=k+1) (B:=10) (n:=2) (λx hx=>?_) (by simp)) (by decide)
  have:=inn q hq
  simp only [List.mem_cons,List.not_mem_nil,or_false] at hx
  rcases hx with rfl|rfl <;> exact zfh (by omega)
 have prs:=prsk 136
 have prs9:=prsk 137
 intro x hx
 unfold ths at hx
 simp only [List.mem_cons,List.not_mem_nil,or_false] at hx
 rcases hx with rfl|rfl|rfl|rfl|rfl|rfl|rfl|rfl|rfl|rfl|rfl|rfl|rfl
 ·exact zgc rfl (by decide) (zei (zee (k:=139) (B:=27) (n:=600) prs9 (by rw [qlm];exact hL)) (by decide)) p hc f
 ·exact zgc rfl (by decide) (zei (zjv (k:=139)) (by decide)) p hc f
 ·refine zgc t1 (by decide) ⟨PyData.shown (.dict []),λR Q g=>zs8 (.inr ?_) (by decide +kernel)⟩ p hc f
  unfold pyT
  rw [g.get h1]
 ·exact zgc rfl (by decide) (zei (zls (k:=139) (.inr (.inl rfl))) (by decide)) p hc f
 ·exact zgc rfl (by decide) (zei (zi0 (k:=139)) (by decide)) p hc f
 ·exact zgc rfl (by decide) (zei (zhy (k:=139) (B:=10) (.bool true) (by decide +kernel) λS'=>by unfold zat;rfl) (by decide)) p hc f
 ·refine zgc rfl (by decide) (zei (zee (k:=139) (B:=10) (n:=2) (λy hy=>?_) (by simp)) (by decide)) p hc f
  simp only [List.mem_cons,List.not_mem_nil,or_false] at hy
  rcases hy with rfl|rfl <;> exact zi0
 ·exact zgc rfl (by decide) (zei (zee (k:=139) (B:=10) (n:=1) (λy hy=>by cases hy) (by simp)) (by decide)) p hc f
 ·exact nl h2 (by simp) (λy hy=>by cases hy) (zei (zf5 (k:=139) (B:=10) (n:=1) (zay h2) (λy hy=>by cases hy) (by simp)) (by decide))
 ·refine nl h3 (by simp) (λy hy=>?_) (zei (zf5 (k:=139) (B:=100) (n:=1) (zay h3) (λy hy=>?_) (by simp)) (by decide))
  ·rw [List.mem_singleton.mp hy]
   exact ⟨"list",by unfold tyD;dsimp only;rw [hj]⟩
  ·rw [List.mem_singleton.mp hy]
   exact Sh.le (zf5 (k:=138) (B:=10) (n:=1) (zay hj) (λy hy=>by cases hy) (by simp)) (by decide)
 ·exact zgc rfl (by decide) (zei (zls (k:=139) (.inr (.inr rfl))) (by decide)) p hc f
 ·refine nl h4 (by simp) (λy hy=>?_) (zei (zf5 (k:=139) (B:=20000) (n:=1) (zay h4) (λy hy=>?_) (by simp)) (by decide))
  ·rw [List.mem_singleton.mp hy]
   exact ⟨"list",by unfold tyD;dsimp only;rw [hn]⟩
  ·rw [List.mem_singleton.mp hy]
   exact Sh.le (zf5 (k:=138) (B:=27) (n:=600) (zay hn) prs (by rw [qlm];exact hL)) (by decide)
 ·refine zgc t5 (by decide) ⟨PyData.shown (.dict [(.tuple [.int 0,.int 0],.bool true)]),λR Q g=>?_⟩ p hc f
  have e:zdc [.ref i5] R=some (.str (PyData.shown (.dict [(.tuple [.int 0,.int 0],.bool true)])),R):=by
   have e1:zec [.ref i5] R=none:=by
    unfold zec;dsimp only
    unfold pyT;rw [g.get h5];rfl
   have e2:zgq [.ref i5] R=none:=by
    unfold zgq;dsimp only
    unfold zat lstOf;rw [g.get h5];rfl
   unfold zdc zf1
   rw [e1,e2]
   show zgx [.ref i5] R=_
   unfold zgx
   dsimp only
   rw [g.get h5]
   show (if (sm 0 && sm 0)=true then _ else _)=_
   rw [if_pos (by unfold sm;decide)]
   unfold txU
   rw [if_pos (by decide +kernel)]
   rfl
  rw [e,zbb]
noncomputable def pyP (p:BF.P):PyData:=.tuple [.int (p.1:Int),.int (p.2:Int)]
theorem ztj {S:Sto}{k:Nat}{p:BF.P}(h1:p.1<1000) (h2:p.2<1000):zat S (k+2) (pD p)=some (pyP p):=by
 have e:∀a:Nat,a<1000->zat S (k+1) (.int (a:Int))=some (.int (a:Int)):=λa ha=>by
  unfold zat
  rw [if_pos (zla (by omega))]
 unfold pD zat
 unfold pyAll
 rw [e _ h1]
 show ((pyAll S (k+1) [.int (p.2:Int)]).bind _).bind _=_
 unfold pyAll
 rw [e _ h2]
 show ((pyAll S (k+1) []).bind _ |>.bind _).bind _=_
 unfold pyAll
 rfl
theorem yer {S:Sto}{p:BF.P}(h1:p.1<1000) (h2:p.2<1000):∃b,∀Q:D->Sto->Prop,Wo (zie (pD p) (.tup [.int 0,.int 0]) S) Q=Q (.bl b) S:=by
 have c:∀q:BF.P,(pyP q).canLay0=true:=λq=>by unfold pyP;simp [PyData.canLay0,PyData.canLayAll0]
 refine ⟨!(pyP p).eqv (pyP (0,0)),λQ=>?_⟩
 have:zie (pD p) (.tup [.int 0,.int 0]) S=some (.bl (!(pyP p).eqv (pyP (0,0))),S):=by
  unfold zie
  rw [ztj (k:=58) h1 h2]
  show (zat S 60 (pD (0,0))).bind _=_
  rw [ztj (k:=58) (by decide) (by decide)]
  dsimp only [Option.bind_some]
  rw [if_pos ⟨c p,c (0,0)⟩]
 rw [this,zbb]
theorem yes {i a k b:Int}{l:Lo}{S:Sto}{Q:D->Sto->Prop}:We (zno i a k b) l S Q=Q (.ref S.length) (S++[.dct [(Sum.inl i,.int a),(Sum.inl k,.int b)]]):=zbb
theorem yet {l:Lo}{S:Sto}{Q:D->Sto->Prop}:We (zgv (zaf zau (zab (eC (.int 0)) (zab (eC (.int 0)) (zae)))) (eC (.bl true))) l S Q=Q (.ref S.length) (S++[.tdct [(pK (0,0),.bl true)]]):=by
 have s2:2<=sizeLine:=by decide
 have e1:zaf zau (zab (eC (.int 0)) (zab (eC (.int 0)) (zae))) l S=some (pD (0,0),S):=by
  have:We (zaf zau (zab (eC (.int 0)) (zab (eC (.int 0)) (zae)))) l S λv S'=>v=pD (0,0)/\S' = S:=by
   simp_all! only [s2,true_and]
   all_goals first|trivial|exact ⟨nofun,nofun⟩
  obtain ⟨v,S',e,rfl,rfl⟩:=this
  exact e
 have:zgv (zaf zau (zab (eC (.int 0)) (zab (eC (.int 0)) (zae)))) (eC (.bl true)) l S=some (.ref S.length,S++[.tdct [(pK (0,0),.bl true)]]):=by
  unfold zgv
  rw [e1];rfl
 show Wo (zgv _ _ l S) Q=_
 rw [this,zbb]
noncomputable def ztk (i0 i1 i2:Nat):List D:=[.non,.int 0,.tup [],.ref i0,.str "00",.bl true,.ref i1,.tup [.tup [.int 0,.int 0]],.tup [.int 0,.int 0,.int 0],.ref i2,.str "",.tup [.non,.non]]
noncomputable def ztl (ps:List BF.P) (i1 i2 i3 i4:Nat):List D:=[.tup (ps.map pD),.non,.ref i1,.str "",.int 0,.bl true,.tup [.int 0,.int 0],.tup [],.ref i2,.ref i3,.str "pairs",.ref i4]
inductive RbP (ns:List Int) (c L:Nat) (S:Sto) (l0:Lo) (l:Lo) (T:Sto):Prop
 | mk (v:D) (x9:Option D) (o:Out ns c L S v T) (e:l=l0++[some v,x9])
inductive BtP (ns:List Int) (c L:Nat) (S:Sto) (v:D) (T:Sto):Prop
 | mk (o:Out ns c L S v T)
theorem ztm {ns:List Int}{c A n:Nat}{t g:List (List Cl)}{S:Sto}{ps:List BF.P}(h:PQ ns c S) (hc:c<60000000) (ok:OkM A t) (ok':OkM A g) (hn:S[n]? = some (.lst (ps.map pD))) (n2:n≠2) (h1:1<=ps.length) (hl:ps.length<=590) (inn:InR t g ps):Wo (zix [.ref 2,.ref n,mD A t,mD A g] S) (BtP ns c ps.length S):=by
 have sz:=zcs
 have s0:0<=sizeLine:=by decide
 have s1:1<=sizeLine:=by decide
 have s2:2<=sizeLine:=by decide
 have s3:3<=sizeLine:=by decide
 have s12:12<=sizeLine:=by decide
 have a1:=ok.r1
 have a2:=ok'.r1
 have b1:=ok.r24
 have b2:=ok'.r24
 have in24:∀p∈ps,p.1<24/\p.2<24:=λp hp=>by have:=inn p hp;omega
 unfold zix zry
 dsimp! only [zbc]
 generalize hM:mD A t=dM
 generalize hO:mD A g=dO
 have e1:∀(T:Sto) (Q':D->Sto->Prop),Wo (zaj dM (.int 1) T) Q' = Q' (.tup (t.map roD)) T:=λT Q'=>by rw [<-hM];unfold mD;rw [zcd];exact zbo
 have e2:∀(T:Sto) (Q':D->Sto->Prop),Wo (zaj dO (.int 1) T) Q' = Q' (.tup (g.map roD)) T:=λT Q'=>by rw [<-hO];unfold mD;rw [zcd];exact zbo
 refine zaz (λl S'=>∃w:Nat,w<10/\PQ ns (c+1) S'/\Fn S S'/\l=[~~~2,~~~n,some dM,some dO,‹w›,none,none,none,none,none]) ?_ ?_
 ·simp! only [zak]
  refine (zbj h (by omega) (by decide) (by decide)).mono ?_
  rintro v S1 ⟨d,rfl,hd,p1,f1⟩
  exact ⟨nofun,d,by omega,p1,f1,rfl⟩
 rintro l S1 ⟨w,hw,p1,f1,rfl⟩
 refine zaz (λl S'=>∃a:Nat,a<ps.length/\PQ ns (c+2) S'/\Fn S S'/\l=[~~~2,~~~n,some dM,some dO,‹w›,‹a›,none,none,none,none]) ?_ ?_
 ·simp! only [zay (f1 _ _ n2 hn),qlm]
  refine (zbj p1 (by omega) (by omega) (by omega)).mono ?_
  rintro v S2 ⟨d,rfl,hd,p2,f2⟩
  exact ⟨nofun,d,by omega,p2,f1.trans f2,rfl⟩
 rintro l S2 ⟨a,ha,p2,f2,rfl⟩
 refine zaz (λl S'=>∃q:BF.P,q.1<t.length/\q.2<g.length/\PQ ns (c+4) S'/\Fn S S'/\l=[~~~2,~~~n,some dM,some dO,‹w›,‹a›,some (pD q),none,none,none]) ?_ ?_
 ·simp! only [e1,qlm]
  refine (zbj p2 (by omega) (by omega) (by omega)).mono ?_
  rintro v S3 ⟨d,rfl,hd,p3,f3⟩
  simp! only [e2,qlm]
  refine (zbj p3 (by omega) (by omega) (by omega)).mono ?_
  rintro v S4 ⟨d',rfl,hd',p4,f4⟩
  simp! only [s2,true_and]
  exact ⟨(d,d'),by show d<_;omega,by show d' < _;omega,p4,f2.trans (f3.trans f4),rfl⟩
 rintro l S4 ⟨q,hq1,hq2,p4,f4,rfl⟩
 refine zaz (λl S'=>∃od:Nat,od<13/\PQ ns (c+5) S'/\Fn S S'/\l=[~~~2,~~~n,some dM,some dO,‹w›,‹a›,some (pD q),‹od›,none,none]) ?_ ?_
 ·simp! only [zak]
  refine (zbj p4 (by omega) (by decide) (by decide)).mono ?_
  rintro v S5 ⟨d,rfl,hd,p5,f5⟩
  exact ⟨nofun,d,by omega,p5,f4.trans f5,rfl⟩
 rintro l S5 ⟨od,hod,p5,f5,rfl⟩
 have hn5:=f5 _ _ n2 hn
 have l5:=p5.lt
 have fl5:=f5.len l5
 refine zaz (λl T=>∃k,S.length<=k/\3<=k/\n<k/\T.length=k+1/\T[k]? = some (.lst (ps.map pD))/\T[n]? = some (.lst (ps.map pD))/\PQ ns (c+5) T/\Fn S T/\l=[~~~2,~~~n,some dM,some dO,‹w›,‹a›,some (pD q),‹od›,~~~k,none]) ?_ ?_
 ·simp! only [zs7 (zay hn5)]
  exact ⟨nofun,_,fl5,l5,(qme hn5).1,by simp,zba,zas hn5,p5.gr ⟨_,rfl⟩,f5.trans (Fn.gr ⟨_,rfl⟩),rfl⟩
 clear p5 f5 hn5 l5 fl5
 rintro l S6 ⟨k,lk,k3,nk,lenS,hk,hn6,p6,f6,rfl⟩
 have hap:L2.atI (ps.map pD) (a:Int)=some (pD ps[a]):=atI_get (by rw [qgm,qge ha];rfl)
 have hpa:=in24 _ (List.getElem_mem ha)
 have hq24:q.1<1000/\q.2<1000:=by omega
 have prs:∀y∈ps.map pD,∃p:BF.P,y=pD p/\p.1<1000/\p.2<1000:=λy hy=>by
  obtain ⟨p,hp,rfl⟩:=List.mem_map.mp hy
  have:=in24 p hp
  exact ⟨p,rfl,by omega,by omega⟩
 have od0:∀T,OdT T (pD (0,0)):=λT=>zn7 (by decide) (by decide)
 have hlm:(ps.map pD).length=ps.length:=qlm ..
 have setA:∀{T:Sto} {v:D},T[k]? = some (.lst (ps.map pD))->zd3 (.ref k) (.int (a:Int)) v T=some (T.set k (.lst ((ps.map pD).set a v))):=λ{T v} e=>by
  have hix:L2.ixN (ps.map pD).length (a:Int)=some a:=by unfold L2.ixN;rw [hlm,if_pos (by omega),if_pos (by omega)];simp
  unfold zd3;dsimp only;rw [e];dsimp only;rw [hix];rfl
 have memA:∀{v y:D},y∈(ps.map pD).set a v->(∃p:BF.P,y=pD p/\p.1<1000/\p.2<1000)\/y=v:=λ{v y} hy=>by
  rcases List.mem_or_eq_of_mem_set hy with z|z
  ·exact .inl (prs y z)
  ·exact .inr z
 refine zaz (RbP ns c ps.length S [~~~2,~~~n,some dM,some dO,‹w›,‹a›,some (pD q),‹od›]) ?_ ?_
 ·by_cases w3:(w:Int)<3
  ·rw [zbm]
   simp_all! only [w3,decide_true,if_true]
   rw [zcb,zca]
   simp_all! only [zf7 hk,zf9,true_and]
   obtain ⟨y,hy,hq⟩:=zsi (i:=(a:Int)) hk (by omega) (by rw [hlm];omega) (by rw [hlm];omega)
   rw [hq]
   refine .mk _ _ ?_ rfl
   refine zhz (x:=pD (0,0)) (zgw hk) ?_ (by omega) (λy hy=>.inl (prs y (List.mem_of_mem_eraseIdx hy))) (od0 _) (p6.setN k3) (by omega) (f6.setN lk)
   have:=List.length_eraseIdx_le (ps.map pD) (a:Int).toNat
   omega
  rw [zbm]
  simp_all! only [w3,decide_false,qbf,if_false]
  by_cases w4:(w:Int)=3
  ·rw [zbm]
   simp_all! only [w4,decide_true,if_true]
   rw [zcb,zca]
   simp_all! only [zf7 hk,zf9,true_and]
   rw [ybt hk (by omega) (by omega)]
   refine .mk _ _ ?_ rfl
   refine zhz (x:=pD (0,0)) (zgw hk) ?_ (by omega) (λy hy=>.inl ?_) (od0 _) (p6.setN k3) (by omega) (f6.setN lk)
   ·simp only [qla,List.length_take,List.length_drop,List.length_cons,List.length_nil];omega
   ·simp only [List.mem_append,List.mem_singleton] at hy
    rcases hy with (z|z)|z
    ·exact prs y (List.mem_of_mem_take z)
    ·exact ⟨q,z,hq24⟩
    ·exact prs y (List.mem_of_mem_drop z)
  rw [zbm]
  simp_all! only [w4,decide_false,qbf,if_false]
  by_cases w5:(w:Int)=4
  ·rw [zbm]
   simp_all! only [w5,decide_true,if_true,zbg,zay hn6,hap,e1,qlm]
   refine (yeo p6 (by omega) b1 hpa.1 hpa.2).mono ?_
   rintro v S7 ⟨bs,p7,f7⟩
   have hk7:=f7 _ _ (by omega) hk
   refine ⟨_,setA hk7,?_⟩
   refine ⟨nofun,.mk _ _ ?_ rfl⟩
   refine zhz (x:=v) (zgw hk7) (by rw [List.length_set,hlm];omega) (by omega) (λy hy=>memA hy) ?_ (p7.setN k3) (by omega) ((f6.trans f7).setN lk)
   exact (bs.up λj o mj e=>zf6 e (by omega)).odT
  rw [zbm]
  simp_all! only [w5,decide_false,qbf,if_false]
  by_cases w6:(w:Int)=5
  ·rw [zbm]
   simp_all! only [w6,decide_true,if_true]
   refine zaz (λl T=>∃i0 i1 i2 i3,Gr S6 T/\k<i0/\k<i1/\k<i2/\T[i0]? = some (.lst [])/\T[i1]? = some (.dct [])/\T[i2]? = some (.lst [.int 0,.int 0])/\T[i3]? = some (.lst (ztk i0 i1 i2))/\l=[~~~2,~~~n,some dM,some dO,some (.int 5),‹a›,some (pD q),‹od›,~~~k,~~~i3]) ?_ ?_
   ·simp only [zbg,zbe,zbt,za6,zbk,zbv,zc7,zcp,List.length_cons,List.length_nil,Nat.reduceAdd,Nat.zero_le,s1,s2,s3,s12,true_and,zn8,za0,qs0,qs1]
    refine ⟨_,_,_,_,?_,?_,?_,?_,zas (zas (zas zba)),zas (zas zba),zas zba,zba,rfl⟩
    ·exact (((Gr.refl S6).push _).push _).push _ |>.push _
    ·omega
    ·rw [qla];omega
    ·rw [qla,qla];omega
   rintro l T ⟨i0,i1,i2,i3,gT,k0,k1,k2,h0,h1',h2,h3',rfl⟩
   have lT:k<T.length:=by have:=(qme h0).1;omega
   have hkT:=gT.get hk
   simp only [zbg,zbt,zbe,za6,zbk,zak,qg0,qg1,za7,yes,zcp,List.length_cons,List.length_nil,Nat.reduceAdd,s1,true_and]
   rw [zim (zas (zas h3')) zba]
   refine ⟨by simp [ztk];omega,?_⟩
   simp only [zc4,zcx,zbo]
   obtain ⟨x,hx,e⟩:=zlr (xs:=els i0 i1 i2 T.length) (i:=od) (by show od<13;omega)
   refine ⟨x,e,?_⟩
   simp only [zdn,zak,qg0,qg1,za7]
   refine ⟨_,setA (zas (zas (zas hkT))),?_⟩
   refine .mk _ _ ?_ rfl
   refine zhz (x:=x) (zgw (zas (zas (zas hkT)))) (by rw [List.length_set,hlm];omega) (by omega) (λy hy=>memA hy) ?_ (((p6.gr gT).gr ((((Gr.refl T).push _).push _).push _)).setN k3) (by omega) ((f6.trans ((Fn.gr gT).trans (Fn.gr ((((Gr.refl T).push _).push _).push _)))).setN lk)
   exact yep (zf6 (zas (zas (zas h0))) (by omega)) (zf6 (zas (zas (zas h1'))) (by omega)) (zf6 (zas (zas (zas h2))) (by omega)) (zf6 (zas (zas zba)) (by omega)) x hx
  rw [zbm]
  simp_all! only [w6,decide_false,qbf,if_false]
  by_cases w7:(w:Int)=6
  ·rw [zbm]
   simp_all! only [w7,decide_true,if_true]
   refine zaz (λl T=>∃i1 i2 i3 j3 i4 i6,Gr S6 T/\T[i1]? = some (.dct [])/\T[i2]? = some (.lst [])/\T[j3]? = some (.lst [])/\T[i3]? = some (.lst [.ref j3])/\T[i4]? = some (.lst [.ref n])/\T[i6]? = some (.lst (ztl ps i1 i2 i3 i4))/\l=[~~~2,~~~n,some dM,some dO,some (.int 6),‹a›,some (pD q),‹od›,~~~k,~~~i6]) ?_ ?_
   ·simp only [zbg,zbe,zbt,za6,zbk,zbv,zak,qg0,qg1,za7,zdh,zay hn6,zbo,zc7,zcp,List.length_cons,List.length_nil,Nat.reduceAdd,Nat.zero_le,s1,s2,s3,s12,true_and,zn8,za0,qs0,qs1]
    refine ⟨_,_,_,_,_,_,?_,zas (zas (zas (zas (zas zba)))),zas (zas (zas (zas zba))),zas (zas (zas zba)),zas (zas zba),zas zba,zba,rfl⟩
    exact ((((((Gr.refl S6).push _).push _).push _).push _).push _).push _
   rintro l T ⟨i1,i2,i3,j3,i4,i6,gT,h1',h2,hj3,h3',h4,h6,rfl⟩
   have hnT:=gT.get hn6
   simp only [zbg,zbt,zbe,za6,zbk,zak,qg0,qg1,za7,yet,zcp,List.length_cons,List.length_nil,Nat.reduceAdd,s1,true_and]
   rw [zim (zas (zas h6)) zba]
   refine ⟨by simp [ztl];omega,?_⟩
   simp only [zc4,zcx,zbo]
   obtain ⟨x,hx,e⟩:=zlr (xs:=ths ps n i1 i2 i3 i4 T.length) (i:=od) (by show od<13;omega)
   refine ⟨x,e,?_⟩
   simp only [za0,qs0,qs1]
   have inn9:∀p∈ps,p.1<1000/\p.2<1000:=λp hp=>by have:=in24 p hp;omega
   refine .mk _ _ ?_ rfl
   exact yeq (c:=c) (L:=ps.length) inn9 (by omega) (zas (zas (zas hnT))) (zas (zas (zas h1'))) (zas (zas (zas h2))) (zas (zas (zas h3'))) (zas (zas (zas hj3))) (zas (zas (zas h4))) (zas (zas zba)) ((p6.gr gT).gr ((((Gr.refl T).push _).push _).push _)) (by omega) (f6.trans ((Fn.gr gT).trans (Fn.gr ((((Gr.refl T).push _).push _).push _)))) x hx
  rw [zbm]
  simp_all! only [w7,decide_false,qbf,if_false]
  by_cases w8:(w:Int)=7
  ·rw [zbm]
   simp_all! only [w8,decide_true,if_true]
   rw [zbg]
   refine zjr (ps.map pD) (λi acc l T=>T=S6/\acc.length<=i/\(∀y∈acc,y∈ps.map pD)/\∃x0,l=[x0]) (zhe (n:=n) rfl (zay hn6)) ⟨rfl,by simp,(λy hy=>by cases hy),_,rfl⟩ (λi acc l T h=>by obtain ⟨rfl,_⟩:=h;exact zf4 (zay hn6)) ?_ ?_
   ·rintro i x acc l T hx ⟨rfl,hal,hac,x0,rfl⟩
    have hxm:=qmg hx
    obtain ⟨p,rfl,hp1,hp2⟩:=prs x hxm
    obtain ⟨b,hb⟩:=yer (S:=T) hp1 hp2
    simp only [za0,qs0]
    simp_all! only [s2,true_and,hb]
    cases b with
    | true =>
     simp only [if_true]
     refine ⟨?_,λy hy=>?_,_,rfl⟩
     ·rw [qla];simp;omega
     ·rcases List.mem_append.mp hy with z|z
      ·exact hac y z
      ·rw [List.mem_singleton.mp z];exact hxm
    | false =>
     simp only [qbf,if_false]
     exact ⟨by omega,hac,_,rfl⟩
   ·rintro acc l' T ⟨rfl,hal,hac,_⟩
    rw [hlm] at hal
    refine ⟨by omega,?_⟩
    simp only [za0,qs0,qs1]
    refine ⟨nofun,.mk _ _ ?_ rfl⟩
    exact zhz (x:=pD (0,0)) zba (by omega) (by omega) (λy hy=>.inl (prs y (hac y hy))) (od0 _) (p6.gr ⟨_,rfl⟩) (by omega) (f6.trans (Fn.gr ⟨_,rfl⟩))
  rw [zbm]
  simp_all! only [w8,decide_false,qbf,if_false]
  by_cases w9:(w:Int)=8/\((ps.length:Nat):Int)<290
  ·obtain ⟨w9,wl⟩:=w9
   rw [zbm]
   simp_all! only [w9,decide_true,if_true,zay hn6,hlm,wl]
   have ecut:cutD (ps.map pD) none (some ((a:Int)+1))=(ps.map pD).take (a+1):=by
    rw [show (a:Int)+1=((a+1:Nat):Int) by push_cast;rfl]
    exact zlh _ _ (by omega)
   simp only [zbg,zbt,zbe,za6,zbk,zak,qg0,qg1,za7,zcp,List.length_cons,List.length_nil,Nat.reduceAdd,s1,true_and]
   rw [zim (zas hk) zba]
   refine ⟨by simp;omega,?_⟩
   try simp_all! only [zak]
   rw [zrd (zay (zas (zas hk))),ecut]
   rw [zim (zas zba) zba]
   refine ⟨by simp only [qla,List.length_take,List.length_cons,List.length_nil];omega,?_⟩
   try simp only [za0,qs0,qs1]
   refine .mk _ _ ?_ rfl
   refine zhz (x:=pD (0,0)) zba ?_ (by omega) (λy hy=>.inl ?_) (od0 _) (p6.gr ((((((Gr.refl S6).push _).push _).push _)).push _)) (by omega) (f6.trans (Fn.gr ((((((Gr.refl S6).push _).push _).push _)).push _)))
   ·simp only [qla,List.length_take,List.length_cons,List.length_nil];omega
   ·simp only [List.mem_append,List.mem_singleton] at hy
    rcases hy with (z|z)|z
    ·exact prs y z
    ·exact ⟨q,z,hq24⟩
    ·exact prs y (List.mem_of_mem_take z)
  ·have hif:∀Q':Bool->Sto->Prop,Q' false S6->Wt (zc5 (tE (eOp dEq (zaa 4) (eC (.int 8)))) (tE (eOp dLt (zaf zbh (zab (zaa 1) (zae))) (eC (.int 290))))) [~~~2,~~~n,some dM,some dO,‹w›,‹a›,some (pD q),‹od›,~~~k,none] S6 Q':=λQ' z=>by
    by_cases w9':(w:Int)=8
    ·have wl:¬((ps.length:Nat):Int)<290:=λz=>w9 ⟨w9',z⟩
     simp_all! only [w9',decide_true,if_true,zay hn6,hlm,wl,decide_false]
     exact z
    ·simp_all! only [w9',decide_false,qbf,if_false]
     exact z
   refine zcy (λb T=>b=false/\T=S6) (hif _ ⟨rfl,rfl⟩) (λT z=>by cases z.1) ?_
   rintro T ⟨_,rfl⟩
   rw [zbg]
   have hord:=zsl p6 (by omega) (many:=ps.length) (by omega)
   obtain ⟨v,S7,ev,m,os,rfl,hm,hs7,pm,p7,f7⟩:=hord
   have hn7:=f7 _ _ n2 hn6
   have hen:zaf zf8 (zab (zaa 0) (zab (zaf zbh (zab (zaa 1) (zae))) (zae))) [~~~2,~~~n,some dM,some dO,‹w›,‹a›,some (pD q),‹od›,~~~k,none] T=some (.ref m,S7):=by
    have:We (zaf zf8 (zab (zaa 0) (zab (zaf zbh (zab (zaa 1) (zae))) (zae)))) [~~~2,~~~n,some dM,some dO,‹w›,‹a›,some (pD q),‹od›,~~~k,none] T λv S'=>v=.ref m/\S' = S7:=by
     simp only [zbe,za6,zbk,zak,qg0,qg1,za7,zed,zay hn6,zbo,hlm]
     exact ⟨_,_,ev,rfl,rfl⟩
    obtain ⟨v,S',e,rfl,rfl⟩:=this
    exact e
   have hol:os.length=ps.length:=by rw [pm.length_eq,List.length_range]
   refine zjr (os.map nD) (λi acc l T'=>T' = S7/\acc.length<=i/\(∀y∈acc,y∈ps.map pD)/\∃x0,l=[x0,~~~n]) (zhe hen (zay hs7)) ⟨rfl,by simp,(λy hy=>by cases hy),_,rfl⟩ (λi acc l T' h=>by obtain ⟨rfl,_⟩:=h;exact zf4 (zay hs7)) ?_ ?_
   ·rintro i x acc l T' hx ⟨rfl,hal,hac,x0,rfl⟩
    have hxm:=qmg hx
    obtain ⟨j,hj,rfl⟩:=List.mem_map.mp hxm
    have hjl:j<ps.length:=List.mem_range.mp (pm.mem_iff.mp hj)
    have hat:L2.atI (ps.map pD) (j:Int)=some (pD ps[j]):=atI_get (by rw [qgm,qge hjl];rfl)
    unfold nD
    simp only [za0,qs0]
    rw [zkt,if_pos rfl]
    simp only [zbt,zak,qg0,qg1,za7,zc4,zay hn7,zbo,hat]
    refine ⟨nofun,?_,λy hy=>?_,_,rfl⟩
    ·rw [qla];simp;omega
    ·rcases List.mem_append.mp hy with z|z
     ·exact hac y z
     ·rw [List.mem_singleton.mp z];exact List.mem_map.mpr ⟨_,List.getElem_mem hjl,rfl⟩
   ·rintro acc l' T' ⟨rfl,hal,hac,_⟩
    rw [qlm,hol] at hal
    refine ⟨by omega,?_⟩
    simp only [za0,qs0,qs1]
    refine ⟨nofun,.mk _ _ ?_ rfl⟩
    exact zhz (x:=pD (0,0)) zba (by omega) (by omega) (λy hy=>.inl (prs y (hac y hy))) (od0 _) (p7.gr ⟨_,rfl⟩) (by omega) ((f6.trans f7).trans (Fn.gr ⟨_,rfl⟩))
 rintro l T ⟨v,x9,o,rfl⟩
 simp! only [zak]
 exact ⟨o⟩
theorem yeu (ns:List Int) (hl:ns.length<=63):L3.cutD (ns.map D.int) none (some 63)=ns.map D.int:=by
 unfold L3.cutD
 rw [HT.sIx_none,show (63:Int)=((63:Nat):Int) from rfl,HT.sIx_nat]
 rw [List.drop_zero,List.take_of_length_le (by rw [qlm];omega)]
theorem yev {S:Sto}{n:Nat}{xs:List D}(h:S[n]? = some (.flst xs)):lstOf S n=some xs:=by unfold lstOf;rw [h]
theorem ztn {w:Str}(h:w = "says"\/w = "goes"\/w = "behind"\/w = "shape"\/w = "begin"):(PyData.str w).canLay0=true:=by
 rcases h with rfl|rfl|rfl|rfl|rfl <;> unfold PyData.canLay0 <;> decide +kernel
theorem zlt {T:Sto}{k:Nat}{w:Str}:zat T (k+2) (.tup [.str w])=some (.tuple [.str w]):=by
 unfold zat pyAll pyAll zat;rfl
theorem zto {w:Str}(h:w = "shape"\/w = "begin"):(PyData.tuple [.str w]).canLay0=true:=by
 have:=ztn (w:=w) (by rcases h with e|e <;> simp [e])
 unfold PyData.canLay0 PyData.canLayAll0 PyData.canLayAll0
 rw [this];rfl
theorem yew {t g:List (List Cl)}{S:Sto}{d v:D}(h:Res t g S d v):∃b,(∀(T:Sto) (Q:D->Sto->Prop),Wo (zhh true v (.tup [.tup [.str "shape"],.tup [.str "begin"]]) T) Q=Q (.bl b) T)/\(b=true->∃n ps,d=.ref n/\S[n]? = some (.lst (ps.map pD))/\InR t g ps/\(0,0)∈ps):=by
 have c1:=zto (w:="shape") (.inl rfl)
 have c2:=zto (w:="begin") (.inr rfl)
 have ca:PyData.canLayAll0 [.tuple [.str "shape"],.tuple [.str "begin"]]=true:=by
  unfold PyData.canLayAll0 PyData.canLayAll0 PyData.canLayAll0
  rw [c1,c2];rfl
 have pa:∀T:Sto,pyAll T 60 [.tup [.str "shape"],.tup [.str "begin"]]=some [.tuple [.str "shape"],.tuple [.str "begin"]]:=λT=>by
  unfold pyAll pyAll pyAll
  rw [zlt (k:=58),zlt (k:=58)];rfl
 have key:∀p:PyData,p.canLay0=true->(∀T,zat T 60 v=some p)->∀(T:Sto) (Q:D->Sto->Prop),Wo (zhh true v (.tup [.tup [.str "shape"],.tup [.str "begin"]]) T) Q=Q (.bl (!([.tuple [.str "shape"],.tuple [.str "begin"]]:List PyData).any λq=>q.eqv p)) T:=λp cp hp T Q=>by
  have:zhh true v (.tup [.tup [.str "shape"],.tup [.str "begin"]]) T=some (.bl (!([.tuple [.str "shape"],.tuple [.str "begin"]]:List PyData).any λq=>q.eqv p),T):=by
   unfold zhh
   dsimp only
   rw [hp T]
   dsimp only [Option.bind_some]
   rw [pa T]
   dsimp only [Option.bind_some]
   rw [if_pos ⟨cp,ca⟩,if_pos rfl]
  rw [this,zbb]
 cases h with
 | shp e =>
  subst e
  refine ⟨_,key _ c1 (λT=>zlt (k:=58)),λz=>?_⟩
  rw [List.any_cons,PySem.SeqAt.eqv_refl _ c1] at z
  cases z
 | beg e =>
  subst e
  refine ⟨_,key _ c2 (λT=>zlt (k:=58)),λz=>?_⟩
  rw [List.any_cons,List.any_cons,PySem.SeqAt.eqv_refl _ c2,Bool.true_or,Bool.or_true] at z
  cases z
 | lst n ps ed hn inn hz hl f =>
  have:∃p:PyData,p.canLay0=true/\∀T,zat T 60 v=some p:=by
   cases f with
   | non=>exact ⟨.none,rfl,λT=>by unfold zat;rfl⟩
   | tri w k a hw hk ha =>
    refine ⟨.tuple [.str w,.int (k:Int),.int (a:Int)],?_,λT=>?_⟩
    ·have:=ztn (w:=w) (by rcases hw with e|e|e <;> simp [e])
     unfold PyData.canLay0 PyData.canLayAll0 PyData.canLayAll0
     rw [this]
     simp [PyData.canLay0,PyData.canLayAll0]
    ·have e:∀x:Nat,x<=1000->zat T 59 (.int (x:Int))=some (.int (x:Int)):=λx hx=>by
      unfold zat
      rw [if_pos (zla (by omega))]
     have e0:zat T 59 (.str w)=some (.str w):=by unfold zat;rfl
     unfold zat pyAll pyAll pyAll pyAll
     rw [e0,e k hk,e a (by omega)];rfl
  obtain ⟨p,cp,hp⟩:=this
  exact ⟨_,key p cp hp,λ_=>⟨n,ps,ed,hn,inn,hz⟩⟩
theorem law_true (ns:List Int) (hl:ns.length<=63):∃S',zhj [.ref 0] [.flst (ns.map D.int)]=some (.bl true,S'):=by
 have sz:=zcs
 have s2:2<=sizeLine:=by omega
 have s1:1<=sizeLine:=by omega
 suffices h:Wo (zhj [.ref 0] [.flst (ns.map D.int)]) λv S'=>v=.bl true by
  obtain ⟨v,S',e,rfl⟩:=h
  exact ⟨S',e⟩
 unfold zhj zr7
 dsimp! only [zbc]
 refine zaz (λl S=>l=[~~~0,~~~2,none,none,none,none,none,none,none,none,none]/\PQ ns 0 S) ?_ ?_
 ·simp only [zbg,zbe,za6,zbk,zak,qg0,za7]
  unfold zld zr6
  simp! only [zak]
  rw [zrd (yev (n:=0) rfl),yeu ns hl]
  exact ⟨by omega,nofun,nofun,0,0,rfl,rfl,by decide,by decide,by decide⟩
 rintro l S ⟨rfl,p0⟩
 refine zdy (λl S=>True) (λd S=>False) ?_ ?_ (λd l1 S1 o=>o.elim)
 ·refine zhf (λu l S1=>(∃x2 x3 x4 x5 x6 x7 x8 x9 x10,l=[~~~0,~~~2,x2,x3,x4,x5,x6,x7,x8,x9,x10])/\PQ ns (30000*u) S1) (λ_ _=>False) (n:=2) rfl (by decide) ⟨⟨_,_,_,_,_,_,_,_,_,rfl⟩,p0⟩ ?_ (λl' S' _=>.inl ⟨rfl,trivial⟩) (λd l' S' z=>z.elim)
  rintro u l S1 hu ⟨⟨x2,x3,x4,x5,x6,x7,x8,x9,x10,rfl⟩,p1⟩
  simp only [za0,qs0,qs1]
  refine zaz (λl S'=>∃w:Nat,w<4/\PQ ns (30000*u+1) S'/\l=[~~~0,~~~2,‹u›,‹w›,x4,x5,x6,x7,x8,x9,x10]) ?_ ?_
  ·simp! only [zak]
   refine (zbj p1 (by omega) (by decide) (by decide)).mono ?_
   rintro v S2 ⟨d,rfl,hd,p2,f2⟩
   exact ⟨nofun,d,by omega,p2,rfl⟩
  rintro l S2 ⟨w,hw,p2,rfl⟩
  refine zaz (λl S'=>∃b:Bool,PQ ns (30000*u+2) S'/\l=[~~~0,~~~2,‹u›,‹w›,some (.bl b),x5,x6,x7,x8,x9,x10]) ?_ ?_
  ·simp! only [zak]
   refine (zbj p2 (by omega) (by decide) (by decide)).mono ?_
   rintro v S3 ⟨d,rfl,hd,p3,f3⟩
   simp! only [zak]
   exact ⟨nofun,_,p3,rfl⟩
  rintro l S3 ⟨gr,p3,rfl⟩
  refine zaz (λl S'=>∃(A:Nat) (t:List (List Cl)),OkM A t/\PQ ns (30000*u+800) S'/\l=[~~~0,~~~2,‹u›,‹w›,some (.bl gr),some (mD A t),x6,x7,x8,x9,x10]) ?_ ?_
  ·simp! only [zak]
   refine (zbj p3 (by omega) (by decide) (by decide)).mono ?_
   rintro v S4 ⟨d,rfl,hd,p4,f4⟩
   obtain ⟨m,hm,hm1,hm2⟩:∃m:Nat,L2.atI [D.int 8,.int 24] (if gr=true then 1 else 0)=some (.int (m:Int))/\1<=m/\m<=24:=by
    cases gr with
    | true=>exact ⟨24,rfl,by decide,by decide⟩
    | false=>exact ⟨8,rfl,by decide,by decide⟩
   simp! only [s2,true_and,hm]
   refine (zbj (p4.gr ⟨_,rfl⟩) (by omega) (by omega) (by omega)).mono ?_
   rintro v S5 ⟨e,rfl,he,p5,f5⟩
   simp! only [zak]
   rw [show (1:Int)+(d:Int)=((1+d:Nat):Int) by omega,show (1:Int)+(e:Int)=((1+e:Nat):Int) by omega]
   refine (zsh p5 (by omega) (by omega) (by omega) (by omega) (by omega)).mono ?_
   rintro v S6 ⟨t,rfl,ok,tl,p6,f6⟩
   exact ⟨1+d,t,ok,p6.mono (by omega),rfl⟩
  rintro l S4 ⟨A,t,ok,p4,rfl⟩
  refine zaz (λl S'=>∃(g:List (List Cl)),OkM A g/\PQ ns (30000*u+1400) S'/\l=[~~~0,~~~2,‹u›,‹w›,some (.bl gr),some (mD A t),some (mD A g),x7,x8,x9,x10]) ?_ ?_
  ·simp! only [zak]
   refine (ydt p4 (by omega) ok).mono ?_
   rintro v S5 ⟨k,g2,od,g3,rfl,k2,h24,cp,nm,p5,f5⟩
   exact ⟨nofun,g3,nm.ok (cp.ok ok h24),p5.mono (by omega),rfl⟩
  rintro l S5 ⟨g,okg,p5,rfl⟩
  refine zaz (λl S'=>∃(g:List (List Cl)),OkM A g/\PQ ns (30000*u+2400) S'/\l=[~~~0,~~~2,‹u›,‹w›,some (.bl gr),some (mD A t),some (mD A g),x7,x8,x9,x10]) ?_ ?_
  ·refine zcy (λb S'=>S' = S5) ?_ ?_ ?_
   ·simp_all! only [zak]
    all_goals first|exact nofun|exact ⟨_,rfl,nofun⟩
   ·rintro S6 rfl
    have e0:∀(T:Sto) (Q':D->Sto->Prop),Wo (zaj (mD A t) (.int 0) T) Q' = Q' (.int (A:Int)) T:=λT Q'=>by unfold mD;rw [zcd];exact zbo
    simp! only [e0]
    refine (zbj p5 (by omega) (by decide) (by decide)).mono ?_
    rintro v S6 ⟨e,rfl,he,p6,f6⟩
    simp! only [zak]
    rw [show (1:Int)+(e:Int)=((1+e:Nat):Int) by omega]
    refine (zsh p6 (by omega) (by omega) (by omega) ok.a1 ok.a4).mono ?_
    rintro v S7 ⟨g',rfl,ok',gl',p7,f7⟩
    exact ⟨nofun,g',ok',p7.mono (by omega),rfl⟩
   ·rintro S6 rfl
    simp! only [zak]
    exact ⟨nofun,g,okg,p5.mono (by omega),rfl⟩
  clear okg p5
  rintro l S5 ⟨g,okg,p5,rfl⟩
  refine zaz (λl S'=>∃(g:List (List Cl)),OkM A g/\PQ ns (30000*u+2500) S'/\l=[~~~0,~~~2,‹u›,‹w›,some (.bl gr),some (mD A t),some (mD A g),x7,x8,x9,x10]) ?_ ?_
  ·refine zcy (λb S'=>S' = S5) ?_ ?_ ?_
   ·simp_all! only [zak]
    all_goals first|exact nofun|exact ⟨_,rfl,nofun⟩
   ·rintro S6 rfl
    simp! only [zak]
    refine (ydy p5 (by omega) okg).mono ?_
    rintro v S7 ⟨g',rfl,ok',gl',p7,f7⟩
    exact ⟨nofun,g',ok',p7.mono (by omega),rfl⟩
   ·rintro S6 rfl
    simp! only [zak]
    exact ⟨nofun,g,okg,p5.mono (by omega),rfl⟩
  clear okg p5
  rintro l S6 ⟨g,okg,p6,rfl⟩
  have l6:=p6.lt
  have b1:=ok.r24
  have b2:=okg.r24
  generalize hM:mD A t=dM
  generalize hO:mD A g=dO
  refine zaz (λl S'=>∃(n:Nat) (ps:List BF.P),3<=n/\S'[n]? = some (.lst (ps.map pD))/\1<=ps.length/\ps.length<=576/\InR t g ps/\PQ ns (30000*u+2500) S'/\l=[~~~0,~~~2,‹u›,‹w›,some (.bl gr),some dM,some dO,~~~n,x8,x9,x10]) ?_ ?_
  ·rw [<-hM,<-hO]
   simp! only [zak]
   refine (yeh ok okg).mono ?_
   rintro v S7 ⟨ps,rfl,ld⟩
   exact ⟨nofun,_,ps,l6,ld.hl,ld.one,ld.few ok okg,ld.inn,p6.gr ld.g0,rfl⟩
  rintro l S7 ⟨n,ps,n3,hn,hp1,hp2,inn,p7,rfl⟩
  have thg:∀{T:Sto},T[n]? = some (.lst (ps.map pD))->Thg T (.ref n)/\Rp T (.ref n):=λ{T} e=>zti (x:=pD (0,0)) e (by rw [qlm];omega) (λy hy=>by
   obtain ⟨p,hp,rfl⟩:=List.mem_map.mp hy
   have:=inn p hp
   exact .inl ⟨p,rfl,by omega,by omega⟩) (zn7 (by decide) (by decide))
  refine zaz (λl S'=>S'[n]? = some (.lst (ps.map pD))/\PQ ns (30000*u+2500) S'/\l=[~~~0,~~~2,‹u›,‹w›,some (.bl gr),some dM,some dO,~~~n,x8,x9,x10]) ?_ ?_
  ·refine zcy (λb S'=>b=false/\Gr S7 S') ?_ ?_ ?_
   ·rw [<-hM,<-hO]
    obtain ⟨t1,t2⟩:=thg hn
    simp_all! only [zak]
    refine (ztd ok okg t1 t2).mono ?_
    rintro v S8 ⟨rfl,g8⟩
    simp only [zb0,Bool.not_true,qbf,if_false]
    refine (yee ok okg (g8.get hn) hp1 (by omega) inn).mono ?_
    rintro v S9 ⟨rfl,g9⟩
    simp only [zb0,Bool.not_true]
    exact ⟨nofun,g8.trans g9⟩
   ·rintro S8 ⟨e,_⟩;cases e
   ·rintro S8 ⟨_,g8⟩
    simp! only [zak]
    exact ⟨nofun,g8.get hn,p7.gr g8,nofun⟩
  rintro l S8 ⟨hn8,p8,rfl⟩
  refine zhf (n:=6) (λi l S'=>S'[n]? = some (.lst (ps.map pD))/\PQ ns (30000*u+2500+2000*i) S'/\∃x8 x9 x10,l=[~~~0,~~~2,‹u›,‹w›,some (.bl gr),some dM,some dO,~~~n,x8,x9,x10]) (λ_ _=>False) rfl (by decide) ⟨hn8,p8,_,_,_,rfl⟩ ?_ ?_ (λ_ _ _ z=>z.elim)
  ·rintro i l S9 hi ⟨hn9,p9,y8,y9,y10,rfl⟩
   simp only [za0,qs0,qs1]
   refine zaz (λl S'=>∃b:Bool,S'[n]? = some (.lst (ps.map pD))/\PQ ns (30000*u+2500+2000*i+1) S'/\l=[~~~0,~~~2,‹u›,‹w›,some (.bl gr),some dM,some dO,~~~n,‹i›,some (.bl b),y10]) ?_ ?_
   ·simp! only [zak]
    refine (zbj p9 (by omega) (by decide) (by decide)).mono ?_
    rintro v S10 ⟨d,rfl,hd,p10,f10⟩
    simp! only [zak]
    exact ⟨nofun,_,f10 _ _ (by omega) hn9,p10,rfl⟩
   rintro l S10 ⟨tw,hn10,p10,rfl⟩
   refine zaz (λl S'=>∃v,S'[n]? = some (.lst (ps.map pD))/\Thg S' v/\Rp S' v/\(∀m xs,v=.ref m->S'[m]? = some (.lst xs)->xs.length<=580)/\PQ ns (30000*u+2500+2000*i+701) S'/\l=[~~~0,~~~2,‹u›,‹w›,some (.bl gr),some dM,some dO,~~~n,‹i›,some (.bl tw),some v]) ?_ ?_
   ·rw [<-hM,<-hO]
    simp! only [zak]
    refine (ztm p10 (by omega) ok okg hn10 (by omega) hp1 (by omega) inn).mono ?_
    rintro v S11 ⟨o⟩
    exact ⟨nofun,v,o.f _ _ (by omega) hn10,o.th,o.rp,λm xs e1 e2=>by have:=o.ln m xs e1 e2;omega,o.p.mono (by omega),rfl⟩
   rintro l S11 ⟨v,hn11,th,rp,ln,p11,rfl⟩
   refine zaz (λl S'=>∃v,S'[n]? = some (.lst (ps.map pD))/\Thg S' v/\Rp S' v/\PQ ns (30000*u+2500+2000*i+1401) S'/\l=[~~~0,~~~2,‹u›,‹w›,some (.bl gr),some dM,some dO,~~~n,‹i›,some (.bl tw),some v]) ?_ ?_
   ·have rpG:∀{T:Sto},Gr S11 T->Rp T v:=λ{T} g0=>by obtain ⟨z,hz⟩:=rp;exact ⟨z,λR Q g1=>hz R Q (g0.trans g1)⟩
    refine zcy (λb S'=>Gr S11 S'/\(b=true->∃m qs,v=.ref m/\S11[m]? = some (.lst (qs.map pD))/\InR t g qs/\(0,0)∈qs)) ?_ ?_ ?_
    ·obtain ⟨f,res,hf⟩:=zn3 ok okg th
     obtain ⟨b,hb1,hb2⟩:=yew res
     rw [<-hM,<-hO]
     cases tw with
     | false =>
      simp_all! only [qbf,if_false]
      exact ⟨Gr.refl _,λz=>by cases z⟩
     | true =>
      simp_all! only [if_true]
      refine (hf S11 (Gr.refl _)).2.mono ?_
      rintro v' S12 ⟨rfl,g12⟩
      simp_all! only [s1,s2,true_and,hb1]
      exact ⟨g12,hb2⟩
    ·rintro S12 ⟨g12,hb⟩
     obtain ⟨m,qs,rfl,hm,inq,hz⟩:=hb rfl
     have hql:=ln m _ rfl hm
     rw [qlm] at hql
     have hm2:m≠2:=λe=>by
      subst e
      obtain ⟨x,y,e,_⟩:=p11
      rw [hm] at e
      have e:=congrArg (λo=>match o with|some (Ob.lst (z :: _))=>(match z with | .ref _=>true|_=>false)|_=>false) e
      cases qs with
      | nil=>cases hz
      | cons q qs=>cases e
     rw [<-hM,<-hO]
     simp! only [zak]
     refine (ztm (p11.gr g12) (by omega) ok okg (g12.get hm) hm2 (List.length_pos_of_mem hz) (by omega) inq).mono ?_
     rintro v S13 ⟨o⟩
     exact ⟨nofun,v,o.f _ _ (by omega) (g12.get hn11),o.th,o.rp,o.p.mono (by omega),rfl⟩
    ·rintro S12 ⟨g12,_⟩
     simp! only [zak]
     exact ⟨nofun,v,g12.get hn11,th.gr g12,rpG g12,(p11.gr g12).mono (by omega),rfl⟩
   clear th rp ln p11 hn11
   rintro l S12 ⟨v,hn12,th,rp,p12,rfl⟩
   refine zcy (λb S'=>b=false/\Gr S12 S') ?_ ?_ ?_
   ·rw [<-hM,<-hO]
    simp_all! only [zak]
    refine (ztd ok okg th rp).mono ?_
    rintro v S13 ⟨rfl,g13⟩
    simp only [zb0,Bool.not_true]
    exact ⟨nofun,g13⟩
   ·rintro S13 ⟨e,_⟩;cases e
   ·rintro S13 ⟨_,g13⟩
    simp! only [zak]
    exact .inl ⟨(by first|exact .inl rfl|exact .inl trivial|trivial),g13.get hn12,(p12.gr g13).mono (by omega),_,_,_,rfl⟩
  ·rintro l' S' ⟨_,p9,y8,y9,y10,rfl⟩
   exact .inl ⟨.inl rfl,⟨_,_,_,_,_,_,_,_,_,rfl⟩,p9.mono (by omega)⟩
 rintro l S1 _
 simp! only [zak]
end M
end
namespace PySem.W.Fast
def tw17138525823757194117:Nat:=0
def tw14921722867388405814:Nat:=0
def tw6208298473579631872:Nat:=0
def tw17851254210507037211:Nat:=0
def tw6918462674292409920:Nat:=0
def tw10303315209118204474:Nat:=0
def tw17325384644406865971:Nat:=0
def tw12031414981110452502:Nat:=0
def tw13348345553500094549:Nat:=0
def tw7905705911656036231:Nat:=0
def tw14803887209640830498:Nat:=0
def tw12173480749658802498:Nat:=0
def tw12343710092729224465:Nat:=0
def tw12633201649146833082:Nat:=0
def tw7591852403752632648:Nat:=0
def tw751404164363170066:Nat:=0
def tw4146888541378300717:Nat:=0
def tw18404797007572686106:Nat:=0
def tw3249437285433783923:Nat:=0
def tw13909083900981641038:Nat:=0
def tw13263289897310338881:Nat:=0
def tw2424090421213844475:Nat:=0
def tw13284974847014963332:Nat:=0
def tw5099905414331877276:Nat:=0
def tw15980857759834652263:Nat:=0
def tw7961004542080736865:Nat:=0
def tw4814199106090362304:Nat:=0
def tw14236144071908407870:Nat:=0
def tw6736992121819632342:Nat:=0
def tw10515077684792026615:Nat:=0
def tw7356944686844193478:Nat:=0
def tw1629225183734161080:Nat:=0
def tw4906160894823183939:Nat:=0
def tw18337472068252522162:Nat:=0
def tw14803254448857029944:Nat:=0
def tw1091552630173510403:Nat:=0
def tw14249512449507427147:Nat:=0
def tw5624287061322373174:Nat:=0
def tw15437269383651908294:Nat:=0
def tw108926326217812341:Nat:=0
end PySem.W.Fast
open PySem PySem.W PyProof.Rows
theorem PySem.Challenge.cw_opencells_k16_faults_of_pairs_holds : PySem.Challenge.rw_opencells_k16_faults_of_pairs.Holds := by
 w_on;o_law;k_head;(case hw=>w_witness2)
 k_fill
 refine G.walk (l:=PySem.Challenge.rw_opencells_k16_faults_of_pairs) rfl rfl (λw h Y=>PySem.W.kIn_of Y) ?F (λns hl=>M.law_true ns hl)
 case F =>
  intro w mg fa h KX GN hmg
  refine' G.all_mk KX GN hmg ?_ ?_ ?_ ?_ ?_ ?_ ?_ ?_ ?_ ?_ ?_ ?_ ?_ ?_ ?_ ?_ ?_ ?_ ?_ ?_ ?_ ?_ ?_ ?_ ?_ ?_ ?_ ?_ ?_ ?_ ?_ ?_ ?_ ?_ ?_ ?_
  all_goals try first|(refine' G.FI.mk ?a ?l ?c ?k;(case a=>k_is);(case l=>k_is);(case c=>k_is);(case k=>k_is))|k_is
#print axioms PySem.Challenge.cw_opencells_k16_faults_of_pairs_holds