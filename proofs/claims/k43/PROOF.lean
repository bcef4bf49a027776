import PyProof.Rows.All
import Wide.All
import OpenK.AllK
import Wide.FinOn
import Lean
import PyProof.EqAt
import PyProof.EqKinds
import PyProof.TupleCall
import PyProof.ReprLen
import PyProof.ReprRoads
import PyProof.P3Eq
import PyProof.SetRoads
import PyProof.IsRules
import PyProof.ListRange
import PyProof.ConsumeWalk
import PyProof.NeKinds
import PyProof.DictTable
import PyProof.Draws
import PyProof.EnumMake
import KE.BitLaws
import KE.KIntText
import KE.KRevIter
import PyProof.Rows.SumAny
import PyProof.StrLawsRepr
import PyProof.Rows.SortStrRead
import PyProof.DictCompW
import PyProof.StrOps2
import PyProof.DictWalks
import OpenK.KOwn
import PyProof.NsDelKeeps
import PyProof.RulesAs
import KE.KIsAll
import PyProof.ExcArgsOwn
import PyProof.ExcAttrAll.ValueError
import PyProof.TupleKey
import PyProof.DictRoadsH
import KE.KSortTup
import KE.KDictSum
import PyProof.Rows.TupDisplay
import PyProof.ZipIter
import PyProof.FactsAll.tuple_1
import PyProof.Dict
import PyProof.FactsAll.tuple_2
import PyProof.FactsAll.tuple_3
import PyProof.MeetsSeq
import PyProof.Rows.FStr
import PyProof.Rows.RuleM_int
import PyProof.Rows.SetFrom
import PyProof.Rows.StrItems
import PyProof.Rows.StrNews2
import PyProof.StrWalks
import PyProof.WalksMore
import KE.KLam
import KE.KNestM
import KE.KSortKey
import PySem.Challenge.RW_opencells_k43_what_nets_are_asked
set_option Elab.async false
set_option maxHeartbeats 4000000
set_option maxRecDepth 100000
set_option linter.unusedSimpArgs false
set_option linter.unusedVariables false
noncomputable section
theorem qwb {α β:Type}{M:PySem.Model}{A:PySem.Around}{E:PySem.Value->PySem.Shared->Prop}{s:PySem.Shared}{m:PySem.Sem α}{f:α->PySem.Sem β}{Q:β->PySem.Shared->Prop}(h:PySem.wpAny M A m (λa s'=>PySem.wpAny M A (f a) Q E s') E s):PySem.wpAny M A (m >>= f) Q E s:=PySem.wpAny_bind h
theorem qwp {α:Type}{M:PySem.Model}{A:PySem.Around}{E:PySem.Value->PySem.Shared->Prop}{s:PySem.Shared}{a:α}{Q:α->PySem.Shared->Prop}(h:Q a s):PySem.wpAny M A (pure a) Q E s:=PySem.wpAny_pure h
theorem qbf:(false=true)=False:=Bool.false_eq_true
theorem qme {α:Type _}{l:List α}{i:Nat}{a:α}(h:l[i]? = some a):∃h:i<l.length,l[i]=a:=List.getElem?_eq_some_iff.mp h
theorem qge {α:Type _}{l:List α}{i:Nat}(h:i<l.length):l[i]? = some l[i]:=List.getElem?_eq_getElem h
abbrev QFg:=PySem.W.Frag
theorem qps {h:PySem.Heap}{a:PySem.Addr}{o1:PySem.Obj}(o:PySem.Obj) (e:h.get? a=some o1):(h.push o).get? a=some o1:=PySem.Heap.get?_push_of_some o e
theorem qlm {α β:Type _}{as:List α}(f:α->β):(as.map f).length=as.length:=List.length_map f
theorem qgm {α β:Type _}{f:α->β}{l:List α}{i:Nat}:(l.map f)[i]? = l[i]?.map f:=List.getElem?_map
theorem qoi {α:Type _}{a b:α}(h:some a=some b):a=b:=Option.some.inj h
theorem qmg {α:Type _}{l:List α}{i:Nat}{a:α}(e:l[i]? = some a):a∈l:=List.mem_of_getElem? e
theorem qlr (n:Nat):n<=n:=Nat.le_refl n
theorem qla {α:Type _}{as bs:List α}:(as++bs).length=as.length+bs.length:=List.length_append
namespace TS
open PySem PySem.SetTable
noncomputable def F:Nat->Nat->Nat
 | 0,x=>x
 | n+1,x=>5*F n x+1
noncomputable def adv (mask:Nat) (p:Probe):Probe :=
 if p.more > 0 then { p with j:=p.j+1,more:=p.more-1 } else
 let (i,perturb):=leap mask p.i p.perturb
 { p with j:=i,more:=runEnd mask i-i,i,perturb }
noncomputable def st0 (mask:Nat) (h:Int):Probe:={ j:=bits h % (mask+1),more:=runEnd mask (bits h % (mask+1))-bits h % (mask+1),i:=bits h % (mask+1),perturb:=bits h,dummy:=none }
noncomputable def pn (mask:Nat) (h:Int):Nat->Probe
 | 0=>st0 mask h
 | n+1=>adv mask (pn mask h n)
noncomputable def bl (mask:Nat) (h:Int):Nat->Nat × Nat
 | 0=>(bits h % (mask+1),bits h)
 | n+1=>leap mask (bl mask h n).1 (bl mask h n).2
def Ris (xs:Array Nat):Prop:=∀i j,i<j->j<xs.size->xs.getD i 0<xs.getD j 0
def In (t:SetTable) (j:Nat):Prop:=∃i:Nat,t.place[i]? = some j
structure TOk (t:SetTable) (es:Array (Int × Value)):Prop where
 dm:t.dummies = #[]
 sz:t.place.size=es.size
 pw:∃k,t.mask+1=2 ^ k/\3<=k
 ris:Ris t.place
 le:∀j,In t j->j<=t.mask
 ro:es.size*5<t.mask*3
 sm:t.mask<8192
 pr:∀(i:Nat) (h:Int) (v:Value),es[i]? = some (h,v)->∃n,t.place[i]? = some (pn t.mask h n).j/\∀m,m<n->In t (pn t.mask h m).j
def Occ (ow:Array (Option Nat)) (j:Nat):Prop:=∃i,ow[j]? = some (some i)
instance (ow:Array (Option Nat)):DecidablePred (Occ ow):=λj=>match h:ow[j]? with
 | some (some i)=>.isTrue ⟨i,h⟩
 | some none=>.isFalse λhx1_=>by obtain ⟨i,z⟩:=hx1_;rw [h] at z;cases z
 | none=>.isFalse λhx2_=>by obtain ⟨i,z⟩:=hx2_;rw [h] at z;cases z
noncomputable def zo6 (ks:List Int):Int:=reduceHash (Builtin.Tuple.tupleHashOf (ks.map hashInt))
section
variable {prog:Program}{w:World}{A:Around}{E:Value->Shared->Prop}{s:Shared}
structure Els (es:Array (Int × Value)) (xs:List (List Int × Addr)):Prop where
 sub:∀e∈es.toList,∃p∈xs,e=(zo6 p.1,.ref p.2)
 sup:∀p∈xs,(zo6 p.1,Value.ref p.2)∈es.toList
 len:es.size=xs.length
end
def zv9 (o:Obj) (xs:List (List Int × Addr)):Prop:=o.ExactSet/\∃es ep t,o.data=.set es ep t/\TOk t es/\Els es xs
def TSet (a:Addr) (xs:List (List Int × Addr)) (h:Heap):Prop:=∃o,h.get? a=some o/\zv9 o xs
section
variable {prog:Program}{w:World}{A:Around}{E:Value->Shared->Prop}{s:Shared}{a x:Addr}{k:List Int}{xs:List (List Int × Addr)}
end
end TS
namespace BF
def lx:List Nat->List Nat->Prop
 | a :: u,b :: v=>a<b\/(a=b/\lx u v)
 | _,_=>False
def sl (u v:List Nat):Prop:=u.length<v.length\/(u.length=v.length/\lx u v)
def le (u v:List Nat):Prop:=sl u v\/u=v
abbrev P:=Nat × Nat
section
variable (A:Nat) (step:P->Nat->Option P) (fail:P->Nat->Bool)
noncomputable def walk:P->List Nat->Option P
 | p,[]=>some p
 | p,a :: w=>(step p a).bind λq=>walk q w
end
section
variable {A:Nat}{step:P->Nat->Option P}{fail:P->Nat->Bool}
section
variable {p0 q q':P}{ps:List P}{ws:List (List Nat)}{w:List Nat}{i c:Nat}
end
end
end BF
namespace SP
open PySem PySem.W PyProof.Rows
inductive Ok (lt:Nat->Nat->Bool) (n:Nat) {α:Type} (G:α->Prop):KasT α->Prop where
 | ret {a:α} (h:G a):Ok lt n G (.ret a)
 | ask {i j:Nat} {k:Bool->KasT α} (hi:i<n) (hj:j<n) (h:Ok lt n G (k (lt i j))):Ok lt n G (.ask i j k)
section
variable {r:Nat->Int}{n:Nat}
noncomputable def lt (r:Nat->Int) (i j:Nat):Bool:=decide (r i<r j)
noncomputable def at' (r:Nat->Int) (p:Array Nat) (k:Nat):Int:=r (p.getD k 0)
def Dn (r:Nat->Int) (p:Array Nat) (m:Nat):Prop:=∀i j,i<j->j<m->at' r p j<at' r p i
end
open PySem.Calls
abbrev Pr:=Int × Int
noncomputable def plt (p q:Pr):Bool:=decide (p.1<q.1) || (decide (p.1=q.1) && decide (p.2<q.2))
section
variable {prog:Program}{w:World}{A:Around}{E:Value->Shared->Prop}{s:Shared}
end
noncomputable def rk (ps:List Pr) (i:Nat):Int:=(ps.countP (λq=>plt q (ps.getD i (0,0))):Nat)
section
variable {prog:Program}{w:World}{A:Around}{E:Value->Shared->Prop}{s:Shared}
end
end SP
namespace L2
open PySem PySem.Spec PyProof.Rows
abbrev Key:=Sum Int Str
noncomputable def zfe:Key->Value->Bool
 | .inl k,v=>Value.isInt k v
 | .inr x,v=>Value.isStrOf x v
noncomputable def zwa (w:World):Key->Int
 | .inl k=>hashInt k
 | .inr x=>hashStr w x
theorem zdz:∀{k:Key}{v:Value},zfe k v=true->(∃i t,k=Sum.inl i/\v=Value.int i t)\/(∃x t,k=Sum.inr x/\v=Value.str x t)
 | .inl i,v,h=>by
  obtain ⟨t,e⟩:=Value.isInt_shape (k:=i) (v:=v) h
  exact .inl ⟨i,t,rfl,e⟩
 | .inr x,v,h=>by
  obtain ⟨t,e⟩:=Value.isStrOf_shape (x:=x) (v:=v) h
  exact .inr ⟨x,t,rfl,e⟩
theorem zwb (i:Int) (t:Tok):zfe (.inl i) (.int i t)=true:=by simp [zfe,Value.isInt]
theorem zwc (x:Str) (t:Tok):zfe (.inr x) (.str x t)=true:=by simp [zfe,Value.isStrOf]
theorem zwd (a b:Int):decide ((Sum.inl a:Key)=Sum.inl b)=(a == b):=by
 by_cases e:a=b
 ·subst e;simp
 ·have h:¬(Sum.inl a:Key)=Sum.inl b:=λq=>e (Sum.inl.inj q)
  rw [decide_eq_false h]
  exact (beq_eq_false_iff_ne.mpr e).symm
theorem zwe (a b:Str):decide ((Sum.inr a:Key)=Sum.inr b)=decide (a=b):=by
 by_cases e:a=b
 ·subst e;simp
 ·have h:¬(Sum.inr a:Key)=Sum.inr b:=λq=>e (Sum.inr.inj q)
  rw [decide_eq_false h,decide_eq_false e]
theorem zwf (a:Int) (b:Str):decide ((Sum.inl a:Key)=Sum.inr b)=false:=decide_eq_false (λq=>nomatch q)
theorem zwg (a:Str) (b:Int):decide ((Sum.inr a:Key)=Sum.inl b)=false:=decide_eq_false (λq=>nomatch q)
noncomputable def zcn (prog:Program) (w:World):PySem.KeyKind prog w Key where
 is:=zfe
 hash:=zwa w
 inj:=λv a b ha hb=>by
  rcases zdz ha with ⟨i,t,rfl,rfl⟩|⟨x,t,rfl,rfl⟩
  ·rcases zdz hb with ⟨j,u,rfl,e⟩|⟨y,u,rfl,e⟩
   ·injection e with e1 _;rw [e1]
   ·exact nomatch e
  ·rcases zdz hb with ⟨j,u,rfl,e⟩|⟨y,u,rfl,e⟩
   ·exact nomatch e
   ·injection e with e1 _;rw [e1]
 byValue:=λk v h=>by
  rcases zdz h with ⟨i,t,rfl,rfl⟩|⟨x,t,rfl,rfl⟩ <;> rfl
 pyHash:=λhv h=>by
  rcases zdz hv with ⟨i,t,rfl,rfl⟩|⟨x,t,rfl,rfl⟩
  ·exact wpAny_pyHash_int h
  ·exact wpAny_pyHash_str h
 eqBool:=λhu hv h=>by
  rcases zdz hu with ⟨i,t,rfl,rfl⟩|⟨x,t,rfl,rfl⟩
  ·rcases zdz hv with ⟨j,u,rfl,rfl⟩|⟨y,u,rfl,rfl⟩
   ·rw [zwd] at h;exact wpAny_eqBool_int h
   ·rw [zwf] at h;exact SeqAt.EqAt.int_str i t y u _ _ _ _ h
  ·rcases zdz hv with ⟨j,u,rfl,rfl⟩|⟨y,u,rfl,rfl⟩
   ·rw [zwg] at h;exact SeqAt.EqAt.str_int x t j u _ _ _ _ h
   ·rw [zwe] at h;exact wpAny_eqBool_str h
 «strs»:=λk x t v h=>by
  rcases zdz h with ⟨i,u,rfl,e⟩|⟨y,u,rfl,e⟩
  ·exact nomatch e
  ·injection e with e1 _
   subst e1
   cases v <;> rfl
theorem zo7 (prog:Program) (w:World) (i:Int) (t:Tok):(zcn prog w).is (.inl i) (.int i t)=true:=zwb i t
theorem zwh (prog:Program) (w:World) (x:Str) (t:Tok):(zcn prog w).is (.inr x) (.str x t)=true:=zwc x t
inductive V where
 | non|bl (b:Bool)|int (i:Int)|str (x:Str)|byt (b:Array UInt8)|flt (b:UInt64)|ref (a:Addr)|ty (n:String)
 deriving DecidableEq
def RelV:V->Value->Prop
 | .non,u=>u=Value.none
 | .bl b,u=>u=Value.bool b
 | .int i,u=>∃t,u=Value.int i t
 | .str x,u=>∃t,u=Value.str x t
 | .byt b,u=>∃t,u=Value.bytes b t
 | .flt b,u=>∃t,u=Value.float b t
 | .ref a,u=>u=Value.ref a
 | .ty n,u=>u=Value.type n
abbrev Vals:List V->List Value->Prop:=Paired RelV
theorem Vals.length {xs:List V}{us:List Value}(r:Vals xs us):xs.length=us.length:=Paired.length r
theorem Vals.get:∀{xs:List V}{us:List Value}{i:Nat}{x:V},Vals xs us->xs[i]? = some x->∃u,us[i]? = some u/\RelV x u
 | _,_,_,_,.nil,e=>by simp at e
 | _,_,0,_,.cons r _,e=>by simp at e;subst e;exact ⟨_,rfl,r⟩
 | _,_,i+1,x,.cons _ t,e=>by
  obtain ⟨u,h1,h2⟩:=Vals.get (i:=i) (x:=x) t (by simpa using e)
  exact ⟨u,by simpa using h1,h2⟩
theorem Vals.set {x:V}{u:Value}(r:RelV x u):∀{xs:List V}{us:List Value}(i:Nat),Vals xs us->Vals (xs.set i x) (us.set i u)
 | _,_,_,.nil=>.nil
 | _,_,0,.cons _ t=>.cons r t
 | _,_,i+1,.cons q t=>.cons q (Vals.set r i t)
theorem Vals.append:∀{xs ys:List V}{us ws:List Value},Vals xs us->Vals ys ws->Vals (xs++ys) (us++ws)
 | _,_,_,_,.nil,s=>s
 | _,_,_,_,.cons r t,s=>.cons r (Vals.append t s)
theorem Vals.take:∀{xs:List V}{us:List Value}(n:Nat),Vals xs us->Vals (xs.take n) (us.take n)
 | _,_,0,_=>.nil
 | _,_,_+1,.nil=>.nil
 | _,_,n+1,.cons r t=>.cons r (Vals.take n t)
theorem Vals.drop:∀{xs:List V}{us:List Value}(n:Nat),Vals xs us->Vals (xs.drop n) (us.drop n)
 | _,_,0,r=>r
 | _,_,_+1,.nil=>.nil
 | _,_,n+1,.cons _ t=>Vals.drop n t
def RelO:Option V->Option Value->Prop
 | some v,some u=>RelV v u
 | none,none=>True
 | _,_=>False
def KV {κ:Type}:List (κ × V)->List (κ × Value)->Prop:=Paired λ(p:κ × V) (q:κ × Value)=>p.1=q.1/\RelV p.2 q.2
noncomputable def kV:Key->V
 | .inl i=>.int i
 | .inr x=>.str x
inductive HO where
 | lst (xs:List V)
 | tup (xs:List V)
 | dK (kvs:List (Key × V))|dT (kvs:List (List Key × V))
 | set (S:Int->Bool) (n:Nat)
 | ins (C dx:Addr) (fs:List (Str × V))
 | own (x:Addr)
 | xd (fs:List (Str × V))
 | met (f x:Addr)
 | rng (lo hi:Int)
 | frz (o:Obj) (u:HO)
 | tbl (ps:Array Value)
 | ext (φ:Heap->Prop)
abbrev Hp:=Addr->Option HO
noncomputable def upd (H:Hp) (a:Addr) (o:HO):Hp:=λb=>if b=a then some o else H b
theorem zbf {H:Hp}{a:Addr}{o:HO}:upd H a o a=some o:=by unfold upd;rw [if_pos rfl]
theorem zan {H:Hp}{a b:Addr}{o:HO}(h:b≠a):upd H a o b=H b:=by unfold upd;rw [if_neg h]
theorem zo8 {H:Hp}{a:Addr}{o u:HO}:upd (upd H a o) a u=upd H a u:=by
 funext b;unfold upd;split <;> rfl
theorem zc8 {H:Hp}{a b:Addr}{o u:HO}(h:H a=some o) (h':H b=some u) (d:o≠u):a≠b:=by
 intro e;subst e;rw [h] at h';exact d (qoi h')
theorem zbc {H:Hp}{a b:Addr}{o:HO}(h:H a=some o) (h':H b=none):a≠b:=by
 intro e;subst e;rw [h] at h';cases h'
def IsTD (h:Heap) (a:Addr) (items:Array Value):Prop:=∃o,h.get? a=some o/\o.cls=.type "tuple"/\∃n,o.data=.seq items n/\o.dict=none
theorem IsTD.tup {h:Heap}{a:Addr}{items:Array Value}(x:IsTD h a items):IsTup h a items:=by
 obtain ⟨o,e,c,n,d,_⟩:=x
 exact ⟨o,e,c,n,d⟩
theorem IsTD.new (h:Heap) (items:Array Value):IsTD (h.push { cls:=.type "tuple",data:=.seq items }) h.objs.size items:=⟨_,Heap.get?_push_size _ rfl,rfl,_,rfl,rfl⟩
section
variable (P:Program) (w:World)
def ObjOk (H:Hp) (h:Heap) (a:Addr):HO->Prop
 | .lst xs=>xs.length<=sizeLine/\∃(its:List Value) (n:Nat),Vals xs its/\h.get? a=some { cls:=.type "list",data:=.seq its.toArray n }
 | .tup xs=>xs.length<=sizeLine/\∃its:List Value,Vals xs its/\IsTD h a its.toArray
 | .dK kvs=>kvs.length<=sizeLine/\(a == sysModules)=false/\∃vs,KV kvs vs/\h.DictOf (zcn P w) a vs
 | .dT kvs=>kvs.length<=sizeLine/\(a == sysModules)=false/\∃xs:List (List Key × Addr × Value),
   Paired (λ(p:List Key × V) (q:List Key × Addr × Value)=>p.1=q.1/\H q.2.1=some (.tup (p.1.map kV))/\RelV p.2 q.2.2) kvs xs /\
   ∃o es ep,h.get? a=some o/\o.ExactDict/\o.data=.dict es ep/\es.toList=xs.map (entryOfKey (tupleKind (zcn P w)))/\(xs.map (·.1)).Nodup
 | .set S n=>h.SetOf (intKind P w) a S n
 | .ins C dx fs=>H dx=some (.own a)/\fs.length<=1000/\dx≠a/\h.get? a=some (PySem.W.instObj C dx) /\
   ∃mA,h.Ns1 dx mA/\(∀f,RelO (fs.lookup f) (mA f))/\PySem.Within mA (fs.map (·.1))
 | .own _=>∃o,h.get? a=some o
 | .xd fs=>∃mA,h.Ns1 a mA/\∀f,RelO (fs.lookup f) (mA f)
 | .rng lo hi=>∃t u v,h.get? a=some { cls:=.type "range",data:=.fields #[.int lo t,.int hi u,.int 1 v] }
 | .frz o u=>h.get? a=some o/\ObjOk H h a u
 | .tbl ps=>h.get? a=some { cls:=.none,data:=.fields ps }
 | .met f x=>h.get? a=some (PySem.W.methodObj (.ref f) (.ref x))
 | .ext φ=>φ h/\(∃o,h.get? a=some o)/\∀h1 h2:Heap,φ h1->(∀o,h1.get? a=some o->h2.get? a=some o)->φ h2
def HOk (H:Hp) (h:Heap):Prop:=∀a o,H a=some o->ObjOk P w H h a o
end
section
variable {P:Program}{w:World}{H H':Hp}{h h':Heap}{a:Addr}{o:HO}
theorem ObjOk.lt (x:ObjOk P w H h a o):a<h.objs.size:=by
 cases o with
 | lst xs=>obtain ⟨_,_,_,_,e⟩:=x;exact Heap.lt_size e
 | tup xs=>obtain ⟨_,_,_,p⟩:=x;exact p.tup.lt
 | dK kvs=>obtain ⟨_,_,_,_,o,_,_,e,_⟩:=x;exact Heap.lt_size e
 | dT kvs=>obtain ⟨_,_,_,_,o,_,_,e,_⟩:=x;exact Heap.lt_size e
 | set S n=>obtain ⟨o,_,_,_,e,_⟩:=x;exact Heap.lt_size e
 | ins C dx fs=>obtain ⟨_,_,_,e,_⟩:=x;exact Heap.lt_size e
 | own y=>obtain ⟨_,e⟩:=x;exact Heap.lt_size e
 | xd fs=>obtain ⟨_,⟨_,_,_,e,_⟩,_⟩:=x;exact Heap.lt_size e
 | rng lo hi=>obtain ⟨_,_,_,e⟩:=x;exact Heap.lt_size e
 | frz ob u=>obtain ⟨e,_⟩:=x;exact Heap.lt_size e
 | tbl ps=>exact Heap.lt_size (show h.get? a=some _ from x)
 | met f y=>exact Heap.lt_size (show h.get? a=some _ from x)
 | ext φ=>obtain ⟨_,⟨_,e⟩,_⟩:=x;exact Heap.lt_size e
theorem Paired.mapP {α β:Type}{F G:α->β->Prop}:∀{l₁:List α}{l₂:List β},Paired F l₁ l₂->(∀a b,F a b->G a b)->Paired G l₁ l₂
 | _,_,.nil,_=>.nil
 | _,_,.cons r t,f=>.cons (f _ _ r) (Paired.mapP t f)
theorem ObjOk.stay (x:ObjOk P w H h a o) (k:∀b u,(b=a\/H b=some (.own a))->h.get? b=some u->h'.get? b=some u)
  (ho:∀b,H b=some (.own a)->H' b=some (.own a)) (ht:∀b xs,H b=some (.tup xs)->H' b=some (.tup xs)):ObjOk P w H' h' a o:=by
 induction o with
 | lst xs=>obtain ⟨z,its,n,r,e⟩:=x;exact ⟨z,its,n,r,k _ _ (.inl rfl) e⟩
 | tup xs=>obtain ⟨z,its,r,ob,e,c⟩:=x;exact ⟨z,its,r,ob,k _ _ (.inl rfl) e,c⟩
 | dK kvs=>obtain ⟨z,y,vs,r,ob,es,ep,e,c⟩:=x;exact ⟨z,y,vs,r,ob,es,ep,k _ _ (.inl rfl) e,c⟩
 | dT kvs =>
  obtain ⟨z,y,xs,r,ob,es,ep,e,c⟩:=x
  exact ⟨z,y,xs,Paired.mapP r λp q z=>⟨z.1,ht _ _ z.2.1,z.2.2⟩,ob,es,ep,k _ _ (.inl rfl) e,c⟩
 | set S n=>obtain ⟨ob,es,ep,t,e,c⟩:=x;exact ⟨ob,es,ep,t,k _ _ (.inl rfl) e,c⟩
 | ins C dx fs =>
  obtain ⟨d,z,ne,e,mA,⟨od,es,ep,e2,c⟩,r⟩:=x
  exact ⟨ho _ d,z,ne,k _ _ (.inl rfl) e,mA,⟨od,es,ep,k _ _ (.inr d) e2,c⟩,r⟩
 | own y=>obtain ⟨ob,e⟩:=x;exact ⟨ob,k _ _ (.inl rfl) e⟩
 | xd fs=>obtain ⟨mA,⟨od,es,ep,e,c⟩,r⟩:=x;exact ⟨mA,⟨od,es,ep,k _ _ (.inl rfl) e,c⟩,r⟩
 | rng lo hi=>obtain ⟨t,u,v,e⟩:=x;exact ⟨t,u,v,k _ _ (.inl rfl) e⟩
 | frz ob u ih=>obtain ⟨e,q⟩:=x;exact ⟨k _ _ (.inl rfl) e,ih q⟩
 | tbl ps =>
  have e:h.get? a=some { cls:=.none,data:=.fields ps }:=x
  show h'.get? a=some { cls:=.none,data:=.fields ps }
  exact k a _ (.inl rfl) e
 | met f y =>
  have e:h.get? a=some (PySem.W.methodObj (.ref f) (.ref y)):=x
  show h'.get? a=some (PySem.W.methodObj (.ref f) (.ref y))
  exact k a _ (.inl rfl) e
 | ext φ=>obtain ⟨p,⟨o,e⟩,st⟩:=x;exact ⟨st _ _ p λo q=>k _ _ (.inl rfl) q,⟨o,k _ _ (.inl rfl) e⟩,st⟩
theorem HOk.lt (x:HOk P w H h) (e:H a=some o):a<h.objs.size:=(x a o e).lt
theorem HOk.fresh (x:HOk P w H h) (e:h.objs.size<=a):H a=none:=by
 cases q:H a with
 | none=>rfl
 | some u=>exact absurd (Nat.lt_of_lt_of_le (x.lt q) e) (Nat.lt_irrefl _)
theorem HOk.kept (x:HOk P w H h) (k:∀b u,h.get? b=some u->h'.get? b=some u):HOk P w H h':=λa o e =>
 (x a o e).stay (λb u _ q=>k b u q) (λ_ q=>q) λ_ _ q=>q
theorem HOk.laid (x:HOk P w H h) (k:∀b u,h.get? b=some u->h'.get? b=some u) (hp:h.objs.size<=a) (new:ObjOk P w (upd H a o) h' a o):HOk P w (upd H a o) h':=λb u e=>by
 have hn:=x.fresh hp
 by_cases hb:b=a
 ·subst hb;rw [zbf] at e;cases e;exact new
 ·rw [zan hb] at e
  exact (x b u e).stay (λc v _ q=>k c v q) (λc q=>by rw [zan (zbc q hn)];exact q) λc xs q=>by rw [zan (zbc q hn)];exact q
end
def Rd (H:Hp) (a:Addr) (u:HO):Prop:=H a=some u\/∃o,H a=some (.frz o u)
theorem Rd.ok {P:Program}{w:World}{H:Hp}{h:Heap}{a:Addr}{u:HO}(r:Rd H a u) (x:HOk P w H h):ObjOk P w H h a u:=by
 rcases r with r|⟨o,r⟩
 ·exact x a u r
 ·obtain ⟨_,q⟩:=x a _ r
  exact q
def Mut:Option HO->Prop
 | some (.lst _)=>True
 | some (.dK _)=>True
 | some (.dT _)=>True
 | some (.set _ _)=>True
 | some (.ins _ _ _)=>True
 | some (.ext _)=>True
 | _=>False
section
variable {P:Program}{w:World}{H:Hp}{h h':Heap}{x e:Addr}{o':HO}
theorem HOk.write (ok:HOk P w H h) (mu:Mut (H x)) (he:e=x\/H e=some (.own x)) (k:∀b u,b≠e->h.get? b=some u->h'.get? b=some u) (heo:∃u,h'.get? e=some u)
  (new:ObjOk P w (upd H x o') h' x o'):HOk P w (upd H x o') h':=λb u q=>by
 have nown:∀c y,H c=some (.own y)->c≠x:=λc y r z=>by subst z;rw [r] at mu;exact mu
 have ntup:∀c xs,H c=some (.tup xs)->c≠x:=λc xs r z=>by subst z;rw [r] at mu;exact mu
 by_cases hb:b=x
 ·subst hb;rw [zbf] at q;cases q;exact new
 ·rw [zan hb] at q
  by_cases hbe:b=e
  ·have q':H b=some (.own x):=by
    rcases he with z|z
    ·exact absurd (hbe.trans z) hb
    ·rw [hbe];exact z
   rw [q] at q';cases q'
   obtain ⟨v,hv⟩:=heo
   exact ⟨v,by rw [hbe];exact hv⟩
  ·refine (ok b u q).stay (λc v hc r=>k c v ?_ r) (λc r=>by rw [zan (nown c b r)];exact r) λc xs r=>by rw [zan (ntup c xs r)];exact r
   rcases hc with rfl|hc
   ·exact hbe
   ·rintro rfl
    rcases he with z|z
    ·exact nown c b hc z
    ·rw [hc] at z;cases z;exact hb rfl
end
structure Un (fs ex:List Addr) (H H':Hp) (h h':Heap):Prop where
 keep:∀b o,h.get? b=some o->H b=none->b ∉ fs->b ∉ ex->h'.get? b=some o
 slot:∀b o,h.get? b=some o->H b=none->b∈fs->b ∉ ex->∃sl,h'.get? b=some { o with slots:=sl }
 free:∀b o,h.get? b=some o->H b=none->b ∉ ex->H' b=none
 there:∀b o,h.get? b=some o->b ∉ ex->∃o',h'.get? b=some o'
 tups:∀b xs,H b=some (.tup xs)->H' b=some (.tup xs)
 frzs:∀b o u,H b=some (.frz o u)->H' b=some (.frz o u)
 tbls:∀b ps,H b=some (.tbl ps)->∃more,H' b=some (.tbl (ps++more))
section
variable {fs fs' ex ex':List Addr}{H H1 H2:Hp}{h h1 h2 h':Heap}{a x e:Addr}{o:HO}
theorem Un.any (u:Un fs ex H H1 h h1) {b:Addr}{ob:Obj}(q:h.get? b=some ob) (n:H b=none) (hx:b ∉ ex):∃sl,h1.get? b=some { ob with slots:=sl }:=by
 by_cases hb:b∈fs
 ·exact u.slot b ob q n hb hx
 ·exact ⟨ob.slots,u.keep b ob q n hb hx⟩
theorem Un.kept (k:∀b u,h.get? b=some u->h'.get? b=some u):Un fs ex H H h h' :=
 ⟨λb ob q _ _ _=>k b ob q,λb ob q _ _ _=>⟨ob.slots,k b ob q⟩,λ_ _ _ n _=>n,λb ob q _=>⟨ob,k b ob q⟩,λ_ _ q=>q,λ_ _ _ q=>q,λ_ ps q=>⟨#[],by rw [q];simp⟩⟩
theorem Un.refl:Un fs ex H H h h:=Un.kept λ_ _ q=>q
theorem Un.laid (k:∀b u,h.get? b=some u->h'.get? b=some u) (hp:h.objs.size<=a) (hn:H a=none):Un fs ex H (upd H a o) h h' where
 keep:=λb u q _ _ _=>k b u q
 slot:=λb u q _ _ _=>⟨u.slots,k b u q⟩
 free:=λb u q n _=>by rw [zan (Nat.ne_of_lt (Nat.lt_of_lt_of_le (Heap.lt_size q) hp))];exact n
 there:=λb u q _=>⟨u,k b u q⟩
 tups:=λb xs q=>by rw [zan (zbc q hn)];exact q
 frzs:=λb u xs q=>by rw [zan (zbc q hn)];exact q
 tbls:=λb ps q=>⟨#[],by rw [zan (zbc q hn),q];simp⟩
theorem Un.write (mu:Mut (H x)) (he:e=x\/H e=some (.own x)) (k:∀b u,b≠e->h.get? b=some u->h'.get? b=some u) (heo:∃u,h'.get? e=some u):Un fs ex H (upd H x o) h h':=by
 have hx:∀b,H b=none->b≠x:=λb n z=>by subst z;rw [n] at mu;exact mu
 have hb:∀b,H b=none->b≠e:=λb n z=>by
  subst z
  rcases he with r|r
  ·exact hx b n r
  ·rw [n] at r;cases r
 have hm:∀b u,H b=some u->¬Mut (some u)->b≠x:=λb u q nm z=>by subst z;rw [q] at mu;exact nm mu
 refine ⟨λb u q n _ _=>k b u (hb b n) q,λb u q n _ _=>⟨u.slots,k b u (hb b n) q⟩,λb u q n _=>by rw [zan (hx b n)];exact n,λb u q _=>?_,
  λb xs q=>by rw [zan (hm b _ q λz=>z)];exact q,λb u xs q=>by rw [zan (hm b _ q λz=>z)];exact q,λb ps q=>⟨#[],by rw [zan (hm b _ q λz=>z),q];simp⟩⟩
 by_cases hbe:b=e
 ·subst hbe;exact heo
 ·exact ⟨u,k b u hbe q⟩
end
noncomputable def trk (h:Heap) (H:Hp):List Addr:=(List.range h.objs.size).filter λa=>(H a).isSome
noncomputable def zff (h:Heap) (H:Hp):Heap:=PySem.W.hideAll h (trk h H)
theorem zwi (h:Heap) (H:Hp):(zff h H).objs.size=h.objs.size:=PySem.W.hideAll_size _ _
theorem zl0 {h:Heap}{H:Hp}{b:Addr}{o:Obj}(e:h.get? b=some o) (n:H b=none):(zff h H).get? b=some o :=
 PySem.W.hideAll_get _ e λhm=>by
  have q:(H b).isSome=true:=(List.mem_filter.mp hm).2
  rw [n] at q;simp at q
theorem zwj {h:Heap}{H:Hp}{b:Addr}{o:Obj}(e:(zff h H).get? b=some o):h.get? b=some o/\H b=none:=by
 have e':h.get? b=some o:=PySem.W.of_hideAll (trk h H) e
 refine ⟨e',?_⟩
 cases q:H b with
 | none=>rfl
 | some x =>
  have hm:b∈trk h H:=List.mem_filter.mpr ⟨List.mem_range.mpr (Heap.lt_size e'),by simp [q]⟩
  have z:(zff h H).get? b=none:=PySem.W.hideAll_none (trk h H) hm
  rw [z] at e;cases e
noncomputable def zwk (g h:Heap) (L:Addr):List (Addr × Obj):=(List.range h.objs.size).filterMap λa=>if a=L\/(g.get? a).isSome=true then none else (h.get? a).map λo=>(a,o)
noncomputable def rest (g h:Heap) (L d:Addr):List (Addr × Obj):=(zwk g h L).filter λp=>decide (p.1≠d)
def BMd (mg:Str->Option Value) (h:Heap):Prop:=∃bm ob,mg "__builtins__" = some (.ref bm)/\bm≠builtinsNs/\h.get? bm=some ob/\ob.cls=.type "module"/\ob.dict=some builtinsNs/\ob.data=.plain
structure Mod (K:QFg) (mg:Str->Option Value) (base:Heap):Prop where
 kin:K.In base
 glob:base.Ns mainGlobals mg
 blt:∃mb,base.Ns builtinsNs mb/\∀x:Str,x≠"__name__"->mb x=bootBuiltins x
 nolimit:base.NoLimit
 bm:BMd mg base
structure Cx where
 prog:Program
 w:World
 K:QFg
 mg:Str->Option Value
 base:Heap
 A:Around
 N:List Str
 s₀:Shared
 H₀:Hp
 env:Env
 outer:List Env
 stack:List Env
 ex:List Addr
 fn:Str->Bool
 calm:Bool
 pn:List (Addr × Obj)
 xe:Value->Shared->Prop
noncomputable def frs (l:List Env):List Addr:=l.filterMap (·.frame)
noncomputable abbrev Cx.fs (X:Cx):List Addr:=frs X.outer
def Vis (sc:Scope) (x:Str):Prop:=sc.names.lookup x=some .local\/sc.names.lookup x=some .cell\/sc.names.lookup x=some .free
def Loc (sc:Scope) (x:Str):Prop:=sc.names.lookup x=some .local\/sc.names.lookup x=some .cell
def zwl (env:Env) (h:Heap) (m:Str->Option Value) (x:Str) (u:Value):Prop :=
 (env.kindOf x=some .local/\m x=some u)\/((env.kindOf x=some .cell\/env.kindOf x=some .free)/\∃c,env.cells.lookup x=some c/\h.IsCell c (some u))
structure Cx.Ok (X:Cx):Prop where
 mod:Mod X.K X.mg X.base
 kind:X.env.scope.kind=.function
 glob:X.env.globals=mainGlobals
 blt:X.env.builtins=builtinsNs
 above:X.s₀.heap.objs.size<=X.env.locals
 inj:∀x y c,X.env.cells.lookup x=some c->X.env.cells.lookup y=some c->x=y
 has:∀x,(X.env.kindOf x=some .cell\/X.env.kindOf x=some .free)->∃c,X.env.cells.lookup x=some c
 cab:∀x c,X.fn x=true->X.env.cells.lookup x=some c->X.s₀.heap.objs.size<=c
 hd:X.calm=true->X.A.handled=none
 frames:X.A.frames=some X.stack
 stk:X.stack=X.outer\/(X.stack=X.env :: X.outer/\X.env.frame=some X.env.locals)
 exf:∀b∈X.ex,b≠X.env.locals/\∀x c,X.env.cells.lookup x=some c->c≠b
 bs:∀b o,X.base.get? b=some o->X.s₀.heap.get? b=some o/\X.H₀ b=none
 bsz:X.base.objs.size<=X.s₀.heap.objs.size
 noex:∀b o,X.base.get? b=some o->b ∉ X.ex
 exfs:∀b∈X.ex,b ∉ X.fs
 funs:X.s₀.heap.FunFrames X.base X.outer
 frf:∀b∈X.fs,X.H₀ b=none
structure Inv (X:Cx) (pins:List (Addr × Obj)) (σ:List (Option V)) (H:Hp) (s:Shared):Prop where
 ok:X.Ok
 os:s.os=X.s₀.os
 bare:AllBare s.gens
 base:Un X.fs X.ex X.H₀ H X.s₀.heap s.heap
 loc:∃m,s.heap.Ns X.env.locals m/\∀(i:Nat) (x:Str) (v:V),X.N[i]? = some x->σ[i]? = some (some v)->Vis X.env.scope x->∃u,RelV v u/\zwl X.env s.heap m x u
 cell:∀x c,X.env.cells.lookup x=some c->∃v,s.heap.IsCell c v
 free:H X.env.locals=none
 freeC:∀x c,X.env.cells.lookup x=some c->H c=none
 pin:∀p∈X.pn++pins,s.heap.get? p.1=some p.2/\H p.1=none/\p.1≠X.env.locals/\p.1 ∉ X.fs/\∀v,p.2.data≠.cell v
 hok:HOk X.prog X.w H s.heap
 len:σ.length=X.N.length
section
variable {X:Cx}{pins:List (Addr × Obj)}{σ:List (Option V)}{H H':Hp}{s:Shared}{h':Heap}
theorem Cx.Ok.nofr (ok:X.Ok) {b:Addr}{o:Obj}(e:X.base.get? b=some o):b ∉ X.fs:=λhb=>by
 have:=(ok.funs.mem hb).1
 rw [e] at this;cases this
theorem Inv.bs (I:Inv X pins σ H s):∀b o,X.base.get? b=some o->s.heap.get? b=some o/\H b=none:=λb o e =>
 ⟨I.base.keep b o (I.ok.bs b o e).1 (I.ok.bs b o e).2 (I.ok.nofr e) (I.ok.noex b o e),I.base.free b o (I.ok.bs b o e).1 (I.ok.bs b o e).2 (I.ok.noex b o e)⟩
theorem Inv.bk (I:Inv X pins σ H s):∀b o,X.base.get? b=some o->s.heap.get? b=some o:=λb o e=>(I.bs b o e).1
theorem Inv.mod (I:Inv X pins σ H s):Mod X.K X.mg X.base:=I.ok.mod
theorem Inv.kIn (I:Inv X pins σ H s):X.K.In s.heap:=I.ok.mod.kin.keeps I.bk
theorem Inv.nolimit (I:Inv X pins σ H s):s.heap.NoLimit:=I.ok.mod.nolimit.keeps I.bk
theorem Inv.lt (I:Inv X pins σ H s):X.env.locals<s.heap.objs.size:=let ⟨_,hn,_⟩:=I.loc;hn.lt
theorem Inv.sz (I:Inv X pins σ H s):X.s₀.heap.objs.size<=s.heap.objs.size:=Nat.le_trans I.ok.above (Nat.le_of_lt I.lt)
theorem Inv.nofs (I:Inv X pins σ H s) {a:Addr}(h:s.heap.objs.size<=a):a ∉ X.fs:=λhb=>by
 obtain ⟨_,o,ho,_⟩:=I.ok.funs.mem hb
 exact absurd (Nat.lt_of_lt_of_le (Heap.lt_size ho) (Nat.le_trans I.sz h)) (Nat.lt_irrefl _)
theorem Inv.cne (I:Inv X pins σ H s):∀x c,X.env.cells.lookup x=some c->c≠X.env.locals:=λx c e z=>by
 obtain ⟨v,o,ho,hd⟩:=I.cell x c e
 obtain ⟨m,⟨o',es,ep,ho',hd',_⟩,_⟩:=I.loc
 rw [z,ho'] at ho;cases ho;rw [hd'] at hd;cases hd
theorem Inv.funs (I:Inv X pins σ H s):s.heap.FunFrames X.base X.outer:=by
 have all:∀(l:List Env),(∀b∈frs l,b∈X.fs)->X.s₀.heap.FunFrames X.base l->s.heap.FunFrames X.base l:=by
  intro l
  induction l with
  | nil=>intro _ _;trivial
  | cons env r ih =>
   intro hs hl
   obtain ⟨hk,⟨L,o,hf,hn,ho,hd⟩,hr⟩:=hl
   have hL:L∈X.fs:=hs L (by unfold frs;rw [List.filterMap_cons,hf];exact List.mem_cons_self)
   obtain ⟨sl,e⟩:=I.base.slot L o ho (I.ok.frf L hL) hL λz=>I.ok.exfs L z hL
   exact ⟨hk,⟨L,_,hf,hn,e,hd⟩,ih (λb hb=>hs b (by unfold frs;rw [List.filterMap_cons,hf];exact List.mem_cons_of_mem _ hb)) hr⟩
 exact all X.outer (λ_ hb=>hb) I.ok.funs
theorem Inv.stack (I:Inv X pins σ H s):s.heap.FunFrames X.base X.stack:=by
 rcases I.ok.stk with e|⟨e,hf⟩
 ·rw [e];exact I.funs
 ·rw [e]
  obtain ⟨m,hn,_⟩:=I.loc
  refine .cons (by rw [I.ok.kind];decide) hf hn ?_ I.funs
  exact Heap.get?_none_of_le (Nat.le_trans I.ok.bsz I.ok.above)
theorem Inv.stkSub (I:Inv X pins σ H s):∀b∈frs X.stack,b∈X.env.locals :: X.fs:=λb hb=>by
 rcases I.ok.stk with e|⟨e,hf⟩
 ·rw [e] at hb;exact List.mem_cons_of_mem _ hb
 ·rw [e] at hb
  unfold frs at hb
  rw [List.filterMap_cons,hf] at hb
  exact hb
theorem Inv.stkFree (I:Inv X pins σ H s):∀b∈frs X.stack,H b=none:=λb hb=>by
 rcases List.mem_cons.mp (I.stkSub b hb) with e|hb
 ·rw [e];exact I.free
 ·obtain ⟨_,o,ho,_⟩:=I.ok.funs.mem hb
  exact I.base.free b o ho (I.ok.frf b hb) λz=>I.ok.exfs b z hb
theorem Inv.step {g':Array GenState}{t':Nat}{d':Drawn}{ch:List Addr}(I:Inv X pins σ H s)
  (hch:∀b∈ch,(b∈X.ex\/X.s₀.heap.objs.size<=b)/\b≠X.env.locals/\(∀x c,X.env.cells.lookup x=some c->c≠b)/\∀p∈X.pn++pins,p.1≠b)
  (keep:∀b o,b≠X.env.locals->b ∉ X.fs->b ∉ ch->s.heap.get? b=some o->H b=none->h'.get? b=some o)
  (slot:∀b o,b≠X.env.locals->b∈X.fs->b ∉ ch->s.heap.get? b=some o->H b=none->∃sl,h'.get? b=some { o with slots:=sl }) (free:∀b o,b ∉ ch->s.heap.get? b=some o->H b=none->H' b=none)
  (there:∀b o,b ∉ ch->s.heap.get? b=some o->∃o',h'.get? b=some o')
  (tups:∀b xs,H b=some (.tup xs)->H' b=some (.tup xs)) (frzs:∀b o u,H b=some (.frz o u)->H' b=some (.frz o u)) (tbls:∀b ps,H b=some (.tbl ps)->∃more,H' b=some (.tbl (ps++more)))
  (ns:∀m,s.heap.Ns X.env.locals m->h'.Ns X.env.locals m) (hok:HOk X.prog X.w H' h') (hg:AllBare g') :
  Inv X pins σ H' { s with heap:=h',gens:=g',drawn:=d',toks:=t' }:=by
 have neL:∀b o,X.s₀.heap.get? b=some o->b≠X.env.locals:=λb o e=>Nat.ne_of_lt (Nat.lt_of_lt_of_le (Heap.lt_size e) I.ok.above)
 have neC:∀b o,X.s₀.heap.get? b=some o->b ∉ X.ex->b ∉ ch:=λb o e hx hb=>by
  rcases (hch b hb).1 with z|z
  ·exact hx z
  ·exact absurd (Nat.lt_of_lt_of_le (Heap.lt_size e) z) (Nat.lt_irrefl _)
 have cellK:∀x c,X.env.cells.lookup x=some c->∀v,s.heap.IsCell c v->h'.IsCell c v:=λx c e v hx1_=>by
  obtain ⟨o,ho,hd⟩:=hx1_
  have nch:c ∉ ch:=λz=>(hch c z).2.2.1 x c e rfl
  by_cases hc:c∈X.fs
  ·obtain ⟨sl,q⟩:=slot c o (I.cne x c e) hc nch ho (I.freeC x c e)
   exact ⟨_,q,hd⟩
  ·exact ⟨o,keep c o (I.cne x c e) hc nch ho (I.freeC x c e),hd⟩
 refine ⟨I.ok,I.os,hg,⟨λb o e n hb hx=>?_,λb o e n hb hx=>?_,λb o e n hx=>?_,λb o e hx=>?_,λb xs e=>tups b xs (I.base.tups b xs e),λb o xs e=>frzs b o xs (I.base.frzs b o xs e),λb ps e=>?_⟩,?_,λx c e=>?_,?_,λx c e=>?_,λp hp=>?_,hok,I.len⟩
 ·exact keep b o (neL b o e) hb (neC b o e hx) (I.base.keep b o e n hb hx) (I.base.free b o e n hx)
 ·obtain ⟨sl,e1⟩:=I.base.slot b o e n hb hx
  obtain ⟨sl',e2⟩:=slot b _ (neL b o e) hb (neC b o e hx) e1 (I.base.free b o e n hx)
  exact ⟨sl',e2⟩
 ·obtain ⟨o',e1⟩:=I.base.there b o e hx
  exact free b o' (neC b o e hx) e1 (I.base.free b o e n hx)
 ·obtain ⟨o',e1⟩:=I.base.there b o e hx
  exact there b o' (neC b o e hx) e1
 ·obtain ⟨m1,e1⟩:=I.base.tbls b ps e
  obtain ⟨m2,e2⟩:=tbls b _ e1
  exact ⟨m1++m2,by rw [e2,Array.append_assoc]⟩
 ·obtain ⟨m,hn,hl⟩:=I.loc
  refine ⟨m,ns m hn,λi x v e1 e2 e3=>?_⟩
  obtain ⟨u,r,l⟩:=hl i x v e1 e2 e3
  refine ⟨u,r,?_⟩
  rcases l with l|⟨k,c,e,z⟩
  ·exact .inl l
  ·exact .inr ⟨k,c,e,cellK x c e _ z⟩
 ·obtain ⟨v,z⟩:=I.cell x c e
  exact ⟨v,cellK x c e v z⟩
 ·obtain ⟨m,⟨o,_,_,ho,_⟩,_⟩:=I.loc
  exact free _ o (λz=>(hch _ z).2.1 rfl) ho I.free
 ·obtain ⟨v,o,ho,hd⟩:=I.cell x c e
  exact free c o (λz=>(hch c z).2.2.1 x c e rfl) ho (I.freeC x c e)
 ·obtain ⟨e,n,ne,nf,d⟩:=I.pin p hp
  have nch:p.1 ∉ ch:=λz=>(hch p.1 z).2.2.2 p hp rfl
  exact ⟨keep p.1 p.2 ne nf nch e n,free p.1 p.2 nch e n,ne,nf,d⟩
theorem Inv.un {t':Nat}(I:Inv X pins σ H s) (u:Un X.fs [] H H' s.heap h') (hok:HOk X.prog X.w H' h'):Inv X pins σ H' { s with heap:=h',toks:=t' }:=by
 obtain ⟨m,⟨o,es,ep,ho,r⟩,_⟩:=id I.loc
 obtain ⟨sl,hL⟩:=u.any ho I.free (by simp)
 exact I.step (g':=s.gens) (d':=s.drawn) (ch:=[]) (λ_ z=>nomatch z) (λb o _ hb _ e n=>u.keep b o e n hb (by simp)) (λb o _ hb _ e n=>u.slot b o e n hb (by simp)) (λb o _ e n=>u.free b o e n (by simp)) (λb o _ e=>u.there b o e (by simp)) u.tups u.frzs u.tbls (λm' hm=>by
  obtain ⟨o',es',ep',ho',r'⟩:=hm
  rw [ho] at ho';cases ho'
  exact ⟨_,es',ep',hL,r'⟩) hok I.bare
theorem Inv.call {g':Array GenState}{t':Nat}{d':Drawn}{ch:List Addr}(I:Inv X pins σ H s) (u:Un (frs X.stack) ch H H' s.heap h') (hok:HOk X.prog X.w H' h') (hg:AllBare g')
  (hch:∀b∈ch,(b∈X.ex\/X.s₀.heap.objs.size<=b)/\b≠X.env.locals/\(∀x c,X.env.cells.lookup x=some c->c≠b)/\∀p∈X.pn++pins,p.1≠b) :
  Inv X pins σ H' { s with heap:=h',gens:=g',drawn:=d',toks:=t' }:=by
 obtain ⟨m,⟨o,es,ep,ho,r⟩,_⟩:=id I.loc
 obtain ⟨sl,hL⟩:=u.any ho I.free λz=>(hch _ z).2.1 rfl
 exact I.step (ch:=ch) hch (λb o hL hb hc e n=>u.keep b o e n (λz=>(List.mem_cons.mp (I.stkSub b z)).elim hL hb) hc) (λb o _ _ hc e n=>u.any e n hc) (λb o hc e n=>u.free b o e n hc) (λb o hc e=>u.there b o e hc) u.tups u.frzs u.tbls (λm' hm=>by
  obtain ⟨o',es',ep',ho',r'⟩:=hm
  rw [ho] at ho';cases ho'
  exact ⟨_,es',ep',hL,r'⟩) hok hg
theorem Inv.turned {t':Nat}{it:Addr}(I:Inv X pins σ H s) (k:∀b o,b≠it->s.heap.get? b=some o->h'.get? b=some o) (hn:H it=none) (hL:it≠X.env.locals)
  (h1:it∈X.ex\/X.s₀.heap.objs.size<=it) (h2:∀x c,X.env.cells.lookup x=some c->c≠it) (h3:∀p∈X.pn++pins,p.1≠it):Inv X pins σ H { s with heap:=h',toks:=t' }:=by
 have nit:∀b u,H b=some u->b≠it:=λb u e z=>by rw [z,hn] at e;cases e
 refine I.step (g':=s.gens) (d':=s.drawn) (ch:=[it]) (λb hb=>?_) (λb o _ _ hc e _=>k b o (λz=>hc (by simp [z])) e) (λb o _ _ hc e _=>⟨o.slots,k b o (λz=>hc (by simp [z])) e⟩) (λ_ _ _ _ n=>n)
  (λb o hc e=>⟨o,k b o (λz=>hc (by simp [z])) e⟩) (λ_ _ e=>e) (λ_ _ _ e=>e) (λb ps e=>⟨#[],by rw [e];simp⟩) (λm hm=>?_) (λb u e=>?_) I.bare
 ·have e:b=it:=by simpa using hb
  subst e
  exact ⟨h1,hL,h2,h3⟩
 ·obtain ⟨o,es,ep,ho,r⟩:=hm
  exact ⟨o,es,ep,k _ o (Ne.symm hL) ho,r⟩
 ·refine (I.hok b u e).stay (λc v hc q=>k c v ?_ q) (λ_ q=>q) λ_ _ q=>q
  rcases hc with z|z
  ·rw [z];exact nit b u e
  ·exact nit c _ z
theorem Inv.tok (I:Inv X pins σ H s) (t:Nat):Inv X pins σ H { s with toks:=t }:=I.un (h':=s.heap) (t':=t) Un.refl I.hok
theorem Inv.kept {t':Nat}(I:Inv X pins σ H s) (k:∀b u,s.heap.get? b=some u->h'.get? b=some u):Inv X pins σ H { s with heap:=h',toks:=t' }:=I.un (Un.kept k) (I.hok.kept k)
theorem Inv.laid {a:Addr}{o:HO}{t':Nat}(I:Inv X pins σ H s) (k:∀b u,s.heap.get? b=some u->h'.get? b=some u) (hp:s.heap.objs.size<=a) (new:ObjOk X.prog X.w (upd H a o) h' a o) :
  Inv X pins σ (upd H a o) { s with heap:=h',toks:=t' }:=I.un (Un.laid k hp (I.hok.fresh hp)) (I.hok.laid k hp new)
theorem Inv.write {x e:Addr}{o:HO}{t':Nat}(I:Inv X pins σ H s) (mu:Mut (H x)) (he:e=x\/H e=some (.own x)) (k:∀b u,b≠e->s.heap.get? b=some u->h'.get? b=some u) (heo:∃u,h'.get? e=some u)
  (new:ObjOk X.prog X.w (upd H x o) h' x o):Inv X pins σ (upd H x o) { s with heap:=h',toks:=t' }:=I.un (Un.write mu he k heo) (I.hok.write mu he k heo new)
theorem Inv.pins_of {pins':List (Addr × Obj)}(I:Inv X pins σ H s) (h:∀p∈pins',s.heap.get? p.1=some p.2/\H p.1=none/\p.1≠X.env.locals/\p.1 ∉ X.fs/\∀v,p.2.data≠.cell v):Inv X pins' σ H s :=
 ⟨I.ok,I.os,I.bare,I.base,I.loc,I.cell,I.free,I.freeC,λp hp=>(List.mem_append.mp hp).elim (λz=>I.pin p (List.mem_append_left _ z)) (h p),I.hok,I.len⟩
theorem zl1 {N:List Str}(hN:N.Nodup) {i j:Nat}{x:Str}(a:N[i]? = some x) (b:N[j]? = some x):i=j:=by
 obtain ⟨h1,e1⟩:=qme a
 obtain ⟨h2,e2⟩:=qme b
 exact (List.getElem_inj hN).mp (e1.trans e2.symm)
theorem zo9 {M:Model}{A:Around}{E:Value->Shared->Prop}{i:Nat}{x:Str}{v:V}{u:Value}{Q:Unit->Shared->Prop}(I:Inv X pins σ H s) (hN:X.N.Nodup) (hi:X.N[i]? = some x) (hx:Loc X.env.scope x) (r:RelV v u)
  (h:∀s',Inv X pins (σ.set i (some v)) H s'->(∃a,Heap.SameBut a s.heap s'.heap/\(a=X.env.locals\/X.env.cells.lookup x=some a))->Q () s') (hf:X.fn x=true\/X.env.scope.names.lookup x=some .local:=by first|exact .inl rfl|exact .inr rfl|assumption):wpAny M A (storeName X.env x u) Q E s:=by
 obtain ⟨m,hn,hl⟩:=id I.loc
 have hcls:(X.env.scope.kind == .class || (X.env.scope.kind == .module && X.env.locals != X.env.globals))=false:=by rw [I.ok.kind];rfl
 have hiσ:i<σ.length:=by rw [I.len];exact (qme hi).1
 have cne:=I.cne
 have tracked:∀{a:Addr} {h':Heap},(∃o,s.heap.get? a=some o/\H a=none)->Heap.SameBut a s.heap h'->HOk X.prog X.w H h':=λ{a h'} ha hs b ob e=>by
  obtain ⟨_,_,hfree⟩:=ha
  refine (I.hok b ob e).stay (λc w' hc q=>(hs.2 c ?_).trans q) (λ_ q=>q) λ_ _ q=>q
  rintro rfl
  rcases hc with rfl|hc
  ·rw [hfree] at e;cases e
  ·rw [hfree] at hc;cases hc
 rcases hx with hk|hk
 ·refine wpAny_storeName_local hk hn (λh' hn' hs=>?_) hcls
  obtain ⟨oL,_,_,hoL,_⟩:=id hn
  refine h _ ⟨I.ok,I.os,I.bare,⟨λb o e n hb hx=>?_,λb o e n hb hx=>?_,I.base.free,λb o e hx=>?_,I.base.tups,I.base.frzs,I.base.tbls⟩,⟨_,hn',λj y v' e1 e2 e3=>?_⟩,λy c e=>?_,I.free,I.freeC,λp hp=>?_,tracked ⟨oL,hoL,I.free⟩ hs,by simpa using I.len⟩ ⟨_,hs,.inl rfl⟩
  ·exact (hs.2 b (Nat.ne_of_lt (Nat.lt_of_lt_of_le (Heap.lt_size e) I.ok.above))).trans (I.base.keep b o e n hb hx)
  ·obtain ⟨sl,e1⟩:=I.base.slot b o e n hb hx
   exact ⟨sl,(hs.2 b (Nat.ne_of_lt (Nat.lt_of_lt_of_le (Heap.lt_size e) I.ok.above))).trans e1⟩
  ·obtain ⟨o',e1⟩:=I.base.there b o e hx
   exact ⟨o',(hs.2 b (Nat.ne_of_lt (Nat.lt_of_lt_of_le (Heap.lt_size e) I.ok.above))).trans e1⟩
  ·by_cases hj:j=i
   ·subst hj
    rw [hi] at e1;cases e1
    rw [List.getElem?_set_self hiσ] at e2
    cases e2
    exact ⟨u,r,.inl ⟨hk,by simp⟩⟩
   ·rw [List.getElem?_set_ne (Ne.symm hj)] at e2
    obtain ⟨u',r',q⟩:=hl j y v' e1 e2 e3
    refine ⟨u',r',?_⟩
    rcases q with ⟨k,e⟩|⟨k,c,e,z⟩
    ·refine .inl ⟨k,?_⟩
     have:y≠x:=λe=>hj (zl1 hN e1 (e ▸ hi))
     simp [this,e]
    ·exact .inr ⟨k,c,e,z.sameBut hs (cne y c e)⟩
  ·obtain ⟨w',z⟩:=I.cell y c e
   exact ⟨w',z.sameBut hs (cne y c e)⟩
  ·obtain ⟨e,n,ne,nf,d⟩:=I.pin p hp
   exact ⟨(hs.2 p.1 ne).trans e,n,ne,nf,d⟩
 ·have hfn:X.fn x=true:=by
   rcases hf with z|z
   ·exact z
   ·rw [z] at hk;cases hk
  obtain ⟨c,hc⟩:=I.ok.has x (.inl hk)
  obtain ⟨w',z⟩:=I.cell x c hc
  refine wpAny_storeName_cell I.ok.kind hk hc z (λh' hc' hs=>?_)
  obtain ⟨oc,hoc,hocd⟩:=id z
  refine h { s with heap:=h' } ⟨I.ok,I.os,I.bare,⟨λb o e n hb hx=>?_,λb o e n hb hx=>?_,I.base.free,λb o e hx=>?_,I.base.tups,I.base.frzs,I.base.tbls⟩,⟨m,hn.sameBut hs (Ne.symm (cne x c hc)),λj y v' e1 e2 e3=>?_⟩,λy c' e=>?_,I.free,I.freeC,λp hp=>?_,tracked ⟨oc,hoc,I.freeC x c hc⟩ hs,by simpa using I.len⟩ ⟨c,hs,.inr hc⟩
  ·exact (hs.2 b (Nat.ne_of_lt (Nat.lt_of_lt_of_le (Heap.lt_size e) (I.ok.cab x c hfn hc)))).trans (I.base.keep b o e n hb hx)
  ·obtain ⟨sl,e1⟩:=I.base.slot b o e n hb hx
   exact ⟨sl,(hs.2 b (Nat.ne_of_lt (Nat.lt_of_lt_of_le (Heap.lt_size e) (I.ok.cab x c hfn hc)))).trans e1⟩
  ·obtain ⟨o',e1⟩:=I.base.there b o e hx
   exact ⟨o',(hs.2 b (Nat.ne_of_lt (Nat.lt_of_lt_of_le (Heap.lt_size e) (I.ok.cab x c hfn hc)))).trans e1⟩
  ·by_cases hj:j=i
   ·subst hj
    rw [hi] at e1;cases e1
    rw [List.getElem?_set_self hiσ] at e2
    cases e2
    exact ⟨u,r,.inr ⟨.inl hk,c,hc,hc'⟩⟩
   ·rw [List.getElem?_set_ne (Ne.symm hj)] at e2
    obtain ⟨u',r',q⟩:=hl j y v' e1 e2 e3
    refine ⟨u',r',?_⟩
    rcases q with q|⟨k,c',e,z'⟩
    ·exact .inl q
    ·refine .inr ⟨k,c',e,z'.sameBut hs ?_⟩
     rintro rfl
     exact hj (zl1 hN e1 (I.ok.inj _ _ _ e hc ▸ hi))
  ·by_cases hcc:c' = c
   ·subst hcc;exact ⟨_,hc'⟩
   ·obtain ⟨w2,z2⟩:=I.cell y c' e
    exact ⟨w2,z2.sameBut hs hcc⟩
  ·obtain ⟨e,n,ne,nf,d⟩:=I.pin p hp
   refine ⟨(hs.2 p.1 ?_).trans e,n,ne,nf,d⟩
   intro q
   rw [q,hoc] at e
   have q':oc=p.2:=qoi e
   exact d w' (by rw [<-q'];exact hocd)
theorem zl2 {M:Model}{A:Around}{E:Value->Shared->Prop}{i:Nat}{x:Str}{v:V}{u:Value}{Q:Unit->Shared->Prop}(I:Inv X pins σ H s) (hN:X.N.Nodup) (hi:X.N[i]? = some x) (hx:Loc X.env.scope x) (r:RelV v u)
  (h:∀s',Inv X pins (σ.set i (some v)) H s'->Q () s') (hf:X.fn x=true\/X.env.scope.names.lookup x=some .local:=by first|exact .inl rfl|exact .inr rfl|assumption):wpAny M A (storeName X.env x u) Q E s :=
 zo9 I hN hi hx r (λs' I' _=>h s' I') hf
theorem Inv.call' {s':Shared}{ch:List Addr}(I:Inv X pins σ H s) (ho:s'.os=s.os) (u:Un (frs X.stack) ch H H' s.heap s'.heap) (hok:HOk X.prog X.w H' s'.heap) (hg:AllBare s'.gens)
  (hch:∀b∈ch,(b∈X.ex\/X.s₀.heap.objs.size<=b)/\b≠X.env.locals/\(∀x c,X.env.cells.lookup x=some c->c≠b)/\∀p∈X.pn++pins,p.1≠b):Inv X pins σ H' s':=by
 obtain ⟨h',g',d',t',o'⟩:=s'
 have e:o' = s.os:=ho
 subst e
 exact I.call (g':=g') (t':=t') (d':=d') u hok hg hch
end
abbrev XK:=Value->Option Addr->Hp->Prop
abbrev St:=List (Option V)
abbrev VK:=V->Hp->Prop
abbrev TE:=St->Hp->VK->Prop
abbrev TT:=St->Hp->(Bool->Hp->Prop)->Prop
abbrev TA:=St->Hp->(List V->Hp->Prop)->Prop
structure Ends where
 nx:St->Hp->Prop
 rt:VK
 bk:St->Hp->Prop:=λ_ _=>False
 ct:St->Hp->Prop:=λ_ _=>False
abbrev TS:=Ends->St->Hp->Prop
def EP (X:Cx) (pins:List (Addr × Obj)) (σ:St) (Q:VK) (u:Value) (s':Shared):Prop:=∃v H',Inv X pins σ H' s'/\RelV v u/\Q v H'
def TP (X:Cx) (pins:List (Addr × Obj)) (σ:St) (Q:Bool->Hp->Prop) (b:Bool) (s':Shared):Prop:=∃H',Inv X pins σ H' s'/\Q b H'
def AP (X:Cx) (pins:List (Addr × Obj)) (σ:St) (Q:List V->Hp->Prop) (us:List Value) (s':Shared):Prop:=∃vs H',Inv X pins σ H' s'/\Vals vs us/\Q vs H'
def SP (X:Cx) (pins:List (Addr × Obj)) (D:Ends) (f:Flow) (s':Shared):Prop :=
 match f with
 | .next=>∃σ' H',Inv X pins σ' H' s'/\D.nx σ' H'
 | .brk=>∃σ' H',Inv X pins σ' H' s'/\D.bk σ' H'
 | .cont=>∃σ' H',Inv X pins σ' H' s'/\D.ct σ' H'
 | .ret u=>∃v σ' H',Inv X pins σ' H' s'/\RelV v u/\D.rt v H'
def PE (X:Cx) (e:Expr) (t:TE):Prop :=
 ∀(pins:List (Addr × Obj)) (s:Shared) (σ:St) (H:Hp) (Q:VK),Inv X pins σ H s->t σ H Q->wpAny (model X.prog X.w) X.A (eval e X.env) (EP X pins σ Q) X.xe s
def PT (X:Cx) (e:Expr) (t:TT):Prop :=
 ∀(pins:List (Addr × Obj)) (s:Shared) (σ:St) (H:Hp) (Q:Bool->Hp->Prop),Inv X pins σ H s->t σ H Q->wpAny (model X.prog X.w) X.A (isTrue e X.env (eval e X.env)) (TP X pins σ Q) X.xe s
def PW (X:Cx) (e:Expr) (t:TT):Prop :=
 ∀(whole:Sem Value) (pins:List (Addr × Obj)) (s:Shared) (σ:St) (H:Hp) (Q:Bool->Hp->Prop),Inv X pins σ H s->t σ H Q->wpAny (model X.prog X.w) X.A (isTrue e X.env whole) (TP X pins σ Q) X.xe s
theorem PW.pt {X:Cx}{e:Expr}{t:TT}(h:PW X e t):PT X e t:=h _
def PA (X:Cx) (es:List Expr) (t:TA):Prop :=
 ∀(pos:Pos) (pins:List (Addr × Obj)) (s:Shared) (σ:St) (H:Hp) (Q:List V->Hp->Prop),Inv X pins σ H s->t σ H Q->wpAny (model X.prog X.w) X.A (spliced (backTo pos (starEach es X.env))) (AP X pins σ Q) X.xe s
def PS (X:Cx) (st:Stmt) (t:TS):Prop :=
 ∀(pins:List (Addr × Obj)) (s:Shared) (σ:St) (H:Hp) (D:Ends),Inv X pins σ H s->t D σ H->wpAny (model X.prog X.w) X.A (exec st X.env) (SP X pins D) X.xe s
def PSs (X:Cx) (st:List Stmt) (t:TS):Prop :=
 ∀(pins:List (Addr × Obj)) (s:Shared) (σ:St) (H:Hp) (D:Ends),Inv X pins σ H s->t D σ H->wpAny (model X.prog X.w) X.A (execs st X.env) (SP X pins D) X.xe s
theorem thn {α:Type}{t:Sem α}{Q Q':α->Shared->Prop}{M:Model}{A:Around}{E:Value->Shared->Prop}{s:Shared}(h:wpAny M A t Q E s) (hQ:∀a s,Q a s->Q' a s):wpAny M A t Q' E s:=wpAny_mono h hQ λ_ _ x=>x
section
variable {X:Cx}
def zwm (i:Nat):TE:=λσ H Q=>∃v,σ[i]? = some (some v)/\Q v H
def tC (v:V):TE:=λ_ H Q=>Q v H
theorem zjv {i:Nat}{x:Str}{pos:Pos}(hN:X.N[i]? = some x) (hv:Vis X.env.scope x) (hd:(x == ("__debug__":Str))=false:=by decide) (hcd:(x == ("__classdict__":Str))=false:=by decide):PE X (.Name x pos) (zwm i):=by
 intro pins s σ H Q I h
 obtain ⟨v,e,h⟩:=h
 obtain ⟨m,hn,hl⟩:=I.loc
 obtain ⟨u,r,l⟩:=hl i x v hN e hv
 have fin:EP X pins σ Q u s:=⟨v,H,I,r,h⟩
 rcases l with ⟨hk,hm⟩|⟨hk,c,hc,hcell⟩
 ·exact wpAny_Name (wpAny_loadName_local I.ok.kind hk hn hm fin) hd
 ·rcases hk with hk|hk
  ·exact wpAny_Name (wpAny_loadName_cell I.ok.kind hk hc hcell fin) hd
  ·exact wpAny_Name (wpAny_loadName_free I.ok.kind hk hc hcell fin hcd) hd
theorem zl3 {i j pos}:PE X (.Constant (.int i) j pos) (tC (.int i)):=λ_ _ _ H _ I h=>wpAny_Constant_int ⟨.int i,H,I.tok _,⟨_,rfl⟩,h⟩
theorem zwn {b j pos}:PE X (.Constant (.bool b) j pos) (tC (.bl b)):=λ_ _ _ H _ I h=>Constant_bool ⟨.bl b,H,I,rfl,h⟩
theorem zwo {j pos}:PE X (.Constant .none j pos) (tC .non):=λ_ _ _ H _ I h=>Constant_none ⟨.non,H,I,rfl,h⟩
theorem zh3 {x j pos}:PE X (.Constant (.str x) j pos) (tC (.str x)):=λ_ _ _ H _ I h=>Calls.Constant_str ⟨.str x,H,I.tok _,⟨_,rfl⟩,h⟩
def Gl (X:Cx) (x:Str):Prop:=X.env.kindOf x=some .globalImplicit
theorem zh4 {E:Value->Shared->Prop}{pins:List (Addr × Obj)}{s:Shared}{σ:St}{H:Hp}{x:Str}{u:Value}{pos:Pos}{Q:Value->Shared->Prop}(I:Inv X pins σ H s) (hg:Gl X x) (hm:X.mg x=some u) (h:Q u s)
  (hd:(x == ("__debug__":Str))=false:=by decide):wpAny (model X.prog X.w) X.A (eval (.Name x pos) X.env) Q E s :=
 Calls.Name_function_global I.ok.kind hg (Calls.loadGlobal_global (by rw [I.ok.glob];exact I.mod.glob.keeps I.bk) hm h) hd
theorem zfg {E:Value->Shared->Prop}{pins:List (Addr × Obj)}{s:Shared}{σ:St}{H:Hp}{x:Str}{u:Value}{pos:Pos}{Q:Value->Shared->Prop}(I:Inv X pins σ H s) (hg:Gl X x) (hm:X.mg x=none) (hv:bootBuiltins x=some u) (h:Q u s)
  (hn:x≠"__name__":=by decide) (hd:(x == ("__debug__":Str))=false:=by decide):wpAny (model X.prog X.w) X.A (eval (.Name x pos) X.env) Q E s:=by
 obtain ⟨mb,h1,h2⟩:=I.mod.blt
 exact Calls.Name_function_global I.ok.kind hg (Calls.loadGlobal_builtin (by rw [I.ok.glob];exact I.mod.glob.keeps I.bk) hm (by rw [I.ok.blt];exact h1.keeps I.bk) ((h2 x hn).trans hv) h) hd
theorem zwp {x:Str}{v:V}{u:Value}{pos:Pos}(hg:Gl X x) (hm:X.mg x=some u) (r:RelV v u) (hd:(x == ("__debug__":Str))=false:=by decide):PE X (.Name x pos) (tC v) :=
 λ_ _ _ H _ I h=>zh4 I hg hm ⟨v,H,I,r,h⟩ hd
theorem zpa {x:Str}{v:V}{u:Value}{pos:Pos}(hg:Gl X x) (hm:X.mg x=none) (hv:bootBuiltins x=some u) (r:RelV v u) (hn:x≠"__name__":=by decide) (hd:(x == ("__debug__":Str))=false:=by decide):PE X (.Name x pos) (tC v) :=
 λ_ _ _ H _ I h=>zfg I hg hm hv ⟨v,H,I,r,h⟩ hn hd
variable {a b:Expr}{ta tb:TE}{pos:Pos}
def tB (t:TE):TT:=λσ H Q=>t σ H λx H1=>∃c,x=.bl c/\Q c H1
theorem zpb {e:Expr}{t:TE}(h:PE X e t) (he:∀whole,isTrue e X.env whole=(do let v <-whole;standAt e.pos;holding [v] (truthy v)):=by intro _;rfl):PT X e (tB t):=by
 intro pins s σ H Q I hw
 refine isTrue_plain (thn (h pins s σ H _ I hw) λv s1 ⟨x,H1,I1,r1,q1⟩=>?_) (he _)
 obtain ⟨d,rfl,q⟩:=q1
 cases r1
 exact wpAny_truthy_bool ⟨H1,I1,q⟩
variable {tA tB':TT}{rest:List Expr}
def tAnd (t u:TT):TT:=λσ H Q=>t σ H λc H1=>if c=true then u σ H1 Q else Q false H1
def tOr (t u:TT):TT:=λσ H Q=>t σ H λc H1=>if c=true then Q true H1 else u σ H1 Q
def zwq (t:TT):TT:=λσ H Q=>t σ H λc H1=>Q (!c) H1
theorem zwr (ha:PT X a tA):PW X (.BoolOp .And [a] pos) tA:=by
 intro wh pins s σ H Q I h
 refine isTrue_and (thn (ha pins s σ H Q I h) λc s1 e=>?_)
 cases c with
 | true=>exact isTrue_and_nil e
 | false=>exact e
theorem zws (ha:PT X a tA):PW X (.BoolOp .Or [a] pos) tA:=by
 intro wh pins s σ H Q I h
 refine isTrue_or (thn (ha pins s σ H Q I h) λc s1 e=>?_)
 cases c with
 | false=>exact isTrue_or_nil e
 | true=>exact e
theorem zwt (ha:PT X a tA) (hb:PW X (.BoolOp .And (b :: rest) pos) tB'):PW X (.BoolOp .And (a :: b :: rest) pos) (tAnd tA tB'):=by
 intro wh pins s σ H Q I h
 refine isTrue_and (thn (ha pins s σ H _ I h) λc s1 ⟨H1,I1,q1⟩=>?_)
 cases c with
 | true=>exact hb wh pins s1 σ H1 Q I1 q1
 | false=>exact ⟨H1,I1,q1⟩
theorem zwu (ha:PT X a tA) (hb:PW X (.BoolOp .Or (b :: rest) pos) tB'):PW X (.BoolOp .Or (a :: b :: rest) pos) (tOr tA tB'):=by
 intro wh pins s σ H Q I h
 refine isTrue_or (thn (ha pins s σ H _ I h) λc s1 ⟨H1,I1,q1⟩=>?_)
 cases c with
 | true=>exact ⟨H1,I1,q1⟩
 | false=>exact hb wh pins s1 σ H1 Q I1 q1
theorem zpc (ha:PT X a tA):PT X (.UnaryOp .Not a pos) (zwq tA):=by
 intro pins s σ H Q I h
 exact isTrue_not (ha pins s σ H (λc H1=>Q (!c) H1) I h)
def zwv (ta tb:TE):TE:=λσ H Q=>ta σ H λx H1=>∃c,x=.bl c/\if c=true then tb σ H1 Q else Q (.bl false) H1
def zww (ta:TE):TE:=λσ H Q=>ta σ H λx H1=>∃c,x=.bl c/\Q (.bl (!c)) H1
theorem zwx {op}{t:TE}(h:PE X a t):PE X (.BoolOp op [a] pos) t:=λpins s σ H Q I hw=>BoolOp_one (h pins s σ H Q I hw)
theorem zwy (ha:PE X a ta) (hb:PE X (.BoolOp .And (b :: rest) pos) tb):PE X (.BoolOp .And (a :: b :: rest) pos) (zwv ta tb):=by
 intro pins s σ H Q I h
 refine BoolOp_and (thn (ha pins s σ H _ I h) λv s1 ⟨x,H1,I1,r1,q1⟩=>?_)
 obtain ⟨c,rfl,q1⟩:=q1
 cases r1
 refine wpAny_truthy_bool ?_
 cases c with
 | true=>exact hb pins s1 σ H1 Q I1 q1
 | false=>exact ⟨.bl false,H1,I1,rfl,q1⟩
theorem zwz (ha:PE X a ta):PE X (.UnaryOp .Not a pos) (zww ta):=by
 intro pins s σ H Q I h
 refine UnaryOp_ (thn (ha pins s σ H _ I h) λv s1 ⟨x,H1,I1,r1,q1⟩=>?_)
 obtain ⟨c,rfl,q1⟩:=q1
 cases r1
 exact not_of (wpAny_truthy_bool ⟨.bl (!c),H1,I1,rfl,q1⟩)
end
def SqL (K:QFg) (H:Hp) (a:Addr) (xs:List V):Prop :=
 Rd H a (.lst xs) \/
  ∃(o:Obj) (its:Array Value) (n:Nat),K.lookup a=some o/\o.cls=.type "list"/\o.dict=none/\o.data=.seq its n/\its.size<=sizeLine/\Vals xs its.toList
def SqT (K:QFg) (H:Hp) (a:Addr) (xs:List V):Prop :=
 Rd H a (.tup xs) \/
  ∃(o:Obj) (its:Array Value) (n:Nat),K.lookup a=some o/\o.cls=.type "tuple"/\o.data=.seq its n/\its.size<=sizeLine/\Vals xs its.toList
noncomputable def zw0:Value->Option V
 | .none=>some .non
 | .bool b=>some (.bl b)
 | .int i _=>some (.int i)
 | .str x _=>some (.str x)
 | .bytes b _=>some (.byt b)
 | .float b _=>some (.flt b)
 | .ref a=>some (.ref a)
 | .type n=>some (.ty n)
 | _=>none
theorem RelV.abs {x:V}{u:Value}(r:RelV x u):zw0 u=some x:=by
 cases x with
 | non=>cases r;rfl
 | bl _=>cases r;rfl
 | int _=>obtain ⟨t,rfl⟩:=r;rfl
 | str _=>obtain ⟨t,rfl⟩:=r;rfl
 | byt _=>obtain ⟨t,rfl⟩:=r;rfl
 | flt _=>obtain ⟨t,rfl⟩:=r;rfl
 | ref _=>cases r;rfl
 | ty _=>cases r;rfl
theorem RelV.inj {x y:V}{u:Value}(r:RelV x u) (q:RelV y u):x=y:=qoi (r.abs.symm.trans q.abs)
theorem Vals.inj:∀{xs ys:List V}{us:List Value},Vals xs us->Vals ys us->xs=ys
 | _,_,_,.nil,.nil=>rfl
 | _,_,_,.cons r t,.cons r' t'=>by rw [r.inj r',Vals.inj t t']
section
variable {X:Cx}{pins:List (Addr × Obj)}{σ:St}{H:Hp}{s:Shared}{a:Addr}{xs ys:List V}
theorem SqT.of {K:QFg}(h:H a=some (.tup xs)):SqT K H a xs:=.inl (.inl h)
theorem Inv.list (I:Inv X pins σ H s) (h:SqL X.K H a xs):∃its:List Value,Vals xs its/\PlainL s.heap a its.toArray/\xs.length<=sizeLine:=by
 rcases h with h|⟨o,its,n,hk,hc,hd,hs,hz,r⟩
 ·obtain ⟨z,its,n,r,e⟩:=h.ok I.hok
  exact ⟨its,r,⟨_,n,e,rfl,rfl,rfl⟩,z⟩
 ·refine ⟨its.toList,r,⟨o,n,I.kIn a o hk,hc,hd,by simpa using hs⟩,?_⟩
  have e:=r.length
  simp only [Array.length_toList] at e
  omega
theorem Inv.tuple (I:Inv X pins σ H s) (h:SqT X.K H a xs):∃its:List Value,Vals xs its/\IsTup s.heap a its.toArray/\xs.length<=sizeLine:=by
 rcases h with h|⟨o,its,n,hk,hc,hs,hz,r⟩
 ·obtain ⟨z,its,r,p⟩:=h.ok I.hok
  exact ⟨its,r,p.tup,z⟩
 ·refine ⟨its.toList,r,⟨o,I.kIn a o hk,hc,n,by simpa using hs⟩,?_⟩
  have e:=r.length
  simp only [Array.length_toList] at e
  omega
theorem Inv.list_inj (I:Inv X pins σ H s) (h:SqL X.K H a xs) (h':SqL X.K H a ys):xs=ys:=by
 obtain ⟨its,r,⟨o,n,e,_,_,d⟩,_⟩:=I.list h
 obtain ⟨its',r',⟨o',n',e',_,_,d'⟩,_⟩:=I.list h'
 rw [e] at e';cases e'
 rw [d] at d'
 injection d' with d1 _
 have:its=its':=by simpa using congrArg Array.toList d1
 subst this
 exact r.inj r'
theorem Inv.tuple_inj (I:Inv X pins σ H s) (h:SqT X.K H a xs) (h':SqT X.K H a ys):xs=ys:=by
 obtain ⟨its,r,⟨o,e,_,n,d⟩,_⟩:=I.tuple h
 obtain ⟨its',r',⟨o',e',_,n',d'⟩,_⟩:=I.tuple h'
 rw [e] at e';cases e'
 rw [d] at d'
 injection d' with d1 _
 have:its=its':=by simpa using congrArg Array.toList d1
 subst this
 exact r.inj r'
end
noncomputable abbrev Cx.wish (X:Cx) (E:Value->Shared->Prop):Cx:={ X with xe:=E }
noncomputable abbrev Cx.nox (X:Cx):Cx:=X.wish λ_ _=>False
theorem Cx.Ok.wish {X:Cx}(ok:X.Ok) (E:Value->Shared->Prop):(X.wish E).Ok :=
 ⟨ok.mod,ok.kind,ok.glob,ok.blt,ok.above,ok.inj,ok.has,ok.cab,ok.hd,ok.frames,ok.stk,ok.exf,ok.bs,ok.bsz,ok.noex,ok.exfs,ok.funs,ok.frf⟩
theorem Cx.Ok.unwish {X:Cx}{E:Value->Shared->Prop}(ok:(X.wish E).Ok):X.Ok :=
 ⟨ok.mod,ok.kind,ok.glob,ok.blt,ok.above,ok.inj,ok.has,ok.cab,ok.hd,ok.frames,ok.stk,ok.exf,ok.bs,ok.bsz,ok.noex,ok.exfs,ok.funs,ok.frf⟩
section
variable {X:Cx}{pins:List (Addr × Obj)}{σ:St}{H:Hp}{s:Shared}{E:Value->Shared->Prop}
theorem Inv.wish (I:Inv X pins σ H s) (E:Value->Shared->Prop):Inv (X.wish E) pins σ H s:=⟨I.ok.wish E,I.os,I.bare,I.base,I.loc,I.cell,I.free,I.freeC,I.pin,I.hok,I.len⟩
theorem Inv.unwish (I:Inv (X.wish E) pins σ H s):Inv X pins σ H s:=⟨I.ok.unwish,I.os,I.bare,I.base,I.loc,I.cell,I.free,I.freeC,I.pin,I.hok,I.len⟩
theorem SP.unwish {D:Ends}{f:Flow}{s':Shared}(h:SP (X.wish E) pins D f s'):SP X pins D f s':=by
 cases f with
 | next=>obtain ⟨σ',H',I,q⟩:=h;exact ⟨σ',H',I.unwish,q⟩
 | brk=>obtain ⟨σ',H',I,q⟩:=h;exact ⟨σ',H',I.unwish,q⟩
 | cont=>obtain ⟨σ',H',I,q⟩:=h;exact ⟨σ',H',I.unwish,q⟩
 | ret u=>obtain ⟨v,σ',H',I,r,q⟩:=h;exact ⟨v,σ',H',I.unwish,r,q⟩
theorem PSs.nox {st:List Stmt}{t:TS}(h:PSs X.nox st t):PSs X st t:=λpins s σ H D I hw =>
 wpAny_mono (h pins s σ H D (I.wish _) hw) (λ_ _ q=>q.unwish) λ_ _ z=>False.elim z
end
section
variable {X:Cx}{st:Stmt}{rest:List Stmt}{t u:TS}{e:Expr}{te:TE}{pos:Pos}
def zw1:TS:=λD σ H=>D.nx σ H
def zw2 (t u:TS):TS:=λD σ H=>t { D with nx:=u D } σ H
theorem zw3:PSs X [] zw1:=λ_ _ σ H _ I h=>wpAny_execs_nil ⟨σ,H,I,h⟩
theorem zl4 (h1:PS X st t) (h2:PSs X rest u):PSs X (st :: rest) (zw2 t u):=by
 intro pins s σ H D I h
 refine wpAny_execs_cons (thn (h1 pins s σ H { D with nx:=u D } I h) λf s1 q=>?_)
 cases f with
 | next =>
  obtain ⟨σ',H',I',q⟩:=q
  exact h2 pins s1 σ' H' D I' q
 | ret v=>exact q
 | brk=>exact q
 | cont=>exact q
theorem zw4 (h1:PS X st t):PSs X [st] t:=by
 intro pins s σ H D I h
 refine wpAny_execs_cons (thn (h1 pins s σ H D I h) λf s1 q=>?_)
 cases f with
 | next=>exact wpAny_execs_nil q
 | ret v=>exact q
 | brk=>exact q
 | cont=>exact q
theorem Inv.quiet {pins:List (Addr × Obj)}{σ:St}{H:Hp}{s:Shared}(I:Inv X pins σ H s):interactive X.env=false:=by simp [interactive,I.ok.kind]
def zw5 (te:TE):TS:=λD σ H=>te σ H λ_ H1=>D.nx σ H1
theorem zpd (he:PE X e te) (hs:swapsWith e none pos.line X.env=pure false:=by rfl):PS X (.Expr e pos) (zw5 te):=by
 intro pins s σ H D I h
 exact wpAny_Expr_any (thn (he pins s σ H _ I h) λv s1 ⟨x,H1,I1,r1,q1⟩=>⟨σ,H1,I1,q1⟩) I.quiet hs
def zw6 (te:TE):TS:=λD σ H=>te σ H D.rt
theorem zpe (he:PE X e te):PS X (.Return (some e) pos) (zw6 te):=by
 intro pins s σ H D I h
 exact wpAny_Return_some (thn (he pins s σ H _ I h) λv s1 ⟨x,H1,I1,r1,q1⟩=>⟨x,σ,H1,I1,r1,q1⟩)
def zw7 (c:TT) (t u:TS):TS:=λD σ H=>c σ H λb H1=>if b=true then t D σ H1 else u D σ H1
theorem zl5 {c:Expr}{a b:List Stmt}{tc:TT}(hc:PT X c tc) (ha:PSs X a t) (hb:PSs X b u):PS X (.If c a b pos) (zw7 tc t u):=by
 intro pins s σ H D I h
 refine wpAny_If (thn (hc pins s σ H _ I h) λd s1 ⟨H1,I1,q1⟩=>?_)
 cases d with
 | true=>exact ha pins s1 σ H1 D I1 q1
 | false=>exact hb pins s1 σ H1 D I1 q1
def zw8:TS:=λ_ _ _=>False
theorem zw9:PS X st zw8:=λ_ _ _ _ _ _ h=>h.elim
end
abbrev TG:=V->St->Hp->(St->Hp->Prop)->Prop
abbrev TGs:=List V->St->Hp->(St->Hp->Prop)->Prop
def PG (X:Cx) (target:Expr) (t:TG):Prop :=
 ∀(pins:List (Addr × Obj)) (s:Shared) (σ:St) (H:Hp) (v:V) (u:Value) (Q:St->Hp->Prop),Inv X pins σ H s->RelV v u->t v σ H Q ->
  wpAny (model X.prog X.w) X.A (assign target X.env u) (λ_ s'=>∃σ' H',Inv X pins σ' H' s'/\Q σ' H') X.xe s
def PGs (X:Cx) (ts:List Expr) (t:TGs):Prop :=
 ∀(pins:List (Addr × Obj)) (s:Shared) (σ:St) (H:Hp) (vs:List V) (us:List Value) (Q:St->Hp->Prop),Inv X pins σ H s->Vals vs us->t vs σ H Q ->
  wpAny (model X.prog X.w) X.A (assignInOrder ((assignEach ts X.env).map (·.2)) us) (λ_ s'=>∃σ' H',Inv X pins σ' H' s'/\Q σ' H') X.xe s
abbrev TSet:=V->V->V->Hp->(Hp->Prop)->Prop
section
variable {X:Cx}{pos:Pos}
def zl6 (i:Nat):TG:=λv σ H Q=>Q (σ.set i (some v)) H
theorem zxa {i:Nat}{x:Str}(hN:X.N.Nodup) (hi:X.N[i]? = some x) (hx:Loc X.env.scope x) (hf:X.fn x=true\/X.env.scope.names.lookup x=some .local:=by first|exact .inl rfl|exact .inr rfl|assumption):PG X (.Name x pos) (zl6 i):=by
 intro pins s σ H v u Q I r h
 exact wpAny_assign_Name (zl2 I hN hi hx r (λs' I'=>⟨_,H,I',h⟩) hf)
def zxb:TGs:=λvs σ H Q=>vs=[]/\Q σ H
def zxc (t:TG) (u:TGs):TGs:=λvs σ H Q=>∃v r,vs=v :: r/\t v σ H λσ' H'=>u r σ' H' Q
theorem zxd:PGs X [] zxb:=by
 intro pins s σ H vs us Q I r h
 obtain ⟨e,h⟩:=h
 subst e
 cases r
 exact assignInOrder_nil ⟨σ,H,I,h⟩
theorem zxe {e:Expr}{es:List Expr}{t:TG}{u:TGs}(h1:PG X e t) (h2:PGs X es u)
  (hs:(assignEach (e :: es) X.env).map (·.2)=assign e X.env :: (assignEach es X.env).map (·.2):=by rfl):PGs X (e :: es) (zxc t u):=by
 intro pins s σ H vs us Q I r h
 obtain ⟨v,vr,e1,h⟩:=h
 subst e1
 cases r with
 | cons r rr =>
  rw [hs]
  refine assignInOrder_cons (thn (h1 pins s σ H _ _ _ I r h) λ_ s1 ⟨σ1,H1,I1,q1⟩=>?_)
  exact h2 pins s1 σ1 H1 _ _ Q I1 rr q1
def zxf (K:QFg) (n:Nat) (t:TGs):TG:=λv σ H Q=>∃a xs,v=.ref a/\SqT K H a xs/\xs.length=n/\t xs σ H Q
theorem zxg {es:List Expr}{k:Nat}{t:TGs}{n:Nat}(hc:X.calm=true) (h:PGs X es t)
  (hn:(assignEach es X.env).length=n:=by rfl) (hst:(assignEach es X.env).findIdx? (·.1)=none:=by rfl):PG X (.Tuple es k pos) (zxf X.K n t):=by
 intro pins s σ H v u Q I r hw
 obtain ⟨a,xs,e1,hq,hl,hw⟩:=hw
 subst e1
 cases r
 obtain ⟨its,rv,ht,hz⟩:=I.tuple hq
 refine assign_Tuple_tuple (I.ok.hd hc) ht (by simp [hn,<-hl,rv.length]) hst λh' hx=>?_
 have I1:Inv X pins σ H { s with heap:=h' }:=I.kept (t':=s.toks) λb o e=>hx b o (Nat.ne_of_lt (Heap.lt_size e)) e
 exact h pins _ σ H xs _ Q I1 (by simpa using rv) hw
def zl7 (te:TE) (g:TG):TS:=λD σ H=>te σ H λx H1=>g x σ H1 D.nx
theorem zpf {tg e:Expr}{te:TE}{g:TG}(he:PE X e te) (hg:PG X tg g) (hs:swapsWithSole [tg] e pos.line X.env=pure false:=by rfl) (hw:swappedStores [tg] e X.env=pure none:=by rfl)
  (h1:(assignEach [tg] X.env).map (·.2)=[assign tg X.env]:=by rfl):PS X (.Assign [tg] e pos) (zl7 te g):=by
 intro pins s σ H D I h
 refine wpAny_Assign_stores (thn (he pins s σ H _ I h) λv s1 ⟨x,H1,I1,r1,q1⟩=>?_) hs hw
 rw [h1]
 exact thn (hg pins s1 σ H1 x v _ I1 r1 q1) λ_ s2 q=>q
theorem zxh {i:Nat}{x:Str}{e:Expr}{te:TE}{pos':Pos}(hN:X.N.Nodup) (hi:X.N[i]? = some x) (hx:Loc X.env.scope x) (he:PE X e te) (hs:swapsWith e (some (.Name x pos')) pos.line X.env=pure false:=by rfl) (hf:X.fn x=true\/X.env.scope.names.lookup x=some .local:=by first|exact .inl rfl|exact .inr rfl|assumption) :
  PS X (.Assign [.Name x pos'] e pos) (zl7 te (zl6 i)):=by
 intro pins s σ H D I h
 refine wpAny_Assign_Name (thn (he pins s σ H _ I h) λv s1 ⟨y,H1,I1,r1,q1⟩=>?_) hs
 exact zl2 I1 hN hi hx r1 (λs2 I2=>⟨_,H1,I2,q1⟩) hf
end
section
variable {X:Cx}{pos:Pos}
end
structure It where
 go:Nat->Hp->Prop
 yld:Nat->Hp->V->Hp->Prop
 stop:Nat->Hp->Prop
def zdj (X:Cx) (pins:List (Addr × Obj)) (H:Hp) (b:Addr):Prop :=
 H b=none/\b≠X.env.locals/\b ∉ X.fs/\(b∈X.ex\/X.s₀.heap.objs.size<=b)/\(∀x c,X.env.cells.lookup x=some c->c≠b)/\∀p∈X.pn++pins,p.1≠b
theorem Inv.fpOk {X:Cx}{pins:List (Addr × Obj)}{σ:St}{H H':Hp}{s:Shared}{b:Addr}(I:Inv X pins σ H s) (hb:s.heap.objs.size<=b) (hn:H' b=none):zdj X pins H' b:=by
 refine ⟨hn,Nat.ne_of_gt (Nat.lt_of_lt_of_le I.lt hb),I.nofs hb,.inr (Nat.le_trans I.sz hb),λx c e z=>?_,λp hp z=>?_⟩
 ·obtain ⟨v,q⟩:=I.cell x c e
  exact absurd (Nat.lt_of_lt_of_le q.lt (by rw [z];exact hb)) (Nat.lt_irrefl _)
 ·exact absurd (Nat.lt_of_lt_of_le (Heap.lt_size (I.pin p hp).1) (by rw [z];exact hb)) (Nat.lt_irrefl _)
structure Turn (P:Program) (w:World) (K:QFg) (tg:Expr) (J:It) (fp:List Addr) (it:Addr) (tn:Nat->Heap->Prop):Prop where
 mem:it∈fp
 obj:∀i h,tn i h->∀b∈fp,∃o,h.get? b=some o/\∀v,o.data≠.cell v
 keep:∀i h h',tn i h->(∀b∈fp,∀o,h.get? b=some o->h'.get? b=some o)->tn i h'
 item:∀(X:Cx),X.prog=P->X.w=w->X.K=K->X.calm=true->∀(i:Nat) (pins:List (Addr × Obj)) (s:Shared) (σ:St) (H:Hp) (E:Value->Shared->Prop),Inv X pins σ H s->(∀b∈fp,zdj X pins H b)->tn i s.heap->J.go i H ->
  wpAny (model P w) X.A (pyNext (.ref it)) (λr s1=>∃u,r=some u /\
   wpAny (model P w) X.A (letOwnedTupleGo tg (.ref it) u) (λ_ s2=>∃x H',Inv X pins σ H' s2/\RelV x u/\J.yld i H x H'/\tn (i+1) s2.heap/\∀b∈fp,H' b=none) E s1) E s
 done:∀(X:Cx),X.prog=P->X.w=w->X.K=K->X.calm=true->∀(i:Nat) (pins:List (Addr × Obj)) (s:Shared) (σ:St) (H:Hp) (E:Value->Shared->Prop),Inv X pins σ H s->(∀b∈fp,zdj X pins H b)->tn i s.heap->J.stop i H ->
  wpAny (model P w) X.A (pyNext (.ref it)) (λr s1=>r=none/\Inv X pins σ H s1) E s
 self:∀(A:Around) (i:Nat) (s:Shared) (Q:Value->Shared->Prop) (E:Value->Shared->Prop),tn i s.heap->Q (.ref it) s->wpAny (model P w) A (pyIter (.ref it)) Q E s
abbrev TI:=St->Hp->(It->Hp->Prop)->Prop
def PIE (X:Cx) (pins:List (Addr × Obj)) (σ:St) (tg:Expr) (R:It->Hp->Prop) (itv:Value) (s2:Shared):Prop :=
 ∃(it:Addr) (fp:List Addr) (tn:Nat->Heap->Prop) (J:It) (H':Hp),itv=.ref it/\Inv X pins σ H' s2/\Turn X.prog X.w X.K tg J fp it tn/\tn 0 s2.heap/\(∀b∈fp,zdj X pins H' b)/\R J H'
def PI (X:Cx) (tg iter:Expr) (wi:TI):Prop :=
 ∀(pins:List (Addr × Obj)) (s:Shared) (σ:St) (H:Hp) (R:It->Hp->Prop),Inv X pins σ H s->wi σ H R ->
  wpAny (model X.prog X.w) X.A (eval iter X.env) (λv s1=>wpAny (model X.prog X.w) X.A (pyIter v) (PIE X pins σ tg R) X.xe s1) X.xe s
theorem zl8 {M:Model}{A:Around}{E:Value->Shared->Prop}{s:Shared}{tg:Expr}{it:Addr}{u:Value}{o:Obj}{n:String}{vs:Array Value}{Q:Unit->Shared->Prop}(ho:s.heap.get? it=some o) (hc:o.cls=.type n) (hd:o.data=.fields vs)
  (hn:["enumerate","zip","dict_itemiterator","dict_reverseitemiterator","odict_iterator","itertools.zip_longest","itertools.pairwise"].contains n=false) (hQ:Q () s):wpAny M A (letOwnedTupleGo tg (.ref it) u) Q E s:=by
 unfold letOwnedTupleGo
 cases tg <;> first
  | exact qwp hQ
  | (cases u <;> first
    | exact qwp hQ
    | (refine qwb (wpAny_load ho ?_)
       rw [hc,hd]
       show wpAny M A (if (["enumerate","zip","dict_itemiterator","dict_reverseitemiterator","odict_iterator","itertools.zip_longest","itertools.pairwise"].contains n && vs[0]? == some (rawInt _))=true then _ else _) Q E s
       rw [if_neg (by intro h;rw [hn,Bool.false_and] at h;cases h)]
       exact qwp hQ))
noncomputable def Itl (K:QFg) (a:Addr):It :=
 ⟨λi H=>∃xs x,SqL K H a xs/\xs[i]? = some x,λi H x H'=>H' = H/\∀xs,SqL K H a xs->xs[i]? = some x,λi H=>∃xs,SqL K H a xs/\xs.length<=i⟩
noncomputable def Itt (K:QFg) (a:Addr):It :=
 ⟨λi H=>∃xs x,SqT K H a xs/\xs[i]? = some x,λi H x H'=>H' = H/\∀xs,SqT K H a xs->xs[i]? = some x,λi H=>∃xs,SqT K H a xs/\xs.length<=i⟩
noncomputable def Itr (lo:Int) (n:Nat):It:=⟨λi _=>i<n,λi H x H'=>H' = H/\x=.int (lo+i),λi _=>n<=i⟩
theorem zxi {P:Program}{w:World}{K:QFg}{tg:Expr}(a it:Addr):Turn P w K tg (Itl K a) [it] it (λi h=>h.IsListIter it a i) where
 mem:=by simp
 obj:=λi h st b hb=>by
  have e:b=it:=by simpa using hb
  subst e
  obtain ⟨o,e,c,d⟩:=st
  exact ⟨o,e,λv z=>by rw [d] at z;cases z⟩
 keep:=λi h h' st k=>st.at λo e=>k it (by simp) o e
 item:=by
  intro X hP hw hK hc i pins s σ H E I hf st hg
  subst hP hw hK
  obtain ⟨xs,x,hq,hx⟩:=hg
  obtain ⟨its,rv,p,hz⟩:=I.list hq
  obtain ⟨u,hu,ru⟩:=rv.get hx
  obtain ⟨f0,f1,f2,f3,f4,f5⟩:=hf it (by simp)
  refine wpAny_pyNext_list_item st p.isList (x:=u) (by simpa using hu) λh' st' sb=>?_
  have I1:Inv X pins σ H { s with heap:=h' }:=I.turned (t':=s.toks) (λb o hb e=>(sb.2 b hb).trans e) f0 f1 f3 f4 f5
  obtain ⟨o,e,c,d⟩:=id st'
  exact ⟨u,rfl,zl8 (s:={ s with heap:=h' }) e c d (by decide) ⟨x,H,I1,ru,⟨rfl,λys hy=>by rw [I.list_inj hy hq];exact hx⟩,st',λb hb=>(hf b hb).1⟩⟩
 done:=by
  intro X hP hw hK hc i pins s σ H E I hf st hg
  subst hP hw hK
  obtain ⟨xs,hq,hx⟩:=hg
  obtain ⟨its,rv,p,hz⟩:=I.list hq
  obtain ⟨f0,f1,f2,f3,f4,f5⟩:=hf it (by simp)
  have hl:=rv.length
  exact wpAny_pyNext_list_end (I.ok.hd hc) st p.isList (by simp;omega) λh' eb=>⟨rfl,I.turned (t':=s.toks) (λb o hb e=>eb b o hb e) f0 f1 f3 f4 f5⟩
 self:=λ_ _ _ _ _ st h=>wpAny_pyIter_listiter st h
theorem zxj {P:Program}{w:World}{K:QFg}{tg:Expr}(a it:Addr):Turn P w K tg (Itt K a) [it] it (λi h=>h.IsTupleIter it a i) where
 mem:=by simp
 obj:=λi h st b hb=>by
  have e:b=it:=by simpa using hb
  subst e
  obtain ⟨o,e,c,d⟩:=st
  exact ⟨o,e,λv z=>by rw [d] at z;cases z⟩
 keep:=λi h h' st k=>st.at λo e=>k it (by simp) o e
 item:=by
  intro X hP hw hK hc i pins s σ H E I hf st hg
  subst hP hw hK
  obtain ⟨xs,x,hq,hx⟩:=hg
  obtain ⟨its,rv,p,hz⟩:=I.tuple hq
  obtain ⟨u,hu,ru⟩:=rv.get hx
  obtain ⟨f0,f1,f2,f3,f4,f5⟩:=hf it (by simp)
  refine wpAny_pyNext_tuple_item st (show s.heap.IsTuple a its.toArray from p) (x:=u) (by simpa using hu) λh' st' sb=>?_
  have I1:Inv X pins σ H { s with heap:=h' }:=I.turned (t':=s.toks) (λb o hb e=>(sb.2 b hb).trans e) f0 f1 f3 f4 f5
  obtain ⟨o,e,c,d⟩:=id st'
  exact ⟨u,rfl,zl8 (s:={ s with heap:=h' }) e c d (by decide) ⟨x,H,I1,ru,⟨rfl,λys hy=>by rw [I.tuple_inj hy hq];exact hx⟩,st',λb hb=>(hf b hb).1⟩⟩
 done:=by
  intro X hP hw hK hc i pins s σ H E I hf st hg
  subst hP hw hK
  obtain ⟨xs,hq,hx⟩:=hg
  obtain ⟨its,rv,p,hz⟩:=I.tuple hq
  obtain ⟨f0,f1,f2,f3,f4,f5⟩:=hf it (by simp)
  have hl:=rv.length
  exact wpAny_pyNext_tuple_end (I.ok.hd hc) st (show s.heap.IsTuple a its.toArray from p) (by simp;omega) λh' eb=>⟨rfl,I.turned (t':=s.toks) (λb o hb e=>eb b o hb e) f0 f1 f3 f4 f5⟩
 self:=λ_ _ _ _ _ st h=>wpAny_pyIter_tupleiter st h
theorem zxk {P:Program}{w:World}{K:QFg}{tg:Expr}(it:Addr) (lo:Int) (n:Nat):Turn P w K tg (Itr lo n) [it] it (λi h=>IsRangeIter h it (lo+(i:Nat)*1) ((n:Int)-(i:Nat)) 1) where
 mem:=by simp
 obj:=λi h st b hb=>by
  have e:b=it:=by simpa using hb
  subst e
  exact ⟨_,st,λv z=>by
   have z':Data.fields _=Data.cell v:=z
   cases z'⟩
 keep:=λi h h' st k=>k it (by simp) _ st
 item:=by
  intro X hP hw hK hc i pins s σ H E I hf st hg
  subst hP hw hK
  obtain ⟨f0,f1,f2,f3,f4,f5⟩:=hf it (by simp)
  have W:=Walks.range (prog:=X.prog) (w:=X.w) (I.ok.hd hc) it lo 1 n
  refine W.item i s _ _ hg st λv h' tk hv st' kk=>?_
  obtain ⟨t,rfl⟩:=hv
  have I1:Inv X pins σ H { s with heap:=h',toks:=tk }:=I.turned (λb o hb e=>kk b o (by simpa using hb) e) f0 f1 f3 f4 f5
  refine ⟨_,rfl,zl8 (s:={ s with heap:=h',toks:=tk }) (n:="range_iterator") st' rfl rfl (by decide) ⟨.int (lo+i),H,I1,⟨t,?_⟩,⟨rfl,rfl⟩,st',λb hb=>(hf b hb).1⟩⟩
  rw [Int.mul_one]
 done:=by
  intro X hP hw hK hc i pins s σ H E I hf st hg
  subst hP hw hK
  obtain ⟨f0,f1,f2,f3,f4,f5⟩:=hf it (by simp)
  exact wpAny_pyNext_range_end (I.ok.hd hc) st (by have:n<=i:=hg;omega) λh' eb=>⟨rfl,I.turned (t':=s.toks) (λb o hb e=>eb b o hb e) f0 f1 f3 f4 f5⟩
 self:=λ_ _ _ _ _ st h=>wpAny_pyIter_rangeiter st h
section
variable {X:Cx}{tg:Expr}
def zxl (K:QFg) (tl:TE):TI:=λσ H R=>tl σ H λx H1=>∃a,x=.ref a/\(∃xs,SqL K H1 a xs)/\R (Itl K a) H1
def zxm (K:QFg) (tl:TE):TI:=λσ H R=>tl σ H λx H1=>∃a,x=.ref a/\(∃xs,SqT K H1 a xs)/\R (Itt K a) H1
theorem zpg {l:Expr}{tl:TE}(hl:PE X l tl):PI X tg l (zxl X.K tl):=by
 intro pins s σ H R I h
 refine thn (hl pins s σ H _ I h) λv s1 ⟨x,H1,I1,r1,q1⟩=>?_
 obtain ⟨a,e,⟨xs,hq⟩,q⟩:=q1
 subst e
 cases r1
 obtain ⟨its,rv,p,hz⟩:=I1.list hq
 refine wpAny_pyIter_list p.isList ?_
 refine ⟨s1.heap.objs.size,[s1.heap.objs.size],_,_,H1,rfl,I1.kept (t':=s1.toks) λb o e=>qps _ e,zxi a _,⟨_,Heap.get?_push_size _ rfl,rfl,rfl⟩,λb hb=>?_,q⟩
 have e:b=s1.heap.objs.size:=by simpa using hb
 subst e
 exact I1.fpOk (qlr _) (I1.hok.fresh (qlr _))
theorem zph {l:Expr}{tl:TE}(hl:PE X l tl):PI X tg l (zxm X.K tl):=by
 intro pins s σ H R I h
 refine thn (hl pins s σ H _ I h) λv s1 ⟨x,H1,I1,r1,q1⟩=>?_
 obtain ⟨a,e,⟨xs,hq⟩,q⟩:=q1
 subst e
 cases r1
 obtain ⟨its,rv,p,hz⟩:=I1.tuple hq
 refine wpAny_pyIter_tuple (show s1.heap.IsTuple a its.toArray from p) ?_
 refine ⟨s1.heap.objs.size,[s1.heap.objs.size],_,_,H1,rfl,I1.kept (t':=s1.toks) λb o e=>qps _ e,zxj a _,⟨_,Heap.get?_push_size _ rfl,rfl,rfl⟩,λb hb=>?_,q⟩
 have e:b=s1.heap.objs.size:=by simpa using hb
 subst e
 exact I1.fpOk (qlr _) (I1.hok.fresh (qlr _))
theorem zxn {pins:List (Addr × Obj)}{σ:St}{H:Hp}{s:Shared}{R:It->Hp->Prop}{E:Value->Shared->Prop}{lo hi:Int}{t u v:Tok}{tk:Nat}(I:Inv X pins σ H s) (h1:-(2 ^ 62)<=lo) (h2:lo<2 ^ 62) (h3:-(2 ^ 62)<=hi) (h4:hi<2 ^ 62)
  (q:R (Itr lo (hi-lo).toNat) H):wpAny (model X.prog X.w) X.A (pyIter (.ref s.heap.objs.size)) (PIE X pins σ tg R) E { s with heap:=s.heap.push { cls:=.type "range",data:=.fields #[.int lo t,.int hi u,.int 1 v] },toks:=tk }:=by
 refine wpAny_pyIter_range (IsRange.new ..) (small_one h1 h2 h3 h4) ?_
 have I1:Inv X pins σ H { s with heap:=s.heap.push { cls:=.type "range",data:=.fields #[.int lo t,.int hi u,.int 1 v] },toks:=tk }:=I.kept λb o e=>qps _ e
 refine ⟨(s.heap.push { cls:=.type "range",data:=.fields #[.int lo t,.int hi u,.int 1 v] }).objs.size,[(s.heap.push { cls:=.type "range",data:=.fields #[.int lo t,.int hi u,.int 1 v] }).objs.size],_,_,H,rfl,
  I1.kept (t':=tk) λb o e=>qps _ e,zxk _ lo (hi-lo).toNat,?_,λb hb=>?_,q⟩
 ·have e1:lo+((0:Nat):Int)*1=lo:=by simp
  have e2:(((hi-lo).toNat:Nat):Int)-((0:Nat):Int)=Builtin.Range.rangeSize lo hi 1:=by rw [rangeSize_one];split <;> omega
  show IsRangeIter _ _ (lo+((0:Nat):Int)*1) ((((hi-lo).toNat:Nat):Int)-((0:Nat):Int)) 1
  rw [e1,e2]
  exact Heap.get?_push_size _ rfl
 ·have e:b=(s.heap.push { cls:=.type "range",data:=.fields #[.int lo t,.int hi u,.int 1 v] }).objs.size:=by simpa using hb
  subst e
  exact I1.fpOk (qlr _) (I1.hok.fresh (qlr _))
def zxo (ta:TA):TI:=λσ H R=>ta σ H λvs H1=>∃j:Int,vs=[.int j]/\-(2 ^ 62)<=j/\j<2 ^ 62/\R (Itr 0 j.toNat) H1
theorem zpi {a:Expr}{ta:TA}{p pos:Pos}(hg:Gl X "range") (hm:X.mg "range" = none) (ha:PA X [a] ta) (hs:starEach [a] X.env=[(false,eval a X.env)]:=by rfl):PI X tg (.Call (.Name "range" p) [a] [] pos) (zxo ta):=by
 intro pins s σ H R I h
 refine Call_ (zfg I hg hm boot_range (PyProof.Rows.callWith_type1 (thn (ha pos pins s σ H _ I h) λus s1 ⟨vs,H1,I1,r1,q1⟩=>?_) hs rfl))
 obtain ⟨j,e,q1,q2,q⟩:=q1
 subst e
 cases r1 with
 | cons r rr =>
  cases rr
  obtain ⟨t,rfl⟩:=r
  exact call_range_1 (zxn I1 (by omega) (by omega) q1 q2 (by simpa using q))
def zxp (wi:TI) (g:TG) (tb:TS):TS:=λD σ H=>wi σ H λJ H1=>∃W:Nat->Nat->St->Hp->Prop,(∃m,W 0 m σ H1)/\∀i m σ H,W i m σ H ->
 (J.stop i H/\D.nx σ H)\/(J.go i H/\∃N:St->Hp->Prop,(∀σ' H',N σ' H'->∃m',m' < m/\W (i+1) m' σ' H')/\∀x H',J.yld i H x H'->g x σ H' λσ2 H2=>tb { D with nx:=N,ct:=N,bk:=D.nx } σ2 H2)
noncomputable def zh5 (fp:List Addr) (h:Heap):List (Addr × Obj):=fp.filterMap λb=>(h.get? b).map λo=>(b,o)
theorem zjw {fp:List Addr}{h:Heap}{b:Addr}{o:Obj}(hb:b∈fp) (e:h.get? b=some o):(b,o)∈zh5 fp h:=List.mem_filterMap.mpr ⟨b,hb,by rw [e];rfl⟩
theorem zxq {fp:List Addr}{h:Heap}{p:Addr × Obj}(hp:p∈zh5 fp h):p.1∈fp/\h.get? p.1=some p.2:=by
 obtain ⟨b,hb,e⟩:=List.mem_filterMap.mp hp
 cases q:h.get? b with
 | none=>rw [q] at e;cases e
 | some o =>
  rw [q] at e
  have e':(b,o)=p:=qoi e
  subst e'
  exact ⟨hb,q⟩
theorem Inv.pinned {pins:List (Addr × Obj)}{σ:St}{H:Hp}{s:Shared}{fp:List Addr}(I:Inv X pins σ H s) (hf:∀b∈fp,zdj X pins H b) (ho:∀b∈fp,∃o,s.heap.get? b=some o/\∀v,o.data≠.cell v):Inv X (pins++zh5 fp s.heap) σ H s :=
 I.pins_of λp hp=>(List.mem_append.mp hp).elim (λz=>I.pin p (List.mem_append_right _ z)) λz=>by
  obtain ⟨hb,e⟩:=zxq z
  obtain ⟨f0,f1,f2,_⟩:=hf p.1 hb
  obtain ⟨o,e',d⟩:=ho p.1 hb
  rw [e] at e';cases e'
  exact ⟨e,f0,f1,f2,d⟩
theorem Inv.unpinned {pins pl:List (Addr × Obj)}{σ:St}{H:Hp}{s:Shared}(I:Inv X (pins++pl) σ H s):Inv X pins σ H s:=I.pins_of λp hp=>I.pin p (List.mem_append_right _ (List.mem_append_left _ hp))
theorem zl9 {iter:Expr}{body:List Stmt}{wi:TI}{g:TG}{tb:TS}{pos:Pos}(hp:PassesOwn (model X.prog X.w) X.A X.env X.xe) (hc:X.calm=true) (hi:PI X tg iter wi) (hg:PG X tg g) (hb:PSs X body tb)
  (hs:∀x,foldedSetIterable iter X.env x=pure x:=by intro _;rfl):PS X (.For tg iter body [] pos) (zxp wi g tb):=by
 intro pins s σ H D I h
 refine wpAny_For (thn (hi pins s σ H _ I h) λv s1 h1=>thn h1 λitv s2 h2=>?_) hs
 obtain ⟨it,fp,tn,J,H2,e,I2,T,st2,f2,W,⟨m0,w0⟩,turn⟩:=h2
 subst e
 have stat:∀{H':Hp},(∀b∈fp,H' b=none)->∀b∈fp,zdj X pins H' b:=λhn b hb=>⟨hn b hb,(f2 b hb).2⟩
 refine codeAny_forLoop_any (λn s'=>∃i σ' H',Inv X pins σ' H' s'/\tn i s'.heap/\(∀b∈fp,H' b=none)/\W i n σ' H') ?_ m0 ⟨0,σ,H2,I2,st2,λb hb=>(f2 b hb).1,w0⟩
 rintro n s3 ⟨i,σ3,H3,I3,st3,fr3,w3⟩
 rcases turn i n σ3 H3 w3 with ⟨stop,qn⟩|⟨go,N,hN,step⟩
 ·refine wpAny_passesOwn hp (thn (T.done X rfl rfl rfl hc i pins s3 σ3 H3 X.xe I3 (stat fr3) st3 stop) λr s4 ⟨hr,I4⟩=>?_)
  subst hr
  exact wpAny_execs_nil ⟨σ3,H3,I4,qn⟩
 ·refine wpAny_passesOwn hp (thn (T.item X rfl rfl rfl hc i pins s3 σ3 H3 X.xe I3 (stat fr3) st3 go) λr s4 ⟨u,hr,h4⟩=>?_)
  subst hr
  refine wpAny_passesOwn hp (thn h4 λ_ s5 ⟨x,H5,I5,r5,y5,st5,fr5⟩=>?_)
  have I5':=I5.pinned (stat fr5) (T.obj _ _ st5)
  refine wpAny_passesOwn hp (thn (hg _ s5 σ3 H5 x u _ I5' r5 (step x H5 y5)) λ_ s6 ⟨σ6,H6,I6,q6⟩=>?_)
  refine wpAny_passesOwn hp (thn (hb _ s6 σ6 H6 _ I6 q6) λf s7 q7=>?_)
  have again:∀{σ7:St} {H7:Hp},Inv X (pins++zh5 fp s5.heap) σ7 H7 s7->N σ7 H7->∃m,m<n/\∃i σ' H',Inv X pins σ' H' s7/\tn i s7.heap/\(∀b∈fp,H' b=none)/\W i m σ' H':=λ{σ7 H7} I7 n7=>by
   obtain ⟨m',hm,w7⟩:=hN σ7 H7 n7
   refine ⟨m',hm,i+1,σ7,H7,I7.unpinned,T.keep _ _ _ st5 λb hb o e=>(I7.pin (b,o) (List.mem_append_right _ (List.mem_append_right _ (zjw hb e)))).1,λb hb=>?_,w7⟩
   obtain ⟨o,e,d⟩:=T.obj _ _ st5 b hb
   exact (I7.pin (b,o) (List.mem_append_right _ (List.mem_append_right _ (zjw hb e)))).2.1
  cases f with
  | next=>obtain ⟨σ7,H7,I7,n7⟩:=q7;exact again I7 n7
  | cont=>obtain ⟨σ7,H7,I7,n7⟩:=q7;exact again I7 n7
  | brk=>obtain ⟨σ7,H7,I7,q7⟩:=q7;exact ⟨σ7,H7,I7.unpinned,q7⟩
  | ret v=>obtain ⟨x7,σ7,H7,I7,r7,q7⟩:=q7;exact ⟨x7,σ7,H7,I7.unpinned,r7,q7⟩
end
abbrev R2:=V->V->Hp->VK->Prop
def OpR (X:Cx) (f:Value->Value->Sem Value) (r:R2):Prop :=
 ∀(pins:List (Addr × Obj)) (s:Shared) (σ:St) (H:Hp) (x y:V) (v u:Value) (Q:VK),Inv X pins σ H s->RelV x v->RelV y u->r x y H Q ->
  wpAny (model X.prog X.w) X.A (f v u) (EP X pins σ Q) X.xe s
def UnR (X:Cx) (f:Value->Sem Value) (r:V->Hp->VK->Prop):Prop :=
 ∀(pins:List (Addr × Obj)) (s:Shared) (σ:St) (H:Hp) (x:V) (v:Value) (Q:VK),Inv X pins σ H s->RelV x v->r x H Q ->
  wpAny (model X.prog X.w) X.A (f v) (EP X pins σ Q) X.xe s
def CallR (X:Cx) (f:Value) (r:List V->Hp->VK->Prop):Prop :=
 ∀(pins:List (Addr × Obj)) (s:Shared) (σ:St) (H:Hp) (xs:List V) (us:List Value) (Q:VK),Inv X pins σ H s->Vals xs us->r xs H Q ->
  wpAny (model X.prog X.w) X.A (call f us) (EP X pins σ Q) X.xe s
def tOp (r:R2) (ta tb:TE):TE:=λσ H Q=>ta σ H λx H1=>tb σ H1 λy H2=>r x y H2 Q
def tUn (r:V->Hp->VK->Prop) (ta:TE):TE:=λσ H Q=>ta σ H λx H1=>r x H1 Q
def rI (C:Int->Int->Prop) (g:Int->Int->V):R2:=λx y H Q=>∃i j,x=.int i/\y=.int j/\C i j/\Q (g i j) H
def rI0 (g:Int->Int->V):R2:=λx y H Q=>∃i j,x=.int i/\y=.int j/\Q (g i j) H
def rU (g:Int->V):V->Hp->VK->Prop:=λx H Q=>∃i,x=.int i/\Q (g i) H
section
variable {X:Cx}{a b c:Expr}{ta tb tc:TE}{pos:Pos}
theorem zma (ha:PE X a ta) (hb:PE X b tb) {pins:List (Addr × Obj)}{s:Shared}{σ:St}{H:Hp}{R:V->V->Hp->Prop}(I:Inv X pins σ H s)
  (h:ta σ H λx H1=>tb σ H1 λy H2=>R x y H2) {Q:Value->Shared->Prop} {f:Value->Value->Sem Value}
  (hf:∀v u s2 x y H2,Inv X pins σ H2 s2->RelV x v->RelV y u->R x y H2->wpAny (model X.prog X.w) X.A (f v u) Q X.xe s2) :
  wpAny (model X.prog X.w) X.A (eval a X.env) (λv s₁=>wpAny (model X.prog X.w) X.A (eval b X.env) (λu s₂=>wpAny (model X.prog X.w) X.A (f v u) Q X.xe s₂) X.xe s₁) X.xe s:=by
 refine thn (ha pins s σ H _ I h) λv s1 ⟨x,H1,I1,r1,q1⟩=>?_
 refine thn (hb pins s1 σ H1 _ I1 q1) λu s2 ⟨y,H2,I2,r2,q2⟩=>?_
 exact hf v u s2 x y H2 I2 r1 r2 q2
theorem zpj {op:Operator}{r:R2}(ho:OpR X (binaryOp op) r) (ha:PE X a ta) (hb:PE X b tb):PE X (.BinOp a op b pos) (tOp r ta tb):=by
 intro pins s σ H Q I h
 exact wpAny_BinOp (zma ha hb I h λv u s2 x y H2 I2 rx ry q=>ho pins s2 σ H2 x y v u Q I2 rx ry q)
theorem zxr {op:UnaryOp}{r:V->Hp->VK->Prop}(ho:UnR X (unaryOp op) r) (ha:PE X a ta):PE X (.UnaryOp op a pos) (tUn r ta):=by
 intro pins s σ H Q I h
 exact UnaryOp_ (thn (ha pins s σ H _ I h) λv s1 ⟨x,H1,I1,r1,q1⟩=>ho pins s1 σ H1 x v Q I1 r1 q1)
theorem opI {f:Value->Value->Sem Value}{C:Int->Int->Prop}{g:Int->Int->Int}
  (rule:∀(i j:Int) (t u:Tok) (s:Shared) (Q:Value->Shared->Prop) (E:Value->Shared->Prop),C i j->Q (.int (g i j) s.toks) { s with toks:=s.toks+1 }->wpAny (model X.prog X.w) X.A (f (.int i t) (.int j u)) Q E s) :
  OpR X f (rI C λi j=>.int (g i j)):=by
 intro pins s σ H x y v u Q I rx ry h
 obtain ⟨i,j,rfl,rfl,hc,q⟩:=h
 obtain ⟨t,rfl⟩:=rx
 obtain ⟨t',rfl⟩:=ry
 exact rule i j t t' s _ _ hc ⟨.int (g i j),H,I.tok _,⟨_,rfl⟩,q⟩
theorem zmb {f:Value->Value->Sem Value}{g:Int->Int->Int}
  (rule:∀(i j:Int) (t u:Tok) (s:Shared) (Q:Value->Shared->Prop) (E:Value->Shared->Prop),Q (.int (g i j) s.toks) { s with toks:=s.toks+1 }->wpAny (model X.prog X.w) X.A (f (.int i t) (.int j u)) Q E s) :
  OpR X f (rI0 λi j=>.int (g i j)):=by
 intro pins s σ H x y v u Q I rx ry h
 obtain ⟨i,j,rfl,rfl,q⟩:=h
 obtain ⟨t,rfl⟩:=rx
 obtain ⟨t',rfl⟩:=ry
 exact rule i j t t' s _ _ ⟨.int (g i j),H,I.tok _,⟨_,rfl⟩,q⟩
theorem zjx {f:Value->Value->Sem Value}{g:Int->Int->Bool}
  (rule:∀(i j:Int) (t u:Tok) (s:Shared) (Q:Value->Shared->Prop) (E:Value->Shared->Prop),Q (.bool (g i j)) s->wpAny (model X.prog X.w) X.A (f (.int i t) (.int j u)) Q E s) :
  OpR X f (rI0 λi j=>.bl (g i j)):=by
 intro pins s σ H x y v u Q I rx ry h
 obtain ⟨i,j,rfl,rfl,q⟩:=h
 obtain ⟨t,rfl⟩:=rx
 obtain ⟨t',rfl⟩:=ry
 exact rule i j t t' s _ _ ⟨.bl (g i j),H,I,rfl,q⟩
def zjy (i j:Int):Prop:=0<j/\j<1073741824
def zg7 (i j:Int):Prop:=0<=j/\j<=1000000/\i.natAbs<2 ^ 64
def CMul (i j:Int):Prop:=(-(2 ^ 64)<i/\i<2 ^ 64)\/(-(2 ^ 64)<j/\j<2 ^ 64)
theorem CMul.ok {i j:Int}(h:CMul i j):IntMulOk i j:=by
 rcases h with ⟨h1,h2⟩|⟨h1,h2⟩
 ·exact .of_left (intBits_le_64 h1 h2)
 ·exact .of_right (intBits_le_64 h1 h2)
theorem zxs (k:Nat):(0:Int)<=2 ^ k:=by
 rw [two_pow_cast]
 exact Int.natCast_nonneg _
theorem op_add:OpR X (binaryOp .Add) (rI0 λi j=>.int (i+j)):=zmb λ_ _ _ _ _ _ _ q=>add_int q
theorem zxt:OpR X (binaryOp .Sub) (rI0 λi j=>.int (i-j)):=zmb λ_ _ _ _ _ _ _ q=>sub_int q
theorem op_mul:OpR X (binaryOp .Mult) (rI CMul λi j=>.int (i*j)):=opI λ_ _ _ _ _ _ _ hc q=>mul_int q hc.ok
theorem zxu:OpR X (binaryOp .FloorDiv) (rI zjy λi j=>.int (i / j)):=opI λi j _ _ _ _ _ hc q=>by
 have h1:(0:Int)<j:=hc.1
 have h2:j<1073741824:=hc.2
 exact floordiv_int (by omega) (by rw [Int.fdiv_eq_ediv_of_nonneg i (by omega)];exact q) (.inl (PyProof.noPylong_small (by omega)))
theorem zxv:OpR X (binaryOp .Mod) (rI (λ_ j=>0<j) λi j=>.int (i % j)):=opI λi j _ _ _ _ _ hc q=>by
 have h1:(0:Int)<j:=hc
 exact mod_int' (by omega) (by rw [Int.fmod_eq_emod_of_nonneg i (by omega)];exact q)
theorem zxw:OpR X (binaryOp .Pow) (rI zg7 λi j=>.int (i ^ j.toNat)):=opI λ_ _ _ _ _ _ _ hc q=>pow_int_small hc.1 hc.2.1 hc.2.2 q
theorem zpk:OpR X (binaryOp .LShift) (rI zg7 λi j=>.int (i*2 ^ j.toNat)):=opI λ_ _ _ _ _ _ _ hc q=>lshift_int_small hc.1 hc.2.1 hc.2.2 q
theorem zxx:OpR X (binaryOp .RShift) (rI (λ_ j=>0<=j) λi j=>.int (i / 2 ^ j.toNat)):=opI λi j _ _ _ _ _ hc q =>
 rshift_int hc (by rw [Int.fdiv_eq_ediv_of_nonneg i (zxs _)];exact q)
theorem zxy:OpR X (binaryOp .BitAnd) (rI0 λi j=>.int (Builtin.bitAnd i j)):=zmb λ_ _ _ _ _ _ _ q=>and_int q
theorem unI {f:Value->Sem Value}{g:Int->Int}
  (rule:∀(i:Int) (t:Tok) (s:Shared) (Q:Value->Shared->Prop) (E:Value->Shared->Prop),Q (.int (g i) s.toks) { s with toks:=s.toks+1 }->wpAny (model X.prog X.w) X.A (f (.int i t)) Q E s) :
  UnR X f (rU λi=>.int (g i)):=by
 intro pins s σ H x v Q I rx h
 obtain ⟨i,rfl,q⟩:=h
 obtain ⟨t,rfl⟩:=rx
 exact rule i t s _ _ ⟨.int (g i),H,I.tok _,⟨_,rfl⟩,q⟩
theorem zxz:UnR X (unaryOp .USub) (rU λi=>.int (-i)):=unI λ_ _ _ _ _ q=>neg_int q
end
noncomputable def zmc:V->V->Bool
 | .non,.non=>true | .non,.int _=>true | .int _,.non=>true | .non,.bl _=>true | .bl _,.non=>true | .non,.str _=>true | .str _,.non=>true
 | .int _,.int _=>true | .bl _,.bl _=>true | .str _,.str _=>true | .byt _,.byt _=>true
 | .int _,.str _=>true | .str _,.int _=>true | .bl _,.str _=>true | .str _,.bl _=>true
 | _,_=>false
def rEq:R2:=λx y H Q=>zmc x y=true/\Q (.bl (decide (x=y))) H
def rNe:R2:=λx y H Q=>zmc x y=true/\Q (.bl (!decide (x=y))) H
theorem zpl {i j:Int}:decide (V.int i=V.int j)=(i == j):=by
 rw [Bool.eq_iff_iff]
 simp
theorem zpm {i j:Bool}:decide (V.bl i=V.bl j)=(i == j):=by
 rw [Bool.eq_iff_iff]
 simp
theorem zpn {i j:Str}:decide (V.str i=V.str j)=(i == j):=by
 rw [Bool.eq_iff_iff]
 simp
theorem zpo {i j:Array UInt8}:decide (V.byt i=V.byt j)=(i.toList == j.toList):=by
 rw [Bool.eq_iff_iff]
 cases i
 cases j
 simp
section
variable {X:Cx}{a b c:Expr}{ta tb tc:TE}{pos:Pos}
theorem zbi {pins:List (Addr × Obj)}{σ:St}{H:Hp}{s:Shared}{Q:VK}{k k':Bool}(I:Inv X pins σ H s) (q:Q (.bl k) H) (e:k=k'):EP X pins σ Q (.bool k') s:=by
 subst e
 exact ⟨.bl k,H,I,rfl,q⟩
theorem zpp:OpR X (compareOp .Eq) rEq:=by
 intro pins s σ H x y v u Q I rx ry h
 obtain ⟨hs,q⟩:=h
 cases x with
 | non =>
  cases rx
  cases y with
  | non=>cases ry;exact PySem.EqNone.eq_none_none (zbi I q (by simp))
  | bl j=>cases ry;exact PySem.EqNone.eq_none_bool (zbi I q (by simp))
  | int j=>obtain ⟨t',rfl⟩:=ry;exact PySem.EqNone.eq_none_int (zbi I q (by simp))
  | str j=>obtain ⟨t',rfl⟩:=ry;exact PySem.EqNone.eq_none_str (zbi I q (by simp))
  | _=>exact absurd (show false=true from hs) Bool.false_ne_true
 | bl i =>
  cases rx
  cases y with
  | non=>cases ry;exact PySem.EqNone.eq_bool_none (zbi I q (by simp))
  | bl j=>cases ry;exact eq_bool (zbi I q zpm)
  | str j=>obtain ⟨t',rfl⟩:=ry;exact PySem.EqMixed.eq_bool_str (zbi I q (by simp))
  | _=>exact absurd (show false=true from hs) Bool.false_ne_true
 | int i =>
  obtain ⟨t,rfl⟩:=rx
  cases y with
  | non=>cases ry;exact PySem.EqNone.eq_int_none (zbi I q (by simp))
  | int j=>obtain ⟨t',rfl⟩:=ry;exact eq_int (zbi I q zpl)
  | str j=>obtain ⟨t',rfl⟩:=ry;exact PySem.EqMixed.eq_int_str (zbi I q (by simp))
  | _=>exact absurd (show false=true from hs) Bool.false_ne_true
 | str i =>
  obtain ⟨t,rfl⟩:=rx
  cases y with
  | non=>cases ry;exact PySem.EqNone.eq_str_none (zbi I q (by simp))
  | bl j=>cases ry;exact PySem.EqMixed.eq_str_bool (zbi I q (by simp))
  | int j=>obtain ⟨t',rfl⟩:=ry;exact PySem.EqMixed.eq_str_int (zbi I q (by simp))
  | str j=>obtain ⟨t',rfl⟩:=ry;exact eq_str (zbi I q zpn)
  | _=>exact absurd (show false=true from hs) Bool.false_ne_true
 | byt i =>
  obtain ⟨t,rfl⟩:=rx
  cases y with
  | byt j=>obtain ⟨t',rfl⟩:=ry;exact PySem.W.eq_bytes (zbi I q zpo)
  | _=>exact absurd (show false=true from hs) Bool.false_ne_true
 | _=>cases y <;> exact absurd (show false=true from hs) Bool.false_ne_true
theorem zx0:OpR X (compareOp .NotEq) rNe:=by
 intro pins s σ H x y v u Q I rx ry h
 obtain ⟨hs,q⟩:=h
 cases x with
 | non =>
  cases rx
  cases y with
  | non=>cases ry;exact PySem.EqNone.ne_none_none (zbi I q (by simp))
  | bl j=>cases ry;exact PySem.EqNone.ne_none_bool (zbi I q (by simp))
  | int j=>obtain ⟨t',rfl⟩:=ry;exact PySem.EqNone.ne_none_int (zbi I q (by simp))
  | str j=>obtain ⟨t',rfl⟩:=ry;exact PySem.EqNone.ne_none_str (zbi I q (by simp))
  | _=>exact absurd (show false=true from hs) Bool.false_ne_true
 | bl i =>
  cases rx
  cases y with
  | non=>cases ry;exact PySem.EqNone.ne_bool_none (zbi I q (by simp))
  | bl j=>cases ry;exact ne_bool (zbi I q (congrArg not zpm))
  | str j=>obtain ⟨t',rfl⟩:=ry;exact PySem.EqMixed.ne_bool_str (zbi I q (by simp))
  | _=>exact absurd (show false=true from hs) Bool.false_ne_true
 | int i =>
  obtain ⟨t,rfl⟩:=rx
  cases y with
  | non=>cases ry;exact PySem.EqNone.ne_int_none (zbi I q (by simp))
  | int j=>obtain ⟨t',rfl⟩:=ry;exact ne_int (zbi I q (congrArg not zpl))
  | str j=>obtain ⟨t',rfl⟩:=ry;exact PySem.EqMixed.ne_int_str (zbi I q (by simp))
  | _=>exact absurd (show false=true from hs) Bool.false_ne_true
 | str i =>
  obtain ⟨t,rfl⟩:=rx
  cases y with
  | non=>cases ry;exact PySem.EqNone.ne_str_none (zbi I q (by simp))
  | bl j=>cases ry;exact PySem.EqMixed.ne_str_bool (zbi I q (by simp))
  | int j=>obtain ⟨t',rfl⟩:=ry;exact PySem.EqMixed.ne_str_int (zbi I q (by simp))
  | str j=>obtain ⟨t',rfl⟩:=ry;exact ne_str (zbi I q (congrArg not zpn))
  | _=>exact absurd (show false=true from hs) Bool.false_ne_true
 | byt i =>
  obtain ⟨t,rfl⟩:=rx
  cases y with
  | byt j=>obtain ⟨t',rfl⟩:=ry;exact PySem.W.ne_bytes (zbi I q (congrArg not zpo))
  | _=>exact absurd (show false=true from hs) Bool.false_ne_true
 | _=>cases y <;> exact absurd (show false=true from hs) Bool.false_ne_true
theorem zpq:OpR X (compareOp .Lt) (rI0 λi j=>.bl (decide (i<j))):=zjx λ_ _ _ _ _ _ _ q=>lt_int q
theorem zx1:OpR X (compareOp .LtE) (rI0 λi j=>.bl (decide (i<=j))):=zjx λ_ _ _ _ _ _ _ q=>le_int q
theorem zx2:OpR X (compareOp .Gt) (rI0 λi j=>.bl (decide (j<i))):=zjx λ_ _ _ _ _ _ _ q=>gt_int q
theorem zx3:OpR X (compareOp .GtE) (rI0 λi j=>.bl (decide (j<=i))):=zjx λ_ _ _ _ _ _ _ q=>ge_int q
theorem zx4:OpR X (compareOp .Is) (λx y H Q=>y=.non/\Q (.bl (decide (x=.non))) H):=by
 intro pins s σ H x y v u Q I rx ry h
 obtain ⟨rfl,q⟩:=h
 cases ry
 refine is_none_gen (zbi I q ?_)
 cases x <;> first
  | (cases rx;rfl)
  | (obtain ⟨t,rfl⟩:=rx;rfl)
theorem zx5:OpR X (compareOp .IsNot) (λx y H Q=>y=.non/\Q (.bl (!decide (x=.non))) H):=by
 intro pins s σ H x y v u Q I rx ry h
 obtain ⟨rfl,q⟩:=h
 cases ry
 refine isnot_none_gen (zbi I q ?_)
 cases x <;> first
  | (cases rx;rfl)
  | (obtain ⟨t,rfl⟩:=rx;rfl)
theorem OpR.or {f:Value->Value->Sem Value}{r r':R2}(h:OpR X f r) (h':OpR X f r'):OpR X f (λx y H Q=>r x y H Q\/r' x y H Q):=by
 intro pins s σ H x y v u Q I rx ry q
 rcases q with q|q
 ·exact h pins s σ H x y v u Q I rx ry q
 ·exact h' pins s σ H x y v u Q I rx ry q
theorem zei (b:Expr) {op:CmpOp}(h:op≠.In:=by decide) (h2:op≠.NotIn:=by decide):behindInMarks op b=false:=by
 have e1:(op == CmpOp.In)=false:=by cases op <;> first|rfl|exact absurd rfl h
 have e2:(op == CmpOp.NotIn)=false:=by cases op <;> first|rfl|exact absurd rfl h2
 cases b <;> simp [behindInMarks,e1,e2]
theorem zx6 {op:CmpOp}{r:R2}(ho:OpR X (compareOp op) r) (ha:PE X a ta) (hb:PE X b tb) (hm:behindInMarks op b=false):PE X (.Compare a [op] [b] pos) (tOp r ta tb):=by
 intro pins s σ H Q I h
 exact wpAny_Compare1 (zma ha hb I h λv u s2 x y H2 I2 rx ry q=>ho pins s2 σ H2 x y v u Q I2 rx ry q) hm
def zx7 (t:TE):TT:=λσ H Q=>t σ H λx H'=>∃k,x=.bl k/\Q k H'
theorem zx8 {op:CmpOp}{r:R2}(ho:OpR X (compareOp op) r) (ha:PE X a ta) (hb:PE X b tb) (hm:behindInMarks op b=false):PT X (.Compare a [op] [b] pos) (zx7 (tOp r ta tb)):=by
 intro pins s σ H Q I h
 refine wpAny_isTrue_Compare1 (thn (ha pins s σ H _ I h) λv s1 ⟨x,H1,I1,r1,q1⟩=>thn (hb pins s1 σ H1 _ I1 q1) λu s2 ⟨y,H2,I2,r2,q2⟩ =>
  thn (ho pins s2 σ H2 x y v u _ I2 r1 r2 q2) λc s3 ⟨z,H3,I3,r3,k,e,q3⟩=>?_) hm
 subst e
 cases r3
 exact wpAny_truthy_bool ⟨H3,I3,q3⟩
def zpr (r r':R2) (ta tb tc:TE):TE:=λσ H Q=>ta σ H λx H1=>tb σ H1 λy H2=>r x y H2 λz H3=>∃k,z=.bl k /\
 (if k=true then tc σ H3 λw' H4=>r' y w' H4 Q else Q (.bl false) H3)
theorem zx9 {op op':CmpOp}{r r':R2}(ho:OpR X (compareOp op) r) (ho':OpR X (compareOp op') r') (ha:PE X a ta) (hb:PE X b tb) (hc:PE X c tc)
  (hm:lastMarks [op,op'] [b,c]=false:=by with_unfolding_all rfl):PE X (.Compare a [op,op'] [b,c] pos) (zpr r r' ta tb tc):=by
 intro pins s σ H Q I h
 refine Compare_chain (thn (ha pins s σ H _ I h) λv s1 ⟨x,H1,I1,r1,q1⟩=>chain_link (thn (hb pins s1 σ H1 _ I1 q1) λu s2 ⟨y,H2,I2,r2,q2⟩ =>
  thn (ho pins s2 σ H2 x y v u _ I2 r1 r2 q2) λd s3 ⟨z,H3,I3,r3,k,e,q3⟩=>?_)) hm
 subst e
 cases r3
 refine wpAny_truthy_bool ?_
 cases k with
 | false=>exact ite_ff ⟨.bl false,H3,I3,rfl,q3⟩
 | true=>exact ite_tt (chain_last (thn (hc pins s3 σ H3 _ I3 q3) λw' s4 ⟨z',H4,I4,r4,q4⟩=>ho' pins s4 σ H4 y z' u w' Q I4 r2 r4 q4))
theorem zh6:(sizeLine:Nat)<2 ^ 63:=by rw [sizeLine_eq];decide
theorem op_add_str:OpR X (binaryOp .Add) (λx y H Q=>∃i j,x=.str i/\y=.str j/\i.length+j.length<=sizeLine/\Q (.str (i++j)) H):=by
 intro pins s σ H x y v u Q I rx ry h
 obtain ⟨i,j,rfl,rfl,hz,q⟩:=h
 obtain ⟨t,rfl⟩:=rx
 obtain ⟨t',rfl⟩:=ry
 exact add_str (λt' tk=>⟨.str (i++j),H,I.tok _,⟨_,rfl⟩,q⟩) hz
theorem zcs {x:V}{us:List Value}(r:Vals [x] us):∃u,us=[u]/\RelV x u:=by
 cases r with
 | cons r1 r2=>cases r2;exact ⟨_,rfl,r1⟩
theorem zya {x y:V}{us:List Value}(r:Vals [x,y] us):∃u w',us=[u,w']/\RelV x u/\RelV y w':=by
 cases r with
 | cons r1 r2 =>
  cases r2 with
  | cons r3 r4=>cases r4;exact ⟨_,_,rfl,r1,r3⟩
theorem zyb:CallR X (.builtin "abs") (λxs H Q=>∃i,xs=[.int i]/\Q (.int (if i<0 then -i else i)) H):=by
 intro pins s σ H xs us Q I r h
 obtain ⟨i,rfl,q⟩:=h
 obtain ⟨u,rfl,t,rfl⟩:=zcs r
 exact call_abs_int λu tk=>⟨.int (if i<0 then -i else i),H,I.tok _,⟨_,rfl⟩,q⟩
theorem zyc (hc:X.calm=true):CallR X (.builtin "max") (λxs H Q=>∃i j,xs=[.int i,.int j]/\Q (.int (if j > i then j else i)) H):=by
 intro pins s σ H xs us Q I r h
 obtain ⟨i,j,rfl,q⟩:=h
 obtain ⟨u,w',rfl,⟨t,rfl⟩,⟨t',rfl⟩⟩:=zya r
 refine max_two_ints (I.ok.hd hc) λh' tk k=>⟨_,H,I.kept k,?_,q⟩
 by_cases hj:j > i
 ·rw [if_pos hj,if_pos hj];exact ⟨_,rfl⟩
 ·rw [if_neg hj,if_neg hj];exact ⟨_,rfl⟩
theorem zyd:CallR X (.type "int") (λxs H Q=>(∃i,xs=[.int i]/\Q (.int i) H)\/∃k,xs=[.bl k]/\Q (.int (if k then 1 else 0)) H):=by
 intro pins s σ H xs us Q I r h
 rcases h with ⟨i,rfl,q⟩|⟨k,rfl,q⟩
 ·obtain ⟨u,rfl,t,rfl⟩:=zcs r
  exact call_int_int ⟨.int i,H,I,⟨_,rfl⟩,q⟩
 ·obtain ⟨u,rfl,r1⟩:=zcs r
  cases r1
  exact call_int_bool ⟨.int (if k then 1 else 0),H,I.tok _,⟨_,rfl⟩,q⟩
theorem zye:CallR X (.type "str") (λxs H Q=>∃i,xs=[.int i]/\i.natAbs.log2<1920/\Q (.str (toString i)) H):=by
 intro pins s σ H xs us Q I r h
 obtain ⟨i,rfl,hz,q⟩:=h
 obtain ⟨u,rfl,t,rfl⟩:=zcs r
 exact PySem.P.str_of_int hz ⟨.str _,H,I.tok _,⟨_,rfl⟩,q⟩
end
structure ObjM (h:Heap) (x dx C:Addr) (mA:Str->Option Value):Prop where
 obj:h.get? x=some (PySem.W.instObj C dx)
 ns:h.Ns1 dx mA
 ne:dx≠x
theorem zyf {h:Heap}{dx:Addr}{mA:Str->Option Value}(n:h.Ns1 dx mA):∃od,h.get? dx=some od/\∀name,PySem.W.lookIn name od=some (mA name):=by
 obtain ⟨o,es,ep,ho,hd,hk,_,hm⟩:=n
 refine ⟨o,ho,λname=>?_⟩
 have e:=hm name
 unfold nsFind findBy at e
 rw [<-Array.find?_toList] at e
 unfold PySem.W.lookIn
 rw [hd]
 dsimp only
 split
 ·rename_i y q
  rw [q] at e
  exact congrArg some e
 ·rename_i q
  rw [q] at e
  have a:es.toList.any (·.refKey)=false:=by
   rw [List.any_eq_false]
   intro y hy
   obtain ⟨z,t,hkey⟩:=hk y (Array.mem_toList_iff.mp hy)
   simp [DictEntry.refKey,hkey]
  have a':¬es.toList.any (·.refKey)=true:=by rw [a];exact Bool.false_ne_true
  rw [if_neg a']
  exact congrArg some e
theorem ObjM.look {h:Heap}{x dx C:Addr}{mA:Str->Option Value}(I:ObjM h x dx C mA):∃od,PySem.W.InstAt h x (PySem.W.instObj C dx) C (some od)/\∀name,PySem.W.lookIn name od=some (mA name) :=
 let ⟨od,ho,hl⟩:=zyf I.ns
 ⟨od,⟨I.obj,rfl,rfl,ho⟩,hl⟩
section
variable {prog:Program}{w:World}{A:Around}{E:Value->Shared->Prop}{s:Shared}{K:QFg}{x dx C f:Addr}{mA:Str->Option Value}{name:Str}{v:Value}
end
theorem RelO.some_of {v:V}{o:Option Value}(r:RelO (some v) o):∃u,o=some u/\RelV v u:=by
 cases o with
 | none=>exact (show False from r).elim
 | some u=>exact ⟨u,rfl,r⟩
section
variable {P:Program}{w:World}{H H':Hp}{h h':Heap}{a C dx:Addr}{fs fs':List (Str × V)}
theorem zyg (hok:HOk P w H h) (e:H a=some (.ins C dx fs)):∃mA,ObjM h a dx C mA/\(∀f,RelO (fs.lookup f) (mA f))/\PySem.Within mA (fs.map (·.1))/\fs.length<=1000/\H dx=some (.own a):=by
 obtain ⟨d,z,ne,ob,mA,n,r,q⟩:=(show ObjOk P w H h a (.ins C dx fs) from hok a _ e)
 exact ⟨mA,⟨ob,n,ne⟩,r,q,z,d⟩
end
structure Cls (K:QFg) (C:Addr):Prop where
 pg:PySem.W.plainGet K C Str.empty=true
 hd:PySem.W.hasDictIn K C=true
 po:PySem.W.plainOver K C=true
 sa:PySem.W.findIn K (.ref C) "__setattr__" = some (some (.builtin "object.__setattr__"))
theorem Cls.get {K:QFg}{C:Addr}(c:Cls K C) (f:Str):PySem.W.plainGet K C f=true:=c.pg
section
variable {X:Cx}{pins:List (Addr × Obj)}{σ:St}{H:Hp}{s:Shared}{a C dx:Addr}{fs:List (Str × V)}{f:Str}{v:V}{A:Around}{E:Value->Shared->Prop}
end
section
variable {X:Cx}{o e value:Expr}{f:Str}{pos pos' tpos:Pos}{ta tv:TE}
end
section
variable {X:Cx}{pins:List (Addr × Obj)}{σ:St}{H:Hp}{s:Shared}{A:Around}{E:Value->Shared->Prop}{Q:Value->Shared->Prop}{c:Value}{b:Bool}
inductive TyOf (K:QFg) (H:Hp):V->Value->Prop where
 | non:TyOf K H .non (.type "NoneType")
 | bl (x:Bool):TyOf K H (.bl x) (.type "bool")
 | int (i:Int):TyOf K H (.int i) (.type "int")
 | str (x:Str):TyOf K H (.str x) (.type "str")
 | flt (x:UInt64):TyOf K H (.flt x) (.type "float")
 | lst {a:Addr} {xs:List V} (e:H a=some (.lst xs)):TyOf K H (.ref a) (.type "list")
 | frz {a:Addr} {o:Obj} {xs:List V} (e:H a=some (.frz o (.lst xs))):TyOf K H (.ref a) (.type "list")
 | tup {a:Addr} {xs:List V} (e:H a=some (.tup xs)):TyOf K H (.ref a) (.type "tuple")
 | dK {a:Addr} {kvs:List (Key × V)} (e:H a=some (.dK kvs)):TyOf K H (.ref a) (.type "dict")
 | dT {a:Addr} {kvs:List (List Key × V)} (e:H a=some (.dT kvs)):TyOf K H (.ref a) (.type "dict")
 | ins {a C dx:Addr} {fs:List (Str × V)} (e:H a=some (.ins C dx fs)) (cl:Cls K C) (ha:PySem.W.findIn K (.ref C) "__class__" = some (some (.builtin "object.__class__")))
   (hn:PySem.W.specialIn K (.builtin "object.__class__") "__get__" = some (some (.builtin "getset_descriptor.__get__"))) (htk:PySem.W.takesIn K (.builtin "object.__class__")=some true)
   (hm:PySem.W.mroIn K C (.type "object")=some true):TyOf K H (.ref a) (.ref C)
theorem zyh {x:V}{u t:Value}(I:Inv X pins σ H s) (rx:RelV x u) (ty:TyOf X.K H x t) (e:PySem.W.kitOne X.K t c=some b) (h:∀tk,Q (.bool b) { s with toks:=tk }) :
  wpAny (model X.prog X.w) A (call (.builtin "isinstance") [u,c]) Q E s:=by
 cases ty with
 | non=>cases (show u=Value.none from rx);exact PySem.W.kia_one PySem.W.kitx_none I.kIn True.intro e (λz=>nomatch z) h
 | bl y=>cases (show u=Value.bool y from rx);exact PySem.W.kia_one PySem.W.kitx_bool I.kIn True.intro e (λz=>nomatch z) h
 | int i=>obtain ⟨t,q⟩:=(show ∃t,u=Value.int i t from rx);cases q;exact PySem.W.kia_one PySem.W.kitx_int I.kIn True.intro e (λz=>nomatch z) h
 | str y=>obtain ⟨t,q⟩:=(show ∃t,u=Value.str y t from rx);cases q;exact PySem.W.kia_one PySem.W.kitx_str I.kIn True.intro e (λz=>nomatch z) h
 | flt y=>obtain ⟨t,q⟩:=(show ∃t,u=Value.float y t from rx);cases q;exact PySem.W.kia_one PySem.W.kitx_float I.kIn True.intro e (λz=>nomatch z) h
 | @lst a xs ea =>
  cases (show u=Value.ref a from rx)
  obtain ⟨_,_,n,_,h1⟩:=(show ObjOk X.prog X.w H s.heap a (.lst xs) from I.hok a _ ea)
  exact PySem.W.kia_one PySem.W.kitx_list I.kIn ⟨_,h1,rfl⟩ e (λz=>nomatch z) h
 | @frz a ob xs ea =>
  cases (show u=Value.ref a from rx)
  obtain ⟨_,_,_,n,_,h1⟩:=(show ObjOk X.prog X.w H s.heap a (.frz ob (.lst xs)) from I.hok a _ ea)
  exact PySem.W.kia_one PySem.W.kitx_list I.kIn ⟨_,h1,rfl⟩ e (λz=>nomatch z) h
 | @tup a xs ea =>
  cases (show u=Value.ref a from rx)
  obtain ⟨_,_,_,p⟩:=(show ObjOk X.prog X.w H s.heap a (.tup xs) from I.hok a _ ea)
  obtain ⟨o,h1,h2,_⟩:=p
  exact PySem.W.kia_one PySem.W.kitx_tuple I.kIn ⟨o,h1,h2⟩ e (λz=>nomatch z) h
 | @dK a kvs ea =>
  cases (show u=Value.ref a from rx)
  obtain ⟨_,_,vs,_,p⟩:=(show ObjOk X.prog X.w H s.heap a (.dK kvs) from I.hok a _ ea)
  obtain ⟨o,es,ep,h1,h2,_⟩:=p
  exact PySem.W.kia_one PySem.W.kitx_dict I.kIn ⟨o,h1,h2.1⟩ e (λz=>nomatch z) h
 | @dT a kvs ea =>
  cases (show u=Value.ref a from rx)
  obtain ⟨_,_,xs,_,o,es,ep,h1,h2,_⟩:=(show ObjOk X.prog X.w H s.heap a (.dT kvs) from I.hok a _ ea)
  exact PySem.W.kia_one PySem.W.kitx_dict I.kIn ⟨o,h1,h2.1⟩ e (λz=>nomatch z) h
 | @ins a C dx fs ea cl ha hn htk hm =>
  cases (show u=Value.ref a from rx)
  obtain ⟨mA,O,_⟩:=zyg I.hok ea
  obtain ⟨od,J,_⟩:=O.look
  exact PySem.W.kia_one (PySem.W.kitx_own (cl.get _) cl.hd ha hn htk hm) I.kIn J e (λz=>nomatch z) h
end
structure Room (k:Nat) (A:Around):Prop where
 hd:A.handled=none
 dp:A.depth+3*k+5<recursionLimit
 un:A.units+16*k+200<cLine
 gd:A.guards=some []
theorem Room.mono {j k:Nat}{A:Around}(r:Room k A) (h:j<=k):Room j A:=⟨r.hd,by have:=r.dp;omega,by have:=r.un;omega,r.gd⟩
theorem Room.deeper {k:Nat}{A:Around}(r:Room (k+1) A) (env:Env):Room k (A.deeper env) :=
 ⟨r.hd,by have:=r.dp;show A.depth+1+3*k+5<_;omega,by have:=r.un;show A.units+3+16*k+200<_;omega,r.gd⟩
theorem Room.depth {k:Nat}{A:Around}(r:Room k A):A.depth<recursionLimit:=by have:=r.dp;omega
def zyi:TA:=λ_ H Q=>Q [] H
def zyj (ta:TE) (tr:TA):TA:=λσ H Q=>ta σ H λx H1=>tr σ H1 λxs H2=>Q (x :: xs) H2
section
variable {X:Cx}{e:Expr}{es:List Expr}{te:TE}{t:TA}{pos:Pos}
theorem zex:PA X [] zyi:=λ_ _ _ _ H Q I h=>Calls.spliced_nil ⟨[],H,I,.nil,h⟩
theorem zcz (ha:PE X e te) (hr:PA X es t) (hs:starEach (e :: es) X.env=(false,eval e X.env) :: starEach es X.env:=by rfl):PA X (e :: es) (zyj te t):=by
 intro pos pins s σ H Q I h
 rw [hs]
 show wpAny _ _ (spliced ((false,eval e X.env) :: backTo pos (starEach es X.env))) _ _ s
 refine Calls.spliced_cons (thn (ha pins s σ H _ I h) λu s1 ⟨x,H1,I1,r1,q1⟩=>?_)
 exact thn (hr pos pins s1 σ H1 _ I1 q1) λus s2 ⟨xs,H2,I2,r2,q2⟩=>⟨x :: xs,H2,I2,.cons r1 r2,q2⟩
def zyk (t:TA):TE:=λσ H Q=>t σ H λxs H1=>xs.length<=sizeLine/\∀p,H1 p=none->Q (.ref p) (upd H1 p (.tup xs))
def zyl (t:TA):TE:=λσ H Q=>t σ H λxs H1=>xs.length<=sizeLine/\∀p,H1 p=none->Q (.ref p) (upd H1 p (.lst xs))
theorem zps {x1}(h:PA X es t):PE X (.Tuple es x1 pos) (zyk t):=by
 intro pins s σ H Q I hq
 refine wpAny_Tuple_spliced (thn (h pos pins s σ H _ I hq) λus s1 ⟨xs,H1,I1,r,z,q⟩=>⟨by rw [<-r.length];exact z,?_⟩)
 have hf:H1 s1.heap.objs.size=none:=I1.hok.fresh (qlr _)
 refine ⟨.ref s1.heap.objs.size,upd H1 s1.heap.objs.size (.tup xs),I1.laid (t':=s1.toks) (λb u e=>qps _ e) (qlr _) ?_,rfl,q _ hf⟩
 exact ⟨z,us,r,IsTD.new _ _⟩
theorem zym (h:PA X es t):PE X (.List es pos) (zyl t):=by
 intro pins s σ H Q I hq
 refine wpAny_List_spliced (thn (h pos pins s σ H _ I hq) λus s1 ⟨xs,H1,I1,r,z,q⟩=>⟨by rw [<-r.length];exact z,?_⟩)
 have hf:H1 s1.heap.objs.size=none:=I1.hok.fresh (qlr _)
 refine ⟨.ref s1.heap.objs.size,upd H1 s1.heap.objs.size (.lst xs),I1.laid (t':=s1.toks) (λb u e=>qps _ e) (qlr _) ?_,rfl,q _ hf⟩
 exact ⟨z,us,0,r,Heap.get?_push_size _ rfl⟩
end
abbrev Sp:=List V->Hp->VK->XK->Prop
abbrev CXT:=List Env->Hp->Shared->XK->Value->Shared->Prop
structure Env0 (P:Program) (w:World) (K:QFg) (mg:Str->Option Value) (base:Heap) (A:Around) (outer:List Env) (s:Shared) (H:Hp):Prop where
 frames:A.frames=some outer
 mod:Mod K mg base
 bs:∀b o,base.get? b=some o->s.heap.get? b=some o/\H b=none
 bsz:base.objs.size<=s.heap.objs.size
 funs:s.heap.FunFrames base outer
 frf:∀b∈frs outer,H b=none
 hok:HOk P w H s.heap
 bare:AllBare s.gens
def CE (outer:List Env) (P:Program) (w:World) (H:Hp) (s:Shared) (Q:VK) (u:Value) (s':Shared):Prop :=
 ∃v H',s'.os=s.os/\AllBare s'.gens/\Un (frs outer) [] H H' s.heap s'.heap/\HOk P w H' s'.heap/\RelV v u/\Q v H'
def CR (CX:CXT) (outer:List Env) (P:Program) (w:World) (H:Hp) (s:Shared) (Q:VK) (E:XK) (r:Result) (s':Shared):Prop :=
 match r with
 | .ok (.ret u)=>CE outer P w H s Q u s'
 | .ok _=>False
 | .error e=>CX outer H s E e s'
structure FnOk (P:Program) (w:World) (K:QFg) (mg:Str->Option Value) (base:Heap) (CX:CXT) (k:Nat) (f:Addr) (fd:FuncData) (ps:List Str) (sp:Sp):Prop where
 len:∀vs H Q E,sp vs H Q E->vs.length=ps.length
 run:∀(A:Around) (outer:List Env) (s:Shared) (H:Hp) (args:Args) (us:List Value) (vs:List V) (Q:VK) (E:XK),Room k A->Env0 P w K mg base A outer s H->BindsTo s fd args (ps.zip us)->Vals vs us->sp vs H Q E ->
  codeAny (model P w) A (.call (.ref f) args) (CR CX outer P w H s Q E) s
section
variable {X:Cx}{pins:List (Addr × Obj)}{σ:St}{H:Hp}{s s':Shared}
theorem Inv.env0 (I:Inv X pins σ H s):Env0 X.prog X.w X.K X.mg X.base X.A X.stack s H :=
 ⟨I.ok.frames,I.ok.mod,I.bs,Nat.le_trans I.ok.bsz I.sz,I.stack,I.stkFree,I.hok,I.bare⟩
theorem Inv.after {Q:VK}{u:Value}(I:Inv X pins σ H s) (h:CE X.stack X.prog X.w H s Q u s'):EP X pins σ Q u s':=by
 obtain ⟨v,H',os,bare,un,hok,r,q⟩:=h
 obtain ⟨hh,g,d,t,os'⟩:=s'
 obtain rfl:os' = s.os:=os
 exact ⟨v,H',I.call (h':=hh) (g':=g) (d':=d) (t':=t) (ch:=[]) un hok bare (λb z=>absurd z (by simp)),r,q⟩
end
def zyn (sp:Sp) (dvs:List V) (E:XK) (t:TA):TE:=λσ H Q=>t σ H λvs H1=>sp (vs++dvs) H1 Q E
def Binds (K:QFg) (fd:FuncData) (ps:List Str) (ds:List Value):Prop :=
 ∀(s:Shared) (us:List Value),K.In s.heap->(us++ds).length=ps.length->BindsTo s fd ⟨us,[]⟩ (ps.zip (us++ds))
theorem Binds.all {K:QFg}{fd:FuncData}{ps:List Str}(h:∀us:List Value,us.length=ps.length->bindArgs fd ⟨us,[]⟩=pure (ps.zip us)):Binds K fd ps []:=λs us _ hl=>by
 rw [List.append_nil] at hl ⊢
 exact .of_eq (h us hl)
def zh7 (CX:CXT) (X:Cx) (E:XK):Prop:=∀(pins:List (Addr × Obj)) (σ:St) (H:Hp) (s:Shared) (e:Value) (s':Shared),Inv X pins σ H s->CX X.stack H s E e s'->X.xe e s'
section
variable {X:Cx}{CX:CXT}{k:Nat}{f C:Addr}{fd:FuncData}{ps:List Str}{sp:Sp}{dvs:List V}{ds:List Value}{E:XK}{x m:Str}{p pos apos:Pos}{e o:Expr}{es:List Expr}{ta:TE}{t:TA}
theorem zyo {pins:List (Addr × Obj)}{σ:St}{H:Hp}{s:Shared}{Q:VK}{us:List Value}{vs:List V}(F:FnOk X.prog X.w X.K X.mg X.base CX k f fd ps sp) (hr:Room k X.A) (hb:Binds X.K fd ps ds) (hd:Vals dvs ds) (hx:zh7 CX X E)
  (I:Inv X pins σ H s) (r:Vals vs us) (h:sp (vs++dvs) H Q E):wpAny (model X.prog X.w) X.A (call (.ref f) us) (EP X pins σ Q) X.xe s:=by
 have r2:Vals (vs++dvs) (us++ds):=r.append hd
 have hl:(us++ds).length=ps.length:=by rw [<-r2.length];exact F.len _ _ _ _ h
 refine wpAny_call (codeAny_mono (F.run X.A X.stack s H ⟨us,[]⟩ (us++ds) (vs++dvs) Q E hr I.env0 (hb s us I.kIn hl) r2 h) λr s' hq=>?_)
 cases r with
 | error e=>exact hx pins σ H s e s' I hq
 | ok fl =>
  cases fl with
  | ret u=>exact I.after hq
  | next=>exact False.elim hq
  | brk=>exact False.elim hq
  | cont=>exact False.elim hq
theorem zmd (F:FnOk X.prog X.w X.K X.mg X.base CX k f fd ps sp) (hr:Room k X.A) (hg:Gl X x) (hm:X.mg x=some (.ref f)) (hk:PySem.W.keepIn X.K (.ref f)=true) (hb:Binds X.K fd ps ds) (hd:Vals dvs ds) (hx:zh7 CX X E)
  (ha:PA X (e :: es) t) (hdb:(x == ("__debug__":Str))=false:=by decide) (he:starEach (e :: es) X.env=(false,eval e X.env) :: starEach es X.env:=by rfl) (hpl:(backTo pos (starEach es X.env)).any (·.1)=false:=by rfl) :
  PE X (.Call (.Name x p) (e :: es) [] pos) (zyn sp dvs E t):=by
 intro pins s σ H Q I h
 refine wpAny_Call_Name_kw (zh4 I hg hm ?_ hdb)
 refine PySem.W.callWith_K (h₀:=X.base) I.ok.mod.kin hk (thn (ha pos pins s σ H _ I h) λus s1 ⟨vs,H1,I1,r,q⟩=>⟨I1.kIn,?_⟩) he hpl
 exact zyo F hr hb hd hx I1 r q
end
section
variable {X:Cx}{CX:CXT}{k:Nat}{f C:Addr}{fd:FuncData}{ps ks:List Str}{sp:Sp}{E:XK}{x m:Str}{p pos apos kpos:Pos}{e o:Expr}{es:List Expr}{kws:List Keyword}{te ta:TE}{t tk:TA}{nm:Option Str}
variable {g:List Value->List Value->List Value}{gV:List V->List V->List V}
end
structure FnScope (N P:List Str) (sc:Scope):Prop where
 kind:sc.kind=.function
 co:sc.isCoroutine=false
 gen:sc.isGenerator=false
 nd:N.Nodup
 pre:N.take P.length=P
 par:∀x∈P,sc.names.lookup x=some .local\/sc.names.lookup x=some .cell
 nofree:∀y∈sc.names,y.2≠.free
theorem zpt {kindOf:Str->Option NameKind}{x:Str}:∀{binds:List (Str × Value)}{m:Str->Option Value},(∀v,(x,v) ∉ binds)->bindL kindOf binds m x=m x
 | [],_,_=>rfl
 | (n,v) :: r,m,h=>by
  unfold bindL
  rw [zpt λw hw=>h w (List.mem_cons_of_mem _ hw)]
  split
  ·have:x≠n:=by rintro rfl;exact h v List.mem_cons_self
   simp [this]
  ·rfl
theorem zpu {kindOf:Str->Option NameKind}{x:Str}:∀{binds:List (Str × Value)}{m:Str->Option Value},(∀v,(x,v) ∉ binds)->bindC kindOf binds m x=m x
 | [],_,_=>rfl
 | (n,v) :: r,m,h=>by
  unfold bindC
  rw [zpu λw hw=>h w (List.mem_cons_of_mem _ hw)]
  split
  ·rfl
  ·have:x≠n:=by rintro rfl;exact h v List.mem_cons_self
   simp [this]
theorem zpv {kindOf:Str->Option NameKind}{x:Str}{v:Value}:∀{P:List Str}{vs:List Value}{i:Nat}{m:Str->Option Value},P.Nodup->P[i]? = some x->vs[i]? = some v->kindOf x=some .local ->
  bindL kindOf (P.zip vs) m x=some v
 | [],_,_,_,_,h,_,_=>by simp at h
 | _ :: _,[],_,_,_,_,h,_=>by simp at h
 | p :: P,w :: vs,0,m,nd,h1,h2,hk=>by
  simp at h1 h2;subst h1;subst h2
  show bindL kindOf ((p,w) :: P.zip vs) m p=_
  unfold bindL
  rw [zpt λv hv=>(List.nodup_cons.mp nd).1 (List.of_mem_zip hv).1,if_pos hk]
  simp
 | p :: P,w :: vs,i+1,m,nd,h1,h2,hk=>by
  show bindL kindOf ((p,w) :: P.zip vs) m x=_
  unfold bindL
  exact zpv (i:=i) (List.nodup_cons.mp nd).2 (by simpa using h1) (by simpa using h2) hk
theorem zpw {kindOf:Str->Option NameKind}{x:Str}{v:Value}:∀{P:List Str}{vs:List Value}{i:Nat}{m:Str->Option Value},P.Nodup->P[i]? = some x->vs[i]? = some v->kindOf x≠some .local ->
  bindC kindOf (P.zip vs) m x=some v
 | [],_,_,_,_,h,_,_=>by simp at h
 | _ :: _,[],_,_,_,_,h,_=>by simp at h
 | p :: P,w :: vs,0,m,nd,h1,h2,hk=>by
  simp at h1 h2;subst h1;subst h2
  show bindC kindOf ((p,w) :: P.zip vs) m p=_
  unfold bindC
  rw [zpu λv hv=>(List.nodup_cons.mp nd).1 (List.of_mem_zip hv).1,if_neg hk]
  simp
 | p :: P,w :: vs,i+1,m,nd,h1,h2,hk=>by
  show bindC kindOf ((p,w) :: P.zip vs) m x=_
  unfold bindC
  exact zpw (i:=i) (List.nodup_cons.mp nd).2 (by simpa using h1) (by simpa using h2) hk
noncomputable def start (N:List Str) (vs:List V):St:=vs.map some++List.replicate (N.length-vs.length) none
noncomputable def zbn (CX:CXT) (P:Program) (w:World) (K:QFg) (mg:Str->Option Value) (base:Heap) (N:List Str) (qual:Str) (scope:Scope) (f:Addr) (cd:Value) (A:Around) (outer:List Env) (s:Shared) (H:Hp) (E:XK):Cx where
 prog:=P
 w:=w
 K:=K
 mg:=mg
 base:=base
 A:=A.deeper (envOfC qual scope s.heap.objs.size f cd)
 N:=N
 s₀:=s
 H₀:=H
 env:=envOfC qual scope s.heap.objs.size f cd
 outer:=outer
 stack:=envOfC qual scope s.heap.objs.size f cd :: outer
 ex:=[]
 calm:=true
 fn:=λ_=>true
 pn:=[]
 xe:=λe s'=>wpAny (model P w) (A.deeper (envOfC qual scope s.heap.objs.size f cd)) (leaving (envOfC qual scope s.heap.objs.size f cd) e) (λ_ s''=>CX outer H s E e s'') (λe' s''=>CX outer H s E e' s'') s'
theorem zpx {sc:Scope}{n:Nat}{x:Str}(h:sc.names.lookup x=some .cell):∃c,(cellsFrom n sc.names []).lookup x=some c:=by
 have q:=PySem.W.cellsFrom_some sc.names n [] (.inl h)
 exact Option.isSome_iff_exists.mp q
theorem zyp {CX:CXT}{P:Program}{w:World}{K:QFg}{mg:Str->Option Value}{base:Heap}{N ps:List Str}{qual:Str}{scope:Scope}{f:Addr}{cd:Value}{A:Around}{outer:List Env}{s s1:Shared}{H:Hp}{E:XK}{us:List Value}{vs:List V}
  (S:FnScope N ps scope) (hd:A.handled=none) (e0:Env0 P w K mg base A outer s H) (hl:vs.length=ps.length) (r:Vals vs us)
  (x:InCallC s s.heap.objs.size (bindL (envOfC qual scope s.heap.objs.size f cd).kindOf (ps.zip us) λ_=>none) (cellsFrom (s.heap.objs.size+1) scope.names []) (bindC (envOfC qual scope s.heap.objs.size f cd).kindOf (ps.zip us) λ_=>none) s1) :
  Inv (zbn CX P w K mg base N qual scope f cd A outer s H E) [] (start N vs) H s1:=by
 have hpl:ps.length<=N.length:=by have:=congrArg List.length S.pre;rw [List.length_take] at this;omega
 obtain ⟨h1,tk,rfl,hk⟩:=x.done
 have noA:∀b:Addr,b ∉ (zbn CX P w K mg base N qual scope f cd A outer s H E).ex:=λb z=>absurd (show b∈([]:List Addr) from z) (by simp)
 refine ⟨⟨e0.mod,S.kind,rfl,rfl,qlr _,λy z c h1 h2=>?_,λy hy=>?_,λy c _ h=>?_,λ_=>hd,Around.frames_deeper e0.frames,.inr ⟨rfl,rfl⟩,λb z=>absurd z (noA b),e0.bs,e0.bsz,λb _ _=>noA b,λb z=>absurd z (noA b),e0.funs,e0.frf⟩,
  rfl,e0.bare,Un.kept hk,⟨_,x.toInCall.ns,λi y v h1 h2 h3=>?_⟩,λy c h=>⟨_,x.cell y c h⟩,e0.hok.fresh (qlr _),λy c h=>?_,λp hp=>absurd (show p∈([]:List (Addr × Obj)) from hp) (by simp),e0.hok.kept hk,?_⟩
 ·exact name_of_addr x.apart (PySem.mem_of_lookup h1) (PySem.mem_of_lookup h2)
 ·have hy:scope.names.lookup y=some .cell\/scope.names.lookup y=some .free:=hy
  rcases hy with hy|hy
  ·exact zpx hy
  ·exact absurd rfl (S.nofree _ (PySem.mem_of_lookup hy))
 ·exact Nat.le_of_lt (x.above y c (PySem.mem_of_lookup h))
 ·have hi:i<vs.length:=by
   unfold start at h2
   by_cases hi:i<vs.length
   ·exact hi
   ·rw [List.getElem?_append_right (by simpa using hi)] at h2
    rw [List.getElem?_replicate] at h2
    split at h2 <;> cases h2
  have ha:vs[i]? = some v:=by
   unfold start at h2
   rw [List.getElem?_append_left (by simpa using hi),qgm] at h2
   cases e:vs[i]? with
   | none=>rw [e] at h2;cases h2
   | some a=>rw [e] at h2;cases h2;rfl
  obtain ⟨u,hu,rv⟩:=r.get ha
  have hp:ps[i]? = some y:=by
   rw [<-S.pre,List.getElem?_take_of_lt (by omega)];exact h1
  have ndP:ps.Nodup:=by rw [<-S.pre];exact S.nd.sublist (List.take_sublist _ _)
  refine ⟨u,rv,?_⟩
  rcases S.par y (qmg hp) with k|k
  ·exact .inl ⟨k,zpv ndP hp hu k⟩
  ·obtain ⟨c,e⟩:=zpx (n:=s.heap.objs.size+1) k
   refine .inr ⟨.inl k,c,e,?_⟩
   have q:=x.cell y c e
   rw [zpw ndP hp hu (by show scope.names.lookup y≠_;rw [k];decide)] at q
   exact q
 ·exact e0.hok.fresh (Nat.le_of_lt (x.above y c (PySem.mem_of_lookup h)))
 ·unfold start
  show _=N.length
  rw [qla,qlm,List.length_replicate]
  omega
theorem zme {CX:CXT}{P:Program}{w:World}{K:QFg}{mg:Str->Option Value}{base:Heap}{k:Nat}{f:Addr}{name qual:Str}{params:Arguments}{body:List Stmt}{scope:Scope}{dV kV doc pm cdv ct oc:Value}{an od:Option Addr}
  {osl:Array (Option Value)} {N ps:List Str} {sp:Sp} (lk:K.lookup f=some ⟨oc,od,.func (PySem.W.fnOf name qual params body scope dV kV doc pm an cdv ct),osl⟩) (hcd:PySem.W.codeIn K cdv qual=true) (S:FnScope N ps scope)
  (len:∀vs H Q E,sp vs H Q E->vs.length=ps.length)
  (hbody:∀(A:Around) (outer:List Env) (s:Shared) (H:Hp) (vs:List V) (Q:VK) (E:XK),Room k (A.deeper (envOfC qual scope s.heap.objs.size f cdv))->sp vs H Q E ->
   ∃t,PSs (zbn CX P w K mg base N qual scope f cdv A outer s H E) body t/\t { nx:=λ_ H'=>Q .non H',rt:=Q } (start N vs) H) :
  FnOk P w K mg base CX (k+1) f (PySem.W.fnOf name qual params body scope dV kV doc pm an cdv ct) ps sp:=by
 refine ⟨len,λA outer s H args us vs Q E hr e0 hb r hsp=>?_⟩
 have hl:=len _ _ _ _ hsp
 have KX:K.In s.heap:=e0.mod.kin.keeps λb o e=>(e0.bs b o e).1
 have lim:s.heap.NoLimit:=e0.mod.nolimit.keeps λb o e=>(e0.bs b o e).1
 have hkind:∀y∈ps.zip us,scope.names.lookup y.1=some .local\/(scope.names.lookup y.1=some .cell/\((cellsFrom (s.heap.objs.size+1) scope.names []).lookup y.1).isSome=true):=λhx2_ hy=>by
  obtain ⟨n,v⟩:=hx2_
  rcases S.par n (List.of_mem_zip hy).1 with q|q
  ·exact .inl q
  ·exact .inr ⟨q,PySem.W.cellsFrom_some _ _ _ (.inl q)⟩
 refine codeAny_call_function hr.depth (KX _ _ lk) rfl S.co S.gen rfl (PySem.W.codeRec_of KX hcd) (hb _ _ _ _ ?_)
 refine wpAny_newFunctionEnv_cells S.kind hkind λenv he s1 x=>?_
 subst he
 refine ⟨lim.keeps x.toInCall.keep,codeAny_func ?_⟩
 obtain ⟨t,ht,hq⟩:=hbody A outer s H vs Q E (hr.deeper _) hsp
 have I:Inv (zbn CX P w K mg base N qual scope f cdv A outer s H E) [] (start N vs) H s1:=zyp S hr.hd e0 hl r x
 refine wpAny_mono (ht [] s1 (start N vs) H _ I hq) (λfl s' hs=>?_) λe s' hs=>hs
 have fin:∀{σ':St} {H':Hp} {v:V} {u:Value},Inv (zbn CX P w K mg base N qual scope f cdv A outer s H E) [] σ' H' s'->RelV v u->Q v H'->CE outer P w H s Q u s' :=
  λ{σ' H' v u} J rv q=>⟨v,H',J.os,J.bare,J.base,J.hok,rv,q⟩
 cases fl with
 | ret u =>
  obtain ⟨v,σ',H',J,rv,q⟩:=hs
  exact fin J rv q
 | next =>
  obtain ⟨σ',H',J,q⟩:=hs
  exact fin (v:=V.non) (u:=Value.none) J rfl q
 | brk =>
  obtain ⟨_,_,_,q⟩:=hs
  exact False.elim q
 | cont =>
  obtain ⟨_,_,_,q⟩:=hs
  exact False.elim q
section
variable {X:Cx}{x:Str}{p pos:Pos}{e:Expr}{es:List Expr}{t:TA}{id T:String}{r:List V->Hp->VK->Prop}
def tCB (r:List V->Hp->VK->Prop) (t:TA):TE:=λσ H Q=>t σ H λvs H1=>r vs H1 Q
theorem zh8 (hc:CallR X (.builtin id) r) (hg:Gl X x) (hm:X.mg x=none) (hv:bootBuiltins x=some (.builtin id)) (ha:PA X (e :: es) t) (hn:x≠"__name__":=by decide) (hdb:(x == ("__debug__":Str))=false:=by decide)
  (he:starEach (e :: es) X.env=(false,eval e X.env) :: starEach es X.env:=by rfl) (hpl:(backTo pos (starEach es X.env)).any (·.1)=false:=by rfl):PE X (.Call (.Name x p) (e :: es) [] pos) (tCB r t):=by
 intro pins s σ H Q I h
 refine wpAny_Call_Name_kw (zfg I hg hm hv ?_ hn hdb)
 exact PyProof.Rows.callWith_builtin1 (thn (ha pos pins s σ H _ I h) λus s1 ⟨vs,H1,I1,r1,q1⟩=>hc pins s1 σ H1 vs us Q I1 r1 q1) he hpl
theorem zh9 (hc:CallR X (.type T) r) (hg:Gl X x) (hm:X.mg x=none) (hv:bootBuiltins x=some (.type T)) (ha:PA X (e :: es) t) (hn:x≠"__name__":=by decide) (hdb:(x == ("__debug__":Str))=false:=by decide)
  (he:starEach (e :: es) X.env=(false,eval e X.env) :: starEach es X.env:=by rfl) (hpl:(backTo pos (starEach es X.env)).any (·.1)=false:=by rfl):PE X (.Call (.Name x p) (e :: es) [] pos) (tCB r t):=by
 intro pins s σ H Q I h
 refine wpAny_Call_Name_kw (zfg I hg hm hv ?_ hn hdb)
 exact PyProof.Rows.callWith_type1 (thn (ha pos pins s σ H _ I h) λus s1 ⟨vs,H1,I1,r1,q1⟩=>hc pins s1 σ H1 vs us Q I1 r1 q1) he hpl
end
end L2
namespace HT
open PySem PyProof.Rows
section
open PySem.SeqAt
open PySem.AutoSeq1 (wpAny_loadPart')
open PySem.MeetsSeq PySem.MeetsSeq2 PySem.MeetsSeq3
end
section
variable {prog:Program}{w:World}{A:Around}{E:Value->Shared->Prop}{s:Shared}
theorem cat_tup {t b:Addr}{vs ws:List Value}{Q:Value->Shared->Prop}(ht:IsTup s.heap t vs.toArray) (hb:IsTup s.heap b ws.toArray) (hv:vs≠[])
  (h1:ws=[]->Q (.ref t) s) (h2:ws≠[]->Q (.ref s.heap.objs.size) { s with heap:=s.heap.push { cls:=.type "tuple",data:=.seq (vs++ws).toArray } })
  (hsz:vs.length+ws.length<=sizeLine):wpAny (model prog w) A (binaryOp .Add (.ref t) (.ref b)) Q E s:=by
 obtain ⟨⟨cls,dd,data,sl⟩,ho,hc,n,hd⟩:=id ht
 obtain ⟨⟨cls2,dd2,data2,sl2⟩,ho2,hc2,n2,hd2⟩:=id hb
 simp only at hc hd hc2 hd2
 subst hc hd hc2 hd2
 have e:vs.toArray++ws.toArray=(vs++ws).toArray:=by simp
 by_cases hw:ws=[]
 ·exact concat_meets ⟨_,ho,rfl⟩ ⟨_,ho2,rfl⟩ noFill_tuple_add seq_tuple_add PySem.F.slot_tuple_add PySem.F.entry_tuple_add (PySem.F.args_tuple_add_2 _ _)
   (tuple_addW1 t b vs.toArray ws.toArray n n2 dd dd2 sl sl2 (by simpa using hv) (by simp [hw])) ⟨ho,ho2,h1 hw⟩
 ·refine concat_meets ⟨_,ho,rfl⟩ ⟨_,ho2,rfl⟩ noFill_tuple_add seq_tuple_add PySem.F.slot_tuple_add PySem.F.entry_tuple_add (PySem.F.args_tuple_add_2 _ _)
   (tuple_addW2 t b vs.toArray ws.toArray n n2 dd dd2 sl sl2 (by simpa using hv) (by simpa using hw) (by rw [List.size_toArray,List.size_toArray];exact hsz)) ⟨ho,ho2,?_⟩
  rw [e]
  exact h2 hw
noncomputable def sIx (n d:Nat):Option Int->Nat
 | none=>d
 | some v=>if v<0 then (v+(n:Int)).toNat else min v.toNat n
theorem zyq (n d:Nat) (hd:d<=n) (o:Option Int):sIx n d o<=n:=by
 cases o with
 | none=>exact hd
 | some v =>
  show (if v<0 then (v+(n:Int)).toNat else min v.toNat n)<=n
  by_cases hv:v<0
  ·rw [if_pos hv];omega
  ·rw [if_neg hv];exact Nat.min_le_right _ _
theorem zpy (v:Int) (n d:Nat):(if v<0 then max (v+(n:Int)) 0 else min v (n:Int))=((sIx n d (some v):Nat):Int):=by
 show (if v<0 then max (v+(n:Int)) 0 else min v (n:Int))=(((if v<0 then (v+(n:Int)).toNat else min v.toNat n):Nat):Int)
 by_cases hv:v<0
 ·simp only [if_pos hv];omega
 ·simp only [if_neg hv];omega
theorem zyr (lo hi:Option Int) (n:Nat):Builtin.Slice.sliceAdjust lo hi 1 (n:Int)=(((sIx n 0 lo:Nat):Int),((sIx n n hi:Nat):Int)):=by
 have h1:¬((1:Int)<0):=by omega
 unfold Builtin.Slice.sliceAdjust
 simp only [h1,if_false]
 refine Prod.ext ?_ ?_
 ·cases lo with
  | none=>rfl
  | some v=>exact zpy v n 0
 ·cases hi with
  | none=>rfl
  | some v=>exact zpy v n n
theorem zys (i j:Nat):Builtin.Slice.slicePlaces (i:Int) (j:Int) 1=j-i:=by
 unfold Builtin.Slice.slicePlaces
 have h1:(1:Int) > 0:=by omega
 simp only [h1,if_true,Int.ediv_one]
 split <;> omega
theorem zpz {v:Value}{o:Option Int}{Q:Option Int->Shared->Prop}(p:IsPart v o) (h:Q o s):wpAny (model prog w) A (Builtin.Slice.slicePartIndex v) Q E s:=by
 cases p with
 | none=>exact slicePart_none h
 | int i t=>exact slicePart_int h
theorem zp0 {sl:Addr}{vl vu:Value}{lo hi:Option Int}{n:Nat}{Q:Int × Int × Nat->Shared->Prop}(hs:s.heap.IsSliceOf sl vl vu .none) (pl:IsPart vl lo) (pu:IsPart vu hi)
  (h:Q (((sIx n 0 lo:Nat):Int),1,sIx n n hi-sIx n 0 lo) s):wpAny (model prog w) A (Builtin.Slice.sliceApplied (.ref sl) (pure (n:Int))) Q E s:=by
 obtain ⟨os,hos,hcs,hds⟩:=id hs
 unfold Builtin.Slice.sliceApplied Builtin.Slice.sliceFields
 refine qwb (qwb (wpAny_field hos hds (x:=vl) rfl (qwb (wpAny_field hos hds (x:=vu) rfl (qwb (wpAny_field hos hds (x:=.none) rfl (qwp ?_)))))))
 refine qwb (slicePart_none ?_)
 show wpAny _ _ (if ((1:Int) == 0)=true then _ else _) _ _ s
 rw [if_neg (by decide)]
 refine qwb (zpz pl (qwb (zpz pu (qwb (qwp ?_)))))
 show wpAny _ _ (match Builtin.Slice.sliceAdjust lo hi 1 (n:Int) with|(lo,hi)=>pure (lo,(1:Int),Builtin.Slice.slicePlaces lo hi 1)) _ _ s
 rw [zyr lo hi n]
 show wpAny _ _ (pure (((sIx n 0 lo:Nat):Int),(1:Int),Builtin.Slice.slicePlaces ((sIx n 0 lo:Nat):Int) ((sIx n n hi:Nat):Int) 1)) _ _ s
 rw [zys]
 exact qwp h
theorem zyt (xs:Array Value) (i k:Nat):((List.range k).filterMap λ(m:Nat)=>xs[((i:Int)+(m:Int)*1).toNat]?).toArray=((xs.toList.drop i).take k).toArray:=by
 have e:(λ(m:Nat)=>xs[((i:Int)+(m:Int)*1).toNat]?)=λm=>xs[i+m]?:=by
  funext m
  have:((i:Int)+(m:Int)*1).toNat=i+m:=by omega
  rw [this]
 rw [e]
 have:=pick_run xs i k
 rw [List.filterMap_map] at this
 have e2:((λx=>xs[x]?) ∘ λx=>i+x)=λm=>xs[i+m]?:=rfl
 rw [e2] at this
 rw [this]
theorem getItem_tuple_cut {t sl:Addr}{items:Array Value}{vl vu:Value}{lo hi:Option Int}{Q:Value->Shared->Prop}(ht:IsTup s.heap t items) (hs:s.heap.IsSliceOf sl vl vu .none) (pl:IsPart vl lo) (pu:IsPart vu hi)
  (hw:¬(sIx items.size 0 lo=0/\sIx items.size items.size hi=items.size))
  (h:Q (.ref s.heap.objs.size) { s with heap:=s.heap.push { cls:=.type "tuple",data:=.seq ((items.toList.drop (sIx items.size 0 lo)).take (sIx items.size items.size hi-sIx items.size 0 lo)).toArray } })
  (hsz:items.size<=sizeLine):wpAny (model prog w) A (getItem (.ref t) (.ref sl)) Q E s:=by
 have htake:sizeOk (.seq ((items.toList.drop (sIx items.size 0 lo)).take (sIx items.size items.size hi-sIx items.size 0 lo)).toArray):=by
  show ((items.toList.drop (sIx items.size 0 lo)).take (sIx items.size items.size hi-sIx items.size 0 lo)).toArray.size<=sizeLine
  rw [List.size_toArray,List.length_take,List.length_drop,Array.length_toList]
  omega
 have hj:sIx items.size items.size hi<=items.size:=zyq _ _ (qlr _) hi
 obtain ⟨os,hos,hcs,hds⟩:=id hs
 have hTs:s.TypeIs (.ref sl) "slice":=⟨os,hos,hcs⟩
 unfold getItem
 try with_reducible refine wpAny_holding ?_
 first|refine qwb (qwp ?_)|skip
 refine qwb (wpAny_sequenceKey ht.typeIs (by decide) ?_)
 refine qwb (wpAny_callSpecial?_slot (name:=Str.ofString "__getitem__") ht.typeIs PyProof.Rows.slot_tuple_getitem
  (wpAny_call_entry PyProof.Rows.slot_tuple_getitem ht.typeIs entry_tuple_getitem ?_ (args_tuple_getitem _ _)))
 show wpAny _ _ (Builtin.Tuple.tupleItemsOf (.ref t) >>= _) _ _ s
 refine qwb (tupleItemsOf_ ht ?_)
 refine qwb (wpAny_typeOf hTs ?_)
 rw [if_pos (by decide)]
 refine qwb (zp0 hs pl pu ?_)
 have hno:¬((((sIx items.size 0 lo:Nat):Int) == 0 && (1:Int) == 1 && (sIx items.size items.size hi-sIx items.size 0 lo) == items.size)=true):=by
  intro q
  rw [Bool.and_eq_true,Bool.and_eq_true] at q
  have q1:((sIx items.size 0 lo:Nat):Int)=0:=eq_of_beq q.1.1
  have q2:sIx items.size items.size hi-sIx items.size 0 lo=items.size:=eq_of_beq q.2
  exact hw ⟨by omega,by omega⟩
 show wpAny _ _ (if (((sIx items.size 0 lo:Nat):Int) == 0 && (1:Int) == 1 && (sIx items.size items.size hi-sIx items.size 0 lo) == items.size)=true then _ else _) _ _ s
 rw [if_neg hno,zyt]
 first
  | exact qwb (m:=Builtin.Tuple.tupleExact _) (wpAny_newObj_type (qwp ⟨_,rfl,qwp h⟩) htake)
  | exact qwb (m:=Builtin.Tuple.tupleExact _) (wpAny_newObj_type (qwb (qwp (qwp ⟨_,rfl,qwp h⟩))) htake)
  | exact qwb (qwb (m:=Builtin.Tuple.tupleExact _) (wpAny_newObj_type (qwp (qwp ⟨_,rfl,qwp h⟩)) htake))
  | exact qwb (qwb (m:=Builtin.Tuple.tupleExact _) (wpAny_newObj_type (qwp ⟨_,rfl,qwp h⟩) htake))
end
end HT
namespace L2
open PySem PySem.Spec PyProof.Rows
abbrev TO:=St->Hp->(Option Int->Hp->Prop)->Prop
def PO (X:Cx) (e:Option Expr) (t:TO):Prop :=
 ∀(pins:List (Addr × Obj)) (s:Shared) (σ:St) (H:Hp) (Q:Option Int->Hp->Prop),Inv X pins σ H s->t σ H Q ->
  wpAny (model X.prog X.w) X.A (evalPart e X.env) (λu s'=>∃o H',Inv X pins σ H' s'/\IsPart u o/\Q o H') X.xe s
def zyu:TO:=λ_ H Q=>Q none H
def zyv (t:TE):TO:=λσ H Q=>t σ H λx H1=>∃i,x=.int i/\Q (some i) H1
section
variable {X:Cx}{e:Expr}{te:TE}{lo hi:Option Expr}{tl th:TO}{pos p2:Pos}
theorem zyw:PO X none zyu:=by
 intro pins s σ H Q I h
 rw [evalPart_none]
 exact qwp ⟨none,H,I,.none,h⟩
theorem zyx (h:PE X e te):PO X (some e) (zyv te):=by
 intro pins s σ H Q I hw
 rw [evalPart_some]
 refine thn (h pins s σ H _ I hw) λu s1 ⟨x,H1,I1,r1,q1⟩=>?_
 obtain ⟨i,rfl,q⟩:=q1
 obtain ⟨t,rfl⟩:=r1
 exact ⟨some i,H1,I1,.int i t,q⟩
def SlR (X:Cx) (r:V->Option Int->Option Int->Hp->VK->Prop):Prop :=
 ∀(pins:List (Addr × Obj)) (s:Shared) (σ:St) (H:Hp) (x:V) (v vl vu:Value) (lo hi:Option Int) (sl:Addr) (Q:VK),Inv X pins σ H s->RelV x v->s.heap.IsSliceOf sl vl vu .none->IsPart vl lo->IsPart vu hi->r x lo hi H Q ->
  ∃T id,typeLookup (.type T) "__getitem__" = pure (some (.builtin id))/\s.TypeIs v T/\wpAny (model X.prog X.w) X.A (getItem v (.ref sl)) (EP X pins σ Q) X.xe s
theorem SlR.or {r r':V->Option Int->Option Int->Hp->VK->Prop}(h:SlR X r) (h':SlR X r'):SlR X (λx lo hi H Q=>r x lo hi H Q\/r' x lo hi H Q):=by
 intro pins s σ H x v vl vu lo hi sl Q I rx hs pl pu q
 rcases q with q|q
 ·exact h pins s σ H x v vl vu lo hi sl Q I rx hs pl pu q
 ·exact h' pins s σ H x v vl vu lo hi sl Q I rx hs pl pu q
def tSl (r:V->Option Int->Option Int->Hp->VK->Prop) (te:TE) (tl th:TO):TE:=λσ H Q=>te σ H λx H1=>tl σ H1 λl H2=>th σ H2 λu H3=>r x l u H3 Q
theorem zyy {r:V->Option Int->Option Int->Hp->VK->Prop}(hr:SlR X r) (he:PE X e te) (hl:PO X lo tl) (hu:PO X hi th):PE X (.Subscript e (.Slice lo hi none p2) pos) (tSl r te tl th):=by
 intro pins s σ H Q I h
 refine Subscript_ (thn (he pins s σ H _ I h) λv s1 ⟨x,H1,I1,r1,q1⟩=>?_)
 refine wpAny_Slice (thn (hl pins s1 σ H1 _ I1 q1) λvl s2 ⟨l,H2,I2,pl,q2⟩=>thn (hu pins s2 σ H2 _ I2 q2) λvu s3 ⟨u,H3,I3,pu,q3⟩=>?_)
 rw [evalPart_none]
 refine qwp ?_
 have I4:Inv X pins σ H3 { s3 with heap:=s3.heap.push { cls:=.type "slice",data:=.fields #[vl,vu,.none] } }:=I3.kept (t':=s3.toks) λb ob q=>qps _ q
 obtain ⟨T,id,hT,ht,hg⟩:=hr pins { s3 with heap:=s3.heap.push { cls:=.type "slice",data:=.fields #[vl,vu,.none] } } σ H3 x v vl vu l u s3.heap.objs.size Q I4 r1 (Heap.IsSliceOf.new ..) pl pu q3
 show wpAny (model X.prog X.w) X.A (subscriptTail e (.Slice lo hi none p2) v (.ref s3.heap.objs.size)) (EP X pins σ Q) X.xe { s3 with heap:=s3.heap.push { cls:=.type "slice",data:=.fields #[vl,vu,.none] } }
 exact tail_any (ops:=[.ref s3.heap.objs.size,v]) ht hT hg (by with_unfolding_all rfl)
noncomputable def zej (xs:List V) (lo hi:Option Int):List V:=(xs.drop (HT.sIx xs.length 0 lo)).take (HT.sIx xs.length xs.length hi-HT.sIx xs.length 0 lo)
theorem zp6 (xs:List V) (lo hi:Option Int):(zej xs lo hi).length<=xs.length:=by
 unfold zej
 rw [List.length_take,List.length_drop]
 omega
def zyz (K:QFg):V->Option Int->Option Int->Hp->VK->Prop:=λx lo hi H Q=>∃a xs,x=.ref a/\SqT K H a xs /\
 ¬(HT.sIx xs.length 0 lo=0/\HT.sIx xs.length xs.length hi=xs.length)/\∀p,H p=none->Q (.ref p) (upd H p (.tup (zej xs lo hi)))
theorem sl_tup:SlR X (zyz X.K):=by
 intro pins s σ H x v vl vu lo hi sl Q I rx hs pl pu h
 obtain ⟨a,xs,rfl,hx,hw,q⟩:=h
 cases rx
 obtain ⟨its,r,ht,hz⟩:=I.tuple hx
 have hlen:its.toArray.size=xs.length:=by rw [List.size_toArray];exact r.length.symm
 refine ⟨"tuple",_,PyProof.Rows.slot_tuple_getitem.lookup,ht.typeIs,?_⟩
 refine HT.getItem_tuple_cut ht hs pl pu (by rw [hlen];exact hw) ?_ (by rw [hlen];exact hz)
 rw [hlen]
 refine ⟨.ref s.heap.objs.size,_,I.laid (t':=s.toks) (o:=.tup (zej xs lo hi)) (λb ob q=>qps _ q) (qlr _) ?_,rfl,q _ (I.hok.fresh (qlr _))⟩
 exact ⟨Nat.le_trans (zp6 xs lo hi) hz,_,(r.drop (HT.sIx xs.length 0 lo)).take (HT.sIx xs.length xs.length hi-HT.sIx xs.length 0 lo),IsTD.new _ _⟩
def zmf (K:QFg):R2:=λx y H Q=>∃a b xs ys,x=.ref a/\y=.ref b/\SqT K H a xs/\SqT K H b ys/\xs≠[]/\xs.length+ys.length<=sizeLine /\
 (ys=[]->Q (.ref a) H)/\(ys≠[]->∀p,H p=none->Q (.ref p) (upd H p (.tup (xs++ys))))
theorem Vals.nil_iff {xs:List V}{us:List Value}(r:Vals xs us):us=[]↔xs=[]:=by
 cases r with
 | nil=>simp
 | cons _ _=>simp
theorem op_catT:OpR X (binaryOp .Add) (zmf X.K):=by
 intro pins s σ H x y v u Q I rx ry h
 obtain ⟨a,b,xs,ys,rfl,rfl,ha,hb,hx,hz,q1,q2⟩:=h
 cases rx
 cases ry
 obtain ⟨its,r1,p1,_⟩:=I.tuple ha
 obtain ⟨its2,r2,p2,_⟩:=I.tuple hb
 refine HT.cat_tup p1 p2 (λz=>hx (r1.nil_iff.mp z)) (λz=>⟨.ref a,H,I,rfl,q1 (r2.nil_iff.mp z)⟩) (λz=>?_) (by rw [<-r1.length,<-r2.length];exact hz)
 refine ⟨.ref s.heap.objs.size,_,I.laid (t':=s.toks) (o:=.tup (xs++ys)) (λb ob q=>qps _ q) (qlr _) ?_,rfl,q2 (λw=>z (r2.nil_iff.mpr w)) _ (I.hok.fresh (qlr _))⟩
 exact ⟨by rw [qla];exact hz,_,r1.append r2,IsTD.new _ _⟩
end
noncomputable def ixN (n:Nat) (i:Int):Option Nat:=if 0<=i then (if i<n then some i.toNat else none) else if -(n:Int)<=i then some (i+n).toNat else none
noncomputable def atI {α:Type}(xs:List α) (i:Int):Option α:=(ixN xs.length i).bind λj=>xs[j]?
theorem zy0 {n:Nat}{i:Int}{j:Nat}(h:ixN n i=some j):seqIndex? i n=some j/\j<n/\-(n:Int)<=i/\i<n:=by
 unfold ixN at h
 by_cases h0:0<=i
 ·rw [if_pos h0] at h
  by_cases h1:i<n
  ·rw [if_pos h1] at h
   have e:i.toNat=j:=qoi h
   exact ⟨by rw [seqIndex_of h0 h1,e],by omega,by omega,h1⟩
  ·rw [if_neg h1] at h;cases h
 ·rw [if_neg h0] at h
  by_cases h1:-(n:Int)<=i
  ·rw [if_pos h1] at h
   have e:(i+n).toNat=j:=qoi h
   exact ⟨by rw [seqIndex_neg (by omega) h1,e],by omega,h1,by omega⟩
  ·rw [if_neg h1] at h;cases h
theorem atI_get {α:Type}{xs:List α}{i:Int}{v:α}(h:atI xs i=some v):∃j,seqIndex? i xs.length=some j/\xs[j]? = some v/\j<xs.length/\-(xs.length:Int)<=i/\i<xs.length:=by
 unfold atI at h
 cases e:ixN xs.length i with
 | none=>rw [e] at h;cases h
 | some j =>
  rw [e] at h
  obtain ⟨h1,h2,h3,h4⟩:=zy0 e
  exact ⟨j,h1,h,h2,h3,h4⟩
def zmg (b:Expr):Prop:=∀o i,subscripted b false o i=operate [o,i] (getItem o i)
def IxR (X:Cx) (r:R2):Prop :=
 ∀(value slice:Expr) (pins:List (Addr × Obj)) (s:Shared) (σ:St) (H:Hp) (x y:V) (v u:Value) (Q:VK),Inv X pins σ H s->RelV x v->RelV y u->r x y H Q ->
  subscripted slice false v u=operate [v,u] (getItem v u)->wpAny (model X.prog X.w) X.A (subscriptTail value slice v u) (EP X pins σ Q) X.xe s
def MtR (X:Cx) (id:String) (r:V->List V->Hp->VK->Prop):Prop :=
 ∀(pins:List (Addr × Obj)) (s:Shared) (σ:St) (H:Hp) (x:V) (xs:List V) (v:Value) (us:List Value) (Q:VK),Inv X pins σ H s->RelV x v->Vals xs us->r x xs H Q ->
  wpAny (model X.prog X.w) X.A (call (.builtin id) (v :: us)) (EP X pins σ Q) X.xe s
section
variable {X:Cx}{a b:Expr}{ta tb:TE}{pos:Pos}
theorem IxR.or {r r':R2}(h:IxR X r) (h':IxR X r'):IxR X (λx y H Q=>r x y H Q\/r' x y H Q):=by
 intro value slice pins s σ H x y v u Q I rx ry q hs
 rcases q with q|q
 ·exact h value slice pins s σ H x y v u Q I rx ry q hs
 ·exact h' value slice pins s σ H x y v u Q I rx ry q hs
theorem zp7 {r:R2}(hr:IxR X r) (ha:PE X a ta) (hb:PE X b tb) (hs:zmg b):PE X (.Subscript a b pos) (tOp r ta tb):=by
 intro pins s σ H Q I h
 exact Subscript_ (zma ha hb I h λv u s2 x y H2 I2 rx ry q=>hr a b pins s2 σ H2 x y v u Q I2 rx ry q (hs _ _))
def zp8 (K:QFg):R2:=λx y H Q=>∃p xs i v,x=.ref p/\y=.int i/\SqL K H p xs/\atI xs i=some v/\Q v H
def zp9 (K:QFg):R2:=λx y H Q=>∃p xs i v,x=.ref p/\y=.int i/\SqT K H p xs/\atI xs i=some v/\Q v H
def zmh:R2:=λx y H Q=>∃z i c,x=.str z/\y=.int i/\z.length<=sizeLine/\atI z.cps.toList i=some c/\Q (.str ⟨#[c]⟩) H
theorem ix_list:IxR X (zp8 X.K):=by
 intro value slice pins s σ H x y v u Q I rx ry h hs
 obtain ⟨p,xs,i,z,rfl,rfl,hq,he,q⟩:=h
 cases rx
 obtain ⟨t,rfl⟩:=ry
 obtain ⟨its,r,pl,hz⟩:=I.list hq
 obtain ⟨j,h1,h2,h3,h4,h5⟩:=atI_get he
 obtain ⟨w,ew,rw'⟩:=r.get h2
 have hl:=r.length
 have hn:=zh6
 have fin:EP X pins σ Q w s:=⟨z,H,I,rw',q⟩
 by_cases h0:0<=i
 ·have hj:i.toNat=j:=by
   rw [seqIndex_of h0 h5] at h1
   exact qoi h1
  exact item_listR pl.isList h0 (by omega) (by rw [hj];simpa using ew) fin hs
 ·have hj:(i+(its.toArray.size:Int)).toNat=j:=by
   rw [seqIndex_neg (by omega) h4] at h1
   rw [List.size_toArray,<-hl]
   exact qoi h1
  exact subscriptTail_builtinR (x:=w) pl.isList.typeIs slot_list_getitem.lookup
   (wpAny_getItem_list_neg (Q:=λr s'=>r=w/\EP X pins σ Q r s') pl.isList (by omega) (by rw [List.size_toArray] <;> omega) (by omega) (by rw [hj];simpa using ew) ⟨rfl,fin⟩) hs
theorem ix_tup:IxR X (zp9 X.K):=by
 intro value slice pins s σ H x y v u Q I rx ry h hs
 obtain ⟨p,xs,i,z,rfl,rfl,hq,he,q⟩:=h
 cases rx
 obtain ⟨t,rfl⟩:=ry
 obtain ⟨its,r,pl,hz⟩:=I.tuple hq
 obtain ⟨j,h1,h2,h3,h4,h5⟩:=atI_get he
 obtain ⟨w,ew,rw'⟩:=r.get h2
 have hl:=r.length
 have hn:=zh6
 have fin:EP X pins σ Q w s:=⟨z,H,I,rw',q⟩
 exact subscriptTail_builtinR (x:=w) pl.typeIs slot_tuple_getitem.lookup
  (getItem_tuple (j:=j) (Q:=λr s'=>r=w/\EP X pins σ Q r s') pl (by omega) (by omega) (by rw [List.size_toArray,<-hl];exact h1) (by simpa using ew) ⟨rfl,fin⟩) hs
theorem zy1:IxR X zmh:=by
 intro value slice pins s σ H x y v u Q I rx ry h hs
 obtain ⟨z,i,c,rfl,rfl,hz,he,q⟩:=h
 obtain ⟨t,rfl⟩:=rx
 obtain ⟨t',rfl⟩:=ry
 obtain ⟨j,h1,h2,h3,h4,h5⟩:=atI_get he
 have hl:z.cps.toList.length=z.length:=by simp [Str.length]
 rw [hl] at h1 h4 h5
 have hn:=zh6
 exact tail_any (typeIs_str s z t) slot_str_getitem.lookup (getItem_str (c:=c) (by
  have e1:decide (i < -(2 ^ 63:Int))=false:=decide_eq_false (by omega)
  have e2:decide (i ≥ 2 ^ 63)=false:=decide_eq_false (by omega)
  rw [e1,e2,Bool.or_false]) (by rw [h1];simpa using h2) ⟨.str ⟨#[c]⟩,H,I.tok _,⟨_,rfl⟩,q⟩) hs
def rIx (K:QFg):R2:=λx y H Q=>zp8 K x y H Q\/zp9 K x y H Q\/zmh x y H Q
theorem zqa:IxR X (rIx X.K):=ix_list.or (ix_tup.or zy1)
theorem zy2 (lo hi:Option Int) (n:Nat):(sliceBounds lo hi none n).1=((HT.sIx n 0 lo:Nat):Int)/\(sliceBounds lo hi none n).2.1=((HT.sIx n n hi:Nat):Int)/\(sliceBounds lo hi none n).2.2=1:=by
 refine ⟨?_,?_,rfl⟩
 ·cases lo with
  | none=>simp [sliceBounds,HT.sIx]
  | some i =>
   simp only [sliceBounds,HT.sIx,Option.getD_none,show (1:Int) > 0 by decide,if_true]
   by_cases h:i<0
   ·simp only [h,if_true] <;> omega
   ·simp only [h,if_false] <;> omega
 ·cases hi with
  | none=>simp [sliceBounds,HT.sIx]
  | some i =>
   simp only [sliceBounds,HT.sIx,Option.getD_none,show (1:Int) > 0 by decide,if_true]
   by_cases h:i<0
   ·simp only [h,if_true] <;> omega
   ·simp only [h,if_false] <;> omega
theorem zy3 (its:List Value) (lo hi:Option Int):slicePick its.toArray lo hi none=((its.drop (HT.sIx its.length 0 lo)).take (HT.sIx its.length its.length hi-HT.sIx its.length 0 lo)).toArray:=by
 obtain ⟨h1,h2,h3⟩:=zy2 lo hi its.toArray.size
 unfold slicePick
 rw [h1,h2,h3]
 simp only [sliceRange_one,pick_run,List.size_toArray] <;> rfl
def zy4 (K:QFg):V->Option Int->Option Int->Hp->VK->Prop:=λx lo hi H Q=>∃a xs,x=.ref a/\SqL K H a xs/\∀p,H p=none->Q (.ref p) (upd H p (.lst (zej xs lo hi)))
theorem zy5:SlR X (zy4 X.K):=by
 intro pins s σ H x v vl vu lo hi sl Q I rx hs pl pu h
 obtain ⟨a,xs,rfl,hx,q⟩:=h
 cases rx
 obtain ⟨its,r,ht,hz⟩:=I.list hx
 have hlen:=r.length
 refine ⟨"list",_,slot_list_getitem.lookup,ht.isList.typeIs,?_⟩
 refine wpAny_getItem_list_slice ht.isList hs pl pu .none (by simp) ?_ (by rw [List.size_toArray] <;> omega)
 rw [zy3,<-hlen]
 refine ⟨.ref s.heap.objs.size,_,I.laid (t':=s.toks) (o:=.lst (zej xs lo hi)) (λb ob q=>qps _ q) (qlr _) ?_,rfl,q _ (I.hok.fresh (qlr _))⟩
 exact ⟨Nat.le_trans (zp6 xs lo hi) hz,_,0,(r.drop (HT.sIx xs.length 0 lo)).take (HT.sIx xs.length xs.length hi-HT.sIx xs.length 0 lo),Heap.get?_push_size _ rfl⟩
noncomputable def zek:V->Bool
 | .non=>true
 | .bl _=>true
 | .int _=>true
 | .str _=>true
 | _=>false
noncomputable def eqV:V->V->Bool
 | .non,.non=>true
 | .bl a,.bl b=>a == b
 | .bl a,.int b=>(if a then 1 else 0) == b
 | .int a,.bl b=>a == (if b then 1 else 0)
 | .int a,.int b=>a == b
 | .str a,.str b=>a == b
 | _,_=>false
theorem zy6 {A:Around}{s:Shared}{y x:V}{u v:Value}(ry:RelV y u) (rx:RelV x v) (fy:zek y=true) (fx:zek x=true):SeqAt.EqAt A s u v (eqV y x):=by
 cases y with
 | non =>
  cases ry
  cases x with
  | non=>cases rx;exact SeqAt.EqAt.same _
  | bl b=>cases rx;exact SeqAt.EqAt.none_bool b
  | int b=>obtain ⟨t,rfl⟩:=rx;exact SeqAt.EqAt.none_int b t
  | str b=>obtain ⟨t,rfl⟩:=rx;exact SeqAt.EqAt.none_str b t
  | _=>exact absurd (show false=true from fx) Bool.false_ne_true
 | bl a =>
  cases ry
  cases x with
  | non=>cases rx;exact SeqAt.EqAt.bool_none a
  | bl b=>cases rx;exact SeqAt.EqAt.bool_bool a b
  | int b=>obtain ⟨t,rfl⟩:=rx;exact SeqAt.EqAt.bool_int a b t
  | str b=>obtain ⟨t,rfl⟩:=rx;exact SeqAt.EqAt.bool_str a b t
  | _=>exact absurd (show false=true from fx) Bool.false_ne_true
 | int a =>
  obtain ⟨t',rfl⟩:=ry
  cases x with
  | non=>cases rx;exact SeqAt.EqAt.int_none a t'
  | bl b=>cases rx;exact SeqAt.EqAt.int_bool a t' b
  | int b=>obtain ⟨t,rfl⟩:=rx;exact SeqAt.EqAt.int_int a t' b t
  | str b=>obtain ⟨t,rfl⟩:=rx;exact SeqAt.EqAt.int_str a t' b t
  | _=>exact absurd (show false=true from fx) Bool.false_ne_true
 | str a =>
  obtain ⟨t',rfl⟩:=ry
  cases x with
  | non=>cases rx;exact SeqAt.EqAt.str_none a t'
  | bl b=>cases rx;exact SeqAt.EqAt.str_bool a t' b
  | int b=>obtain ⟨t,rfl⟩:=rx;exact SeqAt.EqAt.str_int a t' b t
  | str b=>obtain ⟨t,rfl⟩:=rx;exact SeqAt.EqAt.str_str a t' b t
  | _=>exact absurd (show false=true from fx) Bool.false_ne_true
 | _=>exact absurd (show false=true from fy) Bool.false_ne_true
noncomputable def eqU (x:V) (u:Value):Bool:=match u with
 | .none=>eqV .non x
 | .bool b=>eqV (.bl b) x
 | .int i _=>eqV (.int i) x
 | .str z _=>eqV (.str z) x
 | _=>false
theorem zqb {x y:V}{u:Value}(r:RelV y u) (f:zek y=true):eqU x u=eqV y x:=by
 cases y with
 | non=>cases r;rfl
 | bl b=>cases r;rfl
 | int i=>obtain ⟨t,rfl⟩:=r;rfl
 | str z=>obtain ⟨t,rfl⟩:=r;rfl
 | _=>exact absurd (show false=true from f) Bool.false_ne_true
theorem zmi {x:V}:∀{xs:List V}{us:List Value},Vals xs us->xs.all zek=true->us.any (eqU x)=xs.any λy=>eqV y x
 | _,_,.nil,_=>rfl
 | y :: xs,u :: us,.cons r t,f=>by
  rw [List.all_cons,Bool.and_eq_true] at f
  rw [List.any_cons,List.any_cons,zqb r f.1,zmi t f.2]
theorem zmj {A:Around}{s:Shared}{x:V}{v:Value}(rx:RelV x v) (fx:zek x=true):∀{xs:List V}{us:List Value},Vals xs us->xs.all zek=true->∀u∈us,SeqAt.EqAt A s u v (eqU x u)
 | _,_,.nil,_=>λu hu=>by cases hu
 | y :: xs,u :: us,.cons r t,f=>λu' hu=>by
  rw [List.all_cons,Bool.and_eq_true] at f
  rcases List.mem_cons.mp hu with rfl|hu
  ·rw [zqb r f.1];exact zy6 r rx f.1 fx
  ·exact zmj rx fx t f.2 u' hu
noncomputable def inV (x:V) (xs:List V):Bool:=xs.any λy=>eqV y x
def rIn (K:QFg) (neg:Bool):R2:=λx y H Q=>∃p xs,y=.ref p/\(SqL K H p xs\/SqT K H p xs)/\zek x=true/\xs.all zek=true/\Q (.bl (if neg then !inV x xs else inV x xs)) H
theorem zy7:OpR X (compareOp .In) (rIn X.K false):=by
 intro pins s σ H x y v u Q I rx ry h
 obtain ⟨p,xs,rfl,hq,fx,fs,q⟩:=h
 cases ry
 rcases hq with hq|hq
 ·obtain ⟨its,r,pl,hz⟩:=I.list hq
  refine SeqAt.in_listAt (eqU x) pl.isList (λw hw=>zmj rx fx r fs w (by simpa using hw)) ⟨.bl _,H,I,rfl,?_⟩
  rw [show its.toArray.any (eqU x)=its.any (eqU x) by simp,zmi r fs]
  exact q
 ·obtain ⟨its,r,pl,hz⟩:=I.tuple hq
  refine SeqAt.in_tupleAt (eqU x) pl (λw hw=>zmj rx fx r fs w (by simpa using hw)) ⟨.bl _,H,I,rfl,?_⟩
  rw [show its.toArray.any (eqU x)=its.any (eqU x) by simp,zmi r fs]
  exact q
theorem call_len_seq:CallR X (.builtin "len") (λxs H Q=>∃p ys,xs=[.ref p]/\(SqL X.K H p ys\/SqT X.K H p ys)/\Q (.int ys.length) H):=by
 intro pins s σ H xs us Q I r h
 obtain ⟨p,ys,rfl,hq,q⟩:=h
 obtain ⟨u,rfl,rx⟩:=zcs r
 cases rx
 have hn:=zh6
 rcases hq with hq|hq
 ·obtain ⟨its,r',pl,hz⟩:=I.list hq
  have hlen:=r'.length
  exact Calls.call_len_list pl.isList (by simp only [List.size_toArray] <;> omega) ⟨.int ys.length,H,I.tok _,⟨s.toks+1,by rw [List.size_toArray,hlen]⟩,q⟩
 ·obtain ⟨its,r',pl,hz⟩:=I.tuple hq
  have hlen:=r'.length
  exact len_tuple pl (by simp only [List.size_toArray] <;> omega) ⟨.int ys.length,H,I.tok _,⟨s.toks+1,by rw [List.size_toArray,hlen]⟩,q⟩
theorem zy8:CallR X (.builtin "len") (λxs H Q=>∃z,xs=[.str z]/\z.length<=sizeLine/\Q (.int z.length) H):=by
 intro pins s σ H xs us Q I r h
 obtain ⟨z,rfl,hz,q⟩:=h
 obtain ⟨u,rfl,t,rfl⟩:=zcs r
 have hn:=zh6
 exact len_str (by omega) ⟨.int z.length,H,I.tok _,⟨_,rfl⟩,q⟩
theorem CallR.or {f:Value}{r r':List V->Hp->VK->Prop}(h:CallR X f r) (h':CallR X f r'):CallR X f (λxs H Q=>r xs H Q\/r' xs H Q):=by
 intro pins s σ H xs us Q I rs q
 rcases q with q|q
 ·exact h pins s σ H xs us Q I rs q
 ·exact h' pins s σ H xs us Q I rs q
theorem zy9:CallR X (.type "list") (λxs H Q=>∃p ys,xs=[.ref p]/\(SqL X.K H p ys\/SqT X.K H p ys)/\∀l,H l=none->Q (.ref l) (upd H l (.lst ys))):=by
 intro pins s σ H xs us Q I r h
 obtain ⟨p,ys,rfl,hq,q⟩:=h
 obtain ⟨u,rfl,rx⟩:=zcs r
 cases rx
 have fin:∀(its:List Value),Vals ys its->ys.length<=sizeLine->∀(h':Heap) (c':Nat),(∀b o',s.heap.get? b=some o'->h'.get? b=some o') ->
   h'.get? s.heap.objs.size=some { cls:=.type "list",dict:=none,data:=.seq its.toArray c',slots:=#[] }->EP X pins σ Q (.ref s.heap.objs.size) { s with heap:=h' }:=λits r' hz h' c' kp e =>
  ⟨.ref s.heap.objs.size,_,I.laid (t':=s.toks) kp (qlr _) (show ObjOk X.prog X.w _ h' _ (.lst ys) from ⟨hz,its,c',r',e⟩),rfl,q _ (I.hok.fresh (qlr _))⟩
 rcases hq with hq|hq
 ·obtain ⟨its,r',pl,hz⟩:=I.list hq
  have hlen:=r'.length
  obtain ⟨o,ho,hc,n,hd⟩:=pl.isList
  exact call_list_seq p (.inl rfl) ho hc hd (λh' c' kp e=>fin its r' hz h' c' kp e) (by simp only [List.size_toArray] <;> omega)
 ·obtain ⟨its,r',pl,hz⟩:=I.tuple hq
  have hlen:=r'.length
  obtain ⟨o,ho,hc,n,hd⟩:=pl
  exact call_list_seq p (.inr rfl) ho hc hd (λh' c' kp e=>fin its r' hz h' c' kp e) (by simp only [List.size_toArray] <;> omega)
theorem zza:CallR X (.type "tuple") (λxs H Q=>∃p ys,xs=[.ref p]/\((SqL X.K H p ys/\∀l,H l=none->Q (.ref l) (upd H l (.tup ys)))\/(SqT X.K H p ys/\Q (.ref p) H))):=by
 intro pins s σ H xs us Q I r h
 obtain ⟨p,ys,rfl,h⟩:=h
 obtain ⟨u,rfl,rx⟩:=zcs r
 cases rx
 rcases h with ⟨hq,q⟩|⟨hq,q⟩
 ·obtain ⟨its,r',pl,hz⟩:=I.list hq
  have hlen:=r'.length
  refine call_tuple_list pl.isList (λh' kp=>?_) (by simp only [List.size_toArray] <;> omega)
  have I1:Inv X pins σ H { s with heap:=h' }:=I.kept (t':=s.toks) kp
  have I2:Inv X pins σ (upd H h'.objs.size (.tup ys)) { s with heap:=h'.push { cls:=.type "tuple",data:=.seq its.toArray } } :=
   I1.laid (t':=s.toks) (λb o e=>qps _ e) (qlr _) (show ObjOk X.prog X.w _ _ _ (.tup ys) from ⟨hz,its,r',IsTD.new _ _⟩)
  exact ⟨.ref h'.objs.size,_,I2,rfl,q _ (I1.hok.fresh (qlr _))⟩
 ·obtain ⟨its,r',pl,hz⟩:=I.tuple hq
  exact call_tuple_same pl ⟨.ref p,H,I,rfl,q⟩
def tyV (K:QFg) (T:String) (x:V) (H:Hp):Prop:=match x with
 | .str _=>T = "str"
 | .int _=>T = "int"
 | .ref p=>(T = "list"/\∃xs,SqL K H p xs)\/(T = "tuple"/\∃o,K.lookup p=some o/\o.cls=.type "tuple"/\o.dict=none) \/
   (T = "dict"/\((∃kvs,H p=some (.dK kvs))\/∃kvs,H p=some (.dT kvs)))\/(T = "set"/\∃S n,H p=some (.set S n))
 | _=>False
theorem zqc {pins:List (Addr × Obj)}{σ:St}{H:Hp}{s:Shared}{T:String}{x:V}{v:Value}(I:Inv X pins σ H s) (r:RelV x v) (ty:tyV X.K T x H) :
  s.TypeIs v T/\∀a,v=.ref a->∃ob,s.heap.get? a=some ob/\ob.dict=none:=by
 cases x with
 | str z =>
  obtain ⟨t,rfl⟩:=r
  cases (show T = "str" from ty)
  exact ⟨typeIs_str s z t,λ_ e=>nomatch e⟩
 | int i =>
  obtain ⟨t,rfl⟩:=r
  cases (show T = "int" from ty)
  exact ⟨typeIs_int s i t,λ_ e=>nomatch e⟩
 | ref p =>
  cases r
  rcases ty with ⟨rfl,xs,hq⟩|⟨rfl,o,hk,hc,hd⟩|⟨rfl,hk⟩|⟨rfl,S,n,hk⟩
  ·obtain ⟨its,_,pl,_⟩:=I.list hq
   refine ⟨pl.isList.typeIs,λa e=>?_⟩
   cases e
   obtain ⟨o,n,e,c,hd,_⟩:=pl
   exact ⟨o,e,hd⟩
  ·refine ⟨⟨o,I.kIn p o hk,hc⟩,λa e=>?_⟩
   cases e
   exact ⟨o,I.kIn _ o hk,hd⟩
  ·have z:∃o,s.heap.get? p=some o/\o.ExactDict:=by
    rcases hk with ⟨kvs,hk⟩|⟨kvs,hk⟩
    ·obtain ⟨_,_,_,_,o,_,_,e,ex,_⟩:=I.hok p _ hk
     exact ⟨o,e,ex⟩
    ·obtain ⟨_,_,_,_,o,_,_,e,ex,_⟩:=I.hok p _ hk
     exact ⟨o,e,ex⟩
   obtain ⟨o,e,ex⟩:=z
   refine ⟨⟨o,e,ex.1⟩,λa e2=>?_⟩
   cases e2
   exact ⟨o,e,ex.2.1⟩
  ·obtain ⟨o,_,_,_,e,ex,_⟩:=I.hok p _ hk
   refine ⟨⟨o,e,ex.1⟩,λa e2=>?_⟩
   cases e2
   exact ⟨o,e,ex.2.1⟩
 | _=>exact False.elim ty
def zzb (K:QFg) (T:String) (r:V->List V->Hp->VK->Prop) (to:TE):TE:=λσ H Q=>to σ H λx H1=>tyV K T x H1/\r x [] H1 Q
def tBM (K:QFg) (T:String) (r:V->List V->Hp->VK->Prop) (to:TE) (t:TA):TE:=λσ H Q=>to σ H λx H1=>tyV K T x H1/\t σ H1 λxs H2=>r x xs H2 Q
variable {o e:Expr}{es:List Expr}{to:TE}{t:TA}{name:Str}{apos cpos:Pos}{T id:String}{r:V->List V->Hp->VK->Prop}
theorem zqd (pa:PlainAttrs T) (slot:Slot T name id) (hty:typeOf (.builtin id)=pure (.type "method_descriptor")) (hm:MtR X id r) (ho:PE X o to)
  (hbase:attributeBase o name X.env (eval o X.env)=eval o X.env:=by rfl) (hline:(apos.endLine == cpos.line)=true:=by rfl):PE X (.Call (.Attribute o name apos) [] [] cpos) (zzb X.K T r to):=by
 intro pins s σ H Q I h
 refine wpAny_Call_method0_late hbase hline (thn (ho pins s σ H _ I h) λv s1 ⟨x,H1,I1,r1,ty,q1⟩=>?_)
 obtain ⟨h1,h2⟩:=zqc I1 r1 ty
 exact ⟨T,id,pa,slot,hty,h1,h2,Calls.callWith_builtin rfl (PySem.evalArgs_none (hm pins s1 σ H1 x [] v [] Q I1 r1 .nil q1))⟩
theorem zzc (pa:PlainAttrs T) (slot:Slot T name id) (hty:typeOf (.builtin id)=pure (.type "method_descriptor")) (hm:MtR X id r) (ho:PE X o to) (ha:PA X (e :: es) t)
  (hbase:attributeBase o name X.env (eval o X.env)=eval o X.env:=by rfl)
  (hfew:((backTo cpos (starEach (e :: es) X.env)).all (λx=>!x.1) && (backToKw cpos (keywordEach [] X.env)).all (λx=>x.1.isSome)
   && decide ((e :: es).length+([]:List Keyword).length+(if ([]:List Keyword).isEmpty then 0 else 1)<30))=true:=by rfl)
  (hline:(apos.endLine == cpos.line)=true:=by rfl) (hs:starEach (e :: es) X.env=(false,eval e X.env) :: starEach es X.env:=by rfl) (hplain:(backTo cpos (starEach es X.env)).any (·.1)=false:=by rfl) :
  PE X (.Call (.Attribute o name apos) (e :: es) [] cpos) (tBM X.K T r to t):=by
 intro pins s σ H Q I h
 refine wpAny_Call_method_late hbase hfew hline rfl (thn (ho pins s σ H _ I h) λv s1 ⟨x,H1,I1,r1,ty,q1⟩=>?_)
 obtain ⟨h1,h2⟩:=zqc I1 r1 ty
 refine ⟨T,id,pa,slot,hty,h1,h2,?_⟩
 have hA:=ha cpos pins s1 σ H1 _ I1 q1
 rw [hs] at hA ⊢
 refine Calls.callWith_builtin (by show (false || (backTo cpos (starEach es X.env)).any (·.1))=false;rw [hplain] <;> rfl) (Calls.evalArgs_plain ?_)
 exact thn hA λus s2 ⟨vs,H2,I2,r2,q2⟩=>hm pins s2 σ H2 x vs v us Q I2 r1 r2 q2
end
def MtM (X:Cx) (id:String) (r:V->List V->Hp->VK->Prop):Prop :=
 ∀(pins:List (Addr × Obj)) (s:Shared) (σ:St) (H:Hp) (x:V) (xs:List V) (v:Value) (us:List Value) (Q:VK),Inv X pins σ H s->RelV x v->Vals xs us->r x xs H Q ->
  wpAny (model X.prog X.w) X.A (call (.builtin id) (v :: us)) (EP X pins σ Q) X.xe s
theorem Vals.one:∀{x:V}{us:List Value},Vals [x] us->∃u,us=[u]/\RelV x u
 | _,_,.cons r .nil=>⟨_,rfl,r⟩
theorem Vals.two {x y:V}{us:List Value}(h:Vals [x,y] us):∃u v,us=[u,v]/\RelV x u/\RelV y v:=by
 cases h with
 | cons r t =>
  cases t with
  | cons q t2=>cases t2;exact ⟨_,_,rfl,r,q⟩
theorem Vals.zero:∀{us:List Value},Vals [] us->us=[]
 | _,.nil=>rfl
theorem Vals.eraseIdx:∀{xs:List V}{us:List Value}(i:Nat),Vals xs us->Vals (xs.eraseIdx i) (us.eraseIdx i)
 | _,_,_,.nil=>.nil
 | _,_,0,.cons _ t=>t
 | _,_,i+1,.cons r t=>.cons r (Vals.eraseIdx i t)
theorem Vals.reverse {xs:List V}{us:List Value}(h:Vals xs us):Vals xs.reverse us.reverse:=by
 induction h with
 | nil=>exact .nil
 | cons r t ih=>rw [List.reverse_cons,List.reverse_cons];exact Vals.append ih (.cons r .nil)
theorem Vals.rep {xs:List V}{us:List Value}(h:Vals xs us):∀k:Nat,Vals (List.replicate k xs).flatten (List.replicate k us).flatten
 | 0=>.nil
 | k+1=>by
  rw [List.replicate_succ,List.replicate_succ,List.flatten_cons,List.flatten_cons]
  exact Vals.append h (Vals.rep h k)
theorem zqe {α:Type}:∀(l:List α) (i:Nat),(l.eraseIdx i).length<=l.length
 | [],_=>qlr _
 | _ :: _,0=>Nat.le_succ _
 | _ :: r,i+1=>Nat.succ_le_succ (zqe r i)
theorem zqf (its:List Value):∀(k:Nat) (acc:List Value),
  List.foldl (λx1 x2=>x1++x2) acc.toArray (List.replicate k its.toArray)=(acc++(List.replicate k its).flatten).toArray
 | 0,acc=>by simp
 | k+1,acc=>by
  have e:acc.toArray++its.toArray=(acc++its).toArray:=by simp
  have e2:(acc++its)++(List.replicate k its).flatten=acc++(List.replicate (k+1) its).flatten:=by
   rw [List.replicate_succ,List.flatten_cons,List.append_assoc]
  rw [<-e2,<-zqf its k (acc++its),<-e,List.replicate_succ,List.foldl_cons]
section
variable {X:Cx}{pins:List (Addr × Obj)}{σ:St}{H:Hp}{s:Shared}{l b:Addr}{xs ys zs:List V}
theorem Inv.lset {its its':List Value}{n:Nat}{f:Array Value->Array Value}{t':Nat}(I:Inv X pins σ H s) (hH:H l=some (.lst xs))
  (e:s.heap.get? l=some { cls:=.type "list",data:=.seq its.toArray n }) (hf:f its.toArray=its'.toArray) (hv:Vals ys its') (hz:ys.length<=sizeLine) :
  Inv X pins σ (upd H l (.lst ys)) { s with heap:=s.heap.update l (Obj.mapSeq f),toks:=t' }:=by
 have q:=PySem.IsL.update e f
 rw [hf] at q
 refine I.write (x:=l) (e:=l) (by rw [hH];exact trivial) (.inl rfl) (λb' u hb hu=>(Heap.get?_update_other s.heap (Obj.mapSeq f) (Ne.symm hb)).trans hu) ⟨_,q⟩ ?_
 exact ⟨hz,its',_,hv,q⟩
theorem Inv.lnew {its:List Value}{t':Nat}(I:Inv X pins σ H s) (hv:Vals ys its) (hz:ys.length<=sizeLine) :
  Inv X pins σ (upd H s.heap.objs.size (.lst ys)) { s with heap:=s.heap.push { cls:=.type "list",data:=.seq its.toArray },toks:=t' } :=
 I.laid (λ_ _ q=>qps _ q) (qlr _) ⟨hz,its,0,hv,Heap.get?_push_size _ rfl⟩
theorem Inv.fresh (I:Inv X pins σ H s):H s.heap.objs.size=none:=I.hok.fresh (qlr _)
theorem Inv.lstM (I:Inv X pins σ H s) (hH:H l=some (.lst xs)):xs.length<=sizeLine/\∃(its:List Value) (n:Nat),Vals xs its/\xs.length=its.length/\s.heap.get? l=some { cls:=.type "list",data:=.seq its.toArray n }:=by
 obtain ⟨z,its,n,r,e⟩:=I.hok l _ hH
 exact ⟨z,its,n,r,r.length,e⟩
end
section
variable {X:Cx}
def zqg:V->List V->Hp->VK->Prop:=λx vs H Q=>∃l xs y,x=.ref l/\vs=[y]/\H l=some (.lst xs)/\xs.length<sizeLine/\Q .non (upd H l (.lst (xs++[y])))
theorem zqh:MtM X "list.append" zqg:=by
 intro pins s σ H x vs v us Q I rx rv h
 obtain ⟨l,xs,y,rfl,rfl,hH,hz,q⟩:=h
 cases rx
 obtain ⟨u,rfl,ru⟩:=rv.one
 obtain ⟨z,its,n,r,hl,e⟩:=I.lstM hH
 refine call_meets F.slot_list_append ⟨_,e,rfl⟩ F.entry_list_append (F.args_list_append_2 _ _) (PySem.list_append l its.toArray n u (by rw [List.size_toArray];omega)) ⟨e,?_⟩
 refine ⟨.non,_,I.lset (its':=its++[u]) hH e (by simp) (r.append (.cons ru .nil)) ?_,rfl,q⟩
 rw [qla,List.length_singleton]
 omega
def zqi:V->List V->Hp->VK->Prop:=λx vs H Q=>∃l xs i k y,x=.ref l/\vs=[.int i]/\H l=some (.lst xs)/\-(2 ^ 63)<=i/\i<2 ^ 63/\seqIndex? i xs.length=some k/\xs[k]? = some y/\Q y (upd H l (.lst (xs.eraseIdx k)))
theorem zzd:MtM X "list.pop" zqi:=by
 intro pins s σ H x vs v us Q I rx rv h
 obtain ⟨l,xs,i,k,y,rfl,rfl,hH,h1,h2,hk,hy,q⟩:=h
 cases rx
 obtain ⟨u,rfl,ru⟩:=rv.one
 obtain ⟨t,rfl⟩:=ru
 obtain ⟨z,its,n,r,hl,e⟩:=I.lstM hH
 obtain ⟨w,hw,rw'⟩:=r.get hy
 refine call_meets F.slot_list_pop ⟨_,e,rfl⟩ F.entry_list_pop (F.args_list_pop_2 _ _)
  (MeetsSeq.list_pop_at l its.toArray n i t k w (fitsIndex_both h1 h2) (by rw [List.size_toArray,<-hl];exact hk) (by rw [<-Array.getElem?_toList];exact hw) (by rw [List.size_toArray];omega)) ⟨e,?_⟩
 refine ⟨y,_,I.lset (its':=its.eraseIdx k) hH e ?_ (r.eraseIdx k) ?_,rw',q⟩
 ·show its.toArray.eraseIdxIfInBounds k=(its.eraseIdx k).toArray
  rw [List.eraseIdxIfInBounds_toArray]
 ·have:=zqe xs k
  omega
def zqj:V->List V->Hp->VK->Prop:=λx vs H Q=>∃l xs,x=.ref l/\vs=[]/\H l=some (.lst xs)/\Q .non (upd H l (.lst xs.reverse))
theorem zze:MtM X "list.reverse" zqj:=by
 intro pins s σ H x vs v us Q I rx rv h
 obtain ⟨l,xs,rfl,rfl,hH,q⟩:=h
 cases rx
 have hus:=rv.zero
 subst hus
 obtain ⟨z,its,n,r,hl,e⟩:=I.lstM hH
 refine call_meets F.slot_list_reverse ⟨_,e,rfl⟩ F.entry_list_reverse (F.args_list_reverse_1 _) (AutoSeq1.list_reverse_list_0 l its.toArray n (by rw [List.size_toArray];omega)) ⟨e,?_⟩
 refine ⟨.non,_,I.lset (its':=its.reverse) hH e (by simp) r.reverse ?_,rfl,q⟩
 rw [List.length_reverse]
 omega
def zqk:R2:=λx y H Q=>∃l b xs zs,x=.ref l/\y=.ref b/\H l=some (.lst xs)/\H b=some (.lst zs)/\xs.length+zs.length<=sizeLine/\∀p,H p=none->Q (.ref p) (upd H p (.lst (xs++zs)))
theorem zzf:OpR X (binaryOp .Add) zqk:=by
 intro pins s σ H x y v u Q I rx ry h
 obtain ⟨l,b,xs,zs,rfl,rfl,hH,hB,hz,q⟩:=h
 cases rx
 cases ry
 obtain ⟨z,its,n,r,hl,e⟩:=I.lstM hH
 obtain ⟨z2,its2,n2,r2,hl2,e2⟩:=I.lstM hB
 refine PySem.P.add_list e e2 ?_ (by rw [List.size_toArray,List.size_toArray];omega)
 have ea:its.toArray++its2.toArray=(its++its2).toArray:=by simp
 rw [ea]
 exact ⟨.ref _,_,I.lnew (t':=s.toks) (r.append r2) (by rw [qla];omega),rfl,q _ I.fresh⟩
theorem zql {α:Type}(xs:List α) (k:Nat):(List.replicate k xs).flatten.length=k*xs.length:=by
 induction k with
 | zero=>simp
 | succ k ih=>rw [List.replicate_succ,List.flatten_cons,qla,ih,Nat.succ_mul,Nat.add_comm]
end
section
variable {prog:Program}{w:World}{A:Around}{E:Value->Shared->Prop}{s:Shared}
end
section
variable {X:Cx}
end
end L2
namespace Att
open PySem PySem.W PySem.Calls PyProof.Rows
theorem zzg {P:Params}{h:Heap}:∀(ns:List Int) (vs:List Value),WellAll P h vs (ns.map WData.int)->IntsAre vs ns:=by
 intro ns
 induction ns with
 | nil =>
  intro vs w
  rw [List.map_nil] at w
  cases w
  exact .nil
 | cons n ns ih =>
  intro vs w
  rw [List.map_cons] at w
  cases w with
  | cons a b =>
   cases a
   exact .cons _ _ (ih _ b)
theorem zzh {l:OpenLaw}{n:Nat}(hn:l.most=some n) {P:Params}{h:Heap}{args:List WData}{vals:List Value}
  (hpre:l.row.toRowW.claim.pre args=true) (hwl:WellAll P h vals args) :
  ∃a vs ns,vals=[Value.ref a]/\args=[WData.list (ns.map WData.int)]/\h.get? a=some { cls:=.type "list",data:=.seq vs.toArray }/\IntsAre vs ns/\ns.length<=n:=by
 have hsh:WShape.hasAll [] args [.list .int]=true:=(pre_splitW hpre).1
 have hc:l.pre.holds [] { args:=args }=true:=(pre_splitW hpre).2
 obtain ⟨d,r,rfl,h1,h2⟩:=hasAllW_cons hsh
 obtain rfl:=hasAllW_nil h2
 obtain ⟨xs,rfl,h3⟩:=hasW_list h1
 obtain ⟨ns,rfl⟩:=items_int h3
 have hlen:ns.length<=n:=by
  unfold OpenLaw.pre at hc
  have h4:(WTm.not (.lt (.lit (.int (n:Int))) (.len (.arg 0)))).holds [] { args:=[.list (ns.map .int)] }=true:=by
   have h4:=(holds_andW hc).1
   rw [hn] at h4
   exact h4
  have h5:=condW_of h4 (w_not (w_lt w_lit (w_len_list (w_arg rfl))))
  rw [qlm] at h5
  refine Nat.le_of_not_lt λq=>?_
  have q':(n:Int)<((ns.length:Nat):Int):=by omega
  first
   | (rw [decide_eq_true q'] at h5;exact absurd h5 (by decide))
   | (simp at h5;omega)
 cases hwl with
 | cons w1 w2 =>
  cases w2
  cases w1 with
  | list ho hall=>exact ⟨_,_,ns,rfl,rfl,ho,zzg ns _ hall,hlen⟩
theorem zzi (l:OpenLaw) (args:List WData):l.row.toRowW.claim.post args (.bool true) args=true :=
 postW_of (r:=l.row.toRowW) (X:=(true == true))
  (show WShape.has [] (.bool true) .bool=true by first|rfl|decide|simp [WShape.has,WShape.arms,WShape.armsAll])
  (show (WTm.eq .res (.lit (.bool true))).value [] { args:=args,res:=some (.bool true),after:=args }=some (.bool (true == true)) from w_eq_bool (w_res rfl) w_lit) rfl
theorem attach_call {l:OpenLaw}{n:Nat}{q:Program}{loose:List Str}{XP:(Str->Option Value)->Heap->Prop}{YP:World->Heap->Prop}{d:DefRec}
  (hn:l.most=some n) (hdf:d.params.defaults=[])
  (call:∀(w:World) (s₀ s₁:Shared) (mg mb:Str->Option Value) (fa:Addr) (o:Obj) (pm cd doc:Value) (a:Addr) (vs:List Value) (ns:List Int),
   Ground q loose [] XP w s₀ mg mb s₁.heap->YP w s₁.heap ->
   s₁.heap.get? fa=some o->o.data=.func (docDef d.name d.params d.body d.scope pm cd doc)->s₁.heap.CodeRec cd d.name->mg d.name=some (.ref fa) ->
   s₁.heap.get? a=some { cls:=.type "list",data:=.seq vs.toArray }->IntsAre vs ns->ns.length<=n->s₁.gens = #[] ->
   codeAny (model l.prog w) callerA (.call (.ref fa) ⟨[.ref a],[]⟩) (λr s'=>r=.ok (.ret (.bool true))/\OldK s₁.heap s'.heap/\s'.os=s₁.os/\AllBare s'.gens) s₁) :
  WalkO q loose XP YP l.row.toRowW d [] (λf vs=>PySem.call f vs):=by
 intro w s₀ s₁ mg mb G Y fa o pm cd doc dV kV ho hd hcd hD hmg hg args vals as hpre hlay hrd hwl hlo
 obtain rfl:dV=.none:=Dflts.none hD hdf
 obtain rfl:kV=.none:=Dflts.noKw hD
 obtain ⟨a,vs,ns,rfl,rfl,hobj,hints,hlen⟩:=zzh hn hpre hwl
 refine enter_call (codeAny_mono (call w s₀ s₁ mg mb fa o pm cd doc a vs ns G Y ho (fd_plain hd) hcd hmg hobj hints hlen hg) λr s' hq=>?_)
 obtain ⟨rfl,h2,h3,h4⟩:=hq
 exact ⟨.inl ⟨.bool true,.bool true,[],rfl,λ_=>rfl,.bool true,zzi l _,λ_=>⟨List.Pairwise.nil,λ_ hm=>(nomatch hm)⟩⟩,h2,h3,h4⟩
section
variable {prog:Program}{w:World}{A:Around}{E:Value->Shared->Prop}{s:Shared}{K:Frag}
end
end Att
namespace L2
open PySem PySem.Spec PyProof.Rows
theorem zqm:∀{vs:List Value}{ns:List Int},IntsAre vs ns->Vals (ns.map V.int) vs
 | _,_,.nil=>.nil
 | _,_,.cons n t h=>.cons ⟨t,rfl⟩ (zqm h)
noncomputable def zfw (s:Stmt):Arguments:=match s with
 | .FunctionDef _ a _ _ _ _ _ _ _ _=>a
 | _=>{ posonlyargs:=[],args:=[],vararg:=none,kwonlyargs:=[],kw_defaults:=[],kwarg:=none,defaults:=[] }
noncomputable def zc9 (s:Stmt):List Stmt:=match s with
 | .FunctionDef _ _ b _ _ _ _ _ _ _=>b
 | _=>[]
noncomputable def zay (s:Stmt):Scope:=match s with
 | .FunctionDef _ _ _ _ _ _ sc _ _ _=>sc
 | _=>{ kind:=.function,names:=[],isGenerator:=false,isCoroutine:=false }
abbrev CX0:CXT:=λ_ _ _ _ _ _=>False
abbrev E0:XK:=λ_ _ _=>False
theorem zqn {X:Cx}:zh7 CX0 X E0:=λ_ _ _ _ _ _ _ h=>h.elim
structure Fun (K:QFg) (x qual:Str) (st:Stmt) (f:Addr) (fd:FuncData):Prop where
 ex:∃(oc:Value) (od:Option Addr) (kV doc pm:Value) (an:Option Addr) (cdv ct:Value) (osl:Array (Option Value)),
  fd=PySem.W.fnOf x qual (zfw st) (zc9 st) (zay st) .none kV doc pm an cdv ct/\K.lookup f=some ⟨oc,od,.func fd,osl⟩/\PySem.W.codeIn K cdv qual=true
 kp:PySem.W.keepIn K (.ref f)=true
section
variable {P:Program}{w:World}{K:QFg}{mg:Str->Option Value}{base:Heap}
theorem Fun.binds {x qual:Str}{st:Stmt}{f:Addr}{fd:FuncData}{ps:List Str}(F:Fun K x qual st f fd)
  (h:∀(kV doc pm:Value) (an:Option Addr) (cdv ct:Value) (us:List Value),us.length=ps.length->bindArgs (PySem.W.fnOf x qual (zfw st) (zc9 st) (zay st) .none kV doc pm an cdv ct) ⟨us,[]⟩=pure (ps.zip us)):Binds K fd ps []:=by
 obtain ⟨oc,od,kV,doc,pm,an,cdv,ct,osl,rfl,lk,hcd⟩:=F.ex
 exact .all (h kV doc pm an cdv ct)
theorem zzj {x qual:Str}{st:Stmt}{f:Addr}{oc:Value}{od an:Option Addr}{osl:Array (Option Value)}{kV doc pm cdv ct:Value}(l:K.lookup f=some ⟨oc,od,.func (PySem.W.fnOf x qual (zfw st) (zc9 st) (zay st) .none kV doc pm an cdv ct),osl⟩)
  (c:PySem.W.codeIn K cdv qual=true) (k:PySem.W.keepIn K (.ref f)=true):Fun K x qual st f (PySem.W.fnOf x qual (zfw st) (zc9 st) (zay st) .none kV doc pm an cdv ct):=⟨⟨oc,od,kV,doc,pm,an,cdv,ct,osl,rfl,l,c⟩,k⟩
end
section
variable {X:Cx}
end
theorem zfx {A B:Prop}(h:B):if false=true then A else B:=by
 rw [if_neg Bool.false_ne_true]
 exact h
theorem zfy {A B:Prop}(h:A):if true=true then A else B:=by
 rw [if_pos rfl]
 exact h
section
variable {κ:Type} [DecidableEq κ]
noncomputable def zca (kvs:List (κ × V)) (k:κ):Option V:=(kvs.find? λkv=>decide (kv.1=k)).map (·.2)
noncomputable def zbx (kvs:List (κ × V)) (k:κ) (v:V):List (κ × V) :=
 if (kvs.any λkv=>decide (kv.1=k))=true then kvs.map (λkv=>if kv.1=k then (kv.1,v) else kv) else kvs++[(k,v)]
theorem zia {p:κ × V}{r:List (κ × V)}{k:κ}(e:p.1=k):zca (p :: r) k=some p.2:=by simp [zca,List.find?_cons,e]
theorem zib {p:κ × V}{r:List (κ × V)}{k:κ}(e:¬p.1=k):zca (p :: r) k=zca r k:=by simp [zca,List.find?_cons,e]
theorem zqo (k:κ):∀kvs:List (κ × V),(kvs.any λkv=>decide (kv.1=k))=(zca kvs k).isSome
 | []=>rfl
 | p :: r=>by
  rw [List.any_cons]
  by_cases e:p.1=k
  ·simp only [zia e,decide_eq_true e,Bool.true_or,Option.isSome_some]
  ·rw [zib e,decide_eq_false e,Bool.false_or];exact zqo k r
theorem zmk (kvs:List (κ × V)) (k:κ) (v:V):(zbx kvs k v).length<=kvs.length+1:=by
 unfold zbx
 split
 ·rw [qlm];omega
 ·rw [qla,List.length_cons,List.length_nil];omega
theorem RelO.isSome_eq {o:Option V}{u:Option Value}(r:RelO o u):o.isSome=u.isSome:=by
 cases o with
 | none=>cases u with
  | none=>rfl
  | some _=>exact (show False from r).elim
 | some _=>cases u with
  | none=>exact (show False from r).elim
  | some _=>rfl
theorem KV.val {kvs:List (κ × V)}{vs:List (κ × Value)}(r:KV kvs vs) (k:κ):RelO (zca kvs k) (valueAt vs k):=by
 unfold KV at r
 induction r with
 | nil=>exact True.intro
 | @cons p q ps qs h t ih =>
  obtain ⟨h1,h2⟩:=h
  by_cases e:p.1=k
  ·have e':q.1=k:=h1.symm.trans e
   have b:valueAt (q :: qs) k=some q.2:=by simp [valueAt,List.find?_cons,e']
   rw [zia e,b];exact h2
  ·have e':¬q.1=k:=λz=>e (h1.trans z)
   have b:valueAt (q :: qs) k=valueAt qs k:=by simp [valueAt,List.find?_cons,e']
   rw [zib e,b];exact ih
theorem KV.any {kvs:List (κ × V)}{vs:List (κ × Value)}(r:KV kvs vs) (k:κ):(kvs.any λkv=>decide (kv.1=k))=vs.any λkv=>decide (kv.1=k):=by
 unfold KV at r
 induction r with
 | nil=>rfl
 | cons h t ih=>rw [List.any_cons,List.any_cons,ih,h.1]
theorem KV.repl {kvs:List (κ × V)}{vs:List (κ × Value)}(r:KV kvs vs) (k:κ) {y:V}{u:Value}(ry:RelV y u) :
  KV (kvs.map λkv=>if kv.1=k then (kv.1,y) else kv) (vs.map λkv=>if kv.1=k then (kv.1,u) else kv):=by
 unfold KV at r ⊢
 induction r with
 | nil=>exact .nil
 | @cons p q ps qs h t ih =>
  rw [List.map_cons,List.map_cons]
  refine .cons ?_ ih
  obtain ⟨h1,h2⟩:=h
  by_cases e:p.1=k
  ·rw [if_pos e,if_pos (h1.symm.trans e)];exact ⟨h1,ry⟩
  ·rw [if_neg e,if_neg (λz=>e (h1.trans z))];exact ⟨h1,h2⟩
theorem KV.put {kvs:List (κ × V)}{vs:List (κ × Value)}(r:KV kvs vs) (k:κ) {y:V}{u:Value}(ry:RelV y u):KV (zbx kvs k y) (stored vs k u):=by
 unfold zbx stored
 rw [r.any k]
 by_cases e:(vs.any λkv=>decide (kv.1=k))=true
 ·rw [if_pos e,if_pos e];exact r.repl k ry
 ·rw [if_neg e,if_neg e];exact Paired.snoc r ⟨rfl,ry⟩
theorem KV.keys {kvs:List (κ × V)}{vs:List (κ × Value)}(r:KV kvs vs):kvs.map (·.1)=vs.map (·.1):=by
 unfold KV at r
 induction r with
 | nil=>rfl
 | cons h t ih=>rw [List.map_cons,List.map_cons,ih,h.1]
theorem KV.length {kvs:List (κ × V)}{vs:List (κ × Value)}(r:KV kvs vs):kvs.length=vs.length:=Paired.length r
end
theorem zjz {P:Program}{w:World}{k:Key}{u:Value}(r:RelV (kV k) u):(zcn P w).is k u=true:=by
 cases k with
 | inl i=>obtain ⟨t,e⟩:=(show ∃t,u=Value.int i t from r);subst e;exact zo7 P w i t
 | inr x=>obtain ⟨t,e⟩:=(show ∃t,u=Value.str x t from r);subst e;exact zwh P w x t
theorem zqp {P:Program}{w:World}:∀{ks:List Key}{us:List Value},Vals (ks.map kV) us->ItemsAre (zcn P w) ks us
 | [],_,r=>by rw [List.map_nil] at r;cases r;exact .nil
 | k :: ks,_,r=>by
  rw [List.map_cons] at r
  cases r with
  | cons h t=>exact .cons (zjz h) (zqp t)
abbrev KT (H:Hp):List (List Key × V)->List (List Key × Addr × Value)->Prop:=Paired λp q=>p.1=q.1/\H q.2.1=some (.tup (p.1.map kV))/\RelV p.2 q.2.2
theorem KT.val {H:Hp}{kvs:List (List Key × V)}{xs:List (List Key × Addr × Value)}(r:KT H kvs xs) (k:List Key):RelO (zca kvs k) ((atKey xs k).map (·.2)):=by
 induction r with
 | nil=>exact True.intro
 | @cons p q ps qs h t ih =>
  obtain ⟨h1,_,h2⟩:=h
  by_cases e:p.1=k
  ·have e':q.1=k:=h1.symm.trans e
   have b:atKey (q :: qs) k=some q.2:=by simp [atKey,List.find?_cons,e']
   rw [zia e,b];exact h2
  ·have e':¬q.1=k:=λz=>e (h1.trans z)
   have b:atKey (q :: qs) k=atKey qs k:=by simp [atKey,List.find?_cons,e']
   rw [zib e,b];exact ih
theorem KT.repl {H:Hp}{kvs:List (List Key × V)}{xs:List (List Key × Addr × Value)}(r:KT H kvs xs) (k:List Key) {y:V}{u:Value}(ry:RelV y u) :
  KT H (kvs.map λkv=>if kv.1=k then (kv.1,y) else kv) (xs.map (putAt k u)):=by
 induction r with
 | nil=>exact .nil
 | @cons p q ps qs h t ih =>
  rw [List.map_cons,List.map_cons]
  refine .cons ?_ ih
  obtain ⟨h1,h2,h3⟩:=h
  unfold putAt
  by_cases e:p.1=k
  ·rw [if_pos e,if_pos (h1.symm.trans e)];exact ⟨h1,h2,ry⟩
  ·rw [if_neg e,if_neg (λz=>e (h1.trans z))];exact ⟨h1,h2,h3⟩
theorem KT.put {H:Hp}{kvs:List (List Key × V)}{xs:List (List Key × Addr × Value)}(r:KT H kvs xs) (k:List Key) {b:Addr}{y:V}{u:Value}(hb:H b=some (.tup (k.map kV))) (ry:RelV y u) :
  KT H (zbx kvs k y) (storedH xs k b u):=by
 have e:(kvs.any λkv=>decide (kv.1=k))=(atKey xs k).isSome:=by
  rw [zqo,(r.val k).isSome_eq,Option.isSome_map]
 unfold zbx storedH
 rw [e]
 by_cases q:(atKey xs k).isSome=true
 ·rw [if_pos q,if_pos q];exact r.repl k ry
 ·rw [if_neg q,if_neg q];exact Paired.snoc r ⟨rfl,hb,ry⟩
theorem KT.keeps {H H':Hp}{kvs:List (List Key × V)}{xs:List (List Key × Addr × Value)}(r:KT H kvs xs) (ht:∀b ys,H b=some (.tup ys)->H' b=some (.tup ys)):KT H' kvs xs :=
 Paired.mapP r λ_ _ z=>⟨z.1,ht _ _ z.2.1,z.2.2⟩
section
variable {P:Program}{w:World}{H:Hp}{h:Heap}{a:Addr}
theorem zqq {u:HO}(ok:HOk P w H h) (e:Rd H a u):ObjOk P w H h a u:=e.ok ok
theorem zj0 {kvs:List (Key × V)}(ok:HOk P w H h) (e:Rd H a (.dK kvs)):kvs.length<=sizeLine/\(a == sysModules)=false/\∃vs,KV kvs vs/\h.DictOf (zcn P w) a vs :=
 show ObjOk P w H h a (.dK kvs) from zqq ok e
theorem zqr {kvs:List (Key × V)}(ok:HOk P w H h) (e:H a=some (.dK kvs)):kvs.length<=sizeLine/\(a == sysModules)=false/\∃vs,KV kvs vs/\h.DictOf (zcn P w) a vs:=zj0 ok (.inl e)
theorem zml {ks:List Key}(ok:HOk P w H h) (e:H a=some (.tup (ks.map kV))):(tupleKind (zcn P w)).is h ks a:=by
 obtain ⟨_,its,r,o,h1,h2,n,h3,_⟩:=(show ObjOk P w H h a (.tup (ks.map kV)) from ok a _ e)
 exact ⟨o,its.toArray,n,h1,h2,h3,by simpa using zqp r⟩
theorem zmm {kvs:List (List Key × V)}(ok:HOk P w H h) (e:Rd H a (.dT kvs)):kvs.length<=sizeLine/\(a == sysModules)=false /\
  ∃xs,KT H kvs xs/\h.DictOfH (tupleKind (zcn P w)) a xs:=by
 obtain ⟨z,y,xs,r,o,es,ep,h1,h2,h3,h4,h5⟩:=(show ObjOk P w H h a (.dT kvs) from zqq ok e)
 refine ⟨z,y,xs,r,o,es,ep,h1,h2,h3,h4,λx hx=>?_,h5⟩
 have all:∀{l:List (List Key × V)} {m:List (List Key × Addr × Value)},KT H l m->∀x∈m,(tupleKind (zcn P w)).is h x.1 x.2.1:=by
  intro l m q
  induction q with
  | nil=>intro x hx;exact nomatch hx
  | @cons p q ps qs hq t ih =>
   intro x hx
   rcases List.mem_cons.mp hx with e|hx
   ·subst e
    exact zml ok (by rw [<-hq.1];exact hq.2.1)
   ·exact ih x hx
 exact all r x hx
theorem zzk {kvs:List (List Key × V)}(ok:HOk P w H h) (e:H a=some (.dT kvs)):kvs.length<=sizeLine/\(a == sysModules)=false /\
  ∃xs,KT H kvs xs/\h.DictOfH (tupleKind (zcn P w)) a xs:=zmm ok (.inl e)
end
def DGet (H:Hp) (a:Addr) (y:V) (r:Option V):Prop :=
 (∃kvs k,Rd H a (.dK kvs)/\y=kV k/\r=zca kvs k)\/∃kvs k b,Rd H a (.dT kvs)/\y=.ref b/\H b=some (.tup (k.map kV))/\r=zca kvs k
def DPut (H:Hp) (a:Addr) (y v:V) (H':Hp):Prop :=
 (∃kvs k,H a=some (.dK kvs)/\y=kV k/\kvs.length<sizeLine/\H' = upd H a (.dK (zbx kvs k v))) \/
 ∃kvs k b,H a=some (.dT kvs)/\y=.ref b/\H b=some (.tup (k.map kV))/\kvs.length<sizeLine/\H' = upd H a (.dT (zbx kvs k v))
theorem DGet.k {H:Hp}{a:Addr}{kvs:List (Key × V)}{k:Key}(e:H a=some (.dK kvs)):DGet H a (kV k) (zca kvs k):=.inl ⟨kvs,k,.inl e,rfl,rfl⟩
theorem DPut.k {H:Hp}{a:Addr}{kvs:List (Key × V)}{k:Key}{v:V}(e:H a=some (.dK kvs)) (hl:kvs.length<sizeLine):DPut H a (kV k) v (upd H a (.dK (zbx kvs k v))):=.inl ⟨kvs,k,e,rfl,hl,rfl⟩
theorem DPut.t {H:Hp}{a b:Addr}{kvs:List (List Key × V)}{k:List Key}{v:V}(e:H a=some (.dT kvs)) (eb:H b=some (.tup (k.map kV))) (hl:kvs.length<sizeLine) :
  DPut H a (.ref b) v (upd H a (.dT (zbx kvs k v))):=.inr ⟨kvs,k,b,e,rfl,eb,hl,rfl⟩
section
variable {X:Cx}{pins:List (Addr × Obj)}{σ:St}{H:Hp}{s:Shared}{a:Addr}{y v:V}{u r:Value}{o:Option V}{A:Around}{E:Value->Shared->Prop}
theorem Inv.big (I:Inv X pins σ H s):sysModules<s.heap.objs.size:=by
 have h:mainGlobals<s.heap.objs.size:=(I.mod.glob.keeps I.bk).lt
 exact Nat.lt_trans (by decide) h
theorem zzl {Q:Value->Shared->Prop}(hu:A.units+1<cLine) (I:Inv X pins σ H s) (g:DGet H a y (some v)) (ry:RelV y u) (h:∀w' s',Inv X pins σ H s'->RelV v w'->Q w' s') :
  wpAny (model X.prog X.w) A (getItem (.ref a) u) Q E s:=by
 rcases g with ⟨kvs,k,e,ey,l⟩|⟨kvs,k,b,e,ey,eb,l⟩
 ·subst ey
  obtain ⟨z,hd,vs,rel,dd⟩:=zj0 I.hok e
  obtain ⟨w',hw,rw'⟩:=RelO.some_of (v:=v) (o:=valueAt vs k) (by rw [l];exact rel.val k)
  exact wpAny_getItem_of (zjz ry) dd.mapOf hw (h w' _ (I.tok _) rw')
 ·subst ey
  cases (show u=Value.ref b from ry)
  obtain ⟨z,hd,xs,rel,dd⟩:=zmm I.hok e
  obtain ⟨w',hw,rw'⟩:=RelO.some_of (v:=v) (o:=(atKey xs k).map (·.2)) (by rw [l];exact rel.val k)
  obtain ⟨p,hp,hp2⟩:=Option.map_eq_some_iff.mp hw
  refine wpAny_getItem_heap (tupleKind_room_in1 hu) (zml I.hok eb) dd hp ?_
  rw [hp2]
  exact h w' _ (I.tok _) rw'
theorem zmn {h':Heap}{t':Nat}{ob:HO}(I:Inv X pins σ H s) (mu:Mut (H a)) (hs:Heap.SameBut a s.heap h') (he:∃q,h'.get? a=some q) (new:ObjOk X.prog X.w (upd H a ob) h' a ob) :
  Inv X pins σ (upd H a ob) { s with heap:=h',toks:=t' } :=
 I.write (x:=a) (e:=a) mu (.inl rfl) (λb q hb z=>(hs.2 b hb).trans z) he new
theorem zqs {P:Program}{w:World}{H':Hp}{h':Heap}{kvs:List (Key × V)}{vs:List (Key × Value)}(z:kvs.length<=sizeLine) (hd:(a == sysModules)=false) (rel:KV kvs vs) (dd:h'.DictOf (zcn P w) a vs) :
  ObjOk P w H' h' a (.dK kvs):=⟨z,hd,vs,rel,dd⟩
theorem zzm {H':Hp}{Q:Unit->Shared->Prop}(hu:A.units+1<cLine) (I:Inv X pins σ H s) (g:DPut H a y v H') (ry:RelV y u) (rv:RelV v r) (h:∀s',Inv X pins σ H' s'->Q () s') :
  wpAny (model X.prog X.w) A (setItem (.ref a) u r) Q E s:=by
 rcases g with ⟨kvs,k,e,ey,l,eH⟩|⟨kvs,k,b,e,ey,eb,l,eH⟩
 ·subst ey eH
  obtain ⟨z,hd,vs,rel,dd⟩:=zqr I.hok e
  have hz:vs.length<=sizeLine:=by rw [<-rel.length];exact z
  have hl:(zbx kvs k v).length<=sizeLine:=by have:=zmk kvs k v;omega
  refine wpAny_setItem_pairs (hsz:=hz) (zjz ry) dd λh' dd' hs=>h _ ?_
  have he:∃q,h'.get? a=some q:=let ⟨q,_,_,hq,_⟩:=dd';⟨q,hq⟩
  exact zmn I (by rw [e];exact True.intro) hs he (zqs hl hd (rel.put k rv) dd')
 ·subst ey eH
  cases (show u=Value.ref b from ry)
  obtain ⟨z,hd,xs,rel,dd⟩:=zzk I.hok e
  have hz:xs.length<=sizeLine:=by rw [<-Paired.length rel];exact z
  have hl:(zbx kvs k v).length<=sizeLine:=by have:=zmk kvs k v;omega
  refine wpAny_setItem_heap (hsz:=hz) (tupleKind_room_in1 hu) (zml I.hok eb) dd λh' dd' hs=>h _ ?_
  obtain ⟨q,es,ep,hq,h2,h3,h4,_,h5⟩:=dd'
  refine zmn I (by rw [e];exact True.intro) hs ⟨q,hq⟩ ⟨hl,hd,_,(rel.put k eb rv).keeps λc ys ec=>?_,q,es,ep,hq,h2,h3,h4,h5⟩
  rw [zan (zc8 ec e (λz=>nomatch z))]
  exact ec
end
section
variable {X:Cx}{pins:List (Addr × Obj)}{σ:St}{H:Hp}{s:Shared}{a:Addr}{kvs:List (Key × V)}{k:Key}{u:Value}{A:Around}{E:Value->Shared->Prop}
end
def zj1 (i:Expr):Prop:=∀ov iv,subscripted i false ov iv=operate [ov,iv] (getItem ov iv)
theorem zzo {prog:Program}{w:World}{A:Around}{E:Value->Shared->Prop}{s:Shared}{env:Env}{value slice:Expr}{pos:Pos}{T id:String}{Q:Value->Shared->Prop}
  (hl:typeLookup (.type T) "__getitem__" = pure (some (.builtin id))) (hs:zj1 slice)
  (h:wpAny (model prog w) A (eval value env) (λo s₁=>wpAny (model prog w) A (eval slice env) (λi s₂=>s₂.TypeIs o T/\wpAny (model prog w) A (getItem o i) Q E s₂) E s₁) E s) :
  wpAny (model prog w) A (eval (.Subscript value slice pos) env) Q E s:=by
 refine Subscript_ (wpAny_mono h (λo s₁ h₁=>wpAny_mono h₁ (λi s₂ h₂=>?_) λ_ _ x=>x) λ_ _ x=>x)
 obtain ⟨hT,h₂⟩:=h₂
 unfold subscriptTail
 refine qwb ?_
 rw [getitemInPython_of_ne hT.not_modules]
 refine qwb (wpAny_specialOf hT hl ?_)
 have fin:wpAny (model prog w) A (subscripted slice false o i) (λr s₃=>wpAny (model prog w) A (letTemporaryGo value o r >>= λ_=>pure r) Q E s₃) E s₂:=by
  rw [hs o i]
  exact wpAny_operating (wpAny_mono h₂ (λr s₃ h₃=>qwb (wpAny_letTemporaryGo (qwp h₃))) λ_ _ x=>x)
 first
  | exact qwp (qwb fin)
  | exact qwb (qwp (qwb fin))
  | exact qwb fin
theorem zzp {X:Cx}{pins:List (Addr × Obj)}{σ:St}{H:Hp}{s:Shared}{a:Addr}{y:V}{o:Option V}(I:Inv X pins σ H s) (g:DGet H a y o):s.TypeIs (.ref a) "dict":=by
 rcases g with ⟨kvs,k,e,_,_⟩|⟨kvs,k,b,e,_,_,_⟩
 ·obtain ⟨_,_,vs,_,dd⟩:=zj0 I.hok e
  exact dd.typeIs
 ·obtain ⟨_,_,xs,_,dd⟩:=zmm I.hok e
  exact dd.typeIs
def zzq (td ty:TE):TE:=λσ H Q=>td σ H λx H1=>ty σ H1 λy H2=>∃a v,x=.ref a/\DGet H2 a y (some v)/\Q v H2
def zzr (td ty tv:TE):TS:=λD σ H=>tv σ H λv H1=>td σ H1 λx H2=>ty σ H2 λy H3=>∃a H4,x=.ref a/\DPut H3 a y v H4/\D.nx σ H4
section
variable {X:Cx}{o i e value:Expr}{pos pos' tpos:Pos}{td ty tv:TE}
theorem zqt (hu:X.A.units+1<cLine) (ho:PE X o td) (hi:PE X i ty) (hs:zj1 i):PE X (.Subscript o i pos) (zzq td ty):=by
 intro pins s σ H Q I h
 refine zzo PySem.F.slot_dict_getitem.lookup hs (thn (ho pins s σ H _ I h) λu s1 ⟨x,H1,I1,rx,q1⟩=>thn (hi pins s1 σ H1 _ I1 q1) λiv s2 ⟨y,H2,I2,ry,a,v,ex,g,q2⟩=>?_)
 subst ex
 obtain rfl:u=Value.ref a:=rx
 exact ⟨zzp I2 g,zzl hu I2 g ry λw' s3 I3 rw'=>⟨v,H2,I3,rw',q2⟩⟩
theorem zqu (hu:X.A.units+1<cLine) (ho:PE X o td) (hi:PE X i ty) (hv:PE X value tv) (hs:swapsWith value (some (.Subscript o i pos')) pos.line X.env=pure false) :
  PS X (.Assign [.Subscript o i pos'] value pos) (zzr td ty tv):=by
 intro pins s σ H D I h
 refine wpAny_Assign_Subscript (thn (hv pins s σ H _ I h) λr s1 ⟨v,H1,I1,rv,q1⟩=>thn (ho pins s1 σ H1 _ I1 q1) λu s2 ⟨x,H2,I2,rx,q2⟩=>thn (hi pins s2 σ H2 _ I2 q2) λiv s3 ⟨y,H3,I3,ry,a,H4,ex,g,q3⟩=>?_) hs
 subst ex
 obtain rfl:u=Value.ref a:=rx
 exact zzm hu I3 g ry rv λs4 I4=>⟨σ,H4,I4,q3⟩
end
theorem zzs {P:Program}{w:World}{H:Hp}(h:Heap) (hb:sysModules<h.objs.size):ObjOk P w H (h.push { cls:=.type "dict",data:=.dict #[] }) h.objs.size (.dK []) :=
 ⟨Nat.zero_le _,beq_eq_false_iff_ne.mpr (Ne.symm (Nat.ne_of_lt hb)),[],.nil,Heap.DictOf.new h⟩
section
variable {X:Cx}{pos:Pos}
end
def zmo:List (TE × TE)->St->Hp->(List (V × V)->Hp->Prop)->Prop
 | [],_,H,Q=>Q [] H
 | (tk,tv) :: r,σ,H,Q=>tk σ H λx H1=>tv σ H1 λy H2=>zmo r σ H2 λps H3=>Q ((x,y) :: ps) H3
abbrev VV:List (V × V)->List (Value × Value)->Prop:=Paired λp q=>RelV p.1 q.1/\RelV p.2 q.2
def PPs (X:Cx) (pos:Pos) (keys:List (Option Expr)) (values:List Expr) (trs:List (TE × TE)):Prop :=
 ∀(pins:List (Addr × Obj)) (s:Shared) (σ:St) (H:Hp) (Q:List (V × V)->Hp->Prop),Inv X pins σ H s->zmo trs σ H Q ->
  wpAny (model X.prog X.w) X.A (evalPairs (pairTrees keys values X.env pos)) (λvs s'=>∃ps H',Inv X pins σ H' s'/\VV ps vs/\Q ps H') X.xe s
theorem zzt {X:Cx}{pos:Pos}:PPs X pos [] [] []:=λpins s σ H Q I h=>pairTrees_nil_walk ⟨[],H,I,.nil,h⟩
theorem zmp {X:Cx}{pos:Pos}{k v:Expr}{ks:List (Option Expr)}{vs:List Expr}{tk tv:TE}{trs:List (TE × TE)}(hk:PE X k tk) (hv:PE X v tv) (hr:PPs X pos ks vs trs) :
  PPs X pos (some k :: ks) (v :: vs) ((tk,tv) :: trs):=λpins s σ H Q I h =>
 pairTrees_cons_walk (thn (hk pins s σ H _ I h) λu s1 ⟨x,H1,I1,rx,q1⟩=>thn (hv pins s1 σ H1 _ I1 q1) λw2 s2 ⟨y,H2,I2,ry,q2⟩ =>
  thn (hr pins s2 σ H2 _ I2 q2) λws s3 ⟨ps,H3,I3,rel,q3⟩=>⟨(x,y) :: ps,H3,I3,.cons ⟨rx,ry⟩ rel,q3⟩)
noncomputable def zfz (kvs more:List (Key × V)):List (Key × V):=more.foldl (λacc kv=>zbx acc kv.1 kv.2) kvs
theorem KV.merge:∀{more:List (Key × V)}{rs:List (Key × Value)}{kvs:List (Key × V)}{vs:List (Key × Value)},KV more rs->KV kvs vs->KV (zfz kvs more) (merged vs rs):=by
 intro more rs kvs vs r
 unfold KV at r
 induction r generalizing kvs vs with
 | nil=>intro q;exact q
 | @cons p q ps qs h t ih =>
  intro r0
  have e:KV (zbx kvs p.1 p.2) (stored vs q.1 q.2):=by
   have:=r0.put p.1 h.2
   rw [<-h.1];exact this
  exact ih e
theorem zqv:∀(more kvs:List (Key × V)),(zfz kvs more).length<=kvs.length+more.length
 | [],kvs=>by show kvs.length<=kvs.length+0;omega
 | p :: r,kvs=>by
  have h1:=zqv r (zbx kvs p.1 p.2)
  have h2:=zmk kvs p.1 p.2
  show (zfz (zbx kvs p.1 p.2) r).length<=_
  rw [List.length_cons];omega
theorem zqw {P:Program}{w:World}:∀{kvs:List (Key × V)}{ws:List (Value × Value)},VV (kvs.map λkv=>(kV kv.1,kv.2)) ws->∃rs,Carries (zcn P w) ws rs/\KV kvs rs
 | [],_,r=>by rw [List.map_nil] at r;cases r;exact ⟨[],True.intro,.nil⟩
 | p :: kvs,_,r=>by
  rw [List.map_cons] at r
  cases r with
  | @cons a b as bs h t =>
   obtain ⟨rs,c,q⟩:=zqw (P:=P) (w:=w) t
   obtain ⟨b1,b2⟩:=b
   exact ⟨(p.1,b2) :: rs,⟨zjz h.1,rfl,c⟩,.cons ⟨rfl,h.2⟩ q⟩
def zzu (trs:List (TE × TE)):TE:=λσ H Q=>∀p,H p=none->zmo trs σ (upd H p (.dK [])) λps H2=>H2 p=some (.dK [])/\∃kvs:List (Key × V),ps=kvs.map (λkv=>(kV kv.1,kv.2))/\kvs.length<=15/\Q (.ref p) (upd H2 p (.dK (zfz [] kvs)))
theorem zzv {X:Cx}{pos:Pos}{keys:List (Option Expr)}{values:List Expr}{trs:List (TE × TE)}(h:PPs X pos keys values trs) (hall:keys.all (·.isSome)=true) (hl:keys.length=values.length) (h0:keys≠[])
  (h15:keys.length<=15):PE X (.Dict keys values pos) (zzu trs):=by
 intro pins s σ H Q I q
 have hn:=I.hok.fresh (qlr s.heap.objs.size)
 have I1:=I.laid (a:=s.heap.objs.size) (o:=.dK []) (h':=s.heap.push { cls:=.type "dict",data:=.dict #[] }) (t':=s.toks) (λ_ _ q=>qps _ q) (qlr _) (zzs s.heap I.big)
 refine wpAny_Dict_walk (knd:=zcn X.prog X.w) hall hl h0 h15 (thn (h pins _ σ _ _ I1 (q _ hn)) λws s2 ⟨ps,H2,I2,rel,e,kvs,ep,lk,q2⟩=>?_)
 subst ep
 obtain ⟨rs,c,rk⟩:=zqw (P:=X.prog) (w:=X.w) rel
 obtain ⟨z,hd,vs0,r0,dd⟩:=zqr I2.hok e
 cases r0
 refine ⟨rs,c,dd,λh' dd' hs=>⟨.ref s.heap.objs.size,_,?_,rfl,q2⟩⟩
 have hz:(zfz [] kvs).length<=sizeLine:=by
  have h1:=zqv kvs []
  rw [List.length_nil] at h1
  rw [sizeLine_eq];omega
 have he:∃q,h'.get? s.heap.objs.size=some q:=let ⟨q,_,_,hq,_⟩:=dd';⟨q,hq⟩
 exact zmn I2 (by rw [e];exact True.intro) hs he (zqs hz hd (rk.merge .nil) dd')
section
variable {X:Cx}{pins:List (Addr × Obj)}{σ:St}{H:Hp}{s:Shared}{a:Addr}{y d:V}{u r:Value}{o:Option V}{A:Around}{E:Value->Shared->Prop}
end
section
variable {X:Cx}{o e f:Expr}{apos cpos:Pos}{td ty tx:TE}
end
section
variable {X:Cx}{pins:List (Addr × Obj)}{σ:St}{H:Hp}{s:Shared}{a:Addr}{kvs:List (Key × V)}{A:Around}{E:Value->Shared->Prop}
end
section
variable {X:Cx}{pins:List (Addr × Obj)}{σ:St}{H:Hp}{s:Shared}{a:Addr}{y:V}{u:Value}{A:Around}{E:Value->Shared->Prop}
end
section
variable {X:Cx}
end
section
variable {κ:Type} [DecidableEq κ]
end
end L2
namespace L3
abbrev St:=L2.St
open PySem PySem.Spec PyProof.Rows L2
inductive D where
 | non|bl (b:Bool)|int (i:Int)|str (x:Str)|tup (xs:List D)|ref (n:Nat)|fn (a:Addr)
structure LamG where
 qual:Str
 params:Arguments
 body:Expr
 scope:Scope
inductive Ob where
 | lst (xs:List D)|flst (xs:List D)|iset (f:Int->Bool) (n:Nat)|dct (kvs:List (Key × D))|fdct (kvs:List (Key × D))|tdct (kvs:List (List Key × D))|ftdct (kvs:List (List Key × D))|tset (ks:List (List Int))|fnc (x:Str)|exc (c:Str)|tab (x:Str)|lam (g:LamG) (caps:List (Str × D))|dead
noncomputable def Ob.mut:Ob->Bool
 | .flst _=>false
 | .fnc _=>false
 | .lam _ _=>false
 | .dead=>false
 | _=>true
abbrev Sto:=List Ob
abbrev Lo:=List (Option D)
mutual
inductive RD (ρ:List Addr) (H:Hp):D->V->Prop where
 | non:RD ρ H .non .non
 | bl (b:Bool):RD ρ H (.bl b) (.bl b)
 | int (i:Int):RD ρ H (.int i) (.int i)
 | str (x:Str):RD ρ H (.str x) (.str x)
 | tup {xs:List D} {a:Addr} {vs:List V}:H a=some (.tup vs)->RDs ρ H xs vs->RD ρ H (.tup xs) (.ref a)
 | ref {n:Nat} {a:Addr}:ρ[n]? = some a->RD ρ H (.ref n) (.ref a)
 | fn (a:Addr):RD ρ H (.fn a) (.ref a)
inductive RDs (ρ:List Addr) (H:Hp):List D->List V->Prop where
 | nil:RDs ρ H [] []
 | cons {x:D} {v:V} {xs:List D} {vs:List V}:RD ρ H x v->RDs ρ H xs vs->RDs ρ H (x :: xs) (v :: vs)
end
structure Ext0 (ρ:List Addr) (H:Hp) (ρ':List Addr) (H':Hp):Prop where
 pre:∀(n:Nat) (a:Addr),ρ[n]? = some a->ρ'[n]? = some a
 tup:∀a vs,H a=some (.tup vs)->H' a=some (.tup vs)
 frz:∀a o u,H a=some (.frz o u)->H' a=some (.frz o u)
structure Ext (ρ:List Addr) (H:Hp) (ρ':List Addr) (H':Hp):Prop extends Ext0 ρ H ρ' H' where
 out:∀a (vs:HO),H a=some vs->(∀n:Nat,ρ[n]?≠some a)->H' a=some vs/\∀n:Nat,ρ'[n]?≠some a
theorem Ext.refl (ρ:List Addr) (H:Hp):Ext ρ H ρ H:=⟨⟨λ_ _ h=>h,λ_ _ h=>h,λ_ _ _ h=>h⟩,λ_ _ h n=>⟨h,n⟩⟩
theorem Ext.trans {ρ ρ1 ρ2:List Addr}{H H1 H2:Hp}(a:Ext ρ H ρ1 H1) (b:Ext ρ1 H1 ρ2 H2):Ext ρ H ρ2 H2 :=
 ⟨⟨λn x h=>b.pre n x (a.pre n x h),λn x h=>b.tup n x (a.tup n x h),λn o x h=>b.frz n o x (a.frz n o x h)⟩,λx vs h n=>let ⟨h1,n1⟩:=a.out x vs h n;b.out x vs h1 n1⟩
section
variable {ρ ρ':List Addr}{H H':Hp}
mutual
theorem RD.mono0 (e:Ext0 ρ H ρ' H'):∀{d:D}{v:V},RD ρ H d v->RD ρ' H' d v
 | _,_,.non=>.non
 | _,_,.bl b=>.bl b
 | _,_,.int i=>.int i
 | _,_,.str x=>.str x
 | _,_,.tup h r=>.tup (e.tup _ _ h) (RDs.mono0 e r)
 | _,_,.ref h=>.ref (e.pre _ _ h)
 | _,_,.fn a=>.fn a
theorem RDs.mono0 (e:Ext0 ρ H ρ' H'):∀{d:List D}{v:List V},RDs ρ H d v->RDs ρ' H' d v
 | _,_,.nil=>.nil
 | _,_,.cons r q=>.cons (RD.mono0 e r) (RDs.mono0 e q)
end
theorem RD.mono {d:D}{v:V}(r:RD ρ H d v) (e:Ext ρ H ρ' H'):RD ρ' H' d v:=r.mono0 e.toExt0
theorem RDs.mono {d:List D}{v:List V}(r:RDs ρ H d v) (e:Ext ρ H ρ' H'):RDs ρ' H' d v:=r.mono0 e.toExt0
theorem RDs.length:∀{d:List D}{v:List V},RDs ρ H d v->d.length=v.length
 | _,_,.nil=>rfl
 | _,_,.cons _ q=>congrArg (· + 1) (RDs.length q)
theorem RDs.get:∀{d:List D}{v:List V}{i:Nat}{x:D},RDs ρ H d v->d[i]? = some x->∃u,v[i]? = some u/\RD ρ H x u
 | _,_,_,_,.nil,e=>by simp at e
 | _,_,0,_,.cons r _,e=>by simp at e;subst e;exact ⟨_,rfl,r⟩
 | _,_,i+1,x,.cons _ q,e=>by
  obtain ⟨u,h1,h2⟩:=RDs.get (i:=i) (x:=x) q (by simpa using e)
  exact ⟨u,by simpa using h1,h2⟩
theorem RDs.set {x:D}{u:V}(r:RD ρ H x u):∀{d:List D}{v:List V}(i:Nat),RDs ρ H d v->RDs ρ H (d.set i x) (v.set i u)
 | _,_,_,.nil=>.nil
 | _,_,0,.cons _ q=>.cons r q
 | _,_,i+1,.cons p q=>.cons p (RDs.set r i q)
theorem RDs.append:∀{d e:List D}{v w:List V},RDs ρ H d v->RDs ρ H e w->RDs ρ H (d++e) (v++w)
 | _,_,_,_,.nil,q=>q
 | _,_,_,_,.cons r p,q=>.cons r (RDs.append p q)
theorem RDs.take:∀{d:List D}{v:List V}(n:Nat),RDs ρ H d v->RDs ρ H (d.take n) (v.take n)
 | _,_,0,_=>.nil
 | _,_,_+1,.nil=>.nil
 | _,_,n+1,.cons r t=>.cons r (RDs.take n t)
theorem RDs.drop:∀{d:List D}{v:List V}(n:Nat),RDs ρ H d v->RDs ρ H (d.drop n) (v.drop n)
 | _,_,0,r=>r
 | _,_,_+1,.nil=>.nil
 | _,_,n+1,.cons _ t=>RDs.drop n t
theorem RDs.reverse:∀{d:List D}{v:List V},RDs ρ H d v->RDs ρ H d.reverse v.reverse
 | _,_,.nil=>.nil
 | _,_,.cons r t=>by rw [List.reverse_cons,List.reverse_cons];exact RDs.append (RDs.reverse t) (.cons r .nil)
theorem RDs.rep {xs:List D}{us:List V}(h:RDs ρ H xs us):∀k:Nat,RDs ρ H (List.replicate k xs).flatten (List.replicate k us).flatten
 | 0=>.nil
 | k+1=>by
  rw [List.replicate_succ,List.replicate_succ,List.flatten_cons,List.flatten_cons]
  exact RDs.append h (RDs.rep h k)
theorem RDs.one {x:D}{vs:List V}(h:RDs ρ H [x] vs):∃v,vs=[v]/\RD ρ H x v:=by
 cases h with
 | cons r q=>cases q;exact ⟨_,rfl,r⟩
theorem RDs.two {x y:D}{vs:List V}(h:RDs ρ H [x,y] vs):∃v u,vs=[v,u]/\RD ρ H x v/\RD ρ H y u:=by
 cases h with
 | cons r q=>obtain ⟨u,rfl,r2⟩:=q.one;exact ⟨_,_,rfl,r,r2⟩
end
def Fz (K:QFg) (H:Hp) (a:Addr) (xs:List V):Prop:=(∃o,H a=some (.frz o (.lst xs))) \/
  ∃(o:Obj) (its:Array Value) (n:Nat),K.lookup a=some o/\o.cls=.type "list"/\o.dict=none/\o.data=.seq its n/\its.size<=sizeLine/\Vals xs its.toList
theorem Fz.sq {K:QFg}{H:Hp}{a:Addr}{xs:List V}(h:Fz K H a xs):SqL K H a xs:=by
 rcases h with ⟨o,h⟩|h
 ·exact .inl (.inr ⟨o,h⟩)
 ·exact .inr h
noncomputable def zdf (x:Str):Str:=x++".<locals>."++"<lambda>"
noncomputable abbrev hTr:HO:=.ext λ_=>True
def CodeF (H:Hp) (q:Str) (c:Addr):Prop:=∃oc vs t,H c=some (.frz oc hTr)/\oc.data=.fields vs/\vs[1]? = some (.str q t)
def TabOk (H:Hp) (q:Str) (ps:Array Value):Prop:=TriplesOk ps.toList/\∀pos cv,codeAmong pos ps.toList=some cv->∃c,cv=.ref c/\CodeF H q c
inductive CellsR (ρ:List Addr) (H:Hp):List (Str × Addr)->List (Str × D)->Prop where
 | nil:CellsR ρ H [] []
 | cons {x:Str} {c:Addr} {o:Obj} {u:Value} {v:V} {d:D} {cs:List (Str × Addr)} {ds:List (Str × D)}:H c=some (.frz o hTr)->o.data=.cell (some u)->RelV v u->RD ρ H d v->CellsR ρ H cs ds->CellsR ρ H ((x,c) :: cs) ((x,d) :: ds)
theorem CodeF.mono {H H':Hp}{q:Str}{c:Addr}(h:CodeF H q c) (e:∀a o u,H a=some (.frz o u)->H' a=some (.frz o u)):CodeF H' q c :=
 let ⟨oc,vs,t,h1,h2⟩:=h;⟨oc,vs,t,e _ _ _ h1,h2⟩
theorem TabOk.mono {H H':Hp}{q:Str}{ps:Array Value}(h:TabOk H q ps) (e:∀a o u,H a=some (.frz o u)->H' a=some (.frz o u)):TabOk H' q ps :=
 ⟨h.1,λpos cv z=>let ⟨c,e1,k⟩:=h.2 pos cv z;⟨c,e1,k.mono e⟩⟩
theorem CellsR.mono {ρ ρ':List Addr}{H H':Hp}(e:Ext0 ρ H ρ' H') {cs:List (Str × Addr)}{ds:List (Str × D)}(h:CellsR ρ H cs ds):CellsR ρ' H' cs ds:=by
 induction h with
 | nil=>exact .nil
 | cons h1 h2 h3 h4 _ ih=>exact .cons (e.frz _ _ _ h1) h2 h3 (h4.mono0 e) ih
def ObR (K:QFg) (ρ:List Addr) (H:Hp):Ob->Addr->Prop
 | .lst xs,a=>∃vs,H a=some (.lst vs)/\RDs ρ H xs vs
 | .flst xs,a=>∃vs,Fz K H a vs/\RDs ρ H xs vs
 | .iset f n,a=>H a=some (.set f n)
 | .dct kvs,a=>∃vs,H a=some (.dK ((kvs.map (·.1)).zip vs))/\RDs ρ H (kvs.map (·.2)) vs
 | .fdct kvs,a=>∃o vs,H a=some (.frz o (.dK ((kvs.map (·.1)).zip vs)))/\RDs ρ H (kvs.map (·.2)) vs
 | .tdct kvs,a=>∃vs,H a=some (.dT ((kvs.map (·.1)).zip vs))/\RDs ρ H (kvs.map (·.2)) vs
 | .ftdct kvs,a=>∃o vs,H a=some (.frz o (.dT ((kvs.map (·.1)).zip vs)))/\RDs ρ H (kvs.map (·.2)) vs
 | .tset ks,a=>∃xs:List (List Int × Addr),ks=xs.map (·.1)/\H a=some (.ext (TS.TSet a xs))/\∀p∈xs,H p.2=some (.tup (p.1.map V.int))
 | .fnc x,a=>PySem.W.nsIn K mainGlobals x=some (some (.ref a))/\∃o,K.lookup a=some o
 | .exc c,a=>∃C,PySem.W.nsIn K mainGlobals c=some (some (.ref C))/\H a=some (.ext (λh=>∃o,h.get? a=some o/\o.cls=.ref C))
 | .tab x,a=>∃c ps,PySem.W.tabIn K x=some (c,a)/\PySem.W.codeHdIn K c a=true/\H a=some (.tbl ps)/\TabOk H (zdf x) ps
 | .lam g caps,a=>∃cs pm c ctv,H a=some (.frz (PySem.W.kla_obj "<lambda>" g.qual g.params g.body g.scope cs pm c ctv) hTr)/\CodeF H g.qual c/\CellsR ρ H cs caps
 | .dead,a=>∃o fd,H a=some (.frz o hTr)/\o.data=.func fd
structure Sim (K:QFg) (ρ:List Addr) (S:Sto) (H:Hp):Prop where
 len:ρ.length=S.length
 nd:∀(i j:Nat) (a:Addr) (o1 o2:Ob),ρ[i]? = some a->ρ[j]? = some a->S[i]? = some o1->S[j]? = some o2->o1.mut=true->o2.mut=true->i=j
 at':∀(n:Nat) (a:Addr) (o:Ob),ρ[n]? = some a->S[n]? = some o->ObR K ρ H o a
section
variable {K:QFg}{ρ ρ':List Addr}{H:Hp}{S:Sto}
theorem zbu {p:Addr}{o:HO}(hp:H p=none):Ext ρ H ρ (upd H p o) :=
 ⟨⟨λ_ _ h=>h,λa vs h=>by rw [zan (zbc h hp)];exact h,λa o vs h=>by rw [zan (zbc h hp)];exact h⟩,λa vs h n=>⟨by rw [zan (zbc h hp)];exact h,n⟩⟩
theorem zj2 {p:Addr}{o:HO}{ys:List V}(hp:H p=some (.lst ys)):Ext0 ρ H ρ (upd H p o) :=
 ⟨λ_ _ h=>h,λa vs h=>by rw [zan (zc8 h hp (by intro z;cases z))];exact h,λa o vs h=>by rw [zan (zc8 h hp (by intro z;cases z))];exact h⟩
def zf0 (u:HO):Prop:=(∀vs,u≠.tup vs)/\∀o v,u≠.frz o v
theorem zqx (ys:List V):zf0 (.lst ys):=⟨λ_ z=>(by cases z),λ_ _ z=>(by cases z)⟩
theorem zdg {p:Addr}{o u:HO}(hp:H p=some u) (hu:zf0 u):Ext0 ρ H ρ (upd H p o) :=
 ⟨λ_ _ h=>h,λa vs h=>by rw [zan (zc8 h hp (λz=>hu.1 vs z.symm))];exact h,λa o vs h=>by rw [zan (zc8 h hp (λz=>hu.2 o vs z.symm))];exact h⟩
theorem zj3 {p:Addr}{o u:HO}{n:Nat}(hn:ρ[n]? = some p) (hp:H p=some u) (hu:zf0 u):Ext ρ H ρ (upd H p o) :=
 ⟨zdg hp hu,λa vs h hm=>⟨by rw [zan (λz=>hm n (by rw [z];exact hn))];exact h,hm⟩⟩
theorem zj4 {p:Addr}{o:HO}{ys:List V}{n:Nat}(hn:ρ[n]? = some p) (hp:H p=some (.lst ys)):Ext ρ H ρ (upd H p o) :=
 ⟨zj2 hp,λa vs h hm=>⟨by rw [zan (λz=>hm n (by rw [z];exact hn))];exact h,hm⟩⟩
theorem ObR.laid {o:Ob}{a p:Addr}{u:HO}(h:ObR K ρ H o a) (hp:H p=none):ObR K ρ (upd H p u) o a:=by
 cases o with
 | lst xs =>
  obtain ⟨vs,e,r⟩:=h
  exact ⟨vs,by rw [zan (zbc e hp)];exact e,r.mono (zbu hp)⟩
 | flst xs =>
  obtain ⟨vs,e,r⟩:=h
  refine ⟨vs,?_,r.mono (zbu hp)⟩
  rcases e with ⟨o,e⟩|e
  ·exact .inl ⟨o,by rw [zan (zbc e hp)];exact e⟩
  ·exact .inr e
 | iset f n =>
  show upd H p u a=some (.set f n)
  have e:H a=some (.set f n):=h
  rw [zan (zbc e hp)];exact e
 | dct kvs =>
  obtain ⟨vs,e,r⟩:=h
  exact ⟨vs,by rw [zan (zbc e hp)];exact e,r.mono (zbu hp)⟩
 | fdct kvs =>
  obtain ⟨o,vs,e,r⟩:=h
  exact ⟨o,vs,by rw [zan (zbc e hp)];exact e,r.mono (zbu hp)⟩
 | tdct kvs =>
  obtain ⟨vs,e,r⟩:=h
  exact ⟨vs,by rw [zan (zbc e hp)];exact e,r.mono (zbu hp)⟩
 | ftdct kvs =>
  obtain ⟨o,vs,e,r⟩:=h
  exact ⟨o,vs,by rw [zan (zbc e hp)];exact e,r.mono (zbu hp)⟩
 | tset ks =>
  obtain ⟨xs,e0,e,r⟩:=h
  exact ⟨xs,e0,by rw [zan (zbc e hp)];exact e,λp hq=>by rw [zan (zbc (r p hq) hp)];exact r p hq⟩
 | fnc x=>exact h
 | exc c =>
  obtain ⟨C,hc,e⟩:=h
  exact ⟨C,hc,by rw [zan (zbc e hp)];exact e⟩
 | tab x =>
  obtain ⟨c,ps,h1,h2,e,t⟩:=h
  exact ⟨c,ps,h1,h2,by rw [zan (zbc e hp)];exact e,t.mono (zbu (ρ:=ρ) hp).frz⟩
 | lam g caps =>
  obtain ⟨cs,pm,c,ctv,e,k,r⟩:=h
  exact ⟨cs,pm,c,ctv,(zbu (ρ:=ρ) hp).frz _ _ _ e,k.mono (zbu (ρ:=ρ) hp).frz,r.mono (zbu hp).toExt0⟩
 | dead =>
  obtain ⟨o,fd,e,d⟩:=h
  exact ⟨o,fd,(zbu (ρ:=ρ) hp).frz _ _ _ e,d⟩
theorem ObR.writtenG {o:Ob}{a p:Addr}{u u0:HO}(h:ObR K ρ H o a) (hp:H p=some u0) (hu:zf0 u0) (hn:o.mut=true->a≠p):ObR K ρ (upd H p u) o a:=by
 cases o with
 | lst xs =>
  obtain ⟨vs,e,r⟩:=h
  exact ⟨vs,by rw [zan (hn rfl)];exact e,r.mono0 (zdg hp hu)⟩
 | flst xs =>
  obtain ⟨vs,e,r⟩:=h
  refine ⟨vs,?_,r.mono0 (zdg hp hu)⟩
  rcases e with ⟨o,e⟩|e
  ·exact .inl ⟨o,by rw [zan (zc8 e hp (λz=>hu.2 _ _ z.symm))];exact e⟩
  ·exact .inr e
 | iset f n =>
  show upd H p u a=some (.set f n)
  rw [zan (hn rfl)];exact h
 | dct kvs =>
  obtain ⟨vs,e,r⟩:=h
  exact ⟨vs,by rw [zan (hn rfl)];exact e,r.mono0 (zdg hp hu)⟩
 | tdct kvs =>
  obtain ⟨vs,e,r⟩:=h
  exact ⟨vs,by rw [zan (hn rfl)];exact e,r.mono0 (zdg hp hu)⟩
 | fdct kvs =>
  obtain ⟨o,vs,e,r⟩:=h
  exact ⟨o,vs,by rw [zan (hn rfl)];exact e,r.mono0 (zdg hp hu)⟩
 | ftdct kvs =>
  obtain ⟨o,vs,e,r⟩:=h
  exact ⟨o,vs,by rw [zan (hn rfl)];exact e,r.mono0 (zdg hp hu)⟩
 | tset ks =>
  obtain ⟨xs,e0,e,r⟩:=h
  exact ⟨xs,e0,by rw [zan (hn rfl)];exact e,λp hq=>(zdg (ρ:=ρ) hp hu).tup _ _ (r p hq)⟩
 | fnc x=>exact h
 | exc c =>
  obtain ⟨C,hc,e⟩:=h
  exact ⟨C,hc,by rw [zan (hn rfl)];exact e⟩
 | tab x =>
  obtain ⟨c,ps,h1,h2,e,t⟩:=h
  exact ⟨c,ps,h1,h2,by rw [zan (hn rfl)];exact e,t.mono (zdg (ρ:=ρ) hp hu).frz⟩
 | lam g caps =>
  obtain ⟨cs,pm,c,ctv,e,k,r⟩:=h
  exact ⟨cs,pm,c,ctv,(zdg (ρ:=ρ) hp hu).frz _ _ _ e,k.mono (zdg (ρ:=ρ) hp hu).frz,r.mono (zdg hp hu)⟩
 | dead =>
  obtain ⟨o,fd,e,d⟩:=h
  exact ⟨o,fd,(zdg (ρ:=ρ) hp hu).frz _ _ _ e,d⟩
theorem ObR.written {o:Ob}{a p:Addr}{u:HO}{ys:List V}(h:ObR K ρ H o a) (hp:H p=some (.lst ys)) (hn:o.mut=true->a≠p):ObR K ρ (upd H p u) o a:=h.writtenG hp (zqx ys) hn
theorem ObR.more {o:Ob}{a:Addr}(h:ObR K ρ H o a) (e:Ext0 ρ H ρ' H):ObR K ρ' H o a:=by
 cases o with
 | lst xs=>obtain ⟨vs,e1,r⟩:=h;exact ⟨vs,e1,r.mono0 e⟩
 | flst xs=>obtain ⟨vs,e1,r⟩:=h;exact ⟨vs,e1,r.mono0 e⟩
 | iset f n=>exact h
 | dct kvs=>obtain ⟨vs,e1,r⟩:=h;exact ⟨vs,e1,r.mono0 e⟩
 | tdct kvs=>obtain ⟨vs,e1,r⟩:=h;exact ⟨vs,e1,r.mono0 e⟩
 | fdct kvs=>obtain ⟨o,vs,e1,r⟩:=h;exact ⟨o,vs,e1,r.mono0 e⟩
 | ftdct kvs=>obtain ⟨o,vs,e1,r⟩:=h;exact ⟨o,vs,e1,r.mono0 e⟩
 | tset ks=>exact h
 | fnc x=>exact h
 | exc c=>exact h
 | tab x=>exact h
 | lam g caps=>obtain ⟨cs,pm,c,ctv,e1,k,r⟩:=h;exact ⟨cs,pm,c,ctv,e1,k,r.mono e⟩
 | dead=>exact h
theorem Sim.laid (s:Sim K ρ S H) {p:Addr}{u:HO}(hp:H p=none):Sim K ρ S (upd H p u) :=
 ⟨s.len,s.nd,λn a o h1 h2=>(s.at' n a o h1 h2).laid hp⟩
theorem Sim.lst {n:Nat}{xs:List D}(s:Sim K ρ S H) (h:S[n]? = some (.lst xs)):∃a vs,ρ[n]? = some a/\H a=some (.lst vs)/\RDs ρ H xs vs:=by
 have hl:n<ρ.length:=by rw [s.len];exact (qme h).1
 obtain ⟨vs,e,r⟩:=s.at' n _ _ (qge hl) h
 exact ⟨_,vs,qge hl,e,r⟩
noncomputable def lstOf (S:Sto) (n:Nat):Option (List D):=match S[n]? with
 | some (.lst xs)=>some xs
 | some (.flst xs)=>some xs
 | _=>none
theorem Sim.lstOf {n:Nat}{xs:List D}(s:Sim K ρ S H) (h:L3.lstOf S n=some xs):∃a vs,ρ[n]? = some a/\SqL K H a vs/\RDs ρ H xs vs:=by
 unfold L3.lstOf at h
 cases e:S[n]? with
 | none=>rw [e] at h;cases h
 | some o =>
  have hl:n<ρ.length:=by rw [s.len];exact (qme e).1
  have q:=s.at' n _ _ (qge hl) e
  rw [e] at h
  cases o with
  | lst ys =>
   cases h
   obtain ⟨vs,e1,r⟩:=q
   exact ⟨_,vs,qge hl,.inl (.inl e1),r⟩
  | flst ys =>
   cases h
   obtain ⟨vs,e1,r⟩:=q
   exact ⟨_,vs,qge hl,e1.sq,r⟩
  | iset f n=>cases h
  | dct kvs=>cases h
  | fdct kvs=>cases h
  | ftdct kvs=>cases h
  | tset ks=>cases h
  | fnc x=>cases h
  | tdct kvs=>cases h
  | exc c=>cases h
  | tab x=>cases h
  | lam g caps=>cases h
  | dead=>cases h
theorem Sim.setG {n:Nat}{a:Addr}{o0 o1:Ob}{u0 u1:HO}(s:Sim K ρ S H) (ha:ρ[n]? = some a) (hS:S[n]? = some o0) (hm0:o0.mut=true) (hH:H a=some u0) (hu:zf0 u0) (r:ObR K ρ (upd H a u1) o1 a):Sim K ρ (S.set n o1) (upd H a u1):=by
 have hl:n<S.length:=(qme hS).1
 have key:∀(m:Nat) (w:Ob),w.mut=true->(S.set n o1)[m]? = some w->∃w',S[m]? = some w'/\w'.mut=true:=λm w hw h=>by
  by_cases hmn:n=m
  ·subst hmn;exact ⟨_,hS,hm0⟩
  ·rw [List.getElem?_set_ne hmn] at h;exact ⟨_,h,hw⟩
 refine ⟨by rw [List.length_set];exact s.len,λi j b x1 x2 h1 h2 h3 h4 m1 m2=>?_,λm b o h1 h2=>?_⟩
 ·obtain ⟨_,h3,q3⟩:=key i x1 m1 h3
  obtain ⟨_,h4,q4⟩:=key j x2 m2 h4
  exact s.nd i j b _ _ h1 h2 h3 h4 q3 q4
 by_cases hmn:n=m
 ·subst hmn
  rw [ha] at h1;cases h1
  rw [List.getElem?_set_self hl] at h2
  cases h2
  exact r
 ·rw [List.getElem?_set_ne hmn] at h2
  exact (s.at' m b o h1 h2).writtenG hH hu (λe z=>hmn (s.nd n m a _ _ ha (by rw [h1,z]) hS h2 hm0 e))
theorem Sim.set {n:Nat}{a:Addr}{ys:List V}{xs zs:List D}{vs:List V}(s:Sim K ρ S H) (ha:ρ[n]? = some a) (hS:S[n]? = some (.lst zs)) (hH:H a=some (.lst ys)) (r:RDs ρ H xs vs):Sim K ρ (S.set n (.lst xs)) (upd H a (.lst vs)) :=
 s.setG ha hS rfl hH (zqx ys) ⟨vs,zbf,r.mono0 (zj2 hH)⟩
theorem ext0_push {a:Addr}:Ext0 ρ H (ρ++[a]) H :=
 ⟨λn b h=>by rw [List.getElem?_append_left (qme h).1];exact h,λ_ _ h=>h,λ_ _ _ h=>h⟩
theorem zb3 {α:Type}{l:List α}{a b:α}{n:Nat}(h:(l++[a])[n]? = some b):l[n]? = some b\/(n=l.length/\b=a):=by
 by_cases hl:n<l.length
 ·rw [List.getElem?_append_left hl] at h;exact .inl h
 ·rw [List.getElem?_append_right (by omega)] at h
  have:n-l.length=0:=by
   have:=(qme h).1
   simp at this;omega
  rw [this] at h;simp at h
  exact .inr ⟨by omega,h.symm⟩
theorem zqy {a:Addr}{vs:List V}(ha:H a=none):Ext ρ H (ρ++[a]) (upd H a (.lst vs)) :=
 ⟨⟨ext0_push.pre (H:=H),λb us h=>by rw [zan (zbc h ha)];exact h,λb o us h=>by rw [zan (zbc h ha)];exact h⟩,λb us h n=>⟨by rw [zan (zbc h ha)];exact h,λi hi=>by
  rcases zb3 hi with hi|⟨_,e⟩
  ·exact n i hi
  ·rw [e,ha] at h;cases h⟩⟩
theorem zg8 {a:Addr}{u:HO}(ha:H a=none):Ext ρ H (ρ++[a]) (upd H a u) :=
 ⟨⟨ext0_push.pre (H:=H),λb us h=>by rw [zan (zbc h ha)];exact h,λb o us h=>by rw [zan (zbc h ha)];exact h⟩,λb us h n=>⟨by rw [zan (zbc h ha)];exact h,λi hi=>by
  rcases zb3 hi with hi|⟨_,e⟩
  ·exact n i hi
  ·rw [e,ha] at h;cases h⟩⟩
theorem Sim.pushG {a:Addr}{o1:Ob}{u:HO}(s:Sim K ρ S H) (ha:H a=none) (r:ObR K (ρ++[a]) (upd H a u) o1 a):Sim K (ρ++[a]) (S++[o1]) (upd H a u):=by
 have no:∀(n:Nat) (o:Ob),o.mut=true->ρ[n]? = some a->S[n]? = some o->False:=λn o hm h1 h2=>by
  have q:=s.at' n a _ h1 h2
  cases o with
  | lst xs=>obtain ⟨vs,e,_⟩:=q;rw [ha] at e;cases e
  | flst xs=>cases hm
  | iset f n=>have q:H a=_:=q;rw [ha] at q;cases q
  | dct kvs=>obtain ⟨vs,e,_⟩:=q;rw [ha] at e;cases e
  | tdct kvs=>obtain ⟨vs,e,_⟩:=q;rw [ha] at e;cases e
  | fdct kvs=>obtain ⟨o,vs,e,_⟩:=q;rw [ha] at e;cases e
  | ftdct kvs=>obtain ⟨o,vs,e,_⟩:=q;rw [ha] at e;cases e
  | tset ks=>obtain ⟨xs,_,e,_⟩:=q;rw [ha] at e;cases e
  | fnc x=>cases hm
  | exc c=>obtain ⟨C,_,e⟩:=q;rw [ha] at e;cases e
  | tab x=>obtain ⟨_,_,_,_,e,_⟩:=q;rw [ha] at e;cases e
  | lam g caps=>cases hm
  | dead=>cases hm
 refine ⟨by simp [s.len],λi j b x1 x2 h1 h2 h3 h4 m1 m2=>?_,λn b o h1 h2=>?_⟩
 ·rcases zb3 h3 with h3|⟨e3,_⟩ <;> rcases zb3 h4 with h4|⟨e4,_⟩
  ·have l1:=(qme h3).1
   have l2:=(qme h4).1
   rcases zb3 h1 with h1|⟨e1,f1⟩ <;> rcases zb3 h2 with h2|⟨e2,f2⟩
   ·exact s.nd i j b _ _ h1 h2 h3 h4 m1 m2
   ·have:=s.len;omega
   ·have:=s.len;omega
   ·have:=s.len;omega
  ·have l1:=(qme h3).1
   rcases zb3 h2 with h2|⟨e2,f2⟩
   ·have:=(qme h2).1;have:=s.len;omega
   ·subst f2
    rcases zb3 h1 with h1|⟨e1,_⟩
    ·exact (no i _ m1 h1 h3).elim
    ·have:=s.len;omega
  ·have l1:=(qme h4).1
   rcases zb3 h1 with h1|⟨e2,f2⟩
   ·have:=(qme h1).1;have:=s.len;omega
   ·subst f2
    rcases zb3 h2 with h2|⟨e1,_⟩
    ·exact (no j _ m2 h2 h4).elim
    ·have:=s.len;omega
  ·omega
 ·rcases zb3 h2 with h2|⟨e2,f2⟩
  ·rcases zb3 h1 with h1|⟨e1,f1⟩
   ·exact ((s.at' n b o h1 h2).laid ha).more ext0_push
   ·have:=(qme h2).1;have:=s.len;omega
  ·rcases zb3 h1 with h1|⟨e1,f1⟩
   ·have:=(qme h1).1;have:=s.len;omega
   ·subst f1 f2
    exact r
theorem Sim.push {a:Addr}{xs:List D}{vs:List V}(s:Sim K ρ S H) (ha:H a=none) (r:RDs ρ H xs vs):Sim K (ρ++[a]) (S++[.lst xs]) (upd H a (.lst vs)) :=
 s.pushG ha ⟨vs,zbf,r.mono (zqy ha)⟩
theorem za5 {α:Type}(l:List α) (a:α):(l++[a])[l.length]? = some a:=by
 rw [List.getElem?_append_right (qlr _)];simp
end
structure RO (ρ:List Addr) (H:Hp) (l:Lo) (σ:St):Prop where
 len:l.length=σ.length
 get:∀(i:Nat) (d:D),l[i]? = some (some d)->∃v,σ[i]? = some (some v)/\RD ρ H d v
theorem RO.mono {ρ ρ':List Addr}{H H':Hp}{l:Lo}{σ:St}(r:RO ρ H l σ) (e:Ext ρ H ρ' H'):RO ρ' H' l σ :=
 ⟨r.len,λi d h=>let ⟨v,h1,h2⟩:=r.get i d h;⟨v,h1,h2.mono e⟩⟩
theorem RO.set {ρ:List Addr}{H:Hp}{l:Lo}{σ:St}{d:D}{v:V}(r:RO ρ H l σ) (i:Nat) (h:RD ρ H d v):RO ρ H (l.set i (some d)) (σ.set i (some v)):=by
 refine ⟨by simp [r.len],λj x hj=>?_⟩
 by_cases hij:i=j
 ·subst hij
  have hl:i<l.length:=by have:=(qme hj).1;simpa using this
  rw [List.getElem?_set_self hl] at hj
  cases hj
  exact ⟨v,List.getElem?_set_self (by rw [<-r.len];exact hl),h⟩
 ·rw [List.getElem?_set_ne hij] at hj
  rw [List.getElem?_set_ne hij]
  exact r.get j x hj
abbrev EM:=Lo->Sto->Option (D × Sto)
abbrev TM:=Lo->Sto->Option (Bool × Sto)
abbrev AM:=Lo->Sto->Option (List D × Sto)
abbrev FM:=List D->Sto->Option (D × Sto)
inductive Fl where
 | nx|bk|ct|rt (d:D)
abbrev SM:=Lo->Sto->Option (Fl × Lo × Sto)
abbrev GM:=D->Lo->Sto->Option (Lo × Sto)
abbrev GsM:=List D->Lo->Sto->Option (Lo × Sto)
def Pv (K:QFg) (ρ:List Addr) (H:Hp) (v:D) (S:Sto) (Q:VK):Prop:=∀ρ' H' v',Ext ρ H ρ' H'->Sim K ρ' S H'->RD ρ' H' v v'->Q v' H'
theorem Pv.ext {K:QFg}{ρ ρ1:List Addr}{H H1:Hp}{v:D}{S:Sto}{Q:VK}(p:Pv K ρ H v S Q) (e:Ext ρ H ρ1 H1):Pv K ρ1 H1 v S Q:=λρ' H' v' e' s r=>p ρ' H' v' (e.trans e') s r
inductive te (K:QFg) (m:EM) (σ:St) (H:Hp) (Q:VK):Prop
 | mk (ρ:_) (l:_) (S:_) (v:_) (S':_) (_:Sim K ρ S H) (_:RO ρ H l σ) (_:m l S=some (v,S')) (_:Pv K ρ H v S' Q)
inductive tt (K:QFg) (m:TM) (σ:St) (H:Hp) (Q:Bool->Hp->Prop):Prop
 | mk (ρ:_) (l:_) (S:_) (v:_) (S':_) (_:Sim K ρ S H) (_:RO ρ H l σ) (_:m l S=some (v,S')) (_:∀ρ' H',Ext ρ H ρ' H'->Sim K ρ' S' H'->Q v H')
inductive ta (K:QFg) (m:AM) (σ:St) (H:Hp) (Q:List V->Hp->Prop):Prop
 | mk (ρ:_) (l:_) (S:_) (v:_) (S':_) (_:Sim K ρ S H) (_:RO ρ H l σ) (_:m l S=some (v,S')) (_:∀ρ' H' vs,Ext ρ H ρ' H'->Sim K ρ' S' H'->RDs ρ' H' v vs->Q vs H')
def zfh (ρ:List Addr) (H:Hp) (E:Ends) (σ:St):Fl->Prop
 | .nx=>E.nx σ H
 | .bk=>E.bk σ H
 | .ct=>E.ct σ H
 | .rt d=>∀v,RD ρ H d v->E.rt v H
inductive ts (K:QFg) (m:SM) (E:Ends) (σ:St) (H:Hp):Prop
 | mk (ρ:_) (l:_) (S:_) (f:_) (l':_) (S':_) (_:Sim K ρ S H) (_:RO ρ H l σ) (_:m l S=some (f,l',S')) (_:∀ρ' H' σ',Ext ρ H ρ' H'->Sim K ρ' S' H'->RO ρ' H' l' σ'->zfh ρ' H' E σ' f)
inductive tg (K:QFg) (g:GM) (v:V) (σ:St) (H:Hp) (Q:St->Hp->Prop):Prop
 | mk (ρ:_) (l:_) (S:_) (d:_) (l':_) (S':_) (_:Sim K ρ S H) (_:RO ρ H l σ) (_:RD ρ H d v) (_:g d l S=some (l',S')) (_:∀ρ' H' σ',Ext ρ H ρ' H'->Sim K ρ' S' H'->RO ρ' H' l' σ'->Q σ' H')
inductive tgs (K:QFg) (g:GsM) (vs:List V) (σ:St) (H:Hp) (Q:St->Hp->Prop):Prop
 | mk (ρ:_) (l:_) (S:_) (ds:_) (l':_) (S':_) (_:Sim K ρ S H) (_:RO ρ H l σ) (_:RDs ρ H ds vs) (_:g ds l S=some (l',S')) (_:∀ρ' H' σ',Ext ρ H ρ' H'->Sim K ρ' S' H'->RO ρ' H' l' σ'->Q σ' H')
def PE3 (X:Cx) (e:Expr) (m:EM):Prop:=PE X e (te X.K m)
def PT3 (X:Cx) (e:Expr) (m:TM):Prop:=PT X e (tt X.K m)
def PW3 (X:Cx) (e:Expr) (m:TM):Prop:=PW X e (tt X.K m)
def PA3 (X:Cx) (es:List Expr) (m:AM):Prop:=PA X es (ta X.K m)
def PS3 (X:Cx) (st:Stmt) (m:SM):Prop:=PS X st (ts X.K m)
def zct (X:Cx) (st:List Stmt) (m:SM):Prop:=PSs X st (ts X.K m)
def PG3 (X:Cx) (tg':Expr) (m:GM):Prop:=PG X tg' (tg X.K m)
def zj5 (X:Cx) (ts':List Expr) (m:GsM):Prop:=PGs X ts' (tgs X.K m)
theorem PE.imp {X:Cx}{e:Expr}{t u:TE}(h:PE X e t) (i:∀σ H Q,u σ H Q->t σ H Q):PE X e u:=λpins s σ H Q I q=>h pins s σ H Q I (i _ _ _ q)
theorem PT.imp {X:Cx}{e:Expr}{t u:TT}(h:PT X e t) (i:∀σ H Q,u σ H Q->t σ H Q):PT X e u:=λpins s σ H Q I q=>h pins s σ H Q I (i _ _ _ q)
theorem PW.imp {X:Cx}{e:Expr}{t u:TT}(h:PW X e t) (i:∀σ H Q,u σ H Q->t σ H Q):PW X e u:=λwh pins s σ H Q I q=>h wh pins s σ H Q I (i _ _ _ q)
theorem PA.imp {X:Cx}{e:List Expr}{t u:TA}(h:PA X e t) (i:∀σ H Q,u σ H Q->t σ H Q):PA X e u:=λpos pins s σ H Q I q=>h pos pins s σ H Q I (i _ _ _ q)
theorem PS.imp {X:Cx}{e:Stmt}{t u:TS}(h:PS X e t) (i:∀E σ H,u E σ H->t E σ H):PS X e u:=λpins s σ H Q I q=>h pins s σ H Q I (i _ _ _ q)
theorem PSs.imp {X:Cx}{e:List Stmt}{t u:TS}(h:PSs X e t) (i:∀E σ H,u E σ H->t E σ H):PSs X e u:=λpins s σ H Q I q=>h pins s σ H Q I (i _ _ _ q)
theorem PG.imp {X:Cx}{e:Expr}{t u:TG}(h:PG X e t) (i:∀v σ H Q,u v σ H Q->t v σ H Q):PG X e u:=λpins s σ H v w Q I r q=>h pins s σ H v w Q I r (i _ _ _ _ q)
theorem PGs.imp {X:Cx}{e:List Expr}{t u:TGs}(h:PGs X e t) (i:∀v σ H Q,u v σ H Q->t v σ H Q):PGs X e u:=λpins s σ H v w Q I r q=>h pins s σ H v w Q I r (i _ _ _ _ q)
inductive Bnd {α β:Type} (o:Option α) (f:α->Option β) (b:β):Prop
 | mk (a:α) (_:o=some a) (_:f a=some b)
theorem bnd {α β:Type}{o:Option α}{f:α->Option β}{b:β}(h:o.bind f=some b):Bnd o f b:=by
 obtain ⟨a,h1,h2⟩:=Option.bind_eq_some_iff.mp h
 exact ⟨a,h1,h2⟩
noncomputable def zaa (i:Nat):EM:=λl S=>match l[i]? with
 | some (some d)=>some (d,S)
 | _=>none
noncomputable def eC (d:D):EM:=λ_ S=>some (d,S)
noncomputable def eOp (f:D->D->Sto->Option (D × Sto)) (a b:EM):EM:=λl S=>(a l S).bind λp=>(b l p.2).bind λq=>f p.1 q.1 q.2
noncomputable def eUn (f:D->Sto->Option (D × Sto)) (a:EM):EM:=λl S=>(a l S).bind λp=>f p.1 p.2
noncomputable def zae:AM:=λ_ S=>some ([],S)
noncomputable def zab (a:EM) (r:AM):AM:=λl S=>(a l S).bind λp=>(r l p.2).bind λq=>some (p.1 :: q.1,q.2)
noncomputable def zaf (f:FM) (as:AM):EM:=λl S=>(as l S).bind λp=>f p.1 p.2
noncomputable def tE (a:EM):TM:=λl S=>(a l S).bind λp=>match p.1 with
 | .bl b=>some (b,p.2)
 | _=>none
noncomputable def zf1 (a b:TM):TM:=λl S=>(a l S).bind λp=>if p.1=true then b l p.2 else some (false,p.2)
noncomputable def zcb (a b:TM):TM:=λl S=>(a l S).bind λp=>if p.1=true then some (true,p.2) else b l p.2
noncomputable def zck (a:TM):TM:=λl S=>(a l S).bind λp=>some (!p.1,p.2)
noncomputable def zfi (a b:EM):EM:=λl S=>(a l S).bind λp=>match p.1 with
 | .bl true=>b l p.2
 | .bl false=>some (.bl false,p.2)
 | _=>none
noncomputable def zj6 (a:EM):EM:=λl S=>(a l S).bind λp=>match p.1 with
 | .bl b=>some (.bl (!b),p.2)
 | _=>none
def Op3 (K:QFg) (f:D->D->Sto->Option (D × Sto)) (r:R2):Prop :=
 ∀ρ S H x y x' y' v S' Q,Sim K ρ S H->RD ρ H x x'->RD ρ H y y'->f x y S=some (v,S')->Pv K ρ H v S' Q->r x' y' H Q
def Fn3 (K:QFg) (f:FM) (r:List V->Hp->VK->Prop):Prop :=
 ∀ρ S H xs vs v S' Q,Sim K ρ S H->RDs ρ H xs vs->f xs S=some (v,S')->Pv K ρ H v S' Q->r vs H Q
def Mt3 (K:QFg) (f:D->List D->Sto->Option (D × Sto)) (r:V->List V->Hp->VK->Prop):Prop :=
 ∀ρ S H x x' xs vs v S' Q,Sim K ρ S H->RD ρ H x x'->RDs ρ H xs vs->f x xs S=some (v,S')->Pv K ρ H v S' Q->r x' vs H Q
theorem zg9 {K:QFg}{f:D->D->Sto->Option (D × Sto)}{r:R2}(h:Op3 K f r) {a b:EM}(σ:St) (H:Hp) (Q:VK) (q:te K (eOp f a b) σ H Q):tOp r (te K a) (te K b) σ H Q:=by
 obtain ⟨ρ,l,S,v,S',sim,ro,hm,p⟩:=q
 obtain ⟨⟨x,S1⟩,h1,hm⟩:=bnd hm
 obtain ⟨⟨y,S2⟩,h2,hm⟩:=bnd hm
 exact ⟨ρ,l,S,x,S1,sim,ro,h1,λρ1 H1 x' e1 s1 r1=>⟨ρ1,l,S1,y,S2,s1,ro.mono e1,h2,λρ2 H2 y' e2 s2 r2=>h ρ2 S2 H2 x y x' y' v S' Q s2 (r1.mono e2) r2 hm (p.ext (e1.trans e2))⟩⟩
section
variable {X:Cx}{a b c:Expr}{es:List Expr}{ma mb:EM}{mA:AM}{pos:Pos}
theorem zac (i:Nat) {x:Str}(hN:X.N[i]? = some x:=by rfl) (hv:Vis X.env.scope x:=by first|exact Or.inl rfl|exact Or.inr (Or.inl rfl)|exact Or.inr (Or.inr rfl)) (hd:(x == ("__debug__":Str))=false:=by decide)
  (hcd:(x == ("__classdict__":Str))=false:=by decide):PE3 X (.Name x pos) (zaa i) :=
 PE.imp (zjv hN hv hd hcd) λσ H Q hx1_=>by
  obtain ⟨ρ,l,S,v,S',sim,ro,hm,p⟩:=hx1_
  unfold zaa at hm
  split at hm
  ·rename_i d e
   cases hm
   obtain ⟨w,h1,h2⟩:=ro.get i _ e
   exact ⟨w,h1,p ρ H w (Ext.refl ..) sim h2⟩
  ·cases hm
theorem zic {K:QFg}{d:D}{v:V}(h:∀ρ H,RD ρ H d v) (σ:St) (H:Hp) (Q:VK) (q:te K (eC d) σ H Q):tC v σ H Q:=by
 obtain ⟨ρ,l,S,w,S',sim,ro,hm,p⟩:=q
 cases hm
 exact p ρ H v (Ext.refl ..) sim (h ρ H)
theorem zai {i j}:PE3 X (.Constant (.int i) j pos) (eC (.int i)):=PE.imp zl3 (zic λ_ _=>.int i)
theorem zdk {i j}:PE3 X (.Constant (.bool i) j pos) (eC (.bl i)):=PE.imp zwn (zic λ_ _=>.bl i)
theorem zda {j}:PE3 X (.Constant .none j pos) (eC .non):=PE.imp zwo (zic λ_ _=>.non)
theorem zbv {i j}:PE3 X (.Constant (.str i) j pos) (eC (.str i)):=PE.imp zh3 (zic λ_ _=>.str i)
theorem zmq {x:Str}{i:Int}{t:Tok}(hg:Gl X x) (hm:X.mg x=some (.int i t)) (hd:(x == ("__debug__":Str))=false:=by decide):PE3 X (.Name x pos) (eC (.int i)) :=
 PE.imp (zwp hg hm (v:=.int i) ⟨t,rfl⟩ hd) (zic λ_ _=>.int i)
theorem zey {op:Operator}{f:D->D->Sto->Option (D × Sto)}{r:R2}(ho:OpR X (binaryOp op) r) (h3:Op3 X.K f r) (ha:PE3 X a ma) (hb:PE3 X b mb):PE3 X (.BinOp a op b pos) (eOp f ma mb):=PE.imp (zpj ho ha hb) (zg9 h3)
theorem zqz {op:CmpOp}{f:D->D->Sto->Option (D × Sto)}{r:R2}(ho:OpR X (compareOp op) r) (h3:Op3 X.K f r) (ha:PE3 X a ma) (hb:PE3 X b mb) (hm:behindInMarks op b=false):PE3 X (.Compare a [op] [b] pos) (eOp f ma mb):=PE.imp (zx6 ho ha hb hm) (zg9 h3)
theorem zq0 {K:QFg}{m:EM}(σ:St) (H:Hp) (Q:Bool->Hp->Prop) (q:tt K (tE m) σ H Q):te K m σ H λx H'=>∃k,x=.bl k/\Q k H':=by
 obtain ⟨ρ,l,S,v,S',sim,ro,hm,p⟩:=q
 obtain ⟨⟨x,S1⟩,h1,hm⟩:=bnd hm
 refine ⟨ρ,l,S,x,S1,sim,ro,h1,λρ' H' v' e s r=>?_⟩
 cases r with
 | bl k=>cases hm;exact ⟨_,rfl,p ρ' H' e s⟩
 | _=>cases hm
theorem zez {op:CmpOp}{f:D->D->Sto->Option (D × Sto)}{r:R2}(ho:OpR X (compareOp op) r) (h3:Op3 X.K f r) (ha:PE3 X a ma) (hb:PE3 X b mb) (hm:behindInMarks op b=false):PT3 X (.Compare a [op] [b] pos) (tE (eOp f ma mb)) :=
 PT.imp (zx8 ho ha hb hm) λσ H Q q=>zg9 h3 σ H _ (zq0 σ H Q q)
theorem zd0 {m:EM}(h:PE3 X a m) (he:∀whole,isTrue a X.env whole=(do let v <-whole;standAt a.pos;holding [v] (truthy v)):=by intro _;rfl):PT3 X a (tE m) :=
 PT.imp (zpb h he) λσ H Q q=>zq0 σ H Q q
noncomputable def zha (f g:D->D->Sto->Option (D × Sto)) (a b c:EM):EM:=λl S=>(a l S).bind λp=>(b l p.2).bind λq=>(f p.1 q.1 q.2).bind λr=>match r.1 with
 | .bl true=>(c l r.2).bind λs=>g q.1 s.1 s.2
 | .bl false=>some (.bl false,r.2)
 | _=>none
theorem zzw {K:QFg}{f g:D->D->Sto->Option (D × Sto)}{r r':R2}(h:Op3 K f r) (h':Op3 K g r') {a b c:EM}(σ:St) (H:Hp) (Q:VK) (q:te K (zha f g a b c) σ H Q):zpr r r' (te K a) (te K b) (te K c) σ H Q:=by
 obtain ⟨ρ,l,S,v,S',sim,ro,hm,p⟩:=q
 obtain ⟨⟨x,S1⟩,h1,hm⟩:=bnd hm
 obtain ⟨⟨y,S2⟩,h2,hm⟩:=bnd hm
 obtain ⟨⟨z,S3⟩,h3,hm⟩:=bnd hm
 refine ⟨ρ,l,S,x,S1,sim,ro,h1,λρ1 H1 x' e1 s1 r1=>⟨ρ1,l,S1,y,S2,s1,ro.mono e1,h2,λρ2 H2 y' e2 s2 r2=>?_⟩⟩
 refine h ρ2 S2 H2 x y x' y' z S3 _ s2 (r1.mono e2) r2 h3 λρ3 H3 z' e3 s3 r3=>?_
 cases r3 with
 | bl k =>
  refine ⟨k,rfl,?_⟩
  cases k with
  | false =>
   cases hm
   exact zfx (p ρ3 H3 _ (e1.trans (e2.trans e3)) s3 (.bl false))
  | true =>
   obtain ⟨⟨w,S4⟩,h4,hm⟩:=bnd hm
   exact zfy ⟨ρ3,l,S3,w,S4,s3,ro.mono (e1.trans (e2.trans e3)),h4,λρ4 H4 w' e4 s4 r4=>h' ρ4 S4 H4 y w y' w' v S' Q s4 (r2.mono (e3.trans e4)) r4 hm (p.ext (e1.trans (e2.trans (e3.trans e4))))⟩
 | _=>cases hm
theorem zzx {op op':CmpOp}{f g:D->D->Sto->Option (D × Sto)}{r r':R2}{mc:EM}(ho:OpR X (compareOp op) r) (ho':OpR X (compareOp op') r') (h3:Op3 X.K f r) (h3':Op3 X.K g r') (ha:PE3 X a ma) (hb:PE3 X b mb) (hc:PE3 X c mc)
  (hm:lastMarks [op,op'] [b,c]=false:=by with_unfolding_all rfl):PE3 X (.Compare a [op,op'] [b,c] pos) (zha f g ma mb mc):=PE.imp (zx9 ho ho' ha hb hc hm) (zzw h3 h3')
variable {t u:TM}{rest:List Expr}
theorem zzy {K:QFg}(σ:St) (H:Hp) (Q:Bool->Hp->Prop) (q:tt K (zf1 t u) σ H Q):L2.tAnd (tt K t) (tt K u) σ H Q:=by
 obtain ⟨ρ,l,S,v,S',sim,ro,hm,p⟩:=q
 obtain ⟨⟨x,S1⟩,h1,hm⟩:=bnd hm
 refine ⟨ρ,l,S,x,S1,sim,ro,h1,λρ1 H1 e1 s1=>?_⟩
 cases x with
 | true=>exact zfy ⟨ρ1,l,S1,v,S',s1,ro.mono e1,hm,λρ2 H2 e2 s2=>p ρ2 H2 (e1.trans e2) s2⟩
 | false=>cases hm;exact zfx (p ρ1 H1 e1 s1)
theorem zzz {K:QFg}(σ:St) (H:Hp) (Q:Bool->Hp->Prop) (q:tt K (zcb t u) σ H Q):L2.tOr (tt K t) (tt K u) σ H Q:=by
 obtain ⟨ρ,l,S,v,S',sim,ro,hm,p⟩:=q
 obtain ⟨⟨x,S1⟩,h1,hm⟩:=bnd hm
 refine ⟨ρ,l,S,x,S1,sim,ro,h1,λρ1 H1 e1 s1=>?_⟩
 cases x with
 | false=>exact zfx ⟨ρ1,l,S1,v,S',s1,ro.mono e1,hm,λρ2 H2 e2 s2=>p ρ2 H2 (e1.trans e2) s2⟩
 | true=>cases hm;exact zfy (p ρ1 H1 e1 s1)
theorem zq1 (ha:PT3 X a t):PW3 X (.BoolOp .And [a] pos) t:=zwr ha
theorem zid (ha:PT3 X a t):PW3 X (.BoolOp .Or [a] pos) t:=zws ha
theorem zq2 (ha:PT3 X a t) (hb:PW3 X (.BoolOp .And (b :: rest) pos) u):PW3 X (.BoolOp .And (a :: b :: rest) pos) (zf1 t u):=PW.imp (zwt ha hb) zzy
theorem zf2 (ha:PT3 X a t) (hb:PW3 X (.BoolOp .Or (b :: rest) pos) u):PW3 X (.BoolOp .Or (a :: b :: rest) pos) (zcb t u):=PW.imp (zwu ha hb) zzz
theorem zf3 (h:PW3 X a t):PT3 X a t:=PW.pt h
theorem zfj (ha:PT3 X a t):PT3 X (.UnaryOp .Not a pos) (zck t):=PT.imp (zpc ha) λσ H Q hx2_=>by
 obtain ⟨ρ,l,S,v,S',sim,ro,hm,p⟩:=hx2_
 obtain ⟨⟨x,S1⟩,h1,hm⟩:=bnd hm
 cases hm
 exact ⟨ρ,l,S,x,S1,sim,ro,h1,p⟩
theorem zq3 {op}(h:PE3 X a ma):PE3 X (.BoolOp op [a] pos) ma:=zwx h
theorem zmr (ha:PE3 X a ma) (hb:PE3 X (.BoolOp .And (b :: rest) pos) mb):PE3 X (.BoolOp .And (a :: b :: rest) pos) (zfi ma mb):=PE.imp (zwy ha hb) λσ H Q hx3_=>by
 obtain ⟨ρ,l,S,v,S',sim,ro,hm,p⟩:=hx3_
 obtain ⟨⟨x,S1⟩,h1,hm⟩:=bnd hm
 refine ⟨ρ,l,S,x,S1,sim,ro,h1,λρ1 H1 x' e1 s1 r1=>?_⟩
 cases r1 with
 | bl k =>
  refine ⟨k,rfl,?_⟩
  cases k with
  | true=>exact zfy ⟨ρ1,l,S1,v,S',s1,ro.mono e1,hm,p.ext e1⟩
  | false=>cases hm;exact zfx (p ρ1 H1 _ e1 s1 (.bl false))
 | _=>cases hm
theorem zz0 (ha:PE3 X a ma):PE3 X (.UnaryOp .Not a pos) (zj6 ma):=PE.imp (zwz ha) λσ H Q hx5_=>by
 obtain ⟨ρ,l,S,v,S',sim,ro,hm,p⟩:=hx5_
 obtain ⟨⟨x,S1⟩,h1,hm⟩:=bnd hm
 refine ⟨ρ,l,S,x,S1,sim,ro,h1,λρ1 H1 x' e1 s1 r1=>?_⟩
 cases r1 with
 | bl k=>cases hm;exact ⟨k,rfl,p ρ1 H1 _ e1 s1 (.bl _)⟩
 | _=>cases hm
theorem zag:PA3 X [] zae:=PA.imp zex λσ H Q hx7_=>by
 obtain ⟨ρ,l,S,v,S',sim,ro,hm,p⟩:=hx7_
 cases hm
 exact p ρ H [] (Ext.refl ..) sim .nil
theorem zad (ha:PE3 X a ma) (hr:PA3 X es mA) (hs:starEach (a :: es) X.env=(false,eval a X.env) :: starEach es X.env:=by rfl):PA3 X (a :: es) (zab ma mA):=PA.imp (zcz ha hr hs) λσ H Q hx8_=>by
 obtain ⟨ρ,l,S,v,S',sim,ro,hm,p⟩:=hx8_
 obtain ⟨⟨x,S1⟩,h1,hm⟩:=bnd hm
 obtain ⟨⟨y,S2⟩,h2,hm⟩:=bnd hm
 cases hm
 exact ⟨ρ,l,S,x,S1,sim,ro,h1,λρ1 H1 x' e1 s1 r1=>⟨ρ1,l,S1,y,_,s1,ro.mono e1,h2,λρ2 H2 vs e2 s2 r2=>p ρ2 H2 _ (e1.trans e2) s2 (.cons (r1.mono e2) r2)⟩⟩
noncomputable def zbs:FM:=λxs S=>if xs.length<=sizeLine then some (.tup xs,S) else none
noncomputable def zb4:FM:=λxs S=>if xs.length<=sizeLine then some (.ref S.length,S++[.lst xs]) else none
theorem za8 {α:Type}{c:Prop} [Decidable c] {a b:α}(h:(if c then some a else none)=some b):c/\a=b:=by
 by_cases hc:c
 ·rw [if_pos hc] at h;exact ⟨hc,qoi h⟩
 ·rw [if_neg hc] at h;cases h
theorem zie {K:QFg}{ρ:List Addr}{S:Sto}{H:Hp}{xs:List D}{vs:List V}{Q:VK}(sim:Sim K ρ S H) (r:RDs ρ H xs vs) (p:Pv K ρ H (.tup xs) S Q):∀a,H a=none->Q (.ref a) (upd H a (.tup vs)):=λa ha =>
 p ρ _ _ (zbu ha) (sim.laid ha) (.tup zbf (r.mono (zbu ha)))
theorem zf4 {K:QFg}{ρ:List Addr}{S:Sto}{H:Hp}{xs:List D}{vs:List V}{Q:VK}(sim:Sim K ρ S H) (r:RDs ρ H xs vs) (p:Pv K ρ H (.ref S.length) (S++[.lst xs]) Q):∀a,H a=none->Q (.ref a) (upd H a (.lst vs)):=λa ha =>
 p (ρ++[a]) _ _ (zqy ha) (sim.push ha r) (.ref (by rw [<-sim.len];exact za5 ρ a))
theorem zb5 {x1}(h:PA3 X es mA):PE3 X (.Tuple es x1 pos) (zaf zbs mA):=PE.imp (zps h) λσ H Q hx9_=>by
 obtain ⟨ρ,l,S,v,S',sim,ro,hm,p⟩:=hx9_
 obtain ⟨⟨x,S1⟩,h1,hm⟩:=bnd hm
 obtain ⟨hz,e⟩:=za8 hm
 cases e
 exact ⟨ρ,l,S,x,_,sim,ro,h1,λρ1 H1 vs e1 s1 r1=>⟨by rw [<-r1.length];exact hz,zie s1 r1 (p.ext e1)⟩⟩
theorem zce (h:PA3 X es mA):PE3 X (.List es pos) (zaf zb4 mA):=PE.imp (zym h) λσ H Q hx10_=>by
 obtain ⟨ρ,l,S,v,S',sim,ro,hm,p⟩:=hx10_
 obtain ⟨⟨x,S1⟩,h1,hm⟩:=bnd hm
 obtain ⟨hz,e⟩:=za8 hm
 cases e
 exact ⟨ρ,l,S,x,_,sim,ro,h1,λρ1 H1 vs e1 s1 r1=>⟨by rw [<-r1.length];exact hz,zf4 s1 r1 (p.ext e1)⟩⟩
theorem zq4 {K:QFg}{f:FM}{r:List V->Hp->VK->Prop}(h3:Fn3 K f r) (σ:St) (H:Hp) (Q:VK) (q:te K (zaf f mA) σ H Q):tCB r (ta K mA) σ H Q:=by
 obtain ⟨ρ,l,S,v,S',sim,ro,hm,p⟩:=q
 obtain ⟨⟨x,S1⟩,h1,hm⟩:=bnd hm
 exact ⟨ρ,l,S,x,S1,sim,ro,h1,λρ1 H1 vs e1 s1 r1=>h3 ρ1 S1 H1 x vs v S' Q s1 r1 hm (p.ext e1)⟩
theorem zf5 {x:Str}{p:Pos}{id:String}{f:FM}{r:List V->Hp->VK->Prop}(hc:CallR X (.builtin id) r) (h3:Fn3 X.K f r) (hg:Gl X x) (hm:X.mg x=none) (hv:bootBuiltins x=some (.builtin id)) (ha:PA3 X (a :: es) mA) (hn:x≠"__name__":=by decide) (hdb:(x == ("__debug__":Str))=false:=by decide)
  (he:starEach (a :: es) X.env=(false,eval a X.env) :: starEach es X.env:=by rfl) (hpl:(backTo pos (starEach es X.env)).any (·.1)=false:=by rfl):PE3 X (.Call (.Name x p) (a :: es) [] pos) (zaf f mA) :=
 PE.imp (zh8 hc hg hm hv ha hn hdb he hpl) (zq4 h3)
theorem zif {x:Str}{p:Pos}{T:String}{f:FM}{r:List V->Hp->VK->Prop}(hc:CallR X (.type T) r) (h3:Fn3 X.K f r) (hg:Gl X x) (hm:X.mg x=none) (hv:bootBuiltins x=some (.type T)) (ha:PA3 X (a :: es) mA) (hn:x≠"__name__":=by decide) (hdb:(x == ("__debug__":Str))=false:=by decide)
  (he:starEach (a :: es) X.env=(false,eval a X.env) :: starEach es X.env:=by rfl) (hpl:(backTo pos (starEach es X.env)).any (·.1)=false:=by rfl):PE3 X (.Call (.Name x p) (a :: es) [] pos) (zaf f mA) :=
 PE.imp (zh9 hc hg hm hv ha hn hdb he hpl) (zq4 h3)
end
noncomputable def oI (C:Int->Int->Bool) (g:Int->Int->D):D->D->Sto->Option (D × Sto)
 | .int i,.int j,S=>if C i j=true then some (g i j,S) else none
 | _,_,_=>none
noncomputable def oI0 (g:Int->Int->D):D->D->Sto->Option (D × Sto)
 | .int i,.int j,S=>some (g i j,S)
 | _,_,_=>none
theorem zig {K:QFg}{C:Int->Int->Bool}{C':Int->Int->Prop}{g:Int->Int->D}{g':Int->Int->V}(hC:∀i j,C i j=true->C' i j) (hg:∀ρ H i j,RD ρ H (g i j) (g' i j)):Op3 K (oI C g) (rI C' g'):=by
 intro ρ S H x y x' y' v S' Q sim rx ry h p
 unfold oI at h
 split at h
 ·rename_i i j
  cases rx;cases ry
  obtain ⟨hc,e⟩:=za8 h
  cases e
  exact ⟨i,j,rfl,rfl,hC i j hc,p ρ H _ (Ext.refl ..) sim (hg ρ H i j)⟩
 ·cases h
theorem zf6 {K:QFg}{g:Int->Int->D}{g':Int->Int->V}(hg:∀ρ H i j,RD ρ H (g i j) (g' i j)):Op3 K (oI0 g) (rI0 g'):=by
 intro ρ S H x y x' y' v S' Q sim rx ry h p
 unfold oI0 at h
 split at h
 ·rename_i i j
  cases rx;cases ry
  cases h
  exact ⟨i,j,rfl,rfl,p ρ H _ (Ext.refl ..) sim (hg ρ H i j)⟩
 ·cases h
theorem Op3.or {K:QFg}{f:D->D->Sto->Option (D × Sto)}{g:D->D->Sto->Option (D × Sto)}{r r':R2}(h:Op3 K f r) (h':Op3 K g r'):Op3 K (λx y S=>match f x y S with|some v=>some v|none=>g x y S) (λx y H Q=>r x y H Q\/r' x y H Q):=by
 intro ρ S H x y x' y' v S' Q sim rx ry hm p
 dsimp only at hm
 cases e:f x y S with
 | some w=>rw [e] at hm;cases hm;exact .inl (h ρ S H x y x' y' _ _ Q sim rx ry e p)
 | none=>rw [e] at hm;exact .inr (h' ρ S H x y x' y' _ _ Q sim rx ry hm p)
noncomputable abbrev zf7:=oI0 λi j=>.int (i-j)
noncomputable abbrev ze0:=oI (λi j=>decide (0<j/\j<1073741824)) λi j=>.int (i / j)
noncomputable abbrev zb6:=oI (λi j=>decide (0<j)) λi j=>.int (i % j)
noncomputable abbrev ze1:=oI (λi j=>decide (0<=j/\j<=1000000/\i.natAbs<2 ^ 64)) λi j=>.int (i ^ j.toNat)
noncomputable abbrev dLt:=oI0 λi j=>.bl (decide (i<j))
noncomputable abbrev dLe:=oI0 λi j=>.bl (decide (i<=j))
noncomputable abbrev dGt:=oI0 λi j=>.bl (decide (j<i))
noncomputable abbrev dGe:=oI0 λi j=>.bl (decide (j<=i))
section
variable {X:Cx}{a b:Expr}{ma mb:EM}{pos:Pos}
theorem zhb (ha:PE3 X a ma) (hb:PE3 X b mb):PE3 X (.BinOp a .Sub b pos) (eOp zf7 ma mb):=zey zxt (zf6 λ_ _ _ _=>.int _) ha hb
theorem zih (ha:PE3 X a ma) (hb:PE3 X b mb):PE3 X (.BinOp a .FloorDiv b pos) (eOp ze0 ma mb):=zey zxu (zig (λi j h=>by first|(unfold CMul;exact of_decide_eq_true h)|(unfold zjy;exact of_decide_eq_true h)|(unfold zg7;exact of_decide_eq_true h)|exact of_decide_eq_true h) λ_ _ _ _=>.int _) ha hb
theorem zel (ha:PE3 X a ma) (hb:PE3 X b mb):PE3 X (.BinOp a .Mod b pos) (eOp zb6 ma mb):=zey zxv (zig (λi j h=>by first|(unfold CMul;exact of_decide_eq_true h)|(unfold zjy;exact of_decide_eq_true h)|(unfold zg7;exact of_decide_eq_true h)|exact of_decide_eq_true h) λ_ _ _ _=>.int _) ha hb
theorem zj7 (ha:PE3 X a ma) (hb:PE3 X b mb):PE3 X (.BinOp a .Pow b pos) (eOp ze1 ma mb):=zey zxw (zig (λi j h=>by first|(unfold CMul;exact of_decide_eq_true h)|(unfold zjy;exact of_decide_eq_true h)|(unfold zg7;exact of_decide_eq_true h)|exact of_decide_eq_true h) λ_ _ _ _=>.int _) ha hb
theorem zhc (ha:PE3 X a ma) (hb:PE3 X b mb):PT3 X (.Compare a [.Lt] [b] pos) (tE (eOp dLt ma mb)):=zez zpq (zf6 λ_ _ _ _=>.bl _) ha hb (zei b)
theorem zii (ha:PE3 X a ma) (hb:PE3 X b mb):PT3 X (.Compare a [.Gt] [b] pos) (tE (eOp dGt ma mb)):=zez zx2 (zf6 λ_ _ _ _=>.bl _) ha hb (zei b)
theorem zq5 (ha:PE3 X a ma) (hb:PE3 X b mb):PT3 X (.Compare a [.GtE] [b] pos) (tE (eOp dGe ma mb)):=zez zx3 (zf6 λ_ _ _ _=>.bl _) ha hb (zei b)
end
noncomputable def sEq:D->D->Option Bool
 | .non,.non=>some true | .non,.int _=>some false | .int _,.non=>some false | .non,.bl _=>some false | .bl _,.non=>some false | .non,.str _=>some false | .str _,.non=>some false
 | .int i,.int j=>some (decide (i=j)) | .bl i,.bl j=>some (decide (i=j)) | .str i,.str j=>some (decide (i=j))
 | .int _,.str _=>some false | .str _,.int _=>some false | .bl _,.str _=>some false | .str _,.bl _=>some false
 | _,_=>none
noncomputable def dEq:D->D->Sto->Option (D × Sto):=λx y S=>(sEq x y).bind λb=>some (.bl b,S)
noncomputable def dNe:D->D->Sto->Option (D × Sto):=λx y S=>(sEq x y).bind λb=>some (.bl (!b),S)
theorem zq6 {ρ:List Addr}{H:Hp}{x y:D}{x' y':V}{b:Bool}(rx:RD ρ H x x') (ry:RD ρ H y y') (h:sEq x y=some b):zmc x' y' = true/\decide (x' = y')=b:=by
 cases rx <;> cases ry <;> first
  | (cases (show (none:Option Bool)=some b from h))
  | (have h:=qoi h;subst h;exact ⟨rfl,rfl⟩)
  | (have h:=qoi h;subst h;exact ⟨rfl,by simp⟩)
theorem zq7 {K:QFg}:Op3 K dEq rEq:=by
 intro ρ S H x y x' y' v S' Q sim rx ry h p
 obtain ⟨b,h1,h⟩:=bnd h
 cases h
 obtain ⟨h2,h3⟩:=zq6 rx ry h1
 exact ⟨h2,by rw [h3];exact p ρ H _ (Ext.refl ..) sim (.bl b)⟩
theorem zz1 {K:QFg}:Op3 K dNe rNe:=by
 intro ρ S H x y x' y' v S' Q sim rx ry h p
 obtain ⟨b,h1,h⟩:=bnd h
 cases h
 obtain ⟨h2,h3⟩:=zq6 rx ry h1
 exact ⟨h2,by rw [h3];exact p ρ H _ (Ext.refl ..) sim (.bl _)⟩
noncomputable def zdb:D->Bool
 | .non=>true
 | _=>false
noncomputable def dIs:D->D->Sto->Option (D × Sto)
 | x,.non,S=>some (.bl (zdb x),S)
 | _,_,_=>none
noncomputable def zfk:D->D->Sto->Option (D × Sto)
 | x,.non,S=>some (.bl (!zdb x),S)
 | _,_,_=>none
theorem zq8 {ρ:List Addr}{H:Hp}{x:D}{x':V}(r:RD ρ H x x'):decide (x' = .non)=zdb x:=by
 cases r <;> simp [zdb]
theorem zz2 {K:QFg}:Op3 K dIs (λx y H Q=>y=.non/\Q (.bl (decide (x=.non))) H):=by
 intro ρ S H x y x' y' v S' Q sim rx ry h p
 unfold dIs at h
 split at h
 ·cases h;cases ry
  exact ⟨rfl,by rw [zq8 rx];exact p ρ H _ (Ext.refl ..) sim (.bl _)⟩
 ·cases h
theorem zz3 {K:QFg}:Op3 K zfk (λx y H Q=>y=.non/\Q (.bl (!decide (x=.non))) H):=by
 intro ρ S H x y x' y' v S' Q sim rx ry h p
 unfold zfk at h
 split at h
 ·cases h;cases ry
  exact ⟨rfl,by rw [zq8 rx];exact p ρ H _ (Ext.refl ..) sim (.bl _)⟩
 ·cases h
section
variable {X:Cx}{a b:Expr}{ma mb:EM}{pos:Pos}
theorem zij (ha:PE3 X a ma) (hb:PE3 X b mb):PE3 X (.Compare a [.Eq] [b] pos) (eOp dEq ma mb):=zqz zpp zq7 ha hb (zei b)
theorem zhd (ha:PE3 X a ma) (hb:PE3 X b mb):PT3 X (.Compare a [.Eq] [b] pos) (tE (eOp dEq ma mb)):=zez zpp zq7 ha hb (zei b)
theorem zik (ha:PE3 X a ma) (hb:PE3 X b mb):PT3 X (.Compare a [.NotEq] [b] pos) (tE (eOp dNe ma mb)):=zez zx0 zz1 ha hb (zei b)
theorem zz4 (ha:PE3 X a ma) (hb:PE3 X b mb):PT3 X (.Compare a [.Is] [b] pos) (tE (eOp dIs ma mb)):=zez zx4 zz2 ha hb (zei b)
theorem zj8 (ha:PE3 X a ma) (hb:PE3 X b mb):PT3 X (.Compare a [.IsNot] [b] pos) (tE (eOp zfk ma mb)):=zez zx5 zz3 ha hb (zei b)
end
noncomputable def dIx:D->D->Sto->Option (D × Sto)
 | .tup xs,.int i,S=>(atI xs i).bind λv=>some (v,S)
 | .ref n,.int i,S=>(lstOf S n).bind λxs=>(atI xs i).bind λv=>some (v,S)
 | _,_,_=>none
theorem zq9 {ρ:List Addr}{H:Hp}{xs:List D}{vs:List V}{i:Int}{x:D}(r:RDs ρ H xs vs) (h:atI xs i=some x):∃v,atI vs i=some v/\RD ρ H x v:=by
 unfold atI at h ⊢
 rw [<-r.length]
 cases e:ixN xs.length i with
 | none=>rw [e] at h;cases h
 | some j =>
  rw [e] at h
  exact r.get (i:=j) h
theorem zz5 {K:QFg}:Op3 K dIx (rIx K):=by
 intro ρ S H x y x' y' v S' Q sim rx ry h p
 unfold dIx at h
 split at h
 ·cases ry
  obtain ⟨w,h1,h⟩:=bnd h
  cases h
  cases rx with
  | tup ha r =>
   obtain ⟨u,h2,r2⟩:=zq9 r h1
   exact .inr (.inl ⟨_,_,_,u,rfl,rfl,SqT.of ha,h2,p ρ H u (Ext.refl ..) sim r2⟩)
 ·cases ry
  obtain ⟨xs,h0,h⟩:=bnd h
  obtain ⟨w,h1,h⟩:=bnd h
  cases h
  cases rx with
  | ref hn =>
   obtain ⟨a,vs,ha,sq,r⟩:=sim.lstOf h0
   rw [ha] at hn;cases hn
   obtain ⟨u,h2,r2⟩:=zq9 r h1
   exact .inl ⟨_,_,_,u,rfl,rfl,sq,h2,p ρ H u (Ext.refl ..) sim r2⟩
 ·cases h
section
variable {X:Cx}{a b:Expr}{ma mb:EM}{pos:Pos}
end
abbrev OM:=Lo->Sto->Option (Option Int × Sto)
noncomputable def zhe:OM:=λ_ S=>some (none,S)
noncomputable def zf8 (m:EM):OM:=λl S=>(m l S).bind λp=>match p.1 with
 | .int i=>some (some i,p.2)
 | _=>none
noncomputable def cutD (xs:List D) (lo hi:Option Int):List D:=(xs.drop (HT.sIx xs.length 0 lo)).take (HT.sIx xs.length xs.length hi-HT.sIx xs.length 0 lo)
inductive tO (K:QFg) (m:OM) (σ:St) (H:Hp) (Q:Option Int->Hp->Prop):Prop
 | mk (ρ:_) (l:_) (S:_) (v:_) (S':_) (_:Sim K ρ S H) (_:RO ρ H l σ) (_:m l S=some (v,S')) (_:∀ρ' H',Ext ρ H ρ' H'->Sim K ρ' S' H'->Q v H')
def PO3 (X:Cx) (e:Option Expr) (m:OM):Prop:=PO X e (tO X.K m)
section
variable {X:Cx}{a b:Expr}{ma mb:EM}{pos p2:Pos}{lo hi:Option Expr}{ml mh:OM}
theorem PO.imp {e:Option Expr}{t u:TO}(h:PO X e t) (i:∀σ H Q,u σ H Q->t σ H Q):PO X e u:=λpins s σ H Q I q=>h pins s σ H Q I (i _ _ _ q)
theorem zj9:PO3 X none zhe:=PO.imp zyw λσ H Q hx1_=>by
 obtain ⟨ρ,l,S,v,S',sim,ro,hm,p⟩:=hx1_
 cases hm
 exact p ρ H (Ext.refl ..) sim
theorem zka (h:PE3 X a ma):PO3 X (some a) (zf8 ma):=PO.imp (zyx h) λσ H Q hx2_=>by
 obtain ⟨ρ,l,S,v,S',sim,ro,hm,p⟩:=hx2_
 obtain ⟨⟨x,S1⟩,h1,hm⟩:=bnd hm
 refine ⟨ρ,l,S,x,S1,sim,ro,h1,λρ1 H1 x' e1 s1 r1=>?_⟩
 cases r1 with
 | int i=>cases hm;exact ⟨i,rfl,p ρ1 H1 e1 s1⟩
 | _=>cases hm
end
end L3
namespace HT
open PySem PyProof.Rows
section
variable {prog:Program}{w:World}{A:Around}{E:Value->Shared->Prop}{s:Shared}
theorem getItem_tuple_whole {t sl:Addr}{items:Array Value}{vl vu:Value}{lo hi:Option Int}{Q:Value->Shared->Prop}(ht:IsTup s.heap t items) (hs:s.heap.IsSliceOf sl vl vu .none) (pl:IsPart vl lo) (pu:IsPart vu hi)
  (hw:sIx items.size 0 lo=0/\sIx items.size items.size hi=items.size)
  (h:Q (.ref t) s):wpAny (model prog w) A (getItem (.ref t) (.ref sl)) Q E s:=by
 obtain ⟨os,hos,hcs,hds⟩:=id hs
 have hTs:s.TypeIs (.ref sl) "slice":=⟨os,hos,hcs⟩
 unfold getItem
 try with_reducible refine wpAny_holding ?_
 first|refine qwb (qwp ?_)|skip
 refine qwb (wpAny_sequenceKey ht.typeIs (by decide) ?_)
 refine qwb (wpAny_callSpecial?_slot (name:=Str.ofString "__getitem__") ht.typeIs PyProof.Rows.slot_tuple_getitem
  (wpAny_call_entry PyProof.Rows.slot_tuple_getitem ht.typeIs entry_tuple_getitem ?_ (args_tuple_getitem _ _)))
 show wpAny _ _ (Builtin.Tuple.tupleItemsOf (.ref t) >>= _) _ _ s
 refine qwb (tupleItemsOf_ ht ?_)
 refine qwb (wpAny_typeOf hTs ?_)
 rw [if_pos (by decide)]
 refine qwb (zp0 hs pl pu ?_)
 have hyes:((((sIx items.size 0 lo:Nat):Int) == 0 && (1:Int) == 1 && (sIx items.size items.size hi-sIx items.size 0 lo) == items.size)=true):=by
  rw [hw.1,hw.2];simp
 show wpAny _ _ (if (((sIx items.size 0 lo:Nat):Int) == 0 && (1:Int) == 1 && (sIx items.size items.size hi-sIx items.size 0 lo) == items.size)=true then _ else _) _ _ s
 rw [if_pos hyes]
 unfold Builtin.Tuple.tupleIsExact
 refine qwb (qwb (wpAny_typeOf ht.typeIs (qwp ?_)))
 rw [if_pos (by decide)]
 exact qwb (wpAny_rule (qwb (qwp (qwp ⟨_,rfl,qwp h⟩))))
end
end HT
namespace L3
open PySem PySem.Spec PyProof.Rows L2
section
variable {X:Cx}{a b:Expr}{ma mb:EM}{pos p2:Pos}{lo hi:Option Expr}{ml mh:OM}
def zz6 (K:QFg):V->Option Int->Option Int->Hp->VK->Prop:=λx lo hi H Q=>∃a xs,x=.ref a/\SqT K H a xs /\
 (HT.sIx xs.length 0 lo=0/\HT.sIx xs.length xs.length hi=xs.length)/\Q (.ref a) H
theorem zz7:SlR X (zz6 X.K):=by
 intro pins s σ H x v vl vu lo hi sl Q I rx hs pl pu h
 obtain ⟨a,xs,rfl,hx,hw,q⟩:=h
 cases rx
 obtain ⟨its,r,ht,hz⟩:=I.tuple hx
 have hlen:its.toArray.size=xs.length:=by rw [List.size_toArray];exact r.length.symm
 refine ⟨"tuple",_,PyProof.Rows.slot_tuple_getitem.lookup,ht.typeIs,?_⟩
 exact HT.getItem_tuple_whole ht hs pl pu (by rw [hlen];exact hw) ⟨.ref a,H,I,rfl,q⟩
theorem zz8 (xs:List D) (lo hi:Option Int) (h:HT.sIx xs.length 0 lo=0/\HT.sIx xs.length xs.length hi=xs.length):cutD xs lo hi=xs:=by
 unfold cutD;rw [h.1,h.2];simp
end
noncomputable def zms:D->D->Sto->Option (D × Sto)
 | .tup xs,.tup ys,S=>if xs.length+ys.length<=sizeLine then some (.tup (xs++ys),S) else none
 | _,_,_=>none
def zmt (K:QFg):R2:=λx y H Q=>∃a b ys,x=.ref a/\y=.ref b/\SqT K H a []/\SqT K H b ys/\Q (.ref b) H
theorem zz9 {X:Cx}:OpR X (binaryOp .Add) (zmt X.K):=by
 intro pins s σ H x y v u Q I rx ry h
 obtain ⟨a,b,ys,rfl,rfl,ha,hb,q⟩:=h
 cases rx
 cases ry
 obtain ⟨its,r1,p1,_⟩:=I.tuple ha
 obtain ⟨its2,r2,p2,_⟩:=I.tuple hb
 cases r1
 obtain ⟨⟨cls,dd,data,sl⟩,ho,hc,n,hd⟩:=id p1
 obtain ⟨⟨cls2,dd2,data2,sl2⟩,ho2,hc2,n2,hd2⟩:=id p2
 simp only at hc hd hc2 hd2
 subst hc hd hc2 hd2
 exact concat_meets ⟨_,ho,rfl⟩ ⟨_,ho2,rfl⟩ noFill_tuple_add seq_tuple_add PySem.F.slot_tuple_add PySem.F.entry_tuple_add (PySem.F.args_tuple_add_2 _ _)
   (tuple_addW0 a b ([]:List Value).toArray its2.toArray n n2 dd dd2 sl sl2 (by simp)) ⟨ho,ho2,⟨.ref b,H,I,rfl,q⟩⟩
theorem yaa {K:QFg}:Op3 K zms (λx y H Q=>zmf K x y H Q\/zmt K x y H Q):=by
 intro ρ S H x y x' y' v S' Q sim rx ry h p
 unfold zms at h
 split at h
 ·obtain ⟨hz,e⟩:=za8 h
  cases e
  cases rx with
  | @tup xs a vs ha r =>
   cases ry with
   | @tup ys b ws hb q =>
    cases r with
    | nil=>exact .inr ⟨a,b,ws,rfl,rfl,SqT.of ha,SqT.of hb,p ρ H _ (Ext.refl ..) sim (.tup hb q)⟩
    | cons r1 r2 =>
     refine .inl ⟨a,b,_,ws,rfl,rfl,SqT.of ha,SqT.of hb,by simp,by rw [<-(RDs.cons r1 r2).length,<-q.length];exact hz,λe=>?_,λ_=>?_⟩
     ·subst e
      cases q
      rw [List.append_nil] at p
      exact p ρ H _ (Ext.refl ..) sim (.tup ha (.cons r1 r2))
     ·exact zie sim ((RDs.cons r1 r2).append q) p
 ·cases h
section
variable {X:Cx}{a b:Expr}{ma mb:EM}{pos:Pos}
end
noncomputable def zil:FM
 | [.tup xs],S=>some (.int xs.length,S)
 | [.ref n],S=>(lstOf S n).bind λxs=>some (.int xs.length,S)
 | _,_=>none
noncomputable def zf9:FM
 | [.int i],S=>some (.int (if i<0 then -i else i),S)
 | _,_=>none
noncomputable def zmu:FM
 | [.int i],S=>some (.int i,S)
 | [.bl b],S=>some (.int (if b then 1 else 0),S)
 | _,_=>none
noncomputable def zd1:FM
 | [.tup xs],S=>some (.tup xs,S)
 | [.ref n],S=>(lstOf S n).bind λxs=>some (.tup xs,S)
 | _,_=>none
noncomputable def zim:FM
 | [.tup xs],S=>some (.ref S.length,S++[.lst xs])
 | [.ref n],S=>(lstOf S n).bind λxs=>some (.ref S.length,S++[.lst xs])
 | _,_=>none
noncomputable def zin:FM
 | [.int i,.int j],S=>some (.int (if j > i then j else i),S)
 | _,_=>none
section
variable {K:QFg}
theorem yab:Fn3 K zil (λxs H Q=>∃p ys,xs=[.ref p]/\(SqL K H p ys\/SqT K H p ys)/\Q (.int ys.length) H):=by
 intro ρ S H xs vs v S' Q sim r h p
 unfold zil at h
 split at h
 ·cases h
  obtain ⟨w,rfl,rw'⟩:=r.one
  cases rw' with
  | tup ha r2=>exact ⟨_,_,rfl,.inr (SqT.of ha),by rw [<-r2.length];exact p ρ H _ (Ext.refl ..) sim (.int _)⟩
 ·obtain ⟨ys,h1,h⟩:=bnd h
  cases h
  obtain ⟨w,rfl,rw'⟩:=r.one
  obtain ⟨a,us,ha,sq,r2⟩:=sim.lstOf h1
  cases rw' with
  | ref hn =>
   rw [ha] at hn;cases hn
   exact ⟨_,_,rfl,.inl sq,by rw [<-r2.length];exact p ρ H _ (Ext.refl ..) sim (.int _)⟩
 ·cases h
theorem yac:Fn3 K zf9 (λxs H Q=>∃i,xs=[.int i]/\Q (.int (if i<0 then -i else i)) H):=by
 intro ρ S H xs vs v S' Q sim r h p
 unfold zf9 at h
 split at h
 ·cases h
  obtain ⟨w,rfl,rw'⟩:=r.one
  cases rw'
  exact ⟨_,rfl,p ρ H _ (Ext.refl ..) sim (.int _)⟩
 ·cases h
theorem yad:Fn3 K zmu (λxs H Q=>(∃i,xs=[.int i]/\Q (.int i) H)\/∃k,xs=[.bl k]/\Q (.int (if k then 1 else 0)) H):=by
 intro ρ S H xs vs v S' Q sim r h p
 unfold zmu at h
 split at h
 ·cases h
  obtain ⟨w,rfl,rw'⟩:=r.one
  cases rw'
  exact .inl ⟨_,rfl,p ρ H _ (Ext.refl ..) sim (.int _)⟩
 ·cases h
  obtain ⟨w,rfl,rw'⟩:=r.one
  cases rw'
  exact .inr ⟨_,rfl,p ρ H _ (Ext.refl ..) sim (.int _)⟩
 ·cases h
theorem yae:Fn3 K zin (λxs H Q=>∃i j,xs=[.int i,.int j]/\Q (.int (if j > i then j else i)) H):=by
 intro ρ S H xs vs v S' Q sim r h p
 unfold zin at h
 split at h
 ·cases h
  obtain ⟨w,u,rfl,rw',ru⟩:=r.two
  cases rw';cases ru
  exact ⟨_,_,rfl,p ρ H _ (Ext.refl ..) sim (.int _)⟩
 ·cases h
theorem yaf:Fn3 K zd1 (λxs H Q=>∃p ys,xs=[.ref p]/\((SqL K H p ys/\∀l,H l=none->Q (.ref l) (upd H l (.tup ys)))\/(SqT K H p ys/\Q (.ref p) H))):=by
 intro ρ S H xs vs v S' Q sim r h p
 unfold zd1 at h
 split at h
 ·cases h
  obtain ⟨w,rfl,rw'⟩:=r.one
  cases rw' with
  | tup ha r2=>exact ⟨_,_,rfl,.inr ⟨SqT.of ha,p ρ H _ (Ext.refl ..) sim (.tup ha r2)⟩⟩
 ·obtain ⟨ys,h1,h⟩:=bnd h
  cases h
  obtain ⟨w,rfl,rw'⟩:=r.one
  obtain ⟨a,us,ha,sq,r2⟩:=sim.lstOf h1
  cases rw' with
  | ref hn =>
   rw [ha] at hn;cases hn
   exact ⟨_,_,rfl,.inl ⟨sq,zie sim r2 p⟩⟩
 ·cases h
theorem yag:Fn3 K zim (λxs H Q=>∃p ys,xs=[.ref p]/\(SqL K H p ys\/SqT K H p ys)/\∀l,H l=none->Q (.ref l) (upd H l (.lst ys))):=by
 intro ρ S H xs vs v S' Q sim r h p
 unfold zim at h
 split at h
 ·cases h
  obtain ⟨w,rfl,rw'⟩:=r.one
  cases rw' with
  | tup ha r2=>exact ⟨_,_,rfl,.inr (SqT.of ha),zf4 sim r2 p⟩
 ·obtain ⟨ys,h1,h⟩:=bnd h
  cases h
  obtain ⟨w,rfl,rw'⟩:=r.one
  obtain ⟨a,us,ha,sq,r2⟩:=sim.lstOf h1
  cases rw' with
  | ref hn =>
   rw [ha] at hn;cases hn
   exact ⟨_,_,rfl,.inl sq,zf4 sim r2 p⟩
 ·cases h
end
noncomputable def tyD (S:Sto):D->Option String
 | .non=>some "NoneType" | .bl _=>some "bool" | .int _=>some "int" | .str _=>some "str" | .tup _=>some "tuple"
 | .ref n=>match S[n]? with
  | some (.lst _)=>some "list"
  | some (.dct _)=>some "dict"
  | _=>none
 | .fn _=>none
noncomputable def isI (T U:String):Bool:=T == U || (T == "bool" && U == "int")
noncomputable def zcl (U:String):D->Sto->Option (D × Sto):=λx S=>(tyD S x).bind λT=>some (.bl (isI T U),S)
noncomputable def zd2:D->List D->Sto->Option (D × Sto)
 | .ref n,[x],S=>match S[n]? with
  | some (.lst xs)=>if xs.length<sizeLine then some (.non,S.set n (.lst (xs++[x]))) else none
  | _=>none
 | _,_,_=>none
noncomputable def zhf:D->List D->Sto->Option (D × Sto)
 | .ref n,[],S=>match S[n]? with
  | some (.lst xs)=>some (.non,S.set n (.lst xs.reverse))
  | _=>none
 | _,_,_=>none
section
variable {K:QFg}
theorem yah:Mt3 K zd2 zqg:=by
 intro ρ S H x x' xs vs v S' Q sim rx r h p
 unfold zd2 at h
 split at h
 ·split at h
  ·rename_i n y S ys e
   obtain ⟨hz,e2⟩:=za8 h
   cases e2
   obtain ⟨w,rfl,rw'⟩:=r.one
   obtain ⟨a,us,ha,hH,r2⟩:=sim.lst e
   cases rx with
   | ref hn =>
    rw [ha] at hn;cases hn
    exact ⟨a,us,w,rfl,rfl,hH,by rw [<-r2.length];exact hz,p ρ _ _ (zj4 ha hH) (sim.set ha e hH (r2.append (.cons rw' .nil))) .non⟩
  ·cases h
 ·cases h
theorem yai:Mt3 K zhf zqj:=by
 intro ρ S H x x' xs vs v S' Q sim rx r h p
 unfold zhf at h
 split at h
 ·split at h
  ·rename_i n S ys e
   cases h
   cases r
   obtain ⟨a,us,ha,hH,r2⟩:=sim.lst e
   cases rx with
   | ref hn =>
    rw [ha] at hn;cases hn
    exact ⟨a,us,rfl,rfl,hH,p ρ _ _ (zj4 ha hH) (sim.set ha e hH r2.reverse) .non⟩
  ·cases h
 ·cases h
end
noncomputable def zcu:D->Sto->Option (List D)
 | .ref n,S=>lstOf S n
 | _,_=>none
noncomputable def zci (f:D->List D->Sto->Option (D × Sto)) (o:EM) (as:AM):EM:=λl S=>(o l S).bind λp=>(zcu p.1 p.2).bind λ_=>(as l p.2).bind λq=>f p.1 q.1 q.2
section
variable {X:Cx}{a o e:Expr}{es:List Expr}{mo:EM}{mA:AM}{name:Str}{apos cpos pos:Pos}{id:String}{f:D->List D->Sto->Option (D × Sto)}{r:V->List V->Hp->VK->Prop}
theorem zra {K:QFg}{ρ:List Addr}{S:Sto}{H:Hp}{x:D}{x':V}{xs:List D}(sim:Sim K ρ S H) (rx:RD ρ H x x') (h:zcu x S=some xs):tyV K "list" x' H:=by
 unfold zcu at h
 split at h
 ·obtain ⟨a,us,ha,sq,r2⟩:=sim.lstOf h
  cases rx with
  | ref hn =>
   rw [ha] at hn;cases hn
   exact .inl ⟨rfl,us,sq⟩
 ·cases h
theorem zkb (slot:Slot "list" name id) (hty:typeOf (.builtin id)=pure (.type "method_descriptor")) (hm:MtM X id r) (h3:Mt3 X.K f r) (ho:PE3 X o mo) (ha:PA3 X (e :: es) mA)
  (hbase:attributeBase o name X.env (eval o X.env)=eval o X.env:=by rfl)
  (hfew:((backTo cpos (starEach (e :: es) X.env)).all (λx=>!x.1) && (backToKw cpos (keywordEach [] X.env)).all (λx=>x.1.isSome)
   && decide ((e :: es).length+([]:List Keyword).length+(if ([]:List Keyword).isEmpty then 0 else 1)<30))=true:=by rfl)
  (hline:(apos.endLine == cpos.line)=true:=by rfl) (hs:starEach (e :: es) X.env=(false,eval e X.env) :: starEach es X.env:=by rfl) (hplain:(backTo cpos (starEach es X.env)).any (·.1)=false:=by rfl) :
  PE3 X (.Call (.Attribute o name apos) (e :: es) [] cpos) (zci f mo mA) :=
 PE.imp (zzc PySem.F.plainAttrs_list slot hty hm ho ha hbase hfew hline hs hplain) λσ H Q hx1_=>by
  obtain ⟨ρ,l,S,v,S',sim,ro,hq,p⟩:=hx1_
  obtain ⟨⟨x,S1⟩,h1,hq⟩:=bnd hq
  obtain ⟨xs,h2,hq⟩:=bnd hq
  obtain ⟨⟨ys,S2⟩,h4,hq⟩:=bnd hq
  exact ⟨ρ,l,S,x,S1,sim,ro,h1,λρ1 H1 x' e1 s1 r1=>⟨zra s1 r1 h2,ρ1,l,S1,ys,S2,s1,ro.mono e1,h4,λρ2 H2 vs e2 s2 r2=>h3 ρ2 S2 H2 x x' ys vs v S' Q s2 (r1.mono e2) r2 hq (p.ext (e1.trans e2))⟩⟩
theorem yaj (slot:Slot "list" name id) (hty:typeOf (.builtin id)=pure (.type "method_descriptor")) (hm:MtM X id r) (h3:Mt3 X.K f r) (ho:PE3 X o mo)
  (hbase:attributeBase o name X.env (eval o X.env)=eval o X.env:=by rfl) (hline:(apos.endLine == cpos.line)=true:=by rfl) :
  PE3 X (.Call (.Attribute o name apos) [] [] cpos) (zci f mo zae) :=
 PE.imp (zqd PySem.F.plainAttrs_list slot hty hm ho hbase hline) λσ H Q hx2_=>by
  obtain ⟨ρ,l,S,v,S',sim,ro,hq,p⟩:=hx2_
  obtain ⟨⟨x,S1⟩,h1,hq⟩:=bnd hq
  obtain ⟨xs,h2,hq⟩:=bnd hq
  obtain ⟨⟨ys,S2⟩,h4,hq⟩:=bnd hq
  cases h4
  exact ⟨ρ,l,S,x,S1,sim,ro,h1,λρ1 H1 x' e1 s1 r1=>⟨zra s1 r1 h2,h3 ρ1 S1 H1 x x' [] [] v S' Q s1 r1 .nil hq (p.ext e1)⟩⟩
theorem zhg {m:EM}(ho:PE3 X o mo) (he:PE3 X e m)
  (hbase:attributeBase o "append" X.env (eval o X.env)=eval o X.env:=by rfl)
  (hfew:((backTo cpos (starEach [e] X.env)).all (λx=>!x.1) && (backToKw cpos (keywordEach [] X.env)).all (λx=>x.1.isSome)
   && decide ([e].length+([]:List Keyword).length+(if ([]:List Keyword).isEmpty then 0 else 1)<30))=true:=by rfl)
  (hline:(apos.endLine == cpos.line)=true:=by rfl) (hs:starEach [e] X.env=(false,eval e X.env) :: starEach [] X.env:=by rfl) :
  PE3 X (.Call (.Attribute o "append" apos) [e] [] cpos) (zci zd2 mo (zab m zae)) :=
 zkb PySem.F.slot_list_append PySem.F.type_list_append zqh yah ho (zad he zag hs) hbase hfew hline hs
theorem yak (ho:PE3 X o mo) (hbase:attributeBase o "reverse" X.env (eval o X.env)=eval o X.env:=by rfl) (hline:(apos.endLine == cpos.line)=true:=by rfl) :
  PE3 X (.Call (.Attribute o "reverse" apos) [] [] cpos) (zci zhf mo zae):=yaj PySem.F.slot_list_reverse PySem.F.type_list_reverse zze yai ho hbase hline
end
section
variable {X:Cx}{a:Expr}{ma:EM}{pos p p2:Pos}
theorem yal {K:QFg}{T U:String}(hT:T∈["NoneType","bool","int","str","tuple","list","dict"]) (hU:U∈["bool","int","str","tuple","list"]):PySem.W.kitOne K (.type T) (.type U)=some (isI T U):=by
 simp only [List.mem_cons,List.not_mem_nil,or_false] at hT hU
 rcases hT with rfl|rfl|rfl|rfl|rfl|rfl|rfl <;> rcases hU with rfl|rfl|rfl|rfl|rfl <;> rfl
theorem zhh {U:String}{y:Str}(hg:Gl X "isinstance") (hm:X.mg "isinstance" = none) (hgy:Gl X y) (hmy:X.mg y=none) (hv:bootBuiltins y=some (.type U)) (hU:U∈["bool","int","str","tuple","list"]) (ha:PE3 X a ma)
  (hn:y≠"__name__":=by decide) (hdb:(y == ("__debug__":Str))=false:=by decide)
  (he:starEach (a :: [.Name y p2]) X.env=(false,eval a X.env) :: starEach [.Name y p2] X.env:=by rfl) (he2:starEach [.Name y p2] X.env=(false,eval (.Name y p2) X.env) :: starEach [] X.env:=by rfl) (hpl:(backTo pos (starEach [.Name y p2] X.env)).any (·.1)=false:=by rfl) :
  PE3 X (.Call (.Name "isinstance" p) [a,.Name y p2] [] pos) (eUn (zcl U) ma):=by
 have hy:PE X (.Name y p2) (tC (.ty U)):=zpa hgy hmy hv rfl hn hdb
 refine PE.imp (zh8 (id:="isinstance") (r:=λxs H Q=>∃x T,xs=[x,.ty U]/\TyOf X.K H x (.type T)/\T∈["NoneType","bool","int","str","tuple","list","dict"]/\Q (.bl (isI T U)) H) ?_ hg hm (by decide +kernel) (zcz ha (zcz hy zex he2) he) (by decide) (by decide) he hpl) ?_
 ·intro pins s σ H xs us Q I r h
  obtain ⟨x,T,rfl,ty,hT,q⟩:=h
  obtain ⟨u1,u2,rfl,r1,r2⟩:=r.two
  cases r2
  exact zyh I r1 ty (yal hT hU) λtk=>⟨.bl _,H,I.tok tk,rfl,q⟩
 ·rintro σ H Q ⟨ρ,l,S,v,S',sim,ro,hq,p⟩
  obtain ⟨⟨x,S1⟩,h1,hq⟩:=bnd hq
  obtain ⟨T,h2,hq⟩:=bnd hq
  cases hq
  refine ⟨ρ,l,S,x,_,sim,ro,h1,λρ1 H1 x' e1 s1 r1=>⟨x',T,rfl,?_⟩⟩
  have fin:=p ρ1 H1 _ e1 s1 (.bl (isI T U))
  cases r1 with
  | non=>cases h2;exact ⟨.non,by decide,fin⟩
  | bl b=>cases h2;exact ⟨.bl b,by decide,fin⟩
  | int b=>cases h2;exact ⟨.int b,by decide,fin⟩
  | str b=>cases h2;exact ⟨.str b,by decide,fin⟩
  | tup hh rr=>cases h2;exact ⟨.tup hh,by decide,fin⟩
  | @ref n b hn =>
   unfold tyD at h2
   dsimp only at h2
   split at h2
   ·rename_i ys ey
    cases h2
    obtain ⟨a',us,ha',hH,r2⟩:=s1.lst ey
    rw [ha'] at hn;cases hn
    exact ⟨.lst hH,by decide,fin⟩
   ·rename_i kvs ey
    cases h2
    obtain ⟨us,hH,r2⟩:=s1.at' n b _ hn ey
    exact ⟨.dK hH,by decide,fin⟩
   ·cases h2
  | fn b=>cases h2
end
def sp3 (K:QFg) (n:Nat) (f:FM):Sp:=λvs H Q _=>vs.length=n/\∃ρ ds S v S',Sim K ρ S H/\RDs ρ H ds vs/\f ds S=some (v,S')/\Pv K ρ H v S' Q
section
variable {X:Cx}{a:Expr}{es:List Expr}{mA:AM}{pos p:Pos}{x:Str}{k:Nat}{f:Addr}{fd:FuncData}{ps:List Str}{m:FM}
theorem yam {n:Nat}(F:FnOk X.prog X.w X.K X.mg X.base CX0 k f fd ps (sp3 X.K n m)) (hr:Room k X.A) (hg:Gl X x) (hm:X.mg x=some (.ref f)) (hk:PySem.W.keepIn X.K (.ref f)=true) (hb:Binds X.K fd ps [])
  (ha:PA3 X (a :: es) mA) (hl:∀l S v S',mA l S=some (v,S')->v.length=n) (hdb:(x == ("__debug__":Str))=false:=by decide) (he:starEach (a :: es) X.env=(false,eval a X.env) :: starEach es X.env:=by rfl) (hpl:(backTo pos (starEach es X.env)).any (·.1)=false:=by rfl) :
  PE3 X (.Call (.Name x p) (a :: es) [] pos) (zaf m mA) :=
 PE.imp (zmd F hr hg hm hk hb .nil zqn ha hdb he hpl) λσ H Q hx3_=>by
  obtain ⟨ρ,l,S,v,S',sim,ro,hq,p⟩:=hx3_
  obtain ⟨⟨xs,S1⟩,h1,hq⟩:=bnd hq
  exact ⟨ρ,l,S,xs,S1,sim,ro,h1,λρ1 H1 vs e1 s1 r1=>⟨by rw [List.append_nil,<-r1.length];exact hl _ _ _ _ h1,ρ1,xs,S1,v,S',s1,by rw [List.append_nil];exact r1,hq,p.ext e1⟩⟩
theorem za6:∀l S v S',zae l S=some (v,S')->v.length=0:=λl S v S' h=>by cases h;rfl
theorem zap {n:Nat}{m:EM}{mA:AM}(h:∀l S v S',mA l S=some (v,S')->v.length=n):∀l S v S',zab m mA l S=some (v,S')->v.length=n+1:=λl S v S' q=>by
 obtain ⟨⟨x,S1⟩,h1,q⟩:=bnd q
 obtain ⟨⟨y,S2⟩,h2,q⟩:=bnd q
 cases q
 rw [List.length_cons,h _ _ _ _ h2]
end
noncomputable def zbg:SM:=λl S=>some (.nx,l,S)
noncomputable def zaj (a b:SM):SM:=λl S=>(a l S).bind λp=>match p.1 with
 | .nx=>b p.2.1 p.2.2
 | f=>some (f,p.2)
noncomputable def zdl (e:EM):SM:=λl S=>(e l S).bind λp=>some (.nx,l,p.2)
noncomputable def za4 (e:EM):SM:=λl S=>(e l S).bind λp=>some (.rt p.1,l,p.2)
noncomputable def sIf (c:TM) (a b:SM):SM:=λl S=>(c l S).bind λp=>if p.1=true then a l p.2 else b l p.2
noncomputable def zaq (e:EM) (g:GM):SM:=λl S=>(e l S).bind λp=>(g p.1 l p.2).bind λq=>some (.nx,q)
noncomputable def zal (i:Nat):GM:=λd l S=>some (l.set i (some d),S)
noncomputable def zdm:GsM
 | [],l,S=>some (l,S)
 | _,_,_=>none
noncomputable def zb7 (g:GM) (r:GsM):GsM
 | x :: xs,l,S=>(g x l S).bind λp=>r xs p.1 p.2
 | _,_,_=>none
noncomputable def zdn (n:Nat) (g:GsM):GM
 | .tup xs,l,S=>if xs.length=n then g xs l S else none
 | _,_,_=>none
section
variable {X:Cx}{st:Stmt}{rest:List Stmt}{m n:SM}{e c:Expr}{me:EM}{pos:Pos}
theorem zbr:zct X [] zbg:=PSs.imp zw3 λE σ H hx1_=>by
 obtain ⟨ρ,l,S,f,l',S',sim,ro,hm,p⟩:=hx1_
 cases hm
 exact p ρ H σ (Ext.refl ..) sim ro
theorem zao (h1:PS3 X st m) (h2:zct X rest n):zct X (st :: rest) (zaj m n):=PSs.imp (zl4 h1 h2) λE σ H hx2_=>by
 obtain ⟨ρ,l,S,f,l',S',sim,ro,hm,p⟩:=hx2_
 obtain ⟨⟨g,l1,S1⟩,q1,hm⟩:=bnd hm
 refine ⟨ρ,l,S,g,l1,S1,sim,ro,q1,λρ1 H1 σ1 e1 s1 r1=>?_⟩
 cases g with
 | nx=>exact ⟨ρ1,l1,S1,f,l',S',s1,r1,hm,λρ2 H2 σ2 e2 s2 r2=>p ρ2 H2 σ2 (e1.trans e2) s2 r2⟩
 | bk=>cases hm;exact p ρ1 H1 σ1 e1 s1 r1
 | ct=>cases hm;exact p ρ1 H1 σ1 e1 s1 r1
 | rt d=>cases hm;exact p ρ1 H1 σ1 e1 s1 r1
theorem zau (h1:PS3 X st m):zct X [st] m:=zw4 h1
theorem ze2 (he:PE3 X e me) (hs:swapsWith e none pos.line X.env=pure false:=by rfl):PS3 X (.Expr e pos) (zdl me):=PS.imp (zpd he hs) λE σ H hx6_=>by
 obtain ⟨ρ,l,S,f,l',S',sim,ro,hm,p⟩:=hx6_
 obtain ⟨⟨x,S1⟩,q1,hm⟩:=bnd hm
 cases hm
 exact ⟨ρ,l,S,x,_,sim,ro,q1,λρ1 H1 x' e1 s1 _=>p ρ1 H1 σ e1 s1 (ro.mono e1)⟩
theorem zbd (he:PE3 X e me):PS3 X (.Return (some e) pos) (za4 me):=PS.imp (zpe he) λE σ H hx7_=>by
 obtain ⟨ρ,l,S,f,l',S',sim,ro,hm,p⟩:=hx7_
 obtain ⟨⟨x,S1⟩,q1,hm⟩:=bnd hm
 cases hm
 exact ⟨ρ,l,S,x,_,sim,ro,q1,λρ1 H1 x' e1 s1 r1=>p ρ1 H1 σ e1 s1 (ro.mono e1) x' r1⟩
theorem zbo {c:Expr}{a b:List Stmt}{mc:TM}(hc:PT3 X c mc) (ha:zct X a m) (hb:zct X b n):PS3 X (.If c a b pos) (sIf mc m n):=PS.imp (zl5 hc ha hb) λE σ H hx9_=>by
 obtain ⟨ρ,l,S,f,l',S',sim,ro,hm,p⟩:=hx9_
 obtain ⟨⟨x,S1⟩,q1,hm⟩:=bnd hm
 refine ⟨ρ,l,S,x,S1,sim,ro,q1,λρ1 H1 e1 s1=>?_⟩
 cases x with
 | true=>exact zfy ⟨ρ1,l,S1,f,l',S',s1,ro.mono e1,hm,λρ2 H2 σ2 e2 s2 r2=>p ρ2 H2 σ2 (e1.trans e2) s2 r2⟩
 | false=>exact zfx ⟨ρ1,l,S1,f,l',S',s1,ro.mono e1,hm,λρ2 H2 σ2 e2 s2 r2=>p ρ2 H2 σ2 (e1.trans e2) s2 r2⟩
noncomputable def zkc:SM:=λ_ _=>none
theorem zmv:PS3 X st zkc:=PS.imp zw9 λE σ H hx10_=>by obtain ⟨ρ,l,S,f,l',S',sim,ro,hm,p⟩:=hx10_;cases hm
variable {tgt o i:Expr}{g:GM}{gs:GsM}{ts':List Expr}{mo mi:EM}
theorem zbk (j:Nat) {x:Str}(hN:X.N.Nodup) (hi:X.N[j]? = some x:=by rfl) (hx:Loc X.env.scope x:=by first|exact Or.inl rfl|exact Or.inr rfl) (hf:X.fn x=true\/X.env.scope.names.lookup x=some .local:=by first|exact .inl rfl|exact .inr rfl|assumption):PG3 X (.Name x pos) (zal j) :=
 PG.imp (zxa hN hi hx hf) λv σ H Q hx11_=>by
  obtain ⟨ρ,l,S,d,l',S',sim,ro,rd,hm,p⟩:=hx11_
  cases hm
  exact p ρ H _ (Ext.refl ..) sim (ro.set j rd)
theorem zfl:zj5 X [] zdm:=PGs.imp zxd λv σ H Q hx12_=>by
 obtain ⟨ρ,l,S,d,l',S',sim,ro,rd,hm,p⟩:=hx12_
 cases rd with
 | nil=>cases hm;exact ⟨rfl,p ρ H _ (Ext.refl ..) sim ro⟩
 | cons _ _=>cases hm
theorem zcv (h1:PG3 X tgt g) (h2:zj5 X ts' gs) (hs:(assignEach (tgt :: ts') X.env).map (·.2)=assign tgt X.env :: (assignEach ts' X.env).map (·.2):=by rfl):zj5 X (tgt :: ts') (zb7 g gs):=PGs.imp (zxe h1 h2 hs) λv σ H Q hx13_=>by
 obtain ⟨ρ,l,S,d,l',S',sim,ro,rd,hm,p⟩:=hx13_
 cases rd with
 | nil=>cases hm
 | @cons x v' xs vs r1 r2 =>
  obtain ⟨⟨l1,S1⟩,q1,hm⟩:=bnd hm
  exact ⟨v',vs,rfl,ρ,l,S,x,l1,S1,sim,ro,r1,q1,λρ1 H1 σ1 e1 s1 ro1=>⟨ρ1,l1,S1,xs,l',S',s1,ro1,r2.mono e1,hm,λρ2 H2 σ2 e2 s2 ro2=>p ρ2 H2 σ2 (e1.trans e2) s2 ro2⟩⟩
theorem zfm {es:List Expr}{k n:Nat}(hc:X.calm=true) (h:zj5 X es gs) (hn:(assignEach es X.env).length=n:=by rfl) (hst:(assignEach es X.env).findIdx? (·.1)=none:=by rfl):PG3 X (.Tuple es k pos) (zdn n gs) :=
 PG.imp (zxg hc h hn hst) λv σ H Q hx14_=>by
  obtain ⟨ρ,l,S,d,l',S',sim,ro,rd,hm,p⟩:=hx14_
  cases rd with
  | @tup xs a vs ha r =>
   have hm:(if xs.length=n then gs xs l S else none)=some (l',S'):=hm
   by_cases hl:xs.length=n
   ·rw [if_pos hl] at hm
    exact ⟨a,vs,rfl,SqT.of ha,by rw [<-r.length];exact hl,ρ,l,S,xs,l',S',sim,ro,r,hm,p⟩
   ·rw [if_neg hl] at hm;cases hm
  | _=>cases hm
theorem zio (he:PE3 X e me) (hg:PG3 X tgt g) (hs:swapsWithSole [tgt] e pos.line X.env=pure false:=by rfl) (hw:swappedStores [tgt] e X.env=pure none:=by rfl)
  (h1:(assignEach [tgt] X.env).map (·.2)=[assign tgt X.env]:=by rfl):PS3 X (.Assign [tgt] e pos) (zaq me g):=PS.imp (zpf he hg hs hw h1) λE σ H hx16_=>by
 obtain ⟨ρ,l,S,f,l',S',sim,ro,hm,p⟩:=hx16_
 obtain ⟨⟨x,S1⟩,q1,hm⟩:=bnd hm
 obtain ⟨⟨l2,S2⟩,q2,hm⟩:=bnd hm
 cases hm
 exact ⟨ρ,l,S,x,S1,sim,ro,q1,λρ1 H1 x' e1 s1 r1=>⟨ρ1,l,S1,x,_,_,s1,ro.mono e1,r1,q2,λρ2 H2 σ2 e2 s2 r2=>p ρ2 H2 σ2 (e1.trans e2) s2 r2⟩⟩
theorem za2 (j:Nat) {x:Str}{pos':Pos}(hN:X.N.Nodup) (he:PE3 X e me) (hi:X.N[j]? = some x:=by rfl) (hx:Loc X.env.scope x:=by first|exact Or.inl rfl|exact Or.inr rfl) (hs:swapsWith e (some (.Name x pos')) pos.line X.env=pure false:=by rfl) (hf:X.fn x=true\/X.env.scope.names.lookup x=some .local:=by first|exact .inl rfl|exact .inr rfl|assumption) :
  PS3 X (.Assign [.Name x pos'] e pos) (zaq me (zal j)):=PS.imp (zxh hN hi hx he hs hf) λE σ H hx17_=>by
 obtain ⟨ρ,l,S,f,l',S',sim,ro,hm,p⟩:=hx17_
 obtain ⟨⟨x,S1⟩,q1,hm⟩:=bnd hm
 cases hm
 exact ⟨ρ,l,S,x,_,sim,ro,q1,λρ1 H1 x' e1 s1 r1=>p ρ1 H1 _ e1 s1 ((ro.mono e1).set j r1)⟩
end
noncomputable def zdo (g:GM) (b:SM):List D->SM
 | [],l,S=>some (.nx,l,S)
 | x :: xs,l,S=>(g x l S).bind λp=>(b p.1 p.2).bind λq=>match q.1 with
  | .nx=>zdo g b xs q.2.1 q.2.2
  | .ct=>zdo g b xs q.2.1 q.2.2
  | .bk=>some (.nx,q.2)
  | .rt d=>some (.rt d,q.2)
noncomputable def zfn (g:GM) (b:SM) (n:Nat):Nat->Nat->SM
 | 0,_,_,_=>none
 | k+1,i,l,S=>(lstOf S n).bind λxs=>match xs[i]? with
  | none=>some (.nx,l,S)
  | some x=>(g x l S).bind λp=>(b p.1 p.2).bind λq=>match q.1 with
   | .nx=>zfn g b n k (i+1) q.2.1 q.2.2
   | .ct=>zfn g b n k (i+1) q.2.1 q.2.2
   | .bk=>some (.nx,q.2)
   | .rt d=>some (.rt d,q.2)
noncomputable def ziq (e:EM) (g:GM) (b:SM):SM:=λl S=>(e l S).bind λp=>match p.1 with
 | .tup xs=>zdo g b xs l p.2
 | .ref n=>(lstOf p.2 n).bind λxs=>zfn g b n (xs.length+1) 0 l p.2
 | _=>none
noncomputable def zbp (lo:Int) (n:Nat):List D:=(List.range n).map λ(i:Nat)=>.int (lo+i)
noncomputable def zby (as:AM):Lo->Sto->Option ((Int × Nat) × Sto):=λl S=>(as l S).bind λp=>match p.1 with
 | [.int j]=>if -(2 ^ 62)<=j/\j<2 ^ 62 then some ((0,j.toNat),p.2) else none
 | _=>none
noncomputable def zem (r:Lo->Sto->Option ((Int × Nat) × Sto)) (g:GM) (b:SM):SM:=λl S=>(r l S).bind λp=>zdo g b (zbp p.1.1 p.1.2) l p.2
section
variable {K:QFg}{g:GM}{b:SM}{E:Ends}
theorem zmw {next:SM}{x:D}{v:V}{ρ:List Addr}{l:Lo}{S:Sto}{H:Hp}{σ:St}{f:Fl}{l':Lo}{S':Sto}(sim:Sim K ρ S H) (ro:RO ρ H l σ) (rx:RD ρ H x v)
  (hm:((g x l S).bind λp=>(b p.1 p.2).bind λq=>match q.1 with
   | .nx=>next q.2.1 q.2.2
   | .ct=>next q.2.1 q.2.2
   | .bk=>some (.nx,q.2)
   | .rt d=>some (.rt d,q.2))=some (f,l',S')) (p:∀ρ' H' σ',Ext ρ H ρ' H'->Sim K ρ' S' H'->RO ρ' H' l' σ'->zfh ρ' H' E σ' f)
  {N:St->Hp->Prop} (hN:∀ρ1 H1 σ1 l1 S1,Ext ρ H ρ1 H1->Sim K ρ1 S1 H1->RO ρ1 H1 l1 σ1->next l1 S1=some (f,l',S')->N σ1 H1) :
  tg K g v σ H λσ2 H2=>ts K b { E with nx:=N,ct:=N,bk:=E.nx } σ2 H2:=by
 obtain ⟨⟨l1,S1⟩,q1,hm⟩:=bnd hm
 obtain ⟨⟨fl,l2,S2⟩,q2,hm⟩:=bnd hm
 refine ⟨ρ,l,S,x,l1,S1,sim,ro,rx,q1,λρ1 H1 σ1 e1 s1 r1=>⟨ρ1,l1,S1,fl,l2,S2,s1,r1,q2,λρ2 H2 σ2 e2 s2 r2=>?_⟩⟩
 cases fl with
 | nx=>exact hN ρ2 H2 σ2 l2 S2 (e1.trans e2) s2 r2 hm
 | ct=>exact hN ρ2 H2 σ2 l2 S2 (e1.trans e2) s2 r2 hm
 | bk=>cases hm;exact p ρ2 H2 σ2 (e1.trans e2) s2 r2
 | rt d=>cases hm;exact p ρ2 H2 σ2 (e1.trans e2) s2 r2
end
section
variable {X:Cx}{tgt iter:Expr}{body:List Stmt}{g:GM}{b:SM}{m:EM}{pos:Pos}
theorem zrb {K:QFg}{J:It}{vs:List V}{xs:List D}{ρ:List Addr}{l:Lo}{S:Sto}{H:Hp}{σ:St}{f:Fl}{l':Lo}{S':Sto}{E:Ends}(R:List Addr->Hp->Prop) (hR:∀ρ H ρ' H',Ext ρ H ρ' H'->R ρ H->R ρ' H')
  (hgo:∀(i:Nat) ρ H v,R ρ H->vs[i]? = some v->J.go i H) (hy:∀(i:Nat) ρ H v H',R ρ H->i<vs.length->J.yld i H v H'->H' = H/\vs[i]? = some v) (hst:∀ρ H,R ρ H->J.stop vs.length H)
  (hv:∀ρ H,R ρ H->RDs ρ H xs vs) (r0:R ρ H)
  (sim:Sim K ρ S H) (ro:RO ρ H l σ) (hm:zdo g b xs l S=some (f,l',S')) (p:∀ρ' H' σ',Ext ρ H ρ' H'->Sim K ρ' S' H'->RO ρ' H' l' σ'->zfh ρ' H' E σ' f) :
  ∃W:Nat->Nat->St->Hp->Prop,(∃m,W 0 m σ H)/\∀i m σ H,W i m σ H ->
   (J.stop i H/\E.nx σ H)\/(J.go i H/\∃N:St->Hp->Prop,(∀σ' H',N σ' H'->∃m',m' < m/\W (i+1) m' σ' H')/\∀x H',J.yld i H x H'->tg K g x σ H' λσ2 H2=>ts K b { E with nx:=N,ct:=N,bk:=E.nx } σ2 H2):=by
 refine ⟨λi m σ1 H1=>m=xs.length-i/\i<=xs.length/\∃ρ1 l1 S1,Ext ρ H ρ1 H1/\Sim K ρ1 S1 H1/\RO ρ1 H1 l1 σ1/\zdo g b (xs.drop i) l1 S1=some (f,l',S'),⟨xs.length,by simp,Nat.zero_le _,ρ,l,S,Ext.refl ..,sim,ro,hm⟩,?_⟩
 rintro i m σ1 H1 ⟨rfl,hi,ρ1,l1,S1,e1,s1,ro1,hm1⟩
 have R1:=hR _ _ _ _ e1 r0
 have hlen:=(hv _ _ r0).length
 by_cases hlt:i<xs.length
 ·have hx:xs[i]? = some xs[i]:=qge hlt
  obtain ⟨v,hvi,rv⟩:=(hv _ _ R1).get hx
  rw [List.drop_eq_getElem_cons hlt] at hm1
  refine .inr ⟨hgo i ρ1 H1 v R1 hvi,_,λσ' H' h=>h,λy H' hyl=>?_⟩
  obtain ⟨e,hy2⟩:=hy i ρ1 H1 y H' R1 (by omega) hyl
  subst e
  rw [hvi] at hy2;cases hy2
  refine zmw (next:=zdo g b (xs.drop (i+1))) s1 ro1 rv hm1 (λρ' H' σ' e'=>p ρ' H' σ' (e1.trans e')) λρ2 H2 σ2 l2 S2 e2 s2 ro2 hm2=>?_
  exact ⟨xs.length-(i+1),by omega,rfl,hlt,ρ2,l2,S2,e1.trans e2,s2,ro2,hm2⟩
 ·have hil:i=xs.length:=by omega
  subst hil
  rw [List.drop_length] at hm1
  cases hm1
  exact .inl ⟨by rw [hlen];exact hst _ _ R1,p ρ1 H1 σ1 e1 s1 ro1⟩
theorem zrc (ρ:List Addr) (H:Hp) (lo:Int) (n:Nat):RDs ρ H (zbp lo n) ((List.range n).map λ(i:Nat)=>V.int (lo+i)):=by
 unfold zbp
 generalize List.range n=l
 induction l with
 | nil=>exact .nil
 | cons a r ih=>exact .cons (.int _) ih
theorem yan {lo:Int}{n i:Nat}{v:V}(h:i<n) (hv:v=.int (lo+i)):((List.range n).map λ(i:Nat)=>V.int (lo+i))[i]? = some v:=by
 rw [qgm,List.getElem?_range h,hv];rfl
theorem PI.or {wi wj:TI}(h:PI X tgt iter wi) (h':PI X tgt iter wj):PI X tgt iter (λσ H R=>wi σ H R\/wj σ H R):=by
 intro pins s σ H R I q
 rcases q with q|q
 ·exact h pins s σ H R I q
 ·exact h' pins s σ H R I q
theorem yao {K:QFg}{n:Nat}{a:Addr}{ρ:List Addr}{l:Lo}{S:Sto}{H:Hp}{σ:St}{f:Fl}{l':Lo}{S':Sto}{E:Ends}{k:Nat}(ha:ρ[n]? = some a)
  (sim:Sim K ρ S H) (ro:RO ρ H l σ) (hm:zfn g b n k 0 l S=some (f,l',S')) (p:∀ρ' H' σ',Ext ρ H ρ' H'->Sim K ρ' S' H'->RO ρ' H' l' σ'->zfh ρ' H' E σ' f) :
  ∃W:Nat->Nat->St->Hp->Prop,(∃m,W 0 m σ H)/\∀i m σ H,W i m σ H ->
   ((Itl K a).stop i H/\E.nx σ H)\/((Itl K a).go i H/\∃N:St->Hp->Prop,(∀σ' H',N σ' H'->∃m',m' < m/\W (i+1) m' σ' H')/\∀x H',(Itl K a).yld i H x H'->tg K g x σ H' λσ2 H2=>ts K b { E with nx:=N,ct:=N,bk:=E.nx } σ2 H2):=by
 refine ⟨λi m σ1 H1=>∃ρ1 l1 S1,Ext ρ H ρ1 H1/\Sim K ρ1 S1 H1/\RO ρ1 H1 l1 σ1/\zfn g b n m i l1 S1=some (f,l',S'),⟨k,ρ,l,S,Ext.refl ..,sim,ro,hm⟩,?_⟩
 rintro i m σ1 H1 ⟨ρ1,l1,S1,e1,s1,ro1,hm1⟩
 cases m with
 | zero=>cases hm1
 | succ m =>
  have ha1:=e1.pre n a ha
  unfold zfn at hm1
  obtain ⟨xs,hx,hm1⟩:=bnd hm1
  obtain ⟨a',vs,ha',sq,rv⟩:=s1.lstOf hx
  rw [ha1] at ha';cases ha'
  cases hi:xs[i]? with
  | none =>
   rw [hi] at hm1
   cases hm1
   have hl:xs.length<=i:=List.getElem?_eq_none_iff.mp hi
   exact .inl ⟨⟨vs,sq,by rw [<-rv.length];exact hl⟩,p ρ1 H1 σ1 e1 s1 ro1⟩
  | some x =>
   rw [hi] at hm1
   obtain ⟨v,hvi,r⟩:=rv.get hi
   refine .inr ⟨⟨vs,v,sq,hvi⟩,_,λσ' H' h=>h,λy H' hyl=>?_⟩
   obtain ⟨e,hy2⟩:=hyl
   subst e
   have hy3:=hy2 vs sq
   rw [hvi] at hy3;cases hy3
   refine zmw (next:=zfn g b n m (i+1)) s1 ro1 r hm1 (λρ' H' σ' e'=>p ρ' H' σ' (e1.trans e')) λρ2 H2 σ2 l2 S2 e2 s2 ro2 hm2=>?_
   exact ⟨m,Nat.lt_succ_self m,ρ2,l2,S2,e1.trans e2,s2,ro2,hm2⟩
theorem yap (hp:PassesOwn (model X.prog X.w) X.A X.env X.xe) (hc:X.calm=true) (hi:PE3 X iter m) (hg:PG3 X tgt g) (hb:zct X body b)
  (hs:∀x,foldedSetIterable iter X.env x=pure x:=by intro _;rfl):PS3 X (.For tgt iter body [] pos) (ziq m g b) :=
 PS.imp (zl9 hp hc (PI.or (zpg hi) (zph hi)) hg hb hs) λE σ H hx18_=>by
  obtain ⟨ρ,l,S,f,l',S',sim,ro,hm,p⟩:=hx18_
  obtain ⟨⟨x,S1⟩,q1,hm⟩:=bnd hm
  dsimp only at hm
  split at hm
  ·rename_i xs
   refine .inr ⟨ρ,l,S,.tup xs,S1,sim,ro,q1,λρ1 H1 x' e1 s1 r1=>?_⟩
   cases r1 with
   | @tup xs a vs ha r =>
    refine ⟨a,rfl,⟨vs,SqT.of ha⟩,zrb (vs:=vs) (λρ' H'=>H' a=some (.tup vs)/\RDs ρ' H' xs vs) (λρ H ρ' H' e ⟨h1,h2⟩=>⟨e.tup _ _ h1,h2.mono e⟩)
     (λi ρ H v ⟨h1,_⟩ hv=>⟨vs,v,SqT.of h1,hv⟩) (λi ρ H v H' ⟨h1,_⟩ _ hy=>⟨hy.1,hy.2 vs (SqT.of h1)⟩) (λρ H ⟨h1,_⟩=>⟨vs,SqT.of h1,qlr _⟩) (λρ H h=>h.2) ⟨ha,r⟩ s1 (ro.mono e1) hm λρ' H' σ' e'=>p ρ' H' σ' (e1.trans e')⟩
  ·rename_i n
   obtain ⟨xs,hx,hm⟩:=bnd hm
   refine .inl ⟨ρ,l,S,.ref n,S1,sim,ro,q1,λρ1 H1 x' e1 s1 r1=>?_⟩
   obtain ⟨a,vs,ha,sq,rv⟩:=s1.lstOf hx
   cases r1 with
   | ref hn =>
    rw [ha] at hn;cases hn
    exact ⟨a,rfl,⟨vs,sq⟩,yao ha s1 (ro.mono e1) hm (λρ' H' σ' e'=>p ρ' H' σ' (e1.trans e'))⟩
  ·cases hm
theorem zhi {a:Expr}{mA:AM}{p0 pos':Pos}(hp:PassesOwn (model X.prog X.w) X.A X.env X.xe) (hc:X.calm=true) (hgl:Gl X "range") (hmg:X.mg "range" = none) (ha:PA3 X [a] mA) (hg:PG3 X tgt g) (hb:zct X body b)
  (hs:∀x,foldedSetIterable (.Call (.Name "range" p0) [a] [] pos') X.env x=pure x:=by intro _;rfl) (hst:starEach [a] X.env=[(false,eval a X.env)]:=by rfl):PS3 X (.For tgt (.Call (.Name "range" p0) [a] [] pos') body [] pos) (zem (zby mA) g b) :=
 PS.imp (zl9 hp hc (zpi hgl hmg ha hst) hg hb hs) λE σ H hx19_=>by
  obtain ⟨ρ,l,S,f,l',S',sim,ro,hm,p⟩:=hx19_
  obtain ⟨⟨⟨lo,n⟩,S1⟩,q1,hm⟩:=bnd hm
  obtain ⟨⟨xs,S2⟩,q2,q1⟩:=bnd q1
  dsimp only at q1 hm
  split at q1
  ·rename_i j
   obtain ⟨hz,e⟩:=za8 q1
   cases e
   refine ⟨ρ,l,S,[.int j],S1,sim,ro,q2,λρ1 H1 vs e1 s1 r1=>?_⟩
   obtain ⟨v,rfl,rv⟩:=r1.one
   cases rv
   refine ⟨j,rfl,hz.1,hz.2,zrb (vs:=(List.range j.toNat).map λ(i:Nat)=>V.int (0+i)) (λ_ _=>True) (λ_ _ _ _ _ h=>h) (λi ρ H v _ hv=>?_) (λi ρ H v H' _ hl hy=>⟨hy.1,?_⟩) (λρ H _=>?_) (λρ H _=>zrc ρ H 0 j.toNat) trivial s1 (ro.mono e1) hm λρ' H' σ' e'=>p ρ' H' σ' (e1.trans e')⟩
   ·have:=(qme hv).1
    simp at this
    show i<j.toNat
    omega
   ·obtain ⟨_,hy⟩:=hy
    exact yan (by simpa using hl) hy
   ·show j.toNat<=_
    simp
  ·cases q1
end
noncomputable def zbq (n:Nat) (b:SM):FM:=λds S=>(b (ds.map some++List.replicate (n-ds.length) none) S).bind λp=>match p.1 with
 | .rt d=>some (d,p.2.2)
 | .nx=>some (.non,p.2.2)
 | _=>none
theorem RDs.locals {ρ:List Addr}{H:Hp}{ds:List D}{vs:List V}(r:RDs ρ H ds vs) (N:List Str):RO ρ H (ds.map some++List.replicate (N.length-ds.length) none) (L2.start N vs):=by
 unfold L2.start
 rw [<-r.length]
 refine ⟨by simp [r.length],λi d h=>?_⟩
 by_cases hl:i<ds.length
 ·rw [List.getElem?_append_left (by simpa using hl),qgm] at h
  cases e:ds[i]? with
  | none=>rw [e] at h;cases h
  | some d' =>
   rw [e] at h
   have h':some (some d')=some (some d):=h
   cases h'
   obtain ⟨v,h1,h2⟩:=r.get e
   exact ⟨v,by rw [List.getElem?_append_left (by rw [qlm,<-r.length];exact hl),qgm,h1];rfl,h2⟩
 ·rw [List.getElem?_append_right (by simpa using hl),List.getElem?_replicate] at h
  split at h
  ·cases h
  ·cases h
theorem yaq {P:Program}{w:World}{K:QFg}{mg:Str->Option Value}{base:Heap}{x qual:Str}{st:Stmt}{f:Addr}{fd:FuncData}{N ps:List Str}{k n:Nat}{b:SM}(F:Fun K x qual st f fd) (S:FnScope N ps (zay st)) (hn:ps.length=n)
  (hbody:∀(cdv:Value),PySem.W.codeIn K cdv qual=true->∀(A:Around) (outer:List Env) (s:Shared) (H:Hp) (E:XK),Room k (A.deeper (envOfC qual (zay st) s.heap.objs.size f cdv)) ->
   zct (zbn CX0 P w K mg base N qual (zay st) f cdv A outer s H E).nox (zc9 st) b):FnOk P w K mg base CX0 (k+1) f fd ps (sp3 K n (zbq N.length b)):=by
 obtain ⟨oc,od,kV,doc,pm,an,cdv,ct,osl,rfl,lk,hcd⟩:=F.ex
 refine zme lk hcd S (λvs H Q E h=>by rw [h.1,hn]) λA outer s H vs Q E hr h=>?_
 obtain ⟨hl,ρ,ds,S0,v,S',sim,rd,hm,p⟩:=h
 refine ⟨_,PSs.nox (hbody cdv hcd A outer s H E hr),?_⟩
 obtain ⟨⟨fl,l',S1⟩,q,hm⟩:=bnd hm
 refine ⟨ρ,_,S0,fl,l',S1,sim,rd.locals N,q,λρ' H' σ' e' s' r'=>?_⟩
 cases fl with
 | nx=>cases hm;exact p ρ' H' _ e' s' .non
 | rt d=>cases hm;exact λv' rv=>p ρ' H' v' e' s' rv
 | bk=>cases hm
 | ct=>cases hm
noncomputable def zb8 (env:Env):List (Str × NameKind)->List (Str × Addr)->List (Str × Addr)
 | [],cs=>cs
 | (n,k) :: r,cs=>if k == .free then (match env.cells.lookup n with|some c=>zb8 env r ((n,c) :: cs)|none=>zb8 env r cs) else zb8 env r cs
theorem zrd (env:Env):∀(names:List (Str × NameKind)) (cs:List (Str × Addr)),(∀x∈names,x.2=.free->∃c,env.cells.lookup x.1=some c) ->
  (forIn names cs (λx r=>if (x.2 == NameKind.free)=true then do let c <-cellOf env x.1;pure (ForInStep.yield ((x.1,c) :: r)) else pure (ForInStep.yield r)):Sem (List (Str × Addr)))=pure (zb8 env names cs)
 | [],cs,_=>rfl
 | (n,k) :: r,cs,h=>by
  have ih:=λcs=>zrd env r cs λx hx=>h x (List.mem_cons_of_mem _ hx)
  rw [List.forIn_cons]
  by_cases hk:k=.free
  ·subst hk
   obtain ⟨c,hc⟩:=h (n,.free) List.mem_cons_self rfl
   simp only [beq_self_eq_true,if_true,cellOf,hc,zb8,pure_bind,bind_assoc]
   exact ih _
  ·have hb:(k == NameKind.free)=false:=by simpa using hk
   simp only [hb,qbf,if_false,zb8,pure_bind]
   exact ih _
theorem yar (scope:Scope) (env:Env) (h:∀x∈scope.names,x.2=.free->∃c,env.cells.lookup x.1=some c):closureFor scope env=pure (zb8 env scope.names []):=by
 have e:=zrd env scope.names [] h
 unfold closureFor
 show (forIn scope.names ([]:List (Str × Addr)) (λ(x:Str × NameKind) (r:List (Str × Addr))=>if (x.2 == NameKind.free)=true then do let c <-cellOf env x.1;pure (ForInStep.yield ((x.1,c) :: r)) else pure (ForInStep.yield r)) >>= λcs=>pure cs)=_
 rw [e,pure_bind]
theorem zkd (env:Env):∀(names:List (Str × NameKind)) (cs:List (Str × Addr)),(∀x c,cs.lookup x=some c->env.cells.lookup x=some c)->∀x c,(zb8 env names cs).lookup x=some c->env.cells.lookup x=some c
 | [],cs,h,x,c,q=>h x c q
 | (n,k) :: r,cs,h,x,c,q=>by
  unfold zb8 at q
  split at q
  ·split at q
   ·rename_i c' e
    refine zkd env r _ (λy d hy=>?_) x c q
    rw [List.lookup_cons] at hy
    split at hy
    ·rename_i hb
     have:y=n:=by simpa using hb
     cases hy
     rw [this];exact e
    ·exact h y d hy
   ·exact zkd env r cs h x c q
  ·exact zkd env r cs h x c q
theorem zir (env:Env):∀(names:List (Str × NameKind)) (cs:List (Str × Addr)) (x:Str),((x,NameKind.free)∈names\/∃c,cs.lookup x=some c)->(∃c,env.cells.lookup x=some c)->∃c,(zb8 env names cs).lookup x=some c
 | [],cs,x,h,_=>by
  rcases h with h|h
  ·cases h
  ·exact h
 | (n,k) :: r,cs,x,h,hx=>by
  unfold zb8
  by_cases hk:(k == NameKind.free)=true
  ·rw [if_pos hk]
   split
   ·rename_i c' e
    refine zir env r _ x ?_ hx
    by_cases hxn:x=n
    ·exact .inr ⟨c',by rw [hxn,List.lookup_cons];simp⟩
    ·rcases h with h|⟨c,h⟩
     ·rcases List.mem_cons.mp h with h|h
      ·cases h;exact absurd rfl hxn
      ·exact .inl h
     ·exact .inr ⟨c,by
       rw [List.lookup_cons]
       have:(x == n)=false:=by simpa using hxn
       rw [this];exact h⟩
   ·rename_i e
    refine zir env r _ x ?_ hx
    rcases h with h|h
    ·rcases List.mem_cons.mp h with h|h
     ·cases h
      obtain ⟨c,hc⟩:=hx
      rw [hc] at e;cases e
     ·exact .inl h
    ·exact .inr h
  ·rw [if_neg hk]
   refine zir env r _ x ?_ hx
   rcases h with h|h
   ·rcases List.mem_cons.mp h with h|h
    ·cases h;exact absurd rfl hk
    ·exact .inl h
   ·exact .inr h
section
variable {prog:Program}{w:World}{A:Around}{R:Result->Shared->Prop}{s:Shared}
theorem yas {elt target iter:Expr}{ifs:List Expr}{scope:Scope}{pos:Pos}{it acc:Value}{env:Env}(I:Nat->Shared->Prop)
  (turn:∀n s,I n s->wpAny (model prog w) A (pyNext it) (λr s₁=>match r with
   | none=>R (.ok .next) s₁
   | some v=>wpAny (model prog w) A (letOwnedTupleGo target it v) (λ_ s₁'=>wpAny (model prog w) A (assign target env v) (λ_ s₂ =>
     wpAny (model prog w) A (forIn ifs true λc r=>if r=true then do let ok <-isTrue c env (eval c env);pure (ForInStep.yield ok) else pure (ForInStep.yield r)) (λok s₃ =>
      if ok=true then wpAny (model prog w) A (eval elt env) (λx s₄ =>
       wpAny (model prog w) A (call (.builtin "list.append") [acc,x]) (λ_ s₅=>∃m,m<n/\I m s₅) (notedBy (model prog w) A env λe s'=>R (.error e) s') s₄) (notedBy (model prog w) A env λe s'=>R (.error e) s') s₃
      else ∃m,m<n/\I m s₃) (notedBy (model prog w) A env λe s'=>R (.error e) s') s₂) (notedBy (model prog w) A env λe s'=>R (.error e) s') s₁') (notedBy (model prog w) A env λe s'=>R (.error e) s') s₁) (notedBy (model prog w) A env λe s'=>R (.error e) s') s)
  (n:Nat) (h:I n s) :
  codeAny (model prog w) A (.compLoop (.ListComp elt [⟨target,iter,ifs,0⟩] scope pos) 0 it acc env) R s:=by
 refine codeAny_loop rfl I (λn s hI=>?_) n h
 show wpAny _ A ((compTurn (.ListComp elt [⟨target,iter,ifs,0⟩] scope pos) 0 it acc env).onRaise (λx=>do noteFrame x env;theTreesLotGoes x)) _ _ s
 refine wpAny_noted ?_
 rw [compTurn_list]
 refine qwb (wpAny_standAt (qwb (wpAny_mono (turn n s hI) (λr s₁ h₁=>?_) λ_ _ h'=>h')))
 cases r with
 | none=>exact qwp h₁
 | some v =>
  refine qwb (wpAny_mono h₁ (λ_ s₁' h₁=>?_) λ_ _ h'=>h')
  refine qwb (wpAny_mono h₁ (λ_ s₂ h₂=>qwb (wpAny_mono h₂ (λok s₃ h₃=>?_) λ_ _ h'=>h')) λ_ _ h'=>h')
  cases ok with
  | false=>exact qwp ⟨rfl,h₃⟩
  | true =>
   exact qwb (qwb (wpAny_mono h₃ (λx s₄ h₄=>qwb (wpAny_mono h₄ (λ_ s₅ h₅=>qwp (qwp ⟨rfl,h₅⟩)) λ_ _ h'=>h')) λ_ _ h'=>h'))
end
def PTs (X:Cx) (ifs:List Expr) (t:TT):Prop:=∀(pins:List (Addr × Obj)) (s:Shared) (σ:St) (H:Hp) (Q:Bool->Hp->Prop),Inv X pins σ H s->t σ H Q ->
 wpAny (model X.prog X.w) X.A (forIn ifs true λc r=>if r=true then do let ok <-isTrue c X.env (eval c X.env);pure (ForInStep.yield ok) else pure (ForInStep.yield r)) (TP X pins σ Q) X.xe s
theorem yat {X:Cx}:PTs X [] (λ_ H Q=>Q true H):=λ_ _ _ H _ I h=>wpAny_tests_nil ⟨H,I,h⟩
theorem yau {X:Cx}{c:Expr}{t:TT}(h:PT X c t):PTs X [c] t:=λpins s σ H Q I q=>wpAny_tests_one (h pins s σ H Q I q)
def zke (K:QFg) (wi:TI) (src:St->St) (g:TG) (tts:TT) (t:TE):TE:=λσ H Q=>wi σ H λJ H1=>∀D,H1 D=none->K.lookup D=none->∃W:Nat->Nat->St->Hp->Prop,
 (∃m,W 0 m (src σ) (upd H1 D (.lst [])))/\∀i m σ' H',W i m σ' H' ->
  (J.stop i H'/\Q (.ref D) H')\/(J.go i H'/\∃N:St->Hp->Prop,(∀σ' H',N σ' H'->∃m',m' < m/\W (i+1) m' σ' H') /\
   ∀x H'',J.yld i H' x H''->g x σ' H'' λσ2 H2=>tts σ2 H2 λb H3=>if b=true then t σ2 H3 (λv H4=>∃ys,H4 D=some (.lst ys)/\ys.length<sizeLine/\N σ2 (upd H4 D (.lst (ys++[v])))) else N σ2 H3)
theorem zre {scope:Scope}{env:Env}:∀{names:List (Str × NameKind)}{x:Str},names.lookup x=some .free ->
  ((names.map λ(n,k)=>if (k == NameKind.free && env.scope.kind == .function && env.kindOf n == some .cell) then (n,NameKind.cell) else (n,k)).lookup x=some .cell \/
   (names.map λ(n,k)=>if (k == NameKind.free && env.scope.kind == .function && env.kindOf n == some .cell) then (n,NameKind.cell) else (n,k)).lookup x=some .free)
 | [],x,h=>by simp at h
 | (n,k) :: r,x,h=>by
  have ih:=@zre scope env r x
  show List.lookup x ((if (k == NameKind.free && env.scope.kind == .function && env.kindOf n == some .cell)=true then (n,NameKind.cell) else (n,k)) :: _)=_\/List.lookup x ((if (k == NameKind.free && env.scope.kind == .function && env.kindOf n == some .cell)=true then (n,NameKind.cell) else (n,k)) :: _)=_
  cases hx:x == n with
  | true =>
   simp only [List.lookup_cons,hx] at h
   cases h
   by_cases hc:(NameKind.free == NameKind.free && env.scope.kind == .function && env.kindOf n == some .cell)=true
   ·rw [if_pos hc];simp [List.lookup_cons,hx]
   ·rw [if_neg hc];simp [List.lookup_cons,hx]
  | false =>
   simp only [List.lookup_cons,hx] at h
   by_cases hc:(k == NameKind.free && env.scope.kind == .function && env.kindOf n == some .cell)=true
   ·rw [if_pos hc];simp only [List.lookup_cons,hx];exact ih h
   ·rw [if_neg hc];simp only [List.lookup_cons,hx];exact ih h
section
variable {K:QFg}{ρ ρ':List Addr}{H H':Hp}{S:Sto}
theorem Sim.notin {a:Addr}(s:Sim K ρ S H) (h1:H a=none) (h2:K.lookup a=none):∀n:Nat,ρ[n]?≠some a:=λn hn=>by
 have hl:n<S.length:=by rw [<-s.len];exact (qme hn).1
 have q:=s.at' n a _ hn (qge hl)
 cases e:S[n] with
 | lst xs=>rw [e] at q;obtain ⟨vs,z,_⟩:=q;rw [h1] at z;cases z
 | flst xs =>
  rw [e] at q
  obtain ⟨vs,z,_⟩:=q
  rcases z with ⟨o,z⟩|⟨o,_,_,z,_⟩
  ·rw [h1] at z;cases z
  ·rw [h2] at z;cases z
 | iset g m=>rw [e] at q;have q:H a=_:=q;rw [h1] at q;cases q
 | dct kvs=>rw [e] at q;obtain ⟨vs,z,_⟩:=q;rw [h1] at z;cases z
 | tdct kvs=>rw [e] at q;obtain ⟨vs,z,_⟩:=q;rw [h1] at z;cases z
 | fdct kvs=>rw [e] at q;obtain ⟨o,vs,z,_⟩:=q;rw [h1] at z;cases z
 | ftdct kvs=>rw [e] at q;obtain ⟨o,vs,z,_⟩:=q;rw [h1] at z;cases z
 | tset ks=>rw [e] at q;obtain ⟨xs,_,z,_⟩:=q;rw [h1] at z;cases z
 | fnc x=>rw [e] at q;obtain ⟨_,o,z⟩:=q;rw [h2] at z;cases z
 | exc c=>rw [e] at q;obtain ⟨C,_,z⟩:=q;rw [h1] at z;cases z
 | tab x=>rw [e] at q;obtain ⟨_,_,_,_,z,_⟩:=q;rw [h1] at z;cases z
 | lam g caps=>rw [e] at q;obtain ⟨_,_,_,_,z,_⟩:=q;rw [h1] at z;cases z
 | dead=>rw [e] at q;obtain ⟨_,_,z,_⟩:=q;rw [h1] at z;cases z
theorem Sim.adopt {a:Addr}{xs:List D}{vs:List V}(s:Sim K ρ S H) (ha:H a=some (.lst vs)) (hn:∀n:Nat,ρ[n]?≠some a) (r:RDs ρ H xs vs):Sim K (ρ++[a]) (S++[.lst xs]) H:=by
 refine ⟨by simp [s.len],λi j b x1 x2 h1 h2 h3 h4 m1 m2=>?_,λn b o h1 h2=>?_⟩
 ·rcases zb3 h1 with g1|⟨e1,f1⟩ <;> rcases zb3 h2 with g2|⟨e2,f2⟩
  ·rcases zb3 h3 with h3|⟨e3,_⟩ <;> rcases zb3 h4 with h4|⟨e4,_⟩
   ·exact s.nd i j b _ _ g1 g2 h3 h4 m1 m2
   ·have:=(qme g2).1;have:=s.len;omega
   ·have:=(qme g1).1;have:=s.len;omega
   ·omega
  ·subst f2;exact absurd g1 (hn i)
  ·subst f1;exact absurd g2 (hn j)
  ·omega
 ·rcases zb3 h1 with h1|⟨e1,f1⟩
  ·rcases zb3 h2 with h2|⟨e2,f2⟩
   ·exact (s.at' n b o h1 h2).more ext0_push
   ·have:=(qme h1).1;have:=s.len;omega
  ·subst f1
   rcases zb3 h2 with h2|⟨e2,f2⟩
   ·have:=(qme h2).1;have:=s.len;omega
   ·subst f2
    exact ⟨vs,ha,r.mono0 ext0_push⟩
theorem Sim.beside {a:Addr}{ys:List V}{u:HO}(s:Sim K ρ S H) (ha:H a=some (.lst ys)) (hn:∀n:Nat,ρ[n]?≠some a):Sim K ρ S (upd H a u) :=
 ⟨s.len,s.nd,λn b o h1 h2=>(s.at' n b o h1 h2).written ha λ_ z=>hn n (by rw [h1,z])⟩
theorem Ext.beside {a:Addr}{ys:List V}{u:HO}{ρ0:List Addr}{H0:Hp}(e:Ext ρ0 H0 ρ H) (h0:H0 a=none) (ha:H a=some (.lst ys)):Ext ρ0 H0 ρ (upd H a u) :=
 ⟨⟨e.pre,λb vs h=>by rw [zan (zc8 (e.tup b vs h) ha (by intro z;cases z))];exact e.tup b vs h,λb o vs h=>by rw [zan (zc8 (e.frz b o vs h) ha (by intro z;cases z))];exact e.frz b o vs h⟩,λb vs h n=>⟨by rw [zan (zbc h h0)];exact (e.out b vs h n).1,(e.out b vs h n).2⟩⟩
theorem Ext.adopt {a:Addr}{ρ0:List Addr}{H0:Hp}(e:Ext ρ0 H0 ρ H) (h0:H0 a=none):Ext ρ0 H0 (ρ++[a]) H :=
 ⟨⟨λn b h=>(ext0_push (H:=H)).pre n b (e.pre n b h),e.tup,e.frz⟩,λb vs h n=>⟨(e.out b vs h n).1,λi hi=>by
  rcases zb3 hi with hi|⟨_,z⟩
  ·exact (e.out b vs h n).2 i hi
  ·rw [z,h0] at h;cases h⟩⟩
end
abbrev ItM:=Nat->Sto->Option (Option D)
abbrev IM:=Lo->Sto->Option (ItM × Nat × Sto)
def ze3 (K:QFg) (ρ:List Addr) (H:Hp) (it:ItM) (J:It):Prop:=∀(i:Nat) ρ' S' H',Ext ρ H ρ' H'->Sim K ρ' S' H' ->
 (it i S' = some none->J.stop i H')/\∀x,it i S' = some (some x)->J.go i H'/\∀y H'',J.yld i H' y H''->H'' = H'/\RD ρ' H' x y
inductive ti (K:QFg) (im:IM) (σ:St) (H:Hp) (R:It->Hp->Prop):Prop
 | mk (ρ:_) (l:_) (S:_) (it:_) (k:_) (S':_) (_:Sim K ρ S H) (_:RO ρ H l σ) (_:im l S=some (it,k,S')) (_:∀ρ' H' J,Ext ρ H ρ' H'->Sim K ρ' S' H'->ze3 K ρ' H' it J->R J H')
def PI3 (X:Cx) (tgt iter:Expr) (im:IM):Prop:=PI X tgt iter (ti X.K im)
theorem PI.imp {X:Cx}{tgt iter:Expr}{t u:TI}(h:PI X tgt iter t) (i:∀σ H R,u σ H R->t σ H R):PI X tgt iter u:=λpins s σ H Q I q=>h pins s σ H Q I (i _ _ _ q)
noncomputable def itX (xs:List D):ItM:=λi _=>some xs[i]?
noncomputable def itL (n:Nat):ItM:=λi S=>(lstOf S n).bind λxs=>some xs[i]?
noncomputable def zd3 (e:EM):IM:=λl S=>(e l S).bind λp=>match p.1 with
 | .tup xs=>some (itX xs,xs.length+1,p.2)
 | .ref n=>(lstOf p.2 n).bind λxs=>some (itL n,xs.length+1,p.2)
 | _=>none
noncomputable def zga (r:Lo->Sto->Option ((Int × Nat) × Sto)):IM:=λl S=>(r l S).bind λp=>some (itX (zbp p.1.1 p.1.2),p.1.2+1,p.2)
section
variable {K:QFg}
theorem zmx {ρ:List Addr}{H:Hp}{a:Addr}{xs:List D}{vs:List V}(ha:H a=some (.tup vs)) (r:RDs ρ H xs vs):ze3 K ρ H (itX xs) (Itt K a):=by
 intro i ρ' S' H' e s
 have ha':=SqT.of (K:=K) (e.tup _ _ ha)
 have r':=r.mono e
 refine ⟨λh=>?_,λx h=>?_⟩
 ·have h:xs[i]? = none:=qoi h
  exact ⟨vs,ha',by rw [<-r.length];exact List.getElem?_eq_none_iff.mp h⟩
 ·have h:xs[i]? = some x:=qoi h
  obtain ⟨v,hv,rv⟩:=r'.get h
  refine ⟨⟨vs,v,ha',hv⟩,λy H'' ⟨e1,e2⟩=>⟨e1,?_⟩⟩
  have:=e2 vs ha'
  rw [hv] at this;cases this
  exact rv
theorem zmy {ρ:List Addr}{H:Hp}{a:Addr}{n:Nat}(ha:ρ[n]? = some a):ze3 K ρ H (itL n) (Itl K a):=by
 intro i ρ' S' H' e s
 have ha':=e.pre _ _ ha
 refine ⟨λh=>?_,λx h=>?_⟩
 ·obtain ⟨xs,h1,h⟩:=bnd h
  have h:xs[i]? = none:=qoi h
  obtain ⟨b,vs,hb,sq,r⟩:=s.lstOf h1
  rw [ha'] at hb;cases hb
  exact ⟨vs,sq,by rw [<-r.length];exact List.getElem?_eq_none_iff.mp h⟩
 ·obtain ⟨xs,h1,h⟩:=bnd h
  have h:xs[i]? = some x:=qoi h
  obtain ⟨b,vs,hb,sq,r⟩:=s.lstOf h1
  rw [ha'] at hb;cases hb
  obtain ⟨v,hv,rv⟩:=r.get h
  refine ⟨⟨vs,v,sq,hv⟩,λy H'' ⟨e1,e2⟩=>⟨e1,?_⟩⟩
  have:=e2 vs sq
  rw [hv] at this;cases this
  exact rv
theorem yav {ρ:List Addr}{H:Hp}{lo:Int}{n:Nat}:ze3 K ρ H (itX (zbp lo n)) (Itr lo n):=by
 intro i ρ' S' H' e s
 refine ⟨λh=>?_,λx h=>?_⟩
 ·have h:(zbp lo n)[i]? = none:=qoi h
  have:=List.getElem?_eq_none_iff.mp h
  simp [zbp] at this
  exact this
 ·have h:(zbp lo n)[i]? = some x:=qoi h
  have hl:=(qme h).1
  simp only [zbp,qlm,List.length_range] at hl
  refine ⟨hl,λy H'' ⟨e1,e2⟩=>⟨e1,?_⟩⟩
  unfold zbp at h
  rw [qgm,List.getElem?_range hl] at h
  cases h
  rw [e2]
  exact .int _
end
section
variable {X:Cx}{tgt iter:Expr}{m:EM}{mA:AM}{p0 pos':Pos}{a a2:Expr}
theorem zkf (hi:PE3 X iter m):PI3 X tgt iter (zd3 m):=PI.imp (PI.or (zpg hi) (zph hi)) λσ H R hx1_=>by
 obtain ⟨ρ,l,S,it,k,S',sim,ro,hm,p⟩:=hx1_
 obtain ⟨⟨x,S1⟩,q1,hm⟩:=bnd hm
 dsimp only at hm
 split at hm
 ·rename_i xs
  cases hm
  refine .inr ⟨ρ,l,S,.tup xs,_,sim,ro,q1,λρ1 H1 x' e1 s1 r1=>?_⟩
  cases r1 with
  | @tup xs a vs ha r=>exact ⟨a,rfl,⟨vs,SqT.of ha⟩,p ρ1 H1 _ e1 s1 (zmx ha r)⟩
 ·rename_i n
  obtain ⟨xs,hx,hm⟩:=bnd hm
  cases hm
  refine .inl ⟨ρ,l,S,.ref n,_,sim,ro,q1,λρ1 H1 x' e1 s1 r1=>?_⟩
  obtain ⟨a,vs,ha,sq,rv⟩:=s1.lstOf hx
  cases r1 with
  | ref hn =>
   rw [ha] at hn;cases hn
   exact ⟨a,rfl,⟨vs,sq⟩,p ρ1 H1 _ e1 s1 (zmy ha)⟩
 ·cases hm
theorem zmz (hgl:Gl X "range") (hmg:X.mg "range" = none) (ha:PA3 X [a] mA) (hst:starEach [a] X.env=[(false,eval a X.env)]:=by rfl):PI3 X tgt (.Call (.Name "range" p0) [a] [] pos') (zga (zby mA)) :=
 PI.imp (zpi hgl hmg ha hst) λσ H R hx2_=>by
  obtain ⟨ρ,l,S,it,k,S',sim,ro,hm,p⟩:=hx2_
  obtain ⟨⟨⟨lo,n⟩,S1⟩,q1,hm⟩:=bnd hm
  cases hm
  obtain ⟨⟨xs,S2⟩,q2,q1⟩:=bnd q1
  dsimp only at q1
  split at q1
  ·rename_i j
   obtain ⟨hz,e⟩:=za8 q1
   cases e
   refine ⟨ρ,l,S,[.int j],_,sim,ro,q2,λρ1 H1 vs e1 s1 r1=>?_⟩
   obtain ⟨v,rfl,rv⟩:=r1.one
   cases rv
   exact ⟨j,rfl,hz.1,hz.2,p ρ1 H1 _ e1 s1 yav⟩
  ·cases q1
end
noncomputable def zdp (it:ItM) (g:GM) (t:TM) (e:EM):Nat->Nat->Lo->Sto->Option (List D × Sto)
 | 0,_,_,_=>none
 | k+1,i,l,S=>(it i S).bind λo=>match o with
  | none=>some ([],S)
  | some x=>(g x l S).bind λp=>(t p.1 p.2).bind λq=>if q.1=true then (e p.1 q.2).bind λr=>(zdp it g t e k (i+1) p.1 r.2).bind λz=>some (r.1 :: z.1,z.2) else zdp it g t e k (i+1) p.1 q.2
noncomputable def zcf {α:Type}(ixs:List (Option Nat)) (l:List (Option α)):List (Option α):=ixs.map λo=>match o with
 | some j=>(l[j]?).join
 | none=>none
noncomputable def zco (im:IM) (ixs:List (Option Nat)) (g:GM) (t:TM) (e:EM):EM:=λl S=>(im l S).bind λp=>(zdp p.1 g t e p.2.1 0 (zcf ixs l) p.2.2).bind λz=>if z.1.length<=sizeLine then some (.ref z.2.length,z.2++[.lst z.1]) else none
noncomputable def ze4:TM:=λ_ S=>some (true,S)
theorem yaw {ρ:List Addr}{H:Hp}{l:Lo}{σ:St}(ixs:List (Option Nat)) (r:RO ρ H l σ):RO ρ H (zcf ixs l) (zcf ixs σ):=by
 refine ⟨by simp [zcf],λi d h=>?_⟩
 unfold zcf at h ⊢
 rw [qgm] at h ⊢
 cases e:ixs[i]? with
 | none=>rw [e] at h;cases h
 | some o =>
  rw [e] at h
  cases o with
  | none=>cases h
  | some j =>
   have h:((l[j]?).join:Option D)=some d:=qoi h
   cases e2:l[j]? with
   | none=>rw [e2] at h;cases h
   | some o2 =>
    rw [e2] at h
    have h:o2=some d:=h
    subst h
    obtain ⟨v,h1,h2⟩:=r.get j d e2
    exact ⟨v,by show some ((σ[j]?).join)=_;rw [h1];rfl,h2⟩
inductive CI3 (K:QFg) (it:ItM) (g:GM) (t:TM) (e:EM) (S2:Sto) (all:List D) (ρ1:List Addr) (H1:Hp) (Da:Addr) (i m:Nat) (σ':St) (H':Hp):Prop
 | mk (ρ':List Addr) (l':Lo) (S':Sto) (ds:List D) (vs:List V) (rest:List D) (_:Ext ρ1 H1 ρ' H') (_:Sim K ρ' S' H') (_:RO ρ' H' l' σ') (_:H' Da=some (.lst vs)) (_:(∀n:Nat,ρ'[n]?≠some Da)) (_:RDs ρ' H' ds vs) (_:zdp it g t e m i l' S' = some (rest,S2)) (_:ds++rest=all)
theorem zrf {K:QFg}{im:IM}{ixs:List (Option Nat)}{g:GM}{t:TM}{e:EM}(σ:St) (H:Hp) (Q:VK) (q:te K (zco im ixs g t e) σ H Q):zke K (ti K im) (zcf ixs) (tg K g) (tt K t) (te K e) σ H Q:=by
 obtain ⟨ρ,l,S,v,S',sim,ro,hm,p⟩:=q
 obtain ⟨⟨it,k,S1⟩,q1,hm⟩:=bnd hm
 obtain ⟨⟨all,S2⟩,q2,hm⟩:=bnd hm
 obtain ⟨hz,he⟩:=za8 hm
 cases he
 refine ⟨ρ,l,S,it,k,S1,sim,ro,q1,λρ1 H1 J e1 s1 io D hD hK=>?_⟩
 dsimp only at q2 hz p
 refine ⟨λi m σ' H'=>CI3 K it g t e S2 all ρ1 H1 D i m σ' H',⟨k,?_⟩,?_⟩
 ·exact ⟨ρ1,zcf ixs l,S1,[],[],all,zbu hD,s1.laid hD,(yaw ixs (ro.mono e1)).mono (zbu hD),zbf,s1.notin hD hK,.nil,q2,rfl⟩
 ·rintro i m σ' H' ⟨ρ',l',S',ds,vs,rest,e2,s2,ro2,hD2,hn2,rd2,hc,hall⟩
  cases m with
  | zero=>cases hc
  | succ m =>
   unfold zdp at hc
   obtain ⟨o,ho,hc⟩:=bnd hc
   obtain ⟨iStop,iGo⟩:=io i ρ' S' H' e2 s2
   cases o with
   | none =>
    cases hc
    rw [List.append_nil] at hall
    subst hall
    refine .inl ⟨iStop ho,p (ρ'++[D]) H' (.ref D) (e1.trans (e2.adopt hD)) (s2.adopt hD2 hn2 rd2) (.ref ?_)⟩
    rw [<-s2.len];exact za5 ρ' D
   | some x =>
    obtain ⟨⟨l3,S3⟩,q3,hc⟩:=bnd hc
    obtain ⟨⟨b,S4⟩,q4,hc⟩:=bnd hc
    obtain ⟨hgo,hy⟩:=iGo x ho
    refine .inr ⟨hgo,_,λσ' H' h=>h,λy H'' hyl=>?_⟩
    obtain ⟨rfl,ry⟩:=hy y H'' hyl
    refine ⟨ρ',l',S',x,l3,S3,s2,ro2,ry,q3,λρ3 H3 σ3 e3 s3 ro3=>⟨ρ3,l3,S3,b,S4,s3,ro3,q4,λρ4 H4 e4 s4=>?_⟩⟩
    obtain ⟨hD3,hn3⟩:=e3.out D _ hD2 hn2
    obtain ⟨hD4,hn4⟩:=e4.out D _ hD3 hn3
    cases b with
    | false=>exact zfx ⟨m,Nat.lt_succ_self m,ρ4,l3,S4,ds,vs,rest,e2.trans (e3.trans e4),s4,ro3.mono e4,hD4,hn4,rd2.mono (e3.trans e4),hc,hall⟩
    | true =>
     have hc:((e l3 S4).bind λr=>(zdp it g t e m (i+1) l3 r.2).bind λz=>some (r.1 :: z.1,z.2))=some (rest,S2):=hc
     obtain ⟨⟨y5,S5⟩,q5,hc⟩:=bnd hc
     obtain ⟨⟨rest',S6⟩,q6,hc⟩:=bnd hc
     cases hc
     refine zfy ⟨ρ4,l3,S4,y5,S5,s4,ro3.mono e4,q5,λρ5 H5 v5 e5 s5 r5=>?_⟩
     obtain ⟨hD5,hn5⟩:=e5.out D _ hD4 hn4
     have e25:=e2.trans (e3.trans (e4.trans e5))
     have rd5:=rd2.mono (e3.trans (e4.trans e5))
     have hlen:vs.length<sizeLine:=by
      have h1:=rd5.length
      have h2:=congrArg List.length hall
      rw [qla,List.length_cons] at h2
      omega
     refine ⟨vs,hD5,hlen,m,Nat.lt_succ_self m,ρ5,l3,S5,ds++[y5],vs++[v5],rest',e25.beside hD hD5,s5.beside hD5 hn5,?_,zbf,hn5,((rd5.append (.cons r5 .nil)).mono0 (zj2 hD5)),q6,by rw [<-hall];simp⟩
     have r0:=(ro3.mono e4).mono e5
     exact ⟨r0.len,λi d h=>let ⟨w,h1,h2⟩:=r0.get i d h;⟨w,h1,h2.mono0 (zj2 hD5)⟩⟩
theorem zkg {X:Cx}:PTs X [] (tt X.K ze4):=λpins s σ H Q I hx4_=>by
 obtain ⟨ρ,l,S,v,S',sim,ro,hm,p⟩:=hx4_
 cases hm
 exact yat pins s σ H Q I (p ρ H (Ext.refl ..) sim)
theorem zm0 {X:Cx}{c:Expr}{t:TM}(h:PT3 X c t):PTs X [c] (tt X.K t):=yau h
noncomputable def zm1:D->D->Sto->Option (D × Sto)
 | .int i,.int j,S=>some (.int (i+j),S)
 | .tup xs,.tup ys,S=>if xs.length+ys.length<=sizeLine then some (.tup (xs++ys),S) else none
 | .ref n,.ref m,S=>match S[n]?,S[m]? with
  | some (.lst xs),some (.lst ys)=>if xs.length+ys.length<=sizeLine then some (.ref S.length,S++[.lst (xs++ys)]) else none
  | _,_=>none
 | _,_,_=>none
theorem yax {K:QFg}:Op3 K zm1 (λx y H Q=>rI0 (λi j=>.int (i+j)) x y H Q\/(zmf K x y H Q\/zmt K x y H Q)\/zqk x y H Q):=by
 intro ρ S H x y x' y' v S' Q sim rx ry h p
 unfold zm1 at h
 split at h
 ·cases rx;cases ry;cases h
  exact .inl ⟨_,_,rfl,rfl,p ρ H _ (Ext.refl ..) sim (.int _)⟩
 ·refine .inr (.inl (yaa ρ S H _ _ x' y' v S' Q sim rx ry ?_ p))
  unfold zms
  exact h
 ·split at h
  ·rename_i xs ys e1 e2
   obtain ⟨hz,e⟩:=za8 h
   cases e
   obtain ⟨a,us,ha,hH,r2⟩:=sim.lst e1
   obtain ⟨b,ws,hb,hH2,r3⟩:=sim.lst e2
   cases rx with
   | ref hn =>
    rw [ha] at hn;cases hn
    cases ry with
    | ref hm =>
     rw [hb] at hm;cases hm
     exact .inr (.inr ⟨a,b,us,ws,rfl,rfl,hH,hH2,by rw [<-r2.length,<-r3.length];exact hz,zf4 sim (r2.append r3) p⟩)
  ·cases h
 ·cases h
section
variable {X:Cx}{a b:Expr}{ma mb:EM}{pos:Pos}
end
def Has (P:Program) (w:World) (K:QFg) (mg:Str->Option Value) (base:Heap) (x:Str) (k n:Nat) (m:FM):Prop :=
 ∃(f:Addr) (fd:FuncData) (ps:List Str),FnOk P w K mg base CX0 k f fd ps (sp3 K n m)/\mg x=some (.ref f)/\PySem.W.keepIn K (.ref f)=true/\Binds K fd ps []
section
variable {X:Cx}{a:Expr}{es:List Expr}{mA:AM}{pos p:Pos}{x:Str}{k j n:Nat}{m:FM}
theorem zba (F:Has X.prog X.w X.K X.mg X.base x k n m) (hr:Room j X.A) (hkj:k<=j) (hg:Gl X x)
  (ha:PA3 X (a :: es) mA) (hl:∀l S v S',mA l S=some (v,S')->v.length=n) (hdb:(x == ("__debug__":Str))=false:=by decide) (he:starEach (a :: es) X.env=(false,eval a X.env) :: starEach es X.env:=by rfl) (hpl:(backTo pos (starEach es X.env)).any (·.1)=false:=by rfl) :
  PE3 X (.Call (.Name x p) (a :: es) [] pos) (zaf m mA):=by
 obtain ⟨f,fd,ps,F,hm,hk,hb⟩:=F
 exact yam F (hr.mono hkj) hg hm hk hb ha hl hdb he hpl
theorem yay:bootBuiltins "abs" = some (.builtin "abs"):=by decide +kernel
theorem zm2:bootBuiltins "int" = some (.type "int"):=by decide +kernel
theorem zkh:bootBuiltins "tuple" = some (.type "tuple"):=by decide +kernel
theorem zrg:bootBuiltins "list" = some (.type "list"):=by decide +kernel
theorem zrh:bootBuiltins "bool" = some (.type "bool"):=by decide +kernel
theorem yaz:bootBuiltins "str" = some (.type "str"):=by decide +kernel
theorem ya0:bootBuiltins "max" = some (.builtin "max"):=by decide +kernel
theorem zm3 (hg:Gl X "abs") (hm:X.mg "abs" = none) (ha:PA3 X (a :: es) mA) (he:starEach (a :: es) X.env=(false,eval a X.env) :: starEach es X.env:=by rfl) (hpl:(backTo pos (starEach es X.env)).any (·.1)=false:=by rfl):PE3 X (.Call (.Name "abs" p) (a :: es) [] pos) (zaf zf9 mA) :=
 zf5 zyb yac hg hm yay ha (by decide) (by decide) he hpl
theorem zgb (hg:Gl X "tuple") (hm:X.mg "tuple" = none) (ha:PA3 X (a :: es) mA) (he:starEach (a :: es) X.env=(false,eval a X.env) :: starEach es X.env:=by rfl) (hpl:(backTo pos (starEach es X.env)).any (·.1)=false:=by rfl):PE3 X (.Call (.Name "tuple" p) (a :: es) [] pos) (zaf zd1 mA) :=
 zif zza yaf hg hm zkh ha (by decide) (by decide) he hpl
theorem ya1 (hg:Gl X "list") (hm:X.mg "list" = none) (ha:PA3 X (a :: es) mA) (he:starEach (a :: es) X.env=(false,eval a X.env) :: starEach es X.env:=by rfl) (hpl:(backTo pos (starEach es X.env)).any (·.1)=false:=by rfl):PE3 X (.Call (.Name "list" p) (a :: es) [] pos) (zaf zim mA) :=
 zif zy9 yag hg hm zrg ha (by decide) (by decide) he hpl
theorem ya2 (hc:X.calm=true) (hg:Gl X "max") (hm:X.mg "max" = none) (ha:PA3 X (a :: es) mA) (he:starEach (a :: es) X.env=(false,eval a X.env) :: starEach es X.env:=by rfl) (hpl:(backTo pos (starEach es X.env)).any (·.1)=false:=by rfl):PE3 X (.Call (.Name "max" p) (a :: es) [] pos) (zaf zin mA) :=
 zf5 (zyc hc) yae hg hm ya0 ha (by decide) (by decide) he hpl
end
theorem ya3 {P:Program}{w:World}{K:QFg}{mg:Str->Option Value}{base:Heap}{x:Str}{st:Stmt}{f:Addr}{fd:FuncData}{N ps:List Str}{k n:Nat}{b:SM}(F:Fun K x x st f fd) (hm:mg x=some (.ref f)) (S:FnScope N ps (zay st)) (hn:ps.length=n) (hb:Binds K fd ps [])
  (hbody:∀(cdv:Value),PySem.W.codeIn K cdv x=true->∀(A:Around) (outer:List Env) (s:Shared) (H:Hp) (E:XK),Room k (A.deeper (envOfC x (zay st) s.heap.objs.size f cdv)) ->
   zct (zbn CX0 P w K mg base N x (zay st) f cdv A outer s H E).nox (zc9 st) b):Has P w K mg base x (k+1) n (zbq N.length b) :=
 ⟨f,fd,ps,yaq F S hn hbody,hm,F.kp,hb⟩
noncomputable def top (b:List Stmt) (i:Nat):Stmt:=b.getD i (.Pass ⟨0,0,0,0⟩)
def We (m:EM) (l:Lo) (S:Sto) (Q:D->Sto->Prop):Prop:=∃v S',m l S=some (v,S')/\Q v S'
def Wt (m:TM) (l:Lo) (S:Sto) (Q:Bool->Sto->Prop):Prop:=∃v S',m l S=some (v,S')/\Q v S'
def Wa (m:AM) (l:Lo) (S:Sto) (Q:List D->Sto->Prop):Prop:=∃v S',m l S=some (v,S')/\Q v S'
def Wo (o:Option (D × Sto)) (Q:D->Sto->Prop):Prop:=∃v S',o=some (v,S')/\Q v S'
def Wg (o:Option (Lo × Sto)) (Q:Lo->Sto->Prop):Prop:=∃l S',o=some (l,S')/\Q l S'
def Wr (o:Option (Fl × Lo × Sto)) (Q:Fl->Lo->Sto->Prop):Prop:=∃f l S',o=some (f,l,S')/\Q f l S'
abbrev Ws (m:SM) (l:Lo) (S:Sto) (Q:Fl->Lo->Sto->Prop):Prop:=Wr (m l S) Q
section
variable {a b c:EM}{t u:TM}{l:Lo}{S:Sto}{Q:D->Sto->Prop}{QB:Bool->Sto->Prop}{QA:List D->Sto->Prop}{QS:Fl->Lo->Sto->Prop}{QG:Lo->Sto->Prop}
theorem zak {i:Nat}:We (zaa i) l S Q = ∃d,l[i]? = some (some d)/\Q d S:=by
 apply propext;unfold We zaa
 constructor
 ·rintro ⟨v,S',h,q⟩
  split at h
  ·rename_i d e;cases h;exact ⟨_,e,q⟩
  ·cases h
 ·rintro ⟨d,e,q⟩
  exact ⟨d,S,by rw [e],q⟩
theorem zav {d:D}:We (eC d) l S Q=Q d S:=by
 apply propext;unfold We eC
 exact ⟨λhx1_=>by obtain ⟨v,S',h,q⟩:=hx1_;cases h;exact q,λq=>⟨_,_,rfl,q⟩⟩
theorem zax {f:D->D->Sto->Option (D × Sto)}:We (eOp f a b) l S Q=We a l S λx S1=>We b l S1 λy S2=>Wo (f x y S2) Q:=by
 apply propext
 constructor
 ·rintro ⟨v,S',h,q⟩
  obtain ⟨⟨x,S1⟩,h1,h⟩:=bnd h
  obtain ⟨⟨y,S2⟩,h2,h⟩:=bnd h
  exact ⟨x,S1,h1,y,S2,h2,v,S',h,q⟩
 ·rintro ⟨x,S1,h1,y,S2,h2,v,S',h,q⟩
  exact ⟨v,S',by unfold eOp;rw [h1];show (b l S1).bind _=_;rw [h2];exact h,q⟩
theorem zc0 {f:D->Sto->Option (D × Sto)}:We (eUn f a) l S Q=We a l S λx S1=>Wo (f x S1) Q:=by
 apply propext
 constructor
 ·rintro ⟨v,S',h,q⟩
  obtain ⟨⟨x,S1⟩,h1,h⟩:=bnd h
  exact ⟨x,S1,h1,v,S',h,q⟩
 ·rintro ⟨x,S1,h1,v,S',h,q⟩
  exact ⟨v,S',by unfold eUn;rw [h1];exact h,q⟩
theorem zar:Wa zae l S QA=QA [] S:=by
 apply propext
 exact ⟨λhx2_=>by obtain ⟨v,S',h,q⟩:=hx2_;cases h;exact q,λq=>⟨_,_,rfl,q⟩⟩
theorem zas {r:AM}:Wa (zab a r) l S QA=We a l S λx S1=>Wa r l S1 λxs S2=>QA (x :: xs) S2:=by
 apply propext
 constructor
 ·rintro ⟨v,S',h,q⟩
  obtain ⟨⟨x,S1⟩,h1,h⟩:=bnd h
  obtain ⟨⟨y,S2⟩,h2,h⟩:=bnd h
  cases h
  exact ⟨x,S1,h1,y,_,h2,q⟩
 ·rintro ⟨x,S1,h1,y,S2,h2,q⟩
  exact ⟨x :: y,S2,by unfold zab;rw [h1];show (r l S1).bind _=_;rw [h2];rfl,q⟩
theorem zat {f:FM}{r:AM}:We (zaf f r) l S Q=Wa r l S λxs S1=>Wo (f xs S1) Q:=by
 apply propext
 constructor
 ·rintro ⟨v,S',h,q⟩
  obtain ⟨⟨x,S1⟩,h1,h⟩:=bnd h
  exact ⟨x,S1,h1,v,S',h,q⟩
 ·rintro ⟨x,S1,h1,v,S',h,q⟩
  exact ⟨v,S',by unfold zaf;rw [h1];exact h,q⟩
theorem zdq {f:D->List D->Sto->Option (D × Sto)}{r:AM}:We (zci f a r) l S Q=We a l S λx S1=>(∃xs,zcu x S1=some xs)/\Wa r l S1 λys S2=>Wo (f x ys S2) Q:=by
 apply propext
 constructor
 ·rintro ⟨v,S',h,q⟩
  obtain ⟨⟨x,S1⟩,h1,h⟩:=bnd h
  obtain ⟨xs,h2,h⟩:=bnd h
  obtain ⟨⟨y,S2⟩,h3,h⟩:=bnd h
  exact ⟨x,S1,h1,⟨xs,h2⟩,y,S2,h3,v,S',h,q⟩
 ·rintro ⟨x,S1,h1,⟨xs,h2⟩,y,S2,h3,v,S',h,q⟩
  refine ⟨v,S',?_,q⟩
  unfold zci;rw [h1];show (zcu x S1).bind _=_;rw [h2];show (r l S1).bind _=_;rw [h3];exact h
theorem zbb:Wt (tE a) l S QB=We a l S λx S1=>∃k,x=.bl k/\QB k S1:=by
 apply propext
 constructor
 ·rintro ⟨v,S',h,q⟩
  obtain ⟨⟨x,S1⟩,h1,h⟩:=bnd h
  refine ⟨x,S1,h1,?_⟩
  cases x with
  | bl k=>cases h;exact ⟨_,rfl,q⟩
  | _=>cases h
 ·rintro ⟨x,S1,h1,k,rfl,q⟩
  exact ⟨k,S1,by unfold tE;rw [h1];rfl,q⟩
theorem zis:Wt (zf1 t u) l S QB=Wt t l S λk S1=>if k=true then Wt u l S1 QB else QB false S1:=by
 apply propext
 constructor
 ·rintro ⟨v,S',h,q⟩
  obtain ⟨⟨x,S1⟩,h1,h⟩:=bnd h
  refine ⟨x,S1,h1,?_⟩
  cases x with
  | true=>exact ⟨v,S',h,q⟩
  | false=>cases h;exact q
 ·rintro ⟨x,S1,h1,h⟩
  cases x with
  | true=>obtain ⟨v,S',h,q⟩:=h;exact ⟨v,S',by unfold zf1;rw [h1];exact h,q⟩
  | false=>exact ⟨false,S1,by unfold zf1;rw [h1];rfl,h⟩
theorem zdr:Wt (zcb t u) l S QB=Wt t l S λk S1=>if k=true then QB true S1 else Wt u l S1 QB:=by
 apply propext
 constructor
 ·rintro ⟨v,S',h,q⟩
  obtain ⟨⟨x,S1⟩,h1,h⟩:=bnd h
  refine ⟨x,S1,h1,?_⟩
  cases x with
  | false=>exact ⟨v,S',h,q⟩
  | true=>cases h;exact q
 ·rintro ⟨x,S1,h1,h⟩
  cases x with
  | false=>obtain ⟨v,S',h,q⟩:=h;exact ⟨v,S',by unfold zcb;rw [h1];exact h,q⟩
  | true=>exact ⟨true,S1,by unfold zcb;rw [h1];rfl,h⟩
theorem zc1:Wt (zck t) l S QB=Wt t l S λk S1=>QB (!k) S1:=by
 apply propext
 constructor
 ·rintro ⟨v,S',h,q⟩
  obtain ⟨⟨x,S1⟩,h1,h⟩:=bnd h
  cases h
  exact ⟨x,_,h1,q⟩
 ·rintro ⟨x,S1,h1,q⟩
  exact ⟨!x,S1,by unfold zck;rw [h1];rfl,q⟩
theorem ya4:Wt ze4 l S QB=QB true S:=by
 apply propext
 exact ⟨λhx3_=>by obtain ⟨v,S',h,q⟩:=hx3_;cases h;exact q,λq=>⟨_,_,rfl,q⟩⟩
theorem zhj:We (zfi a b) l S Q=We a l S λx S1=>∃k,x=.bl k/\if k=true then We b l S1 Q else Q (.bl false) S1:=by
 apply propext
 constructor
 ·rintro ⟨v,S',h,q⟩
  obtain ⟨⟨x,S1⟩,h1,h⟩:=bnd h
  refine ⟨x,S1,h1,?_⟩
  cases x with
  | bl k =>
   cases k with
   | true=>exact ⟨true,rfl,v,S',h,q⟩
   | false=>cases h;exact ⟨false,rfl,q⟩
  | _=>cases h
 ·rintro ⟨x,S1,h1,k,rfl,h⟩
  cases k with
  | true=>obtain ⟨v,S',h,q⟩:=h;exact ⟨v,S',by unfold zfi;rw [h1];exact h,q⟩
  | false=>exact ⟨_,S1,by unfold zfi;rw [h1];rfl,h⟩
theorem zm4:We (zj6 a) l S Q=We a l S λx S1=>∃k,x=.bl k/\Q (.bl (!k)) S1:=by
 apply propext
 constructor
 ·rintro ⟨v,S',h,q⟩
  obtain ⟨⟨x,S1⟩,h1,h⟩:=bnd h
  refine ⟨x,S1,h1,?_⟩
  cases x with
  | bl k=>cases h;exact ⟨k,rfl,q⟩
  | _=>cases h
 ·rintro ⟨x,S1,h1,k,rfl,h⟩
  exact ⟨_,S1,by unfold zj6;rw [h1];rfl,h⟩
variable {m n:SM}
theorem zcc:Ws zbg l S QS=QS .nx l S:=by
 apply propext
 exact ⟨λhx4_=>by obtain ⟨f,v,S',h,q⟩:=hx4_;cases h;exact q,λq=>⟨_,_,_,rfl,q⟩⟩
theorem zcw:Ws (zaj m n) l S QS=Ws m l S λf l1 S1=>match f with | .nx=>Ws n l1 S1 QS|f=>QS f l1 S1:=by
 apply propext
 constructor
 ·rintro ⟨f,v,S',h,q⟩
  obtain ⟨⟨g,l1,S1⟩,h1,h⟩:=bnd h
  refine ⟨g,l1,S1,h1,?_⟩
  cases g with
  | nx=>exact ⟨f,v,S',h,q⟩
  | _=>cases h;exact q
 ·rintro ⟨g,l1,S1,h1,h⟩
  cases g with
  | nx=>obtain ⟨f,v,S',h,q⟩:=h;exact ⟨f,v,S',by unfold zaj;rw [h1];exact h,q⟩
  | bk=>exact ⟨_,_,_,by unfold zaj;rw [h1];rfl,h⟩
  | ct=>exact ⟨_,_,_,by unfold zaj;rw [h1];rfl,h⟩
  | rt d=>exact ⟨_,_,_,by unfold zaj;rw [h1];rfl,h⟩
theorem za0 (R:Lo->Sto->Prop) (h1:Ws m l S λf l1 S1=>f=.nx/\R l1 S1) (h2:∀l1 S1,R l1 S1->Ws n l1 S1 QS):Ws (zaj m n) l S QS:=by
 rw [zcw]
 obtain ⟨f,l1,S1,e,rfl,r⟩:=h1
 exact ⟨_,_,_,e,h2 l1 S1 r⟩
theorem zbj:Ws (sIf t m n) l S QS=Wt t l S λk S1=>if k=true then Ws m l S1 QS else Ws n l S1 QS:=by
 apply propext
 constructor
 ·rintro ⟨f,v,S',h,q⟩
  obtain ⟨⟨x,S1⟩,h1,h⟩:=bnd h
  refine ⟨x,S1,h1,?_⟩
  cases x with
  | true=>exact ⟨f,v,S',h,q⟩
  | false=>exact ⟨f,v,S',h,q⟩
 ·rintro ⟨x,S1,h1,h⟩
  cases x with
  | true=>obtain ⟨f,v,S',h,q⟩:=h;exact ⟨f,v,S',by unfold sIf;rw [h1];exact h,q⟩
  | false=>obtain ⟨f,v,S',h,q⟩:=h;exact ⟨f,v,S',by unfold sIf;rw [h1];exact h,q⟩
theorem zen:Ws (zdl a) l S QS=We a l S λ_ S1=>QS .nx l S1:=by
 apply propext
 constructor
 ·rintro ⟨f,v,S',h,q⟩
  obtain ⟨⟨x,S1⟩,h1,h⟩:=bnd h
  cases h
  exact ⟨x,_,h1,q⟩
 ·rintro ⟨x,S1,h1,q⟩
  exact ⟨_,_,_,by unfold zdl;rw [h1];rfl,q⟩
theorem zbt:Ws (za4 a) l S QS=We a l S λx S1=>QS (.rt x) l S1:=by
 apply propext
 constructor
 ·rintro ⟨f,v,S',h,q⟩
  obtain ⟨⟨x,S1⟩,h1,h⟩:=bnd h
  cases h
  exact ⟨x,_,h1,q⟩
 ·rintro ⟨x,S1,h1,q⟩
  exact ⟨_,_,_,by unfold za4;rw [h1];rfl,q⟩
theorem za7 {g:GM}:Ws (zaq a g) l S QS=We a l S λx S1=>Wg (g x l S1) λl2 S2=>QS .nx l2 S2:=by
 apply propext
 constructor
 ·rintro ⟨f,v,S',h,q⟩
  obtain ⟨⟨x,S1⟩,h1,h⟩:=bnd h
  obtain ⟨⟨l2,S2⟩,h2,h⟩:=bnd h
  cases h
  exact ⟨x,S1,h1,_,_,h2,q⟩
 ·rintro ⟨x,S1,h1,l2,S2,h2,q⟩
  refine ⟨_,_,_,?_,q⟩
  unfold zaq;rw [h1];show (g x l S1).bind _=_;rw [h2];rfl
theorem zaz {i:Nat}{d:D}:Wg (zal i d l S) QG=QG (l.set i (some d)) S:=by
 apply propext
 exact ⟨λhx7_=>by obtain ⟨v,S',h,q⟩:=hx7_;cases h;exact q,λq=>⟨_,_,rfl,q⟩⟩
theorem zgc {k:Nat}{gs:GsM}{xs:List D}:Wg (zdn k gs (.tup xs) l S) QG=(xs.length=k/\Wg (gs xs l S) QG):=by
 apply propext
 constructor
 ·rintro ⟨v,S',h,q⟩
  have h:(if xs.length=k then gs xs l S else none)=some (v,S'):=h
  by_cases hl:xs.length=k
  ·rw [if_pos hl] at h;exact ⟨hl,v,S',h,q⟩
  ·rw [if_neg hl] at h;cases h
 ·rintro ⟨hl,v,S',h,q⟩
  exact ⟨v,S',by show (if xs.length=k then gs xs l S else none)=_;rw [if_pos hl];exact h,q⟩
theorem zgd:Wg (zdm [] l S) QG=QG l S:=by
 apply propext
 exact ⟨λhx8_=>by obtain ⟨v,S',h,q⟩:=hx8_;cases h;exact q,λq=>⟨_,_,rfl,q⟩⟩
theorem zge {g:GM}{gs:GsM}{x:D}{xs:List D}:Wg (zb7 g gs (x :: xs) l S) QG=Wg (g x l S) λl1 S1=>Wg (gs xs l1 S1) QG:=by
 apply propext
 constructor
 ·rintro ⟨v,S',h,q⟩
  obtain ⟨⟨l1,S1⟩,h1,h⟩:=bnd h
  exact ⟨l1,S1,h1,v,S',h,q⟩
 ·rintro ⟨l1,S1,h1,v,S',h,q⟩
  exact ⟨v,S',by show (g x l S).bind _=_;rw [h1];exact h,q⟩
theorem za1 {d:D}:Wo (some (d,S)) Q=Q d S:=by
 apply propext
 exact ⟨λhx9_=>by obtain ⟨v,S',h,q⟩:=hx9_;cases h;exact q,λq=>⟨_,_,rfl,q⟩⟩
theorem zd4 {α:Type}{o:Option α}{f:α->Option (D × Sto)}:Wo (o.bind f) Q = ∃x,o=some x/\Wo (f x) Q:=by
 cases o with
 | none=>simp [Wo]
 | some x=>simp [Wo]
theorem zfo {p:Prop} [Decidable p] {x:D × Sto}:Wo (if p then some x else none) Q=(p/\Q x.1 x.2):=by
 obtain ⟨a,b⟩:=x
 by_cases hp:p
 ·rw [if_pos hp]
  apply propext
  exact ⟨λhx10_=>by obtain ⟨v,S',h,q⟩:=hx10_;cases h;exact ⟨hp,q⟩,λq=>⟨a,b,rfl,q.2⟩⟩
 ·simp [hp,Wo]
theorem zd5 {g:Int->Int->D}{i j:Int}:Wo (oI0 g (.int i) (.int j) S) Q=Q (g i j) S:=za1
theorem zit {C:Int->Int->Bool}{g:Int->Int->D}{i j:Int}:Wo (oI C g (.int i) (.int j) S) Q=(C i j=true/\Q (g i j) S):=zfo
theorem zm5 {xs:List D}{i:Int}:Wo (dIx (.tup xs) (.int i) S) Q = ∃v,L2.atI xs i=some v/\Q v S:=by
 show Wo ((L2.atI xs i).bind λv=>some (v,S)) Q=_
 rw [zd4];simp only [za1]
theorem zm6 {k:Nat}{i:Int}:Wo (dIx (.ref k) (.int i) S) Q = ∃xs,lstOf S k=some xs/\∃v,L2.atI xs i=some v/\Q v S:=by
 show Wo ((lstOf S k).bind λxs=>(L2.atI xs i).bind λv=>some (v,S)) Q=_
 rw [zd4];simp only [zd4,za1]
theorem zm7 {xs:List D}:Wo (zil [.tup xs] S) Q=Q (.int xs.length) S:=za1
theorem zm8 {k:Nat}:Wo (zil [.ref k] S) Q = ∃xs,lstOf S k=some xs/\Q (.int xs.length) S:=by
 show Wo ((lstOf S k).bind λxs=>some (.int xs.length,S)) Q=_
 rw [zd4];simp only [za1]
theorem zri {i:Int}:Wo (zf9 [.int i] S) Q=Q (.int (if i<0 then -i else i)) S:=za1
theorem zdc {xs:List D}:Wo (zbs xs S) Q=(xs.length<=sizeLine/\Q (.tup xs) S):=zfo
theorem zds {xs:List D}:Wo (zb4 xs S) Q=(xs.length<=sizeLine/\Q (.ref S.length) (S++[.lst xs])):=zfo
theorem ziu {k:Nat}:Wo (zd1 [.ref k] S) Q = ∃xs,lstOf S k=some xs/\Q (.tup xs) S:=by
 show Wo ((lstOf S k).bind λxs=>some (.tup xs,S)) Q=_
 rw [zd4];simp only [za1]
theorem ze5 {i j:Int}:Wo (dEq (.int i) (.int j) S) Q=Q (.bl (decide (i=j))) S:=za1
theorem zrj {x:D}:Wo (dIs x .non S) Q=Q (.bl (zdb x)) S:=by
 cases x <;> exact za1
theorem zfp {x:D}:Wo (zfk x .non S) Q=Q (.bl (!zdb x)) S:=by
 cases x <;> exact za1
theorem ziv {k:Nat}{x:D}:Wo (zd2 (.ref k) [x] S) Q = ∃xs,S[k]? = some (.lst xs)/\xs.length<sizeLine/\Q .non (S.set k (.lst (xs++[x]))):=by
 show Wo (match S[k]? with|some (.lst xs)=>if xs.length<sizeLine then some (.non,S.set k (.lst (xs++[x]))) else none|_=>none) Q=_
 cases e:S[k]? with
 | none=>simp [Wo]
 | some o =>
  cases o with
  | lst xs=>simp [zfo]
  | flst xs=>simp [Wo]
  | iset f n=>simp [Wo]
  | dct kvs=>simp [Wo]
  | fdct kvs=>simp [Wo]
  | ftdct kvs=>simp [Wo]
  | tset ks=>simp [Wo]
  | fnc x=>simp [Wo]
  | tdct kvs=>simp [Wo]
  | exc c=>simp [Wo]
  | tab x=>simp [Wo]
  | lam g caps=>simp [Wo]
  | dead=>simp [Wo]
theorem zbz {k:Nat}{b:SM}{ds:List D}:Wo (zbq k b ds S) Q=Ws b (ds.map some++List.replicate (k-ds.length) none) S λf _ S1=>match f with | .rt d=>Q d S1 | .nx=>Q .non S1|_=>False:=by
 apply propext
 constructor
 ·rintro ⟨v,S',h,q⟩
  obtain ⟨⟨f,l1,S1⟩,h1,h⟩:=bnd h
  refine ⟨f,l1,S1,h1,?_⟩
  cases f with
  | rt d=>cases h;exact q
  | nx=>cases h;exact q
  | bk=>cases h
  | ct=>cases h
 ·rintro ⟨f,l1,S1,h1,q⟩
  cases f with
  | rt d=>exact ⟨_,_,by unfold zbq;rw [h1];rfl,q⟩
  | nx=>exact ⟨_,_,by unfold zbq;rw [h1];rfl,q⟩
  | bk=>cases q
  | ct=>cases q
end
theorem Wo.mono {o:Option (D × Sto)}{Q Q':D->Sto->Prop}(h:Wo o Q) (i:∀v S,Q v S->Q' v S):Wo o Q':=let ⟨v,S,e,q⟩:=h;⟨v,S,e,i v S q⟩
theorem Wr.mono {o:Option (Fl × Lo × Sto)}{Q Q':Fl->Lo->Sto->Prop}(h:Wr o Q) (i:∀f v S,Q f v S->Q' f v S):Wr o Q':=let ⟨f,v,S,e,q⟩:=h;⟨f,v,S,e,i f v S q⟩
section
variable {g:GM}{b:SM}{l:Lo}{S:Sto}{QS:Fl->Lo->Sto->Prop}
theorem ya5 {as:AM}:Ws (zem (zby as) g b) l S QS=Wa as l S λxs S1=>∃j,xs=[.int j]/\(-(2 ^ 62)<=j/\j<2 ^ 62)/\Wr (zdo g b (zbp 0 j.toNat) l S1) QS:=by
 apply propext
 constructor
 ·rintro ⟨f,v,S',h,q⟩
  obtain ⟨⟨⟨lo,n⟩,S1⟩,h1,h⟩:=bnd h
  obtain ⟨⟨xs,S2⟩,h2,h1⟩:=bnd h1
  dsimp only at h1
  split at h1
  ·rename_i j
   obtain ⟨hz,e⟩:=za8 h1
   cases e
   exact ⟨_,_,h2,j,rfl,hz,f,v,S',h,q⟩
  ·cases h1
 ·rintro ⟨xs,S1,h1,j,rfl,hz,f,v,S',h,q⟩
  refine ⟨f,v,S',?_,q⟩
  have:zby as l S=some ((0,j.toNat),S1):=by
   unfold zby;rw [h1];show (if _ then _ else _)=_;rw [if_pos hz]
  unfold zem;show (zby as l S).bind _=_;rw [this];exact h
theorem ya6 {e:EM}:Ws (ziq e g b) l S QS=We e l S λx S1=>Wr (match x with | .tup xs=>zdo g b xs l S1 | .ref n=>(lstOf S1 n).bind λxs=>zfn g b n (xs.length+1) 0 l S1|_=>none) QS:=by
 apply propext
 constructor
 ·rintro ⟨f,v,S',h,q⟩
  obtain ⟨⟨x,S1⟩,h1,h⟩:=bnd h
  exact ⟨x,S1,h1,f,v,S',h,q⟩
 ·rintro ⟨x,S1,h1,f,v,S',h,q⟩
  exact ⟨f,v,S',by unfold ziq;rw [h1];exact h,q⟩
theorem zrk {lo:Int}{n i:Nat}{x:D}(h:(zbp lo n)[i]? = some x):i<n/\x=.int (lo+i):=by
 have hl:=(qme h).1
 simp only [zbp,qlm,List.length_range] at hl
 unfold zbp at h
 rw [qgm,List.getElem?_range hl] at h
 exact ⟨hl,(qoi h).symm⟩
theorem zki (lo:Int) (n:Nat):(zbp lo n).length=n:=by simp [zbp]
end
mutual
noncomputable def zaw (S:Sto):Nat->D->Option PyData
 | 0,_=>none
 | _+1,.non=>some .none
 | _+1,.bl b=>some (.bool b)
 | _+1,.int i=>if i.natAbs.log2<1920 then some (.int i) else none
 | _+1,.str x=>some (.str x)
 | k+1,.tup xs=>(pyAll S k xs).bind λds=>some (.tuple ds)
 | k+1,.ref n=>(lstOf S n).bind λxs=>(pyAll S k xs).bind λds=>some (.list ds)
 | _+1,.fn _=>none
termination_by k=>(k,0)
noncomputable def pyAll (S:Sto):Nat->List D->Option (List PyData)
 | _,[]=>some []
 | k,x :: xs=>(zaw S k x).bind λd=>(pyAll S k xs).bind λds=>some (d :: ds)
termination_by k xs=>(k,xs.length+1)
end
noncomputable def ziw:FM
 | [x],S=>(zaw S 140 x).bind λd=>if d.shown.length<=sizeLine then some (.str d.shown,S) else none
 | _,_=>none
section
variable {X:Cx}{pins:List (Addr × Obj)}{σ:St}{H:Hp}{s:Shared}{ρ:List Addr}{S:Sto}
theorem zm9 (I:Inv X pins σ H s) (sim:Sim X.K ρ S H) {k:Nat}(ih:∀(d:D) (v:V) (u:Value) (p:PyData),RD ρ H d v->RelV v u->zaw S k d=some p->(∃as,Reads s.heap u p as)/\p.showable=true/\p.hasDict=false/\p.depth<=k):∀(xs:List D) (vs:List V) (us:List Value) (ds:List PyData),RDs ρ H xs vs->Vals vs us->pyAll S k xs=some ds->(∃as,ReadsAll s.heap us ds as)/\PyData.showableAll ds=true/\PyData.hasDictAll ds=false/\PyData.depthAll ds<=k:=by
 intro xs
 induction xs with
 | nil =>
  intro vs us ds r e h
  unfold pyAll at h;cases h;cases r;cases e
  exact ⟨⟨_,.nil⟩,rfl,rfl,Nat.zero_le _⟩
 | cons x xs ihx =>
  intro vs us ds r e h
  unfold pyAll at h
  obtain ⟨d,h1,h⟩:=bnd h
  obtain ⟨ds',h2,h⟩:=bnd h
  cases h
  cases r with
  | cons r1 r2 =>
   cases e with
   | cons e1 e2 =>
    obtain ⟨⟨as,q1⟩,q2,q3,q4⟩:=ih x _ _ d r1 e1 h1
    obtain ⟨⟨bs,p1⟩,p2,p3,p4⟩:=ihx _ _ ds' r2 e2 h2
    refine ⟨⟨_,.cons q1 p1⟩,?_,?_,?_⟩
    ·unfold PyData.showableAll;rw [q2,p2];rfl
    ·unfold PyData.hasDictAll;rw [q3,p3];rfl
    ·unfold PyData.depthAll;omega
theorem ze6 (I:Inv X pins σ H s) (sim:Sim X.K ρ S H):∀(k:Nat) (d:D) (v:V) (u:Value) (p:PyData),RD ρ H d v->RelV v u->zaw S k d=some p->(∃as,Reads s.heap u p as)/\p.showable=true/\p.hasDict=false/\p.depth<=k:=by
 intro k
 induction k with
 | zero=>intro d v u p _ _ h;unfold zaw at h;cases h
 | succ k ih =>
  intro d v u p r e h
  cases d with
  | non  =>
   unfold zaw at h;cases h;cases r;cases e
   exact ⟨⟨_,.none⟩,rfl,rfl,Nat.zero_le _⟩
  | bl b =>
   unfold zaw at h;cases h;cases r;cases e
   exact ⟨⟨_,.bool b⟩,rfl,rfl,Nat.zero_le _⟩
  | int i =>
   unfold zaw at h
   obtain ⟨hz,e2⟩:=za8 h
   cases e2;cases r
   obtain ⟨t,rfl⟩:=e
   exact ⟨⟨_,.int i t⟩,by unfold PyData.showable;exact decide_eq_true hz,rfl,Nat.zero_le _⟩
  | str x =>
   unfold zaw at h;cases h;cases r
   obtain ⟨t,rfl⟩:=e
   exact ⟨⟨_,.str x t⟩,rfl,rfl,Nat.zero_le _⟩
  | fn _=>unfold zaw at h;cases h
  | tup xs =>
   unfold zaw at h
   obtain ⟨ds,h1,h⟩:=bnd h
   cases h
   cases r with
   | tup ha r =>
    cases e
    obtain ⟨its,rv,⟨o,ho,hc,n,hd⟩,hz⟩:=I.tuple (SqT.of ha)
    obtain ⟨⟨as,h2⟩,h3,h4,h5⟩:=zm9 I sim ih xs _ _ ds r rv h1
    refine ⟨⟨as,.tuple ho hc hd (by simpa using h2)⟩,?_,?_,?_⟩
    ·unfold PyData.showable;exact h3
    ·unfold PyData.hasDict;exact h4
    ·unfold PyData.depth;omega
  | ref n =>
   unfold zaw at h
   obtain ⟨xs,h0,h⟩:=bnd h
   obtain ⟨ds,h1,h⟩:=bnd h
   cases h
   obtain ⟨a,vs,ha,sq,rd⟩:=sim.lstOf h0
   cases r with
   | ref hn =>
    rw [ha] at hn;cases hn
    cases e
    obtain ⟨its,rv,pl,hz⟩:=I.list sq
    obtain ⟨o,ho,hc,m,hd⟩:=pl.isList
    obtain ⟨⟨as,h2⟩,h3,h4,h5⟩:=zm9 I sim ih xs _ _ ds rd rv h1
    refine ⟨⟨_,.list ho hc hd (by simpa using h2)⟩,?_,?_,?_⟩
    ·unfold PyData.showable;exact h3
    ·unfold PyData.hasDict;exact h4
    ·unfold PyData.depth;omega
theorem zrl (I:Inv X pins σ H s) (sim:Sim X.K ρ S H):∀(k:Nat) (xs:List D) (vs:List V) (us:List Value) (ds:List PyData),RDs ρ H xs vs->Vals vs us->pyAll S k xs=some ds->(∃as,ReadsAll s.heap us ds as)/\PyData.showableAll ds=true/\PyData.hasDictAll ds=false/\PyData.depthAll ds<=k
 | k=>zm9 I sim (ze6 I sim k)
end
section
variable {X:Cx}{a:Expr}{es:List Expr}{mA:AM}{pos p:Pos}
theorem ya7 {k:Nat}(hr:Room k X.A):CallR X (.builtin "repr") (λxs H Q=>∃v ρ S d pd,xs=[v]/\Sim X.K ρ S H/\RD ρ H d v/\zaw S 140 d=some pd/\pd.shown.length<=sizeLine/\Q (.str pd.shown) H):=by
 intro pins s σ H xs us Q I r h
 obtain ⟨v,ρ,S,d,pd,rfl,sim,rd,hp,hz,q⟩:=h
 obtain ⟨u,rfl,ru⟩:=zcs r
 have key:=ze6 I sim 140 d v u pd rd ru hp
 have byRef:∀a,u=.ref a->wpAny (model X.prog X.w) X.A (call (.builtin "repr") [u]) (EP X pins σ Q) X.xe s:=λb hb=>by
  subst hb
  obtain ⟨⟨as,h1⟩,h2,h3,h4⟩:=key
  have hu:X.A.units+(pd.depth+1)<cLine:=by have:=hr.un;omega
  refine repr_of_reads' h1 h2 (λz=>by rw [h3] at z;cases z) hr.gd hu (λ_ _ e=>e) (λh' u tk hk=>?_) hz
  exact ⟨.str pd.shown,H,I.kept hk,⟨u,rfl⟩,q⟩
 have hp':=hp
 cases rd with
 | non=>cases ru;unfold zaw at hp';cases hp';exact P.repr_of_none ⟨.str _,H,I.tok _,⟨_,rfl⟩,q⟩
 | bl b=>cases ru;unfold zaw at hp';cases hp';exact P.repr_of_bool ⟨.str _,H,I.tok _,⟨_,by cases b <;> rfl⟩,q⟩
 | int i =>
  obtain ⟨t,rfl⟩:=ru
  unfold zaw at hp'
  obtain ⟨hi,e⟩:=za8 hp'
  cases e
  exact P.repr_of_int hi ⟨.str _,H,I.tok _,⟨_,rfl⟩,q⟩
 | str x=>obtain ⟨t,rfl⟩:=ru;unfold zaw at hp';cases hp';exact P.repr_of_str ⟨.str _,H,I.tok _,⟨_,rfl⟩,q⟩ hz
 | tup ha r=>exact byRef _ ru
 | ref hn=>exact byRef _ ru
 | fn b=>unfold zaw at hp';cases hp'
theorem ya8 {K:QFg}:Fn3 K ziw (λxs H Q=>∃v ρ S d pd,xs=[v]/\Sim K ρ S H/\RD ρ H d v/\zaw S 140 d=some pd/\pd.shown.length<=sizeLine/\Q (.str pd.shown) H):=by
 intro ρ S H xs vs v S' Q sim r h p
 unfold ziw at h
 split at h
 ·obtain ⟨pd,h1,h⟩:=bnd h
  obtain ⟨hz,e⟩:=za8 h
  cases e
  obtain ⟨w,rfl,rw'⟩:=r.one
  exact ⟨w,ρ,_,_,pd,rfl,sim,rw',h1,hz,p ρ H _ (Ext.refl ..) sim (.str _)⟩
 ·cases h
theorem ya9:bootBuiltins "repr" = some (.builtin "repr"):=by decide +kernel
end
theorem yba:fillsNumberSlot (.type "tuple") "mul" = pure false :=
 PySem.fillsNumberSlot_seq (id:="tuple.__mul__") (r:=some (.builtin "tuple.__rmul__")) PySem.F.slot_tuple_mul.lookup (by decide +kernel) PySem.F.slot_tuple_rmul.lookup (by decide +kernel)
theorem ybb:seqRepeat? (.type "tuple")=pure (some (.builtin "tuple.__mul__")):=by
 unfold seqRepeat?
 rw [PySem.seqSlot_of (T:="tuple") (name:="__mul__") (id:="tuple.__mul__") PySem.F.slot_tuple_mul.lookup (by decide +kernel),PySem.seqSlot_of (T:="tuple") (name:="__rmul__") (id:="tuple.__rmul__") PySem.F.slot_tuple_rmul.lookup (by decide +kernel)]
 rfl
open PySem.AutoSeq1 (wpAny_loadPart')
theorem ybc (a:Int) (t:Tok) (l:Addr) (items:Array Value) (n:Nat) (dd:Option Addr) (sl:Array (Option Value)) :
  Meets (Builtin.«int.__rmul__» ⟨[.int a t,.ref l],[]⟩) (λ_ R s=>s.heap.get? l=some { cls:=.type "tuple",dict:=dd,data:=.seq items n,slots:=sl }/\R (.ok (.ret Value.notImplemented)) s) :=
 .of_wp λprog w A R s h=>by obtain ⟨hp,g,d,tk,os⟩:=s;obtain ⟨hl,h⟩:=h;wp_walk;exact ⟨_,rfl,h⟩
section
variable {prog:Program}{w:World}{A:Around}{E:Value->Shared->Prop}{s:Shared}
theorem ybd {t:Addr}{items:Array Value}{k:Int}{u:Tok}{Q:Value->Shared->Prop}(ht:IsTup s.heap t items) (k0:2<=k) (k1:k<2 ^ 31) (hi:items.isEmpty=false) (hz:items.size*k.toNat<=sizeLine)
  (h:Q (.ref s.heap.objs.size) { s with heap:=s.heap.push { cls:=.type "tuple",data:=.seq ((List.replicate k.toNat items).foldl (·++·) #[]) } }) (h6:((List.replicate k.toNat items).foldl (·++·) #[]).size<=sizeLine) :
  wpAny (model prog w) A (call (.builtin "tuple.__mul__") [.ref t,.int k u]) Q E s:=by
 refine wpAny_call_entry PySem.F.slot_tuple_mul ht.typeIs PySem.F.entry_tuple_mul ?_ (PySem.F.args_tuple_mul_2 _ _)
 show wpAny _ _ (asIndex (.int k u) >>= _) _ _ s
 refine qwb ?_
 show wpAny _ _ (pure k) _ _ s
 refine qwp ?_
 have e1:(decide (k < -(2 ^ 63)) || decide (k ≥ 2 ^ 63))=false:=by
  rw [Bool.or_eq_false_iff];exact ⟨decide_eq_false (by omega),decide_eq_false (by omega)⟩
 have e2:(items.isEmpty || k == 1)=false:=by rw [hi,Bool.false_or];exact beq_false_of_ne (by omega)
 have e3:(decide (k<=0) || items.isEmpty)=false:=by rw [hi,Bool.or_false];exact decide_eq_false (by omega)
 show wpAny _ _ (if (decide (k < -(2 ^ 63)) || decide (k ≥ 2 ^ 63))=true then _ else _) _ _ s
 rw [if_neg (by rw [e1];exact Bool.false_ne_true)]
 refine qwb (tupleItemsOf_ ht ?_)
 show wpAny _ _ (if (items.isEmpty || k == 1)=true then _ else _) _ _ s
 rw [if_neg (by rw [e2];exact Bool.false_ne_true)]
 show wpAny _ _ (if (decide (k<=0) || items.isEmpty)=true then _ else _) _ _ s
 rw [if_neg (by rw [e3];exact Bool.false_ne_true)]
 have hk:(items.size:Int)*k=((items.size*k.toNat:Nat):Int):=by rw [Int.natCast_mul,Int.toNat_of_nonneg (by omega)]
 have hs:(sizeLine:Nat)=16777216:=by decide
 show wpAny _ _ (if (items.size:Int)*k > (2 ^ 63-1) / 8 then _ else _) _ _ s
 rw [if_neg (by rw [hk];omega)]
 show wpAny _ _ (if Builtin.Tuple.tupleTooMany ((items.size:Int)*k)=true then _ else _) _ _ s
 rw [if_neg (by unfold Builtin.Tuple.tupleTooMany;rw [hk];simp only [decide_eq_true_eq];omega)]
 first
  | exact qwb (m:=Builtin.Tuple.tupleExact _) (wpAny_newObj_type (qwp ⟨_,rfl,h⟩) h6)
  | exact qwb (m:=Builtin.Tuple.tupleExact _) (wpAny_newObj_type (qwp ⟨_,rfl,qwp h⟩) h6)
theorem ybe {t:Addr}{items:Array Value}{u:Tok}{Q:Value->Shared->Prop}(ht:IsTup s.heap t items) (h:Q (.ref t) s) :
  wpAny (model prog w) A (call (.builtin "tuple.__mul__") [.ref t,.int 1 u]) Q E s:=by
 refine wpAny_call_entry PySem.F.slot_tuple_mul ht.typeIs PySem.F.entry_tuple_mul ?_ (PySem.F.args_tuple_mul_2 _ _)
 show wpAny _ _ (asIndex (.int 1 u) >>= _) _ _ s
 refine qwb ?_
 show wpAny _ _ (pure (1:Int)) _ _ s
 refine qwp ?_
 show wpAny _ _ (if (decide ((1:Int) < -(2 ^ 63)) || decide ((1:Int) ≥ 2 ^ 63))=true then _ else _) _ _ s
 rw [if_neg (by decide)]
 refine qwb (tupleItemsOf_ ht ?_)
 show wpAny _ _ (if (items.isEmpty || (1:Int) == 1)=true then _ else _) _ _ s
 rw [if_pos (by simp)]
 unfold Builtin.Tuple.tupleIsExact
 refine qwb (qwb (wpAny_typeOf ht.typeIs (qwp ?_)))
 rw [if_pos (by decide)]
 exact qwb (wpAny_rule (qwp ⟨_,rfl,h⟩))
theorem ybf {t:Addr}{items:Array Value}{k:Int}{u:Tok}{Q:Value->Shared->Prop}(ht:IsTup s.heap t items) (k0:k=0) (hi:items.isEmpty=false)
  (h:Q (.ref s.heap.objs.size) { s with heap:=s.heap.push { cls:=.type "tuple",data:=.seq #[] } }) :
  wpAny (model prog w) A (call (.builtin "tuple.__mul__") [.ref t,.int k u]) Q E s:=by
 subst k0
 refine wpAny_call_entry PySem.F.slot_tuple_mul ht.typeIs PySem.F.entry_tuple_mul ?_ (PySem.F.args_tuple_mul_2 _ _)
 show wpAny _ _ (asIndex (.int 0 u) >>= _) _ _ s
 refine qwb ?_
 show wpAny _ _ (pure (0:Int)) _ _ s
 refine qwp ?_
 show wpAny _ _ (if (decide ((0:Int) < -(2 ^ 63)) || decide ((0:Int) ≥ 2 ^ 63))=true then _ else _) _ _ s
 rw [if_neg (by decide)]
 refine qwb (tupleItemsOf_ ht ?_)
 show wpAny _ _ (if (items.isEmpty || (0:Int) == 1)=true then _ else _) _ _ s
 rw [if_neg (by rw [hi];decide)]
 show wpAny _ _ (if (decide ((0:Int)<=0) || items.isEmpty)=true then _ else _) _ _ s
 rw [if_pos (by simp)]
 first
  | exact qwb (m:=Builtin.Tuple.tupleExact _) (wpAny_newObj_type (qwp ⟨_,rfl,h⟩) (Nat.zero_le _))
  | exact qwb (m:=Builtin.Tuple.tupleExact _) (wpAny_newObj_type (qwp ⟨_,rfl,h⟩) (by decide))
end
def zrm (K:QFg):R2:=λx y H Q=>∃a k xs,x=.ref a/\y=.int k/\SqT K H a xs/\xs≠[]/\0<=k/\k<2 ^ 31/\xs.length*k.toNat<=sizeLine /\
 (k=1->Q (.ref a) H)/\(k≠1->∀p,H p=none->Q (.ref p) (upd H p (.tup (List.replicate k.toNat xs).flatten)))
theorem ybg {X:Cx}:OpR X (binaryOp .Mult) (zrm X.K):=by
 intro pins s σ H x y v u Q I rx ry h
 obtain ⟨a,k,xs,rfl,rfl,hx,hne,k0,k1,hz,q1,q2⟩:=h
 cases rx
 obtain ⟨t,rfl⟩:=ry
 obtain ⟨its,r,pt,_⟩:=I.tuple hx
 have hne':its≠[]:=λz=>hne (r.nil_iff.mp z)
 have hie:its.toArray.isEmpty=false:=by cases its with
  | nil=>exact absurd rfl hne'
  | cons _ _=>simp
 obtain ⟨⟨cls,dd,data,sl⟩,ho,hc,n,hd⟩:=id pt
 simp only at hc hd
 subst hc hd
 refine wpAny_binaryOp_repeat_ref (T:="tuple") (U:="int") (by decide) ⟨_,ho,rfl⟩ (λs'=>typeIs_int s' k t) yba PySem.F.fills_int_mul PySem.F.slot_int_rmul ybb PySem.F.slot_int_index.lookup
  (call_meets PySem.F.slot_int_rmul (typeIs_int s k t) PySem.F.entry_int_rmul (PySem.F.args_int_rmul_2 _ _) (ybc k t a its.toArray n dd sl) ⟨ho,rfl,⟨_,ho,rfl⟩,?_⟩)
 have f0:∀m:Nat,List.foldl (λx1 x2=>x1++x2) #[] (List.replicate m its.toArray)=(List.replicate m its).flatten.toArray:=λm=>by
  have:=zqf its m []
  rw [List.nil_append] at this
  exact this
 have hl:xs.length=its.length:=r.length
 by_cases e1:k=1
 ·subst e1
  exact ybe pt ⟨.ref a,H,I,rfl,q1 rfl⟩
 ·by_cases e0:k=0
  ·refine ybf pt e0 hie ?_
   have hv:Vals ([]:List V) ([]:List Value):=.nil
   refine ⟨.ref s.heap.objs.size,_,I.laid (t':=s.toks) (o:=.tup []) (λb ob q=>qps _ q) (qlr _) ?_,rfl,?_⟩
   ·exact ⟨Nat.zero_le _,[],.nil,IsTD.new _ _⟩
   ·have:=q2 e1 _ (I.hok.fresh (qlr _))
    subst e0
    exact this
  ·have hlen:(List.replicate k.toNat its).flatten.length=k.toNat*its.length:=zql its k.toNat
   refine ybd pt (by omega) k1 hie (by rw [List.size_toArray,<-hl];exact hz) ?_ ?_
   ·rw [f0]
    refine ⟨.ref s.heap.objs.size,_,I.laid (t':=s.toks) (o:=.tup (List.replicate k.toNat xs).flatten) (λb ob q=>qps _ q) (qlr _) ?_,rfl,q2 e1 _ (I.hok.fresh (qlr _))⟩
    exact ⟨by rw [zql,Nat.mul_comm];exact hz,_,r.rep k.toNat,IsTD.new _ _⟩
   ·rw [f0,List.size_toArray,hlen,Nat.mul_comm,<-hl];exact hz
noncomputable def zdt:D->D->Sto->Option (D × Sto)
 | .int i,.int j,S=>if (-(2 ^ 64)<i/\i<2 ^ 64)\/(-(2 ^ 64)<j/\j<2 ^ 64) then some (.int (i*j),S) else none
 | .tup (x :: xs),.int k,S=>if 0<=k/\k<2 ^ 31/\(xs.length+1)*k.toNat<=sizeLine then some (.tup (List.replicate k.toNat (x :: xs)).flatten,S) else none
 | _,_,_=>none
theorem ybh {K:QFg}:Op3 K zdt (λx y H Q=>rI CMul (λi j=>.int (i*j)) x y H Q\/zrm K x y H Q):=by
 intro ρ S H x y x' y' v S' Q sim rx ry h p
 unfold zdt at h
 split at h
 ·obtain ⟨hc,e⟩:=za8 h
  cases e;cases rx;cases ry
  exact .inl ⟨_,_,rfl,rfl,hc,p ρ H _ (Ext.refl ..) sim (.int _)⟩
 ·rename_i x xs k
  obtain ⟨⟨k0,k1,hz⟩,e⟩:=za8 h
  cases e;cases ry
  cases rx with
  | @tup _ a vs ha r =>
   have hl:=r.length
   refine .inr ⟨a,k,vs,rfl,rfl,SqT.of ha,?_,k0,k1,by rw [<-hl];exact hz,λe=>?_,λ_=>zie sim (r.rep k.toNat) p⟩
   ·intro z;rw [z] at hl;cases hl
   ·subst e
    have e2:(List.replicate (1:Int).toNat (x :: xs)).flatten=x :: xs:=by simp
    rw [e2] at p
    exact p ρ H _ (Ext.refl ..) sim (.tup ha r)
 ·cases h
section
variable {X:Cx}{a b:Expr}{ma mb:EM}{pos:Pos}
theorem zkj (ha:PE3 X a ma) (hb:PE3 X b mb):PE3 X (.BinOp a .Mult b pos) (eOp zdt ma mb):=zey (op_mul.or ybg) ybh ha hb
end
section
variable {X:Cx}{c:Expr}{body:List Stmt}{mc:TM}{mb:SM}{pos:Pos}
end
section
variable {X:Cx}
variable {a b:Expr}{ma mb:EM}{pos:Pos}
end
noncomputable def zhk:D->D->Sto->Option (D × Sto):=λx y S=>(zaw S 60 x).bind λp=>(zaw S 60 y).bind λq=>if p.canLay0=true/\q.canLay0=true then some (.bl (p.eqv q),S) else none
noncomputable def zhl:D->D->Sto->Option (D × Sto):=λx y S=>(zaw S 60 x).bind λp=>(zaw S 60 y).bind λq=>if p.canLay0=true/\q.canLay0=true then some (.bl (!p.eqv q),S) else none
def zkk (K:QFg) (neg:Bool):R2:=λx y H Q=>∃ρ S dx dy p q,Sim K ρ S H/\RD ρ H dx x/\RD ρ H dy y/\zaw S 60 dx=some p/\zaw S 60 dy=some q/\p.canLay0=true/\q.canLay0=true/\Q (.bl (if neg then !p.eqv q else p.eqv q)) H
section
variable {X:Cx}
theorem ybi {k:Nat}(hr:Room k X.A):OpR X (compareOp .Eq) (zkk X.K false):=by
 intro pins s σ H x y v u Q I rx ry h
 obtain ⟨ρ,S,dx,dy,p,q,sim,r1,r2,h1,h2,c1,c2,hq⟩:=h
 obtain ⟨⟨as,k1⟩,_,_,k2⟩:=ze6 I sim 60 dx x v p r1 rx h1
 obtain ⟨⟨bs,k3⟩,_,_,k4⟩:=ze6 I sim 60 dy y u q r2 ry h2
 have hu:X.A.units+min p.depth q.depth<cLine:=by have:=hr.un;have:min p.depth q.depth<=p.depth:=Nat.min_le_left _ _;omega
 exact PySem.SeqAt.compareEq_reads k1 k3 c1 c2 hu ⟨.bl _,H,I,rfl,hq⟩
theorem ybj {k:Nat}(hr:Room k X.A):OpR X (compareOp .NotEq) (zkk X.K true):=by
 intro pins s σ H x y v u Q I rx ry h
 obtain ⟨ρ,S,dx,dy,p,q,sim,r1,r2,h1,h2,c1,c2,hq⟩:=h
 obtain ⟨⟨as,k1⟩,_,_,k2⟩:=ze6 I sim 60 dx x v p r1 rx h1
 obtain ⟨⟨bs,k3⟩,_,_,k4⟩:=ze6 I sim 60 dy y u q r2 ry h2
 have hu:X.A.units+min p.depth q.depth<cLine:=by have:=hr.un;have:min p.depth q.depth<=p.depth:=Nat.min_le_left _ _;omega
 exact PySem.SeqAt.compareNe_reads k1 k3 c1 c2 hu ⟨.bl _,H,I,rfl,hq⟩
theorem ybk {K:QFg}:Op3 K zhk (zkk K false):=by
 intro ρ S H x y x' y' v S' Q sim rx ry h p
 obtain ⟨d1,h1,h⟩:=bnd h
 obtain ⟨d2,h2,h⟩:=bnd h
 obtain ⟨hc,e⟩:=za8 h
 cases e
 exact ⟨ρ,_,x,y,d1,d2,sim,rx,ry,h1,h2,hc.1,hc.2,p ρ H _ (Ext.refl ..) sim (.bl _)⟩
theorem ybl {K:QFg}:Op3 K zhl (zkk K true):=by
 intro ρ S H x y x' y' v S' Q sim rx ry h p
 obtain ⟨d1,h1,h⟩:=bnd h
 obtain ⟨d2,h2,h⟩:=bnd h
 obtain ⟨hc,e⟩:=za8 h
 cases e
 exact ⟨ρ,_,x,y,d1,d2,sim,rx,ry,h1,h2,hc.1,hc.2,p ρ H _ (Ext.refl ..) sim (.bl _)⟩
variable {a b:Expr}{ma mb:EM}{pos:Pos}{k:Nat}
theorem ybm (hr:Room k X.A) (ha:PE3 X a ma) (hb:PE3 X b mb):PE3 X (.Compare a [.Eq] [b] pos) (eOp zhk ma mb):=zqz (ybi hr) ybk ha hb (zei b)
theorem ybn (hr:Room k X.A) (ha:PE3 X a ma) (hb:PE3 X b mb):PT3 X (.Compare a [.NotEq] [b] pos) (tE (eOp zhl ma mb)):=zez (ybj hr) ybl ha hb (zei b)
end
noncomputable def zgf:D->Bool
 | .non=>true | .bl _=>true | .int _=>true | .str _=>true
 | _=>false
noncomputable def zhm:D->D->Bool
 | .non,.non=>true
 | .bl a,.bl b=>a == b
 | .bl a,.int b=>(if a then 1 else 0) == b
 | .int a,.bl b=>a == (if b then 1 else 0)
 | .int a,.int b=>a == b
 | .str a,.str b=>a == b
 | _,_=>false
noncomputable def ybo (S:Sto):D->Option (List D)
 | .tup xs=>some xs
 | .ref n=>lstOf S n
 | _=>none
noncomputable def zna (neg:Bool):D->D->Sto->Option (D × Sto):=λx y S=>(ybo S y).bind λxs=>if zgf x=true/\xs.all zgf=true then some (.bl (if neg then !(xs.any λy=>zhm y x) else xs.any λy=>zhm y x),S) else none
theorem zrn {ρ:List Addr}{H:Hp}{x:D}{x':V}(r:RD ρ H x x'):zek x' = zgf x:=by
 cases r <;> rfl
theorem ybp {ρ:List Addr}{H:Hp}{x y:D}{x' y':V}(r:RD ρ H x x') (r':RD ρ H y y'):eqV x' y' = zhm x y:=by
 cases r <;> cases r' <;> rfl
theorem zro {ρ:List Addr}{H:Hp}:∀{xs:List D}{vs:List V},RDs ρ H xs vs->vs.all zek=xs.all zgf
 | _,_,.nil=>rfl
 | _,_,.cons r q=>by rw [List.all_cons,List.all_cons,zrn r,zro q]
theorem zrp {ρ:List Addr}{H:Hp}{x:D}{x':V}(rx:RD ρ H x x'):∀{xs:List D}{vs:List V},RDs ρ H xs vs->inV x' vs=xs.any λy=>zhm y x
 | _,_,.nil=>rfl
 | _,_,.cons r q=>by
  have ih:=zrp rx q
  unfold inV at ih ⊢
  rw [List.any_cons,List.any_cons,ybp r rx,ih]
theorem ybq {K:QFg}{neg:Bool}:Op3 K (zna neg) (rIn K neg):=by
 intro ρ S H x y x' y' v S' Q sim rx ry h p
 obtain ⟨xs,h1,h⟩:=bnd h
 obtain ⟨hc,e⟩:=za8 h
 cases e
 have fin:∀a vs,y' = .ref a->(SqL K H a vs\/SqT K H a vs)->RDs ρ H xs vs->rIn K neg x' y' H Q:=λa vs e1 e2 r=>by
  refine ⟨a,vs,e1,e2,by rw [zrn rx];exact hc.1,by rw [zro r];exact hc.2,?_⟩
  rw [zrp rx r]
  exact p ρ H _ (Ext.refl ..) sim (.bl _)
 cases ry with
 | tup ha r=>cases h1;exact fin _ _ rfl (.inr (SqT.of ha)) r
 | ref hn =>
  obtain ⟨a,vs,ha,sq,r⟩:=sim.lstOf h1
  rw [ha] at hn;cases hn
  exact fin _ _ rfl (.inl sq) r
 | _=>cases h1
noncomputable def setOf:Sto->D->Option ((Int->Bool) × Nat)
 | S,.ref n=>match S[n]? with
  | some (.iset f k)=>some (f,k)
  | _=>none
 | _,_=>none
theorem Sim.isetOf {K:QFg}{ρ:List Addr}{S:Sto}{H:Hp}{x:D}{v:V}{f:Int->Bool}{k:Nat}(s:Sim K ρ S H) (r:RD ρ H x v) (h:setOf S x=some (f,k)):∃n a,x=.ref n/\v=.ref a/\ρ[n]? = some a/\S[n]? = some (.iset f k)/\H a=some (.set f k):=by
 unfold setOf at h
 split at h
 ·rename_i n
  split at h
  ·rename_i f' k' e
   cases h
   cases r with
   | @ref _ a hn=>exact ⟨n,a,rfl,rfl,hn,e,s.at' n a _ hn e⟩
  ·cases h
 ·cases h
noncomputable def znb (neg:Bool):D->D->Sto->Option (D × Sto)
 | .int i,y,S=>(setOf S y).bind λp=>some (.bl (if neg then !p.1 i else p.1 i),S)
 | _,_,_=>none
def zrq (neg:Bool):R2:=λx y H Q=>∃i a f n,x=.int i/\y=.ref a/\H a=some (.set f n)/\Q (.bl (if neg then !f i else f i)) H
section
variable {X:Cx}
theorem op_inI:OpR X (compareOp .In) (zrq false):=by
 intro pins s σ H x y v u Q I rx ry h
 obtain ⟨i,a,f,n,rfl,rfl,hH,q⟩:=h
 obtain ⟨t,rfl⟩:=rx
 cases ry
 exact PySem.wpAny_inSet_of (knd:=intKind X.prog X.w) (k:=i) (PySem.intKind_is X.prog X.w i t) rfl (I.hok a _ hH) ⟨.bl _,H,I.tok _,rfl,q⟩
theorem op3_inI {K:QFg}{neg:Bool}:Op3 K (znb neg) (zrq neg):=by
 intro ρ S H x y x' y' v S' Q sim rx ry h p
 unfold znb at h
 split at h
 ·obtain ⟨⟨f,k⟩,h1,h⟩:=bnd h
  cases h
  cases rx
  obtain ⟨n,a,rfl,rfl,_,_,hH⟩:=sim.isetOf ry h1
  exact ⟨_,a,f,k,rfl,rfl,hH,p ρ H _ (Ext.refl ..) sim (.bl _)⟩
 ·cases h
noncomputable def dIn (neg:Bool):D->D->Sto->Option (D × Sto):=λx y S=>match znb neg x y S with|some v=>some v|none=>zna neg x y S
variable {a b:Expr}{ma mb:EM}{pos:Pos}
theorem ybr (ha:PE3 X a ma) (hb:PE3 X b mb) (hm:behindInMarks .In b=false:=by rfl):PT3 X (.Compare a [.In] [b] pos) (tE (eOp (dIn false) ma mb)):=zez (op_inI.or zy7) (op3_inI.or ybq) ha hb hm
end
section
variable {X:Cx}
variable {o e:Expr}{mo m:EM}{apos cpos:Pos}
end
section
variable {prog:Program}{w:World}{A:Around}{E:Value->Shared->Prop}{s:Shared}
end
section
variable {X:Cx}
end
noncomputable def zgg:D->List D->Sto->Option (D × Sto)
 | .ref n,[.int i],S=>match S[n]? with
  | some (.lst xs)=>(seqIndex? i xs.length).bind λk=>(xs[k]?).bind λy=>if -(2 ^ 63)<=i/\i<2 ^ 63 then some (y,S.set n (.lst (xs.eraseIdx k))) else none
  | _=>none
 | _,_,_=>none
theorem RDs.eraseIdx {ρ:List Addr}{H:Hp}:∀{xs:List D}{vs:List V}(k:Nat),RDs ρ H xs vs->RDs ρ H (xs.eraseIdx k) (vs.eraseIdx k)
 | _,_,_,.nil=>.nil
 | _,_,0,.cons _ q=>q
 | _,_,k+1,.cons r q=>.cons r (RDs.eraseIdx k q)
theorem ybs {K:QFg}:Mt3 K zgg zqi:=by
 intro ρ S H x x' xs vs v S' Q sim rx r h p
 unfold zgg at h
 split at h
 ·split at h
  ·rename_i n i S ys e
   obtain ⟨k,h1,h⟩:=bnd h
   obtain ⟨y,h2,h⟩:=bnd h
   obtain ⟨hz,e2⟩:=za8 h
   cases e2
   obtain ⟨w,rfl,rw'⟩:=r.one
   cases rw'
   obtain ⟨a,us,ha,hH,r2⟩:=sim.lst e
   obtain ⟨w2,hw,rw2⟩:=r2.get h2
   cases rx with
   | ref hn =>
    rw [ha] at hn;cases hn
    exact ⟨a,us,i,k,w2,rfl,rfl,hH,hz.1,hz.2,by rw [<-r2.length];exact h1,hw,p ρ _ _ (zj4 ha hH) (sim.set ha e hH (r2.eraseIdx k)) (rw2.mono (zj4 ha hH))⟩
  ·cases h
 ·cases h
section
variable {X:Cx}{o e:Expr}{mo m:EM}{apos cpos:Pos}
theorem ybt (ho:PE3 X o mo) (he:PE3 X e m)
  (hbase:attributeBase o "pop" X.env (eval o X.env)=eval o X.env:=by rfl)
  (hfew:((backTo cpos (starEach [e] X.env)).all (λx=>!x.1) && (backToKw cpos (keywordEach [] X.env)).all (λx=>x.1.isSome)
   && decide ([e].length+([]:List Keyword).length+(if ([]:List Keyword).isEmpty then 0 else 1)<30))=true:=by rfl)
  (hline:(apos.endLine == cpos.line)=true:=by rfl) (hs:starEach [e] X.env=(false,eval e X.env) :: starEach [] X.env:=by rfl) :
  PE3 X (.Call (.Attribute o "pop" apos) [e] [] cpos) (zci zgg mo (zab m zae)) :=
 zkb PySem.F.slot_list_pop PySem.F.type_list_pop zzd ybs ho (zad he zag hs) hbase hfew hline hs
end
section
variable {X:Cx}{o e:Expr}{mo m:EM}{apos cpos:Pos}
end
noncomputable def zhn (lo:Int) (n:Nat):List V:=(List.range n).map λ(i:Nat)=>V.int (lo+i)
theorem znc:∀{xs:List V}{us:List Value},xs.length=us.length->(∀(j:Nat) x u,xs[j]? = some x->us[j]? = some u->RelV x u)->Vals xs us
 | [],[],_,_=>.nil
 | [],_ :: _,h,_=>by simp at h
 | _ :: _,[],h,_=>by simp at h
 | x :: xs,u :: us,h,q=>.cons (q 0 x u rfl rfl) (znc (by simpa using h) λj y w h1 h2=>q (j+1) y w (by simpa using h1) (by simpa using h2))
section
variable {X:Cx}
theorem zrr:CallR X (.type "range") (λxs H Q=>∃j,xs=[.int j]/\∀r,H r=none->Q (.ref r) (upd H r (.rng 0 j))):=by
 intro pins s σ H xs us Q I r h
 obtain ⟨j,rfl,q⟩:=h
 obtain ⟨u1,rfl,r1⟩:=r.one
 obtain ⟨t,rfl⟩:=r1
 exact call_range_1 ⟨.ref _,_,I.laid (o:=.rng 0 j) (λb o e=>qps _ e) (qlr _) ⟨_,_,_,Heap.get?_push_size _ rfl⟩,rfl,q _ I.fresh⟩
theorem ybu (hc:X.calm=true):CallR X (.type "list") (λxs H Q=>∃p lo hi,xs=[.ref p]/\H p=some (.rng lo hi)/\(-(2 ^ 62)<=lo/\lo<2 ^ 62/\-(2 ^ 62)<=hi/\hi<2 ^ 62)/\(hi-lo).toNat<=sizeLine/\∀l,H l=none->Q (.ref l) (upd H l (.lst (zhn lo (hi-lo).toNat)))):=by
 intro pins s σ H xs us Q I r h
 obtain ⟨p,lo,hi,rfl,hH,⟨b1,b2,b3,b4⟩,hz,q⟩:=h
 obtain ⟨u1,rfl,r1⟩:=r.one
 cases r1
 obtain ⟨t,u,v,e⟩:=I.hok p _ hH
 have hn:Builtin.Range.rangeSize lo hi 1=((hi-lo).toNat:Nat):=by rw [rangeSize_one];split <;> omega
 have hz2:(hi-lo).toNat<=2 ^ 24:=Nat.le_trans hz (by decide)
 refine PySem.call_list_range (n:=(hi-lo).toNat) (I.ok.hd hc) e (small_one b1 b2 b3 b4) (by rw [hn]) hz2 λh' tk acc c' k he hi'=>?_
 obtain ⟨h1,h2⟩:=hi'
 refine ⟨.ref _,_,I.laid (o:=.lst (zhn lo (hi-lo).toNat)) k (qlr _) ⟨by unfold zhn;rw [qlm,List.length_range];exact hz,acc.toList,c',znc (by simp [zhn,h1]) λj x w e1 e2=>?_,he⟩,rfl,q _ I.fresh⟩
 rw [Array.getElem?_toList] at e2
 obtain ⟨t',rfl⟩:=h2 j w e2
 unfold zhn at e1
 rw [qgm] at e1
 cases e3:(List.range (hi-lo).toNat)[j]? with
 | none=>rw [e3] at e1;cases e1
 | some i =>
  rw [e3] at e1
  cases e1
  have:=(qme e3).2
  simp at this
  subst this
  exact ⟨t',by rw [Int.mul_one]⟩
theorem ybv (ρ:List Addr) (H:Hp) (lo:Int) (n:Nat):RDs ρ H (zbp lo n) (zhn lo n):=zrc ρ H lo n
theorem zrs:bootBuiltins "range" = some (.type "range"):=by decide +kernel
noncomputable def znd (r:Lo->Sto->Option ((Int × Nat) × Sto)):EM:=λl S=>(r l S).bind λp=>if p.1.2<=sizeLine then some (.ref p.2.length,p.2++[.lst (zbp p.1.1 p.1.2)]) else none
variable {a a2:Expr}{mA:AM}{p p0 pos pos':Pos}
theorem ybw (hc:X.calm=true) (hg:Gl X "list") (hm:X.mg "list" = none) (hgr:Gl X "range") (hmr:X.mg "range" = none) (ha:PA3 X [a] mA)
  (he:starEach [.Call (.Name "range" p0) [a] [] pos'] X.env=[(false,eval (.Call (.Name "range" p0) [a] [] pos') X.env)]:=by rfl)
  (he2:starEach [a] X.env=(false,eval a X.env) :: starEach [] X.env:=by rfl) :
  PE3 X (.Call (.Name "list" p) [.Call (.Name "range" p0) [a] [] pos'] [] pos) (znd (zby mA)) :=
 PE.imp (zh9 (ybu hc) hg hm zrg (zcz (zh9 zrr hgr hmr zrs ha (by decide) (by decide) he2 rfl) zex he) (by decide) (by decide) he rfl) λσ H Q hx2_=>by
  obtain ⟨ρ,l,S,v,S',sim,ro,hm,p⟩:=hx2_
  obtain ⟨⟨⟨lo,n⟩,S1⟩,q1,hm⟩:=bnd hm
  obtain ⟨⟨xs,S2⟩,q2,q1⟩:=bnd q1
  dsimp only at q1 hm
  obtain ⟨hz,e⟩:=za8 hm
  cases e
  split at q1
  ·rename_i j
   obtain ⟨hb,e⟩:=za8 q1
   cases e
   refine ⟨ρ,l,S,[.int j],S1,sim,ro,q2,λρ1 H1 vs e1 s1 r1=>?_⟩
   obtain ⟨v,rfl,rv⟩:=r1.one
   cases rv
   refine ⟨j,rfl,λr hr=>⟨r,0,j,rfl,zbf,⟨by decide,by decide,hb.1,hb.2⟩,by simpa using hz,?_⟩⟩
   have:=zf4 (s1.laid (u:=.rng 0 j) hr) (ybv ρ1 _ 0 j.toNat) (p.ext (e1.trans (zbu hr)))
   simpa using this
  ·cases q1
end
noncomputable def isT:D->Bool
 | .bl b=>b
 | _=>false
noncomputable def zgh:D->Bool
 | .bl _=>true
 | _=>false
noncomputable def vT:V->Bool
 | .bl b=>b
 | _=>false
noncomputable def zkl:V->Bool
 | .bl _=>true
 | _=>false
noncomputable def zho:FM
 | [.ref n],S=>(lstOf S n).bind λxs=>if xs.all zgh=true then some (.bl (xs.all isT),S) else none
 | _,_=>none
theorem ybx {ρ:List Addr}{H:Hp}{x:D}{x':V}(r:RD ρ H x x'):vT x' = isT x/\zkl x' = zgh x:=by
 cases r <;> exact ⟨rfl,rfl⟩
theorem zrt {ρ:List Addr}{H:Hp}:∀{xs:List D}{vs:List V},RDs ρ H xs vs->vs.all vT=xs.all isT/\vs.any vT=xs.any isT/\vs.all zkl=xs.all zgh
 | _,_,.nil=>⟨rfl,rfl,rfl⟩
 | _,_,.cons r q=>by
  obtain ⟨h1,h2⟩:=ybx r
  obtain ⟨h3,h4,h5⟩:=zrt q
  simp only [List.all_cons,List.any_cons,h1,h2,h3,h4,h5,and_self]
section
variable {X:Cx}
theorem yby {ys:List V}(tr:Nat->Bool) (h:∀(i:Nat) y,ys[i]? = some y->tr i=vT y):(List.range ys.length).all tr=ys.all vT/\(List.range ys.length).any tr=ys.any vT:=by
 have e:(List.range ys.length).map tr=ys.map vT:=by
  apply List.ext_getElem?
  intro i
  rw [qgm,qgm]
  by_cases hi:i<ys.length
  ·rw [List.getElem?_range hi,qge hi]
   simp [h i _ (qge hi)]
  ·rw [List.getElem?_eq_none_iff.mpr (by simpa using hi),List.getElem?_eq_none_iff.mpr (by simpa using hi)];rfl
 have a1:(List.range ys.length).all tr=((List.range ys.length).map tr).all id:=by rw [List.all_map];rfl
 have a2:ys.all vT=(ys.map vT).all id:=by rw [List.all_map];rfl
 have a3:(List.range ys.length).any tr=((List.range ys.length).map tr).any id:=by rw [List.any_map];rfl
 have a4:ys.any vT=(ys.map vT).any id:=by rw [List.any_map];rfl
 exact ⟨by rw [a1,a2,e],by rw [a3,a4,e]⟩
def zru (K:QFg) (f:List V->Bool):List V->Hp->VK->Prop:=λxs H Q=>∃p ys,xs=[.ref p]/\SqL K H p ys/\ys.all zkl=true/\Q (.bl (f ys)) H
theorem ybz {pins:List (Addr × Obj)}{s:Shared}{σ:St}{H:Hp}{p:Addr}{ys:List V}{E:Value->Shared->Prop}{R:Bool->Bool->Shared->Prop}(hc:X.calm=true) (I:Inv X pins σ H s) (hq:SqL X.K H p ys) (hb:ys.all zkl=true)
  (h:∀s',Inv X pins σ H s'->R (ys.all vT) (ys.any vT) s') :
  wpAny (model X.prog X.w) X.A.in1 (pyIter (.ref p)) (λit s₂=>∃I fp wr n P St tr,it=.ref I/\Walks X.prog X.w X.A.in1 I fp wr n P St/\St 0 s₂.heap/\TruthOf X.prog X.w X.A.in1 P tr /\
   ∀h' tk,(∀b o,b ∉ wr->s₂.heap.get? b=some o->h'.get? b=some o)->R ((List.range n).all tr) ((List.range n).any tr) { s₂ with heap:=h',toks:=tk }) E s:=by
 obtain ⟨its,rv,pl,hz⟩:=I.list hq
 refine wpAny_pyIter_list pl.isList ?_
 have hne:p≠s.heap.objs.size:=by
  obtain ⟨o,ho,_⟩:=pl.isList
  exact Nat.ne_of_lt (Heap.lt_size ho)
 have I1:Inv X pins σ H { s with heap:=s.heap.push { cls:=.type "list_iterator",data:=.fields #[.ref p,rawInt 0] } }:=I.kept (t':=s.toks) λb o e=>qps _ e
 have fp:=I.fpOk (qlr s.heap.objs.size) I.fresh
 refine ⟨_,_,_,its.toArray.size,_,_,λi=>match its[i]? with|some (.bool b)=>b|_=>false,rfl,Walks.list (A:=X.A.in1) (I.ok.hd hc) s.heap.objs.size p hne its.toArray,?_,?_,?_⟩
 ·obtain ⟨o,ho,hc',n,hd⟩:=pl.isList
  exact ⟨⟨_,Heap.get?_push_size _ rfl,rfl,rfl⟩,⟨o,qps _ ho,hc',n,hd⟩⟩
 ·intro i v s' Q E' hP hQ
  have e1:its[i]? = some v:=by simpa using hP
  have hl:=rv.length
  have hi:i<ys.length:=by rw [hl];exact (qme e1).1
  obtain ⟨u,hu,ru⟩:=rv.get (qge hi)
  rw [e1] at hu;cases hu
  have hb2:=List.all_eq_true.mp hb _ (List.getElem_mem hi)
  dsimp only at hQ
  rw [e1] at hQ
  revert ru hb2
  generalize ys[i]=y
  intro ru hb2
  cases y with
  | bl b=>cases ru;exact wpAny_truthy_bool hQ
  | _=>exact absurd (show false=true from hb2) Bool.false_ne_true
 ·intro h' tk k
  have hs:its.toArray.size=ys.length:=by rw [List.size_toArray,rv.length]
  obtain ⟨a1,a2⟩:=yby (ys:=ys) (λi=>match its[i]? with|some (.bool b)=>b|_=>false) (λi y hy=>by
   obtain ⟨u,hu,ru⟩:=rv.get hy
   have hb2:=List.all_eq_true.mp hb _ (qmg hy)
   rw [hu]
   cases y with
   | bl b=>cases ru;rfl
   | _=>exact absurd (show false=true from hb2) Bool.false_ne_true)
  rw [hs,a1,a2]
  exact h _ (I1.turned (t':=tk) (λb o hb' e=>k b o (by simpa using hb') e) fp.1 fp.2.1 fp.2.2.2.1 fp.2.2.2.2.1 fp.2.2.2.2.2)
theorem yb0 (hc:X.calm=true):CallR X (.builtin "all") (zru X.K λys=>ys.all vT):=by
 intro pins s σ H xs us Q I r h
 obtain ⟨p,ys,rfl,hq,hb,q⟩:=h
 obtain ⟨u1,rfl,r1⟩:=r.one
 cases r1
 exact PySem.call_all_walk (ybz (R:=λa _ s'=>EP X pins σ Q (.bool a) s') hc I hq hb λs' I'=>⟨.bl _,H,I',rfl,q⟩)
theorem yb1 {K:QFg}:Fn3 K zho (zru K λys=>ys.all vT):=by
 intro ρ S H xs vs v S' Q sim r h p
 unfold zho at h
 split at h
 ·obtain ⟨ys,h1,h⟩:=bnd h
  obtain ⟨hb,e⟩:=za8 h
  cases e
  obtain ⟨w,rfl,rw'⟩:=r.one
  obtain ⟨a,us,ha,sq,r2⟩:=sim.lstOf h1
  obtain ⟨t1,t2,t3⟩:=zrt r2
  cases rw' with
  | ref hn =>
   rw [ha] at hn;cases hn
   exact ⟨_,us,rfl,sq,by rw [t3];exact hb,by dsimp only;rw [t1];exact p ρ H _ (Ext.refl ..) sim (.bl _)⟩
 ·cases h
theorem yb2:bootBuiltins "all" = some (.builtin "all"):=by decide +kernel
variable {a:Expr}{es:List Expr}{mA:AM}{p pos:Pos}
theorem yb3 (hc:X.calm=true) (hg:Gl X "all") (hm:X.mg "all" = none) (ha:PA3 X (a :: es) mA) (he:starEach (a :: es) X.env=(false,eval a X.env) :: starEach es X.env:=by rfl) (hpl:(backTo pos (starEach es X.env)).any (·.1)=false:=by rfl):PE3 X (.Call (.Name "all" p) (a :: es) [] pos) (zaf zho mA) :=
 zf5 (yb0 hc) yb1 hg hm yb2 ha (by decide) (by decide) he hpl
end
noncomputable def zne:D->Sto->Option (D × Sto)
 | .int i,S=>some (.int (-i),S)
 | _,_=>none
theorem yb4 {X:Cx}{a:Expr}{ma:EM}{pos:Pos}(ha:PE3 X a ma):PE3 X (.UnaryOp .USub a pos) (eUn zne ma):=PE.imp (zxr zxz ha) λσ H Q hx1_=>by
 obtain ⟨ρ,l,S,v,S',sim,ro,hm,p⟩:=hx1_
 obtain ⟨⟨x,S1⟩,h1,hm⟩:=bnd hm
 refine ⟨ρ,l,S,x,S1,sim,ro,h1,λρ1 H1 x' e1 s1 r1=>?_⟩
 cases r1 with
 | int i=>cases hm;exact ⟨i,rfl,p ρ1 H1 _ e1 s1 (.int _)⟩
 | _=>cases hm
theorem zrv {X:Cx}{pins:List (Addr × Obj)}{σ:St}{H:Hp}{s:Shared}(I:Inv X pins σ H s):sysModules<s.heap.objs.size:=by
 have h:mainGlobals<s.heap.objs.size:=(I.mod.glob.keeps I.bk).lt
 exact Nat.lt_trans (by decide) h
section
variable {X:Cx}{pos:Pos}
theorem yb5:PE X (.Dict [] [] pos) (λ_ H Q=>∀p,H p=none->Q (.ref p) (upd H p (.dK []))):=λpins s σ H Q I h =>
 wpAny_Dict_empty ⟨.ref s.heap.objs.size,_,I.laid (a:=s.heap.objs.size) (o:=.dK []) (t':=s.toks) (λ_ _ q=>qps _ q) (qlr _)
  ⟨Nat.zero_le _,beq_eq_false_iff_ne.mpr (Ne.symm (Nat.ne_of_lt (zrv I))),[],.nil,Heap.DictOf.new s.heap⟩,rfl,h _ I.fresh⟩
noncomputable def zhp:EM:=λ_ S=>some (.ref S.length,S++[.dct []])
theorem zkm:PE3 X (.Dict [] [] pos) zhp:=PE.imp yb5 λσ H Q hx1_=>by
 obtain ⟨ρ,l,S,v,S',sim,ro,hm,p⟩:=hx1_
 cases hm
 intro a ha
 exact p (ρ++[a]) _ _ (zg8 ha) (sim.pushG ha ⟨[],zbf,.nil⟩) (.ref (by rw [<-sim.len];exact za5 ρ a))
end
section
variable {X:Cx}{a b:Expr}{ma mb:EM}{pos:Pos}{k:Nat}
end
mutual
noncomputable def pyT (S:Sto):Nat->D->Option PyData
 | 0,_=>none
 | _+1,.non=>some .none
 | _+1,.bl b=>some (.bool b)
 | _+1,.int i=>if i.natAbs.log2<1920 then some (.int i) else none
 | _+1,.str x=>some (.str x)
 | k+1,.tup xs=>(pyTs S k xs).bind λds=>some (.tuple ds)
 | k+1,.ref n=>match S[n]? with
  | some (.dct [])=>some (.dict [])
  | some (.dct [(Sum.inl i,d)])=>if i.natAbs.log2<1920 then (pyT S k d).bind λp=>some (.dict [(.int i,p)]) else none
  | _=>none
 | _+1,.fn _=>none
termination_by k=>(k,0)
noncomputable def pyTs (S:Sto):Nat->List D->Option (List PyData)
 | _,[]=>some []
 | k,x :: xs=>(pyT S k x).bind λd=>(pyTs S k xs).bind λds=>some (d :: ds)
termination_by k xs=>(k,xs.length+1)
end
mutual
theorem zrw (S:Sto):∀(k:Nat) (d:D) (p q:PyData),pyT S k d=some p->zaw S k d=some q->p=q
 | 0,d,p,q,h,_=>by unfold pyT at h;cases h
 | k+1,.non,p,q,h,h'=>by unfold pyT at h;unfold zaw at h';cases h;cases h';rfl
 | k+1,.bl b,p,q,h,h'=>by unfold pyT at h;unfold zaw at h';cases h;cases h';rfl
 | k+1,.int i,p,q,h,h'=>by
  unfold pyT at h;unfold zaw at h'
  obtain ⟨_,rfl⟩:=za8 h
  obtain ⟨_,rfl⟩:=za8 h'
  rfl
 | k+1,.str x,p,q,h,h'=>by unfold pyT at h;unfold zaw at h';cases h;cases h';rfl
 | k+1,.fn a,p,q,h,h'=>by unfold pyT at h;cases h
 | k+1,.tup xs,p,q,h,h'=>by
  unfold pyT at h;unfold zaw at h'
  obtain ⟨ds,h1,h⟩:=bnd h
  obtain ⟨es,h2,h'⟩:=bnd h'
  cases h;cases h'
  rw [py_agrees S k xs ds es h1 h2]
 | k+1,.ref n,p,q,h,h'=>by
  unfold pyT at h;unfold zaw at h'
  obtain ⟨xs,h1,h'⟩:=bnd h'
  unfold lstOf at h1
  split at h
  ·rename_i e;rw [e] at h1;cases h1
  ·rename_i e;rw [e] at h1;cases h1
  ·cases h
termination_by k=>(k,0)
theorem py_agrees (S:Sto):∀(k:Nat) (xs:List D) (p q:List PyData),pyTs S k xs=some p->pyAll S k xs=some q->p=q
 | k,[],p,q,h,h'=>by unfold pyTs at h;unfold pyAll at h';cases h;cases h';rfl
 | k,x :: xs,p,q,h,h'=>by
  unfold pyTs at h;unfold pyAll at h'
  obtain ⟨d,h1,h⟩:=bnd h
  obtain ⟨ds,h2,h⟩:=bnd h
  obtain ⟨e,h3,h'⟩:=bnd h'
  obtain ⟨es,h4,h'⟩:=bnd h'
  cases h;cases h'
  rw [zrw S k x d e h1 h3,py_agrees S k xs ds es h2 h4]
termination_by k xs=>(k,xs.length+1)
end
section
variable {X:Cx}{pins:List (Addr × Obj)}{σ:St}{H:Hp}{s:Shared}{ρ:List Addr}{S:Sto}
mutual
theorem znf (I:Inv X pins σ H s) (sim:Sim X.K ρ S H):∀(k:Nat) (d:D) (v:V) (u:Value) (p:PyData),RD ρ H d v->RelV v u->pyT S k d=some p->(∃as,Reads s.heap u p as/\sysModules ∉ as)/\p.showable=true/\p.depth<=k
 | 0,d,v,u,p,_,_,h=>by unfold pyT at h;cases h
 | k+1,.non,v,u,p,r,e,h=>by
  unfold pyT at h;cases h;cases r;cases e
  exact ⟨⟨_,.none,by simp⟩,rfl,Nat.zero_le _⟩
 | k+1,.bl b,v,u,p,r,e,h=>by
  unfold pyT at h;cases h;cases r;cases e
  exact ⟨⟨_,.bool b,by simp⟩,rfl,Nat.zero_le _⟩
 | k+1,.int i,v,u,p,r,e,h=>by
  unfold pyT at h
  obtain ⟨hz,e2⟩:=za8 h
  cases e2;cases r
  obtain ⟨t,rfl⟩:=e
  exact ⟨⟨_,.int i t,by simp⟩,by unfold PyData.showable;exact decide_eq_true hz,Nat.zero_le _⟩
 | k+1,.str x,v,u,p,r,e,h=>by
  unfold pyT at h;cases h;cases r
  obtain ⟨t,rfl⟩:=e
  exact ⟨⟨_,.str x t,by simp⟩,rfl,Nat.zero_le _⟩
 | k+1,.fn _,v,u,p,r,e,h=>by unfold pyT at h;cases h
 | k+1,.tup xs,v,u,p,r,e,h=>by
  unfold pyT at h
  obtain ⟨ds,h1,h⟩:=bnd h
  cases h
  cases r with
  | tup ha r =>
   cases e
   obtain ⟨its,rv,⟨o,ho,hc,n,hd⟩,hz⟩:=I.tuple (SqT.of ha)
   obtain ⟨⟨as,h2,hn⟩,h3,h5⟩:=readsTs_of I sim k xs _ _ ds r rv h1
   refine ⟨⟨as,.tuple ho hc hd (by simpa using h2),hn⟩,?_,?_⟩
   ·unfold PyData.showable;exact h3
   ·unfold PyData.depth;omega
 | k+1,.ref n,v,u,p,r,e,h=>by
  unfold pyT at h
  split at h
  ·rename_i e0
   cases h
   cases r with
   | @ref _ a hn =>
    cases e
    obtain ⟨vs,hH,r2⟩:=sim.at' n a _ hn e0
    obtain ⟨_,hd,ws,r0,o,es,ep,ho,hx,hdt,_,hp,_⟩:=I.hok a _ hH
    cases r0
    cases hes:es.toList with
    | nil =>
     refine ⟨⟨_,.dict (kvs:=[]) ho hx.1 hdt (by rw [hes];exact .nil) (by rw [hes];exact .nil),?_⟩,rfl,by unfold PyData.depth PyData.depthKv;omega⟩
     simp only [List.append_nil,List.mem_singleton]
     exact λz=>by subst z;simp at hd
    | cons e1 e2=>rw [hes] at hp;cases hp
  ·rename_i i d0 e0
   obtain ⟨hi,h⟩:i.natAbs.log2<1920/\((pyT S k d0).bind λp=>some (PyData.dict [(.int i,p)]))=some p:=by
    by_cases hi:i.natAbs.log2<1920
    ·rw [if_pos hi] at h;exact ⟨hi,h⟩
    ·rw [if_neg hi] at h;cases h
   obtain ⟨p0,h1,h⟩:=bnd h
   cases h
   cases r with
   | @ref _ a hn =>
    cases e
    obtain ⟨vs,hH,r2⟩:=sim.at' n a _ hn e0
    obtain ⟨w,rfl,rw'⟩:=r2.one
    obtain ⟨_,hd,ws,r0,o,es,ep,ho,hx,hdt,_,hp,_⟩:=I.hok a _ hH
    cases r0 with
    | @cons _ q0 _ _ hq t =>
     cases t
     obtain ⟨q1,q2⟩:=q0
     obtain ⟨hq1,hq2⟩:=hq
     cases hes:es.toList with
     | nil=>rw [hes] at hp;cases hp
     | cons e1 e2 =>
      rw [hes] at hp
      cases hp with
      | cons hk hval ht =>
       cases ht
       have hq1:Sum.inl i=q1:=hq1
       subst hq1
       have hval:e1.val=q2:=hval
       obtain ⟨⟨as,k1,k2⟩,k3,k4⟩:=znf I sim k d0 w q2 p0 rw' hq2 h1
       obtain ⟨i',t',e3,e4⟩|⟨x',t',e3,e4⟩:=zdz (show zfe (Sum.inl i) e1.key=true from hk)
       ·cases e3
        refine ⟨⟨_,.dict (kvs:=[(.int i,p0)]) ho hx.1 hdt (as:=[]) (bs:=as++[]) ?_ ?_,?_⟩,?_,?_⟩
        ·rw [hes]
         simp only [List.map_cons,List.map_nil]
         rw [e4]
         have:=ReadsAll.cons (h:=s.heap) (Reads.int i t') ReadsAll.nil
         simpa using this
        ·rw [hes]
         simp only [List.map_cons,List.map_nil]
         rw [hval]
         exact .cons k1 .nil
        ·simp only [List.append_nil,List.mem_append,List.mem_cons,List.not_mem_nil,or_false,not_or]
         exact ⟨λz=>by subst z;simp at hd,k2⟩
        ·unfold PyData.showable PyData.showableKv PyData.showableKv
         rw [k3]
         have:(PyData.int i).showable=true:=by unfold PyData.showable;exact decide_eq_true hi
         rw [this];rfl
        ·unfold PyData.depth PyData.depthKv PyData.depthKv
         have:(PyData.int i).depth=0:=rfl
         omega
       ·cases e3
  ·cases h
termination_by k=>(k,0)
theorem readsTs_of (I:Inv X pins σ H s) (sim:Sim X.K ρ S H):∀(k:Nat) (xs:List D) (vs:List V) (us:List Value) (ds:List PyData),RDs ρ H xs vs->Vals vs us->pyTs S k xs=some ds->(∃as,ReadsAll s.heap us ds as/\sysModules ∉ as)/\PyData.showableAll ds=true/\PyData.depthAll ds<=k
 | k,[],vs,us,ds,r,e,h=>by
  unfold pyTs at h;cases h;cases r;cases e
  exact ⟨⟨_,.nil,by simp⟩,rfl,Nat.zero_le _⟩
 | k,x :: xs,vs,us,ds,r,e,h=>by
  unfold pyTs at h
  obtain ⟨d,h1,h⟩:=bnd h
  obtain ⟨ds',h2,h⟩:=bnd h
  cases h
  cases r with
  | cons r1 r2 =>
   cases e with
   | cons e1 e2 =>
    obtain ⟨⟨as,q1,q5⟩,q2,q4⟩:=znf I sim k x _ _ d r1 e1 h1
    obtain ⟨⟨bs,p1,p5⟩,p2,p4⟩:=readsTs_of I sim k xs _ _ ds' r2 e2 h2
    refine ⟨⟨_,.cons q1 p1,by simp only [List.mem_append,not_or];exact ⟨q5,p5⟩⟩,?_,?_⟩
    ·unfold PyData.showableAll;rw [q2,p2];rfl
    ·unfold PyData.depthAll;omega
termination_by k xs=>(k,xs.length+1)
end
end
noncomputable def zd6:FM
 | [x],S=>(pyT S 140 x).bind λd=>if d.shown.length<=sizeLine then some (.str d.shown,S) else none
 | _,_=>none
section
variable {X:Cx}{a:Expr}{es:List Expr}{mA:AM}{pos p:Pos}
theorem yb6 {k:Nat}(hr:Room k X.A):CallR X (.builtin "repr") (λxs H Q=>∃v ρ S d pd,xs=[v]/\Sim X.K ρ S H/\RD ρ H d v/\pyT S 140 d=some pd/\pd.shown.length<=sizeLine/\Q (.str pd.shown) H):=by
 intro pins s σ H xs us Q I r h
 obtain ⟨v,ρ,S,d,pd,rfl,sim,rd,hp,hz,q⟩:=h
 obtain ⟨u,rfl,ru⟩:=zcs r
 have key:=znf I sim 140 d v u pd rd ru hp
 have byRef:∀a,u=.ref a->wpAny (model X.prog X.w) X.A (call (.builtin "repr") [u]) (EP X pins σ Q) X.xe s:=λb hb=>by
  subst hb
  obtain ⟨⟨as,h1,hn⟩,h2,h4⟩:=key
  have hu:X.A.units+(pd.depth+1)<cLine:=by have:=hr.un;omega
  refine repr_of_reads' h1 h2 (λ_=>hn) hr.gd hu (λ_ _ e=>e) (λh' u tk hk=>?_) hz
  exact ⟨.str pd.shown,H,I.kept hk,⟨u,rfl⟩,q⟩
 have hp':=hp
 cases rd with
 | non=>cases ru;unfold pyT at hp';cases hp';exact P.repr_of_none ⟨.str _,H,I.tok _,⟨_,rfl⟩,q⟩
 | bl b=>cases ru;unfold pyT at hp';cases hp';exact P.repr_of_bool ⟨.str _,H,I.tok _,⟨_,by cases b <;> rfl⟩,q⟩
 | int i =>
  obtain ⟨t,rfl⟩:=ru
  unfold pyT at hp'
  obtain ⟨hi,e⟩:=za8 hp'
  cases e
  exact P.repr_of_int hi ⟨.str _,H,I.tok _,⟨_,rfl⟩,q⟩
 | str x=>obtain ⟨t,rfl⟩:=ru;unfold pyT at hp';cases hp';exact P.repr_of_str ⟨.str _,H,I.tok _,⟨_,rfl⟩,q⟩ hz
 | tup ha r=>exact byRef _ ru
 | ref hn=>exact byRef _ ru
 | fn b=>unfold pyT at hp';cases hp'
theorem yb7 {K:QFg}:Fn3 K zd6 (λxs H Q=>∃v ρ S d pd,xs=[v]/\Sim K ρ S H/\RD ρ H d v/\pyT S 140 d=some pd/\pd.shown.length<=sizeLine/\Q (.str pd.shown) H):=by
 intro ρ S H xs vs v S' Q sim r h p
 unfold zd6 at h
 split at h
 ·obtain ⟨pd,h1,h⟩:=bnd h
  obtain ⟨hz,e⟩:=za8 h
  cases e
  obtain ⟨w,rfl,rw'⟩:=r.one
  exact ⟨w,ρ,_,_,pd,rfl,sim,rw',h1,hz,p ρ H _ (Ext.refl ..) sim (.str _)⟩
 ·cases h
theorem CallR.or3 {f:Value}{r r':List V->Hp->VK->Prop}(h:CallR X f r) (h':CallR X f r'):CallR X f (λxs H Q=>r xs H Q\/r' xs H Q):=by
 intro pins s σ H xs us Q I rr q
 rcases q with q|q
 ·exact h pins s σ H xs us Q I rr q
 ·exact h' pins s σ H xs us Q I rr q
noncomputable def zgi:FM:=λxs S=>match zd6 xs S with|some v=>some v|none=>ziw xs S
theorem yb8 {K:QFg}{r r':List V->Hp->VK->Prop}(h:Fn3 K zd6 r) (h':Fn3 K ziw r'):Fn3 K zgi (λxs H Q=>r xs H Q\/r' xs H Q):=by
 intro ρ S H xs vs v S' Q sim rr hm p
 unfold zgi at hm
 cases e:zd6 xs S with
 | some w=>rw [e] at hm;cases hm;exact .inl (h ρ S H xs vs _ _ Q sim rr e p)
 | none=>rw [e] at hm;exact .inr (h' ρ S H xs vs _ _ Q sim rr hm p)
end
theorem yb9 {S:Sto}{x:D}{p:PyData}{Q:D->Sto->Prop}(h:zaw S 140 x=some p\/pyT S 140 x=some p) (hz:p.shown.length<=sizeLine):Wo (zgi [x] S) Q=Q (.str p.shown) S:=by
 have:zgi [x] S=some (.str p.shown,S):=by
  unfold zgi
  rcases h with h|h
  ·cases e:pyT S 140 x with
   | some q =>
    have:=zrw S 140 x q p e h
    subst this
    have:zd6 [x] S=some (.str q.shown,S):=by unfold zd6;dsimp only;rw [e];show (if _ then _ else _)=_;rw [if_pos hz]
    rw [this]
   | none =>
    have:zd6 [x] S=none:=by unfold zd6;dsimp only;rw [e];rfl
    rw [this]
    unfold ziw;dsimp only;rw [h];show (if _ then _ else _)=_;rw [if_pos hz]
  ·have:zd6 [x] S=some (.str p.shown,S):=by unfold zd6;dsimp only;rw [h];show (if _ then _ else _)=_;rw [if_pos hz]
   rw [this]
 rw [this];exact za1
section
variable {prog:Program}{w:World}{A:Around}{E:Value->Shared->Prop}{s:Shared}
theorem yca {b t:Addr}{n:Nat}{vs:Array Value}{u:Value}{Q:Value->Shared->Prop}(hb:s.heap.IsTupleIter b t n) (ht:s.heap.IsTuple t vs) (hu:vs[n]? = some u)
  (q:∀h1,h1.IsTupleIter b t (n+1)->Heap.SameBut b s.heap h1->Q u { s with heap:=h1 }):wpAny (model prog w) A (Builtin.SmallTypes.nextOf (.ref b)) Q E s:=by
 obtain ⟨ob,gb,cb,db⟩:=id hb
 obtain ⟨ot,gt,_,nt,dt⟩:=ht
 unfold Builtin.SmallTypes.nextOf
 refine qwb (wpAny_callSpecial?_slot (name:=Str.ofString "__next__") hb.typeIs F.slot_tuple_iterator_next (wpAny_call_entry F.slot_tuple_iterator_next hb.typeIs F.entry_tuple_iterator_next ?_ (F.args_tuple_iterator_next_1 _)))
 show wpAny _ _ (field (.ref b) 0 >>= _) _ _ s
 refine qwb (wpAny_field gb db (x:=.ref t) rfl ?_)
 show wpAny _ _ (if (Value.ref t == Value.none)=true then _ else _) _ _ s
 rw [if_neg (by intro z;cases z)]
 show wpAny _ _ (field (.ref b) 1 >>= _) _ _ s
 refine qwb (wpAny_field gb db (x:=.int n 0) rfl ?_)
 show wpAny _ _ (seqItems? (.ref t) >>= _) _ _ s
 refine qwb (wpAny_seqItems gt dt ?_)
 simp only [Int.toNat_natCast,hu]
 refine qwb (wpAny_setField gb db (by simp) (qwp ⟨u,rfl,qwp (q _ ⟨_,Heap.get?_update_self _ gb (Obj.isFreed_of_fields (Obj.data_mapFields db _)),(Obj.cls_mapFields ..).trans cb,by rw [Obj.data_mapFields db];simp [rawInt]⟩ (Heap.SameBut.update ..))⟩))
theorem zng {b t:Addr}{n:Nat}{vs:Array Value}{Q:Value->Shared->Prop}(hA:A.handled=none) (hb:s.heap.IsTupleIter b t n) (ht:s.heap.IsTuple t vs) (hu:vs[n]? = none)
  (q:∀h1 x,Heap.ExtBut b s.heap h1->(∃o,h1.get? x=some o/\o.cls=.type "StopIteration")->E (.ref x) { s with heap:=h1 }):wpAny (model prog w) A (Builtin.SmallTypes.nextOf (.ref b)) Q E s:=by
 obtain ⟨ob,gb,cb,db⟩:=id hb
 obtain ⟨ot,gt,_,nt,dt⟩:=ht
 unfold Builtin.SmallTypes.nextOf
 refine qwb (wpAny_callSpecial?_slot (name:=Str.ofString "__next__") hb.typeIs F.slot_tuple_iterator_next (wpAny_call_entry F.slot_tuple_iterator_next hb.typeIs F.entry_tuple_iterator_next ?_ (F.args_tuple_iterator_next_1 _)))
 show wpAny _ _ (field (.ref b) 0 >>= _) _ _ s
 refine qwb (wpAny_field gb db (x:=.ref t) rfl ?_)
 show wpAny _ _ (if (Value.ref t == Value.none)=true then _ else _) _ _ s
 rw [if_neg (by intro z;cases z)]
 show wpAny _ _ (field (.ref b) 1 >>= _) _ _ s
 refine qwb (wpAny_field gb db (x:=.int n 0) rfl ?_)
 show wpAny _ _ (seqItems? (.ref t) >>= _) _ _ s
 refine qwb (wpAny_seqItems gt dt ?_)
 simp only [Int.toNat_natCast,hu]
 refine qwb (wpAny_rule (qwb (wpAny_setField gb db (by simp) ?_)))
 show wpAny _ _ (newExc (.type "StopIteration") [] >>= _) _ _ _
 refine qwb ?_
 simp only [newExc,newTuple]
 refine qwb (wpAny_newObj_type ?_ (by size_fits))
 refine qwb (m:=firstArgMember _ _) (wpAny_of_eq (a:=Value.none) (by first|rfl|(simp only [firstArgMember];rfl)) ?_)
 refine wpAny_newObj_type ?_ (by size_fits)
 simp only [raiseNew]
 refine qwb (wpAny_handled ?_)
 first|rw [show A.in1.handled=none from hA]|rw [hA]
 refine qwb (qwp (wpAny_throw ?_))
 exact q _ _ (((Heap.SameBut.update ..).extBut.push _).push _) ⟨_,Heap.get?_push_size _ rfl,rfl⟩
end
theorem zrx {prog:Program}{w:World}{A:Around}(hA:A.handled=none) (b t:Addr) (hne:t≠b) (vs:Array Value) :
  Draws prog w A b [b,t] vs.size (λi v=>vs[i]? = some v) (λi h=>h.IsTupleIter b t i/\h.IsTuple t vs) where
 live:=λ_ _ st=>let ⟨o,ho,_⟩:=st.1;⟨o,ho⟩
 frame:=λ_ _ _ st hk=>⟨let ⟨o,ho,r⟩:=st.1;⟨o,hk b (by simp) o ho,r⟩,let ⟨o,ho,r⟩:=st.2;⟨o,hk t (by simp) o ho,r⟩⟩
 item:=λi s Q E hi st hQ=>yca st.1 st.2 (u:=vs[i]) (by simp [hi]) λh1 hb1 hs1=>hQ _ h1 s.toks (by simp [hi]) ⟨hb1,st.2.extBut hs1.extBut hne⟩ hs1
 done:=λs Q E st hE=>zng hA st.1 st.2 (by simp) hE
theorem Inv.dealt {X:Cx}{pins:List (Addr × Obj)}{σ:L2.St}{H:Hp}{s:Shared}{h1:Heap}{t1:Nat}{ch:List Addr}{xs:List V}{us:List Value}(I:Inv X pins σ H s) (hf:∀b∈ch,zdj X pins H b)
  (k:∀b o,b ∉ ch->s.heap.get? b=some o->h1.get? b=some o) (g:IsTD h1 s.heap.objs.size us.toArray) (r:Vals xs us) (hz:xs.length<=sizeLine) :
  Inv X pins σ (upd H s.heap.objs.size (.tup xs)) { s with heap:=h1,toks:=t1 }:=by
 have hn:H s.heap.objs.size=none:=I.hok.fresh (qlr _)
 have ne:∀b o,s.heap.get? b=some o->b≠s.heap.objs.size:=λb o e=>Nat.ne_of_lt (Heap.lt_size e)
 have nf:∀b u,H b=some u->b ∉ ch:=λb u e z=>by rw [(hf b z).1] at e;cases e
 refine I.step (g':=s.gens) (d':=s.drawn) (ch:=ch) (λb hb=>?_) (λb o _ _ hc e _=>k b o hc e) (λb o _ _ hc e _=>⟨o.slots,k b o hc e⟩) (λb o _ e n=>by rw [zan (ne b o e)];exact n)
  (λb o hc e=>⟨o,k b o hc e⟩) (λb ys e=>by rw [zan (zbc e hn)];exact e) (λb o u e=>by rw [zan (zbc e hn)];exact e) (λb ps e=>⟨#[],by rw [zan (zbc e hn),e];simp⟩) (λm hm=>?_) (λb u e=>?_) I.bare
 ·obtain ⟨_,q1,_,q3,q4,q5⟩:=hf b hb
  exact ⟨q3,q1,q4,q5⟩
 ·obtain ⟨o,es,ep,ho,q⟩:=hm
  exact ⟨o,es,ep,k _ o (λz=>(hf _ z).2.1 rfl) ho,q⟩
 ·by_cases hb:b=s.heap.objs.size
  ·subst hb;rw [zbf] at e;cases e;exact ⟨hz,us,r,g⟩
  ·rw [zan hb] at e
   refine (I.hok b u e).stay (λc v hc q=>k c v ?_ q) (λc q=>by rw [zan (zbc q hn)];exact q) λc xs q=>by rw [zan (zbc q hn)];exact q
   rcases hc with z|z
   ·rw [z];exact nf b u e
   ·exact nf c _ z
noncomputable def Itn (J:It):It:=⟨J.go,λi H x H1=>∃y p,J.yld i H y H/\H p=none/\x=.ref p/\H1=upd H p (.tup [.int i,y]),J.stop⟩
section
variable {P:Program}{w:World}{K:QFg}{elts:List Expr}{z:Nat}{tp:Pos}
theorem znh {e b:Addr}{T:Heap->Prop}(hT:∀h,T h->∃o,h.get? b=some o/\∀v,o.data≠.cell v) (i:Nat) (h:Heap) (st:(∃old,IsEnum h e b i old)/\T h):∀c∈[e,b],∃o,h.get? c=some o/\∀v,o.data≠.cell v:=λc hc=>by
 have hc:c=e\/c=b:=by simpa using hc
 rcases hc with rfl|rfl
 ·obtain ⟨⟨old,q⟩,_⟩:=st
  exact ⟨_,q,λv z=>by
   have z:Data.fields _=Data.cell v:=z
   cases z⟩
 ·exact hT h st.2
theorem zkn {h:Heap}{a b:Addr}{c d:Value}{p q:Obj->Prop}(ha:∃o,h.get? a=some o/\o.cls=c/\p o) (hb:∃o,h.get? b=some o/\o.cls=d/\q o) (n:c≠d):a≠b:=by
 rintro rfl
 obtain ⟨o,e,c1,_⟩:=ha
 obtain ⟨o2,e2,c2,_⟩:=hb
 rw [e] at e2;cases e2
 exact n (c1.symm.trans c2)
theorem zni {X:Cx}{pins:List (Addr × Obj)}{σ:L2.St}{H:Hp}{s:Shared}{e b:Addr}{i tk:Nat}{x:V}{u:Value}{h1 h2:Heap}{J:It}{T:Heap->Prop}(I:Inv X pins σ H s) (hf:∀c∈[e,b],zdj X pins H c) (ru:RelV x u)
  (le:e<s.heap.objs.size) (lb:b<s.heap.objs.size) (hk:∀c o,c≠e->c≠b->s.heap.get? c=some o->h1.get? c=some o) (hT:h1.get? s.heap.objs.size=some { cls:=.type "tuple",data:=.seq #[.int i tk,u] })
  (he2:IsEnum h2 e b ((i:Int)+1) u) (hs2:Heap.SameBut e h1 h2) (t2:T h2) (y:J.yld i H x H) :
  ∃x1 H1,Inv X pins σ H1 { s with heap:=h2,toks:=tk+1 }/\RelV x1 (.ref s.heap.objs.size)/\(Itn J).yld i H x1 H1/\((∃old,IsEnum h2 e b ((i+1:Nat):Int) old)/\T h2)/\∀c∈[e,b],H1 c=none:=by
 have hn:H s.heap.objs.size=none:=I.hok.fresh (qlr _)
 refine ⟨.ref s.heap.objs.size,upd H s.heap.objs.size (.tup [.int i,x]),?_,rfl,⟨x,s.heap.objs.size,y,hn,rfl,rfl⟩,⟨⟨u,by simpa using he2⟩,t2⟩,λc hc=>?_⟩
 ·refine Inv.dealt (us:=[.int i tk,u]) I hf (λc o hc q=>?_) ⟨_,(hs2.2 _ (Nat.ne_of_gt le)).trans hT,rfl,_,rfl,rfl⟩ (.cons ⟨tk,rfl⟩ (.cons ru .nil)) (by show 2<=sizeLine;decide)
  have h3:c≠e/\c≠b:=⟨λz=>hc (by simp [z]),λz=>hc (by simp [z])⟩
  exact (hs2.2 c h3.1).trans (hk c o h3.1 h3.2 q)
 ·have:c≠s.heap.objs.size:=by
   have hc:c=e\/c=b:=by simpa using hc
   rcases hc with rfl|rfl
   ·exact Nat.ne_of_lt le
   ·exact Nat.ne_of_lt lb
  rw [zan this];exact (hf c hc).1
theorem ycb (a e b:Addr) (heb:e≠b):Turn P w K (.Tuple elts z tp) (Itn (Itl K a)) [e,b] e (λi h=>(∃old,IsEnum h e b i old)/\h.IsListIter b a i) where
 mem:=by simp
 obj:=λi h st=>znh (T:=λh=>h.IsListIter b a i) (λh ⟨o,q,c,d⟩=>⟨o,q,λv z=>by rw [d] at z;cases z⟩) i h st
 keep:=λi h h1 st k=>⟨let ⟨old,q⟩:=st.1;⟨old,k e (by simp) _ q⟩,st.2.at λo q=>k b (by simp) o q⟩
 item:=by
  intro X hP hw hK hc i pins s σ H E I hf st hg
  subst hP hw hK
  obtain ⟨xs,x,hq,hx⟩:=hg
  obtain ⟨its,rv,p,hz⟩:=I.list hq
  obtain ⟨u,hu,ru⟩:=rv.get hx
  obtain ⟨⟨old,he⟩,hb⟩:=st
  have nab:a≠b:=zkn p.isList hb (by decide)
  have nae:a≠e:=zkn (d:=.type "enumerate") (q:=λ_=>True) p.isList ⟨_,he,rfl,trivial⟩ (by decide)
  have hlt:i<its.toArray.size:=by simpa using (qme hu).1
  refine wpAny_pyNext_enum_itemD (Draws.list (A:=X.A.in1) (I.ok.hd hc) b a nab its.toArray) he ⟨hb,p.isList⟩ hlt heb (by simp [heb,nae.symm]) λx1 h1 tk hP ho hs1 hT hsz hk=>?_
  have hx1:x1=u:=by
   have:its.toArray[i]? = some u:=by simpa using hu
   rw [this] at hP;exact (qoi hP).symm
  subst hx1
  obtain ⟨ob,gb,_⟩:=id hb
  refine ⟨_,rfl,wpAny_letOwnedTupleGo_enum ho λh2 he2 hs2=>?_⟩
  replace hs2:Heap.SameBut e h1 h2:=hs2
  exact zni (J:=Itl X.K a) (T:=λh=>h.IsListIter b a (i+1)) I hf ru (Heap.lt_size he) (Heap.lt_size gb) hk hT he2 hs2 (hs1.1.at λo q=>(hs2.2 b heb.symm).trans q) ⟨rfl,λys hy=>by rw [I.list_inj hy hq];exact hx⟩
 done:=by
  intro X hP hw hK hc i pins s σ H E I hf st hg
  subst hP hw hK
  obtain ⟨xs,hq,hx⟩:=hg
  obtain ⟨its,rv,p,hz⟩:=I.list hq
  obtain ⟨⟨old,he⟩,hb⟩:=st
  obtain ⟨f0,f1,f2,f3,f4,f5⟩:=hf b (by simp)
  have hl:=rv.length
  exact wpAny_pyNext_enum_end (I.ok.hd hc) he hb p.isList (by simp;omega) λh1 eb=>⟨rfl,I.turned (t':=s.toks) (λc o hb q=>eb c o hb q) f0 f1 f3 f4 f5⟩
 self:=λA i s Q E st h=>let ⟨old,q⟩:=st.1;wpAny_pyIter_enum q h
theorem ycc {A:Around}{E:Value->Shared->Prop}{s:Shared}{e b t:Addr}{n:Nat}{vs:Array Value}{old:Value}{Q:Option Value->Shared->Prop}(hA:A.handled=none) (he:IsEnum s.heap e b n old) (hb:s.heap.IsTupleIter b t n)
  (ht:s.heap.IsTuple t vs) (hu:vs[n]? = none) (q:∀h1,Heap.ExtBut b s.heap h1->Q none { s with heap:=h1 }):wpAny (model P w) A (pyNext (.ref e)) Q E s:=by
 have ty:s.TypeIs (.ref e) "enumerate":=⟨_,he,rfl⟩
 unfold pyNext
 refine qwb (wpAny_attempt (wpAny_callSpecial?_slot (name:=Str.ofString "__next__") ty F.slot_enumerate_next (wpAny_call_entry F.slot_enumerate_next ty F.entry_enumerate_next ?_ (F.args_enumerate_next_1 _))))
 show wpAny _ _ (field (.ref e) 2 >>= _) _ _ _
 refine qwb (wpAny_field he rfl (x:=.ref b) rfl ?_)
 refine qwb (zng hA hb ht hu λh1 x q1 ⟨o,g,c⟩=>?_)
 exact qwb (wpAny_isInstance (T:="StopIteration") (b:=true) ⟨o,g,c⟩ isSubtype_stop (qwp (q _ q1)))
theorem ycd (a e b:Addr) (heb:e≠b):Turn P w K (.Tuple elts z tp) (Itn (Itt K a)) [e,b] e (λi h=>(∃old,IsEnum h e b i old)/\h.IsTupleIter b a i) where
 mem:=by simp
 obj:=λi h st=>znh (T:=λh=>h.IsTupleIter b a i) (λh ⟨o,q,c,d⟩=>⟨o,q,λv z=>by rw [d] at z;cases z⟩) i h st
 keep:=λi h h1 st k=>⟨let ⟨old,q⟩:=st.1;⟨old,k e (by simp) _ q⟩,let ⟨o,q,r⟩:=st.2;⟨o,k b (by simp) o q,r⟩⟩
 item:=by
  intro X hP hw hK hc i pins s σ H E I hf st hg
  subst hP hw hK
  obtain ⟨xs,x,hq,hx⟩:=hg
  obtain ⟨its,rv,p,hz⟩:=I.tuple hq
  obtain ⟨u,hu,ru⟩:=rv.get hx
  obtain ⟨⟨old,he⟩,hb⟩:=st
  have p:s.heap.IsTuple a its.toArray:=p
  have nab:a≠b:=zkn p hb (by decide)
  have nae:a≠e:=zkn (d:=.type "enumerate") (q:=λ_=>True) p ⟨_,he,rfl,trivial⟩ (by decide)
  have hlt:i<its.toArray.size:=by simpa using (qme hu).1
  refine wpAny_pyNext_enum_itemD (zrx (A:=X.A.in1) (I.ok.hd hc) b a nab its.toArray) he ⟨hb,p⟩ hlt heb (by simp [heb,nae.symm]) λx1 h1 tk hP ho hs1 hT hsz hk=>?_
  have hx1:x1=u:=by
   have:its.toArray[i]? = some u:=by simpa using hu
   rw [this] at hP;exact (qoi hP).symm
  subst hx1
  obtain ⟨ob,gb,_⟩:=id hb
  refine ⟨_,rfl,wpAny_letOwnedTupleGo_enum ho λh2 he2 hs2=>?_⟩
  replace hs2:Heap.SameBut e h1 h2:=hs2
  exact zni (J:=Itt X.K a) (T:=λh=>h.IsTupleIter b a (i+1)) I hf ru (Heap.lt_size he) (Heap.lt_size gb) hk hT he2 hs2 (hs1.1.extBut hs2.extBut heb.symm) ⟨rfl,λys hy=>by rw [I.tuple_inj hy hq];exact hx⟩
 done:=by
  intro X hP hw hK hc i pins s σ H E I hf st hg
  subst hP hw hK
  obtain ⟨xs,hq,hx⟩:=hg
  obtain ⟨its,rv,p,hz⟩:=I.tuple hq
  obtain ⟨⟨old,he⟩,hb⟩:=st
  obtain ⟨f0,f1,f2,f3,f4,f5⟩:=hf b (by simp)
  have hl:=rv.length
  exact ycc (I.ok.hd hc) he hb p (by simp;omega) λh1 eb=>⟨rfl,I.turned (t':=s.toks) (λc o hb q=>eb c o hb q) f0 f1 f3 f4 f5⟩
 self:=λA i s Q E st h=>let ⟨old,q⟩:=st.1;wpAny_pyIter_enum q h
end
open AutoSeq1
theorem yce (t:Addr) (vs:Array Value) (m:Nat) (dc:Option Addr) (sl:Array (Option Value)) :
  Meets (Builtin.«enumerate.__new__» ⟨[.type "enumerate",.ref t],[]⟩) (λ_ R s=>s.heap.get? t=some { cls:=.type "tuple",dict:=dc,data:=.seq vs m,slots:=sl } /\
   R (.ok (.ret (.ref (s.heap.push { cls:=.type "tuple_iterator",data:=.fields #[.ref t,.int 0 0] }).objs.size)))
    { s with heap:=(s.heap.push { cls:=.type "tuple_iterator",data:=.fields #[.ref t,.int 0 0] }).push { cls:=.type "enumerate",data:=.fields #[.none,.bool false,.ref s.heap.objs.size,rawInt 0,.none,.none] } }) :=
 .of_wp λprog w A R s hx1_=>by
  obtain ⟨ht,h⟩:=hx1_
  have sub1:=sub_enumerate
  obtain ⟨hp,g,d,tk,os⟩:=s
  have tt:Heap.IsTuple (Shared.heap ⟨hp,g,d,tk,os⟩) t vs:=⟨_,ht,rfl,m,rfl⟩
  wp_walk using wpAny_loadPart' ht
  refine wpAny_stack_any λ_=>qwp ?_
  split
  ·rename_i c _ _ _ _ _
   cases (c == Value.type "enumerate") <;> (wp_walk using wpAny_loadPart' ht,wpAny_pyIter_tuple tt;exact ⟨_,rfl,h⟩)
  ·wp_walk using wpAny_loadPart' ht,wpAny_pyIter_tuple tt
   exact ⟨_,rfl,h⟩
section
variable {prog:Program}{w:World}{A:Around}{E:Value->Shared->Prop}{s:Shared}
theorem ycf {t:Addr}{vs:Array Value}{Q:Value->Shared->Prop}(ht:s.heap.IsTuple t vs)
  (q:∀h1,IsEnum h1 (s.heap.objs.size+1) s.heap.objs.size 0 .none->h1.IsTupleIter s.heap.objs.size t 0->(∀b o,s.heap.get? b=some o->h1.get? b=some o)->Q (.ref (s.heap.objs.size+1)) { s with heap:=h1 }) :
  wpAny (model prog w) A (call (.type "enumerate") [.ref t]) Q E s:=by
 obtain ⟨⟨c,dc,dt,sl⟩,gt,hc,m,hd⟩:=ht
 replace hc:c=.type "tuple":=hc
 replace hd:dt=.seq vs m:=hd
 subst hc hd
 refine callType_new F.called_enumerate (by decide) (F.typeCall_enumerate_1 _) (F.newCall_enumerate_1 _) (λo=>F.args_object_init_2 o _) F.entry_enumerate_new (yce t vs m dc sl) ⟨gt,?_⟩
 have hz:(s.heap.push { cls:=.type "tuple_iterator",data:=.fields #[.ref t,.int 0 0] }).objs.size=s.heap.objs.size+1:=Heap.size_push ..
 show _/\_
 rw [hz]
 have he:IsEnum ((s.heap.push { cls:=.type "tuple_iterator",data:=.fields #[.ref t,.int 0 0] }).push { cls:=.type "enumerate",data:=.fields #[.none,.bool false,.ref s.heap.objs.size,rawInt 0,.none,.none] }) (s.heap.objs.size+1) s.heap.objs.size 0 .none:=by
  rw [<-hz];exact Heap.get?_push_size _ rfl
 exact ⟨⟨_,he,rfl⟩,q _ he ⟨_,qps _ (Heap.get?_push_size _ rfl),rfl,rfl⟩ λb o x=>qps _ (qps _ x)⟩
end
theorem znj:bootBuiltins "enumerate" = some (.type "enumerate"):=by decide +kernel
section
variable {X:Cx}{elts:List Expr}{z:Nat}{tp:Pos}
def ycg (K:QFg) (ta:TA):TI:=λσ H R=>ta σ H λvs H1=>∃a,vs=[.ref a]/\(∃xs,SqL K H1 a xs)/\R (Itn (Itl K a)) H1
def ych (K:QFg) (ta:TA):TI:=λσ H R=>ta σ H λvs H1=>∃a,vs=[.ref a]/\(∃xs,SqT K H1 a xs)/\R (Itn (Itt K a)) H1
theorem zko {pins:List (Addr × Obj)}{σ:L2.St}{H:Hp}{s:Shared}{R:It->Hp->Prop}{E:Value->Shared->Prop}{J:It}{T:Nat->Heap->Prop}{h1:Heap}(I:Inv X pins σ H s) (tu:Turn X.prog X.w X.K (.Tuple elts z tp) J [s.heap.objs.size+1,s.heap.objs.size] (s.heap.objs.size+1) (λi h=>(∃old,IsEnum h (s.heap.objs.size+1) s.heap.objs.size i old)/\T i h))
  (he:IsEnum h1 (s.heap.objs.size+1) s.heap.objs.size 0 .none) (t0:T 0 h1) (hk:∀b o,s.heap.get? b=some o->h1.get? b=some o) (q:R J H):wpAny (model X.prog X.w) X.A (pyIter (.ref (s.heap.objs.size+1))) (PIE X pins σ (.Tuple elts z tp) R) E { s with heap:=h1 }:=by
 refine wpAny_pyIter_enum (s:={ s with heap:=h1 }) he ⟨_,_,_,J,H,rfl,I.kept (t':=s.toks) hk,tu,⟨⟨_,he⟩,t0⟩,λc hc=>?_,q⟩
 have:s.heap.objs.size<=c:=by
  have hc:c=s.heap.objs.size+1\/c=s.heap.objs.size:=by simpa using hc
  rcases hc with rfl|rfl
  ·exact Nat.le_succ _
  ·exact qlr _
 exact I.fpOk this (I.hok.fresh this)
theorem yci {a:Expr}{ta:TA}{p pos:Pos}(hg:Gl X "enumerate") (hm:X.mg "enumerate" = none) (ha:PA X [a] ta) (hs:starEach [a] X.env=[(false,eval a X.env)]:=by rfl):PI X (.Tuple elts z tp) (.Call (.Name "enumerate" p) [a] [] pos) (ycg X.K ta):=by
 intro pins s σ H R I h
 refine Call_ (zfg I hg hm znj (PyProof.Rows.callWith_type1 (thn (ha pos pins s σ H _ I h) λus s1 ⟨vs,H1,I1,r1,q1⟩=>?_) hs rfl))
 obtain ⟨b,rfl,⟨xs,hq⟩,q⟩:=q1
 cases r1 with
 | cons r rr =>
  cases rr
  cases r
  obtain ⟨its,rv,pl,hz⟩:=I1.list hq
  exact call_enumerate_list pl.isList λh1 he hb _ hk=>zko (T:=λi h=>h.IsListIter s1.heap.objs.size b i) I1 (ycb b _ _ (Nat.succ_ne_self _)) he hb hk q
theorem ycj {a:Expr}{ta:TA}{p pos:Pos}(hg:Gl X "enumerate") (hm:X.mg "enumerate" = none) (ha:PA X [a] ta) (hs:starEach [a] X.env=[(false,eval a X.env)]:=by rfl):PI X (.Tuple elts z tp) (.Call (.Name "enumerate" p) [a] [] pos) (ych X.K ta):=by
 intro pins s σ H R I h
 refine Call_ (zfg I hg hm znj (PyProof.Rows.callWith_type1 (thn (ha pos pins s σ H _ I h) λus s1 ⟨vs,H1,I1,r1,q1⟩=>?_) hs rfl))
 obtain ⟨b,rfl,⟨xs,hq⟩,q⟩:=q1
 cases r1 with
 | cons r rr =>
  cases rr
  cases r
  obtain ⟨its,rv,pl,hz⟩:=I1.tuple hq
  exact ycf (show s1.heap.IsTuple b its.toArray from pl) λh1 he hb hk=>zko (T:=λi h=>h.IsTupleIter s1.heap.objs.size b i) I1 (ycd b _ _ (Nat.succ_ne_self _)) he hb hk q
end
noncomputable def zd7 (it:ItM) (g:GM) (b:SM):Nat->Nat->SM
 | 0,_,_,_=>none
 | k+1,i,l,S=>(it i S).bind λo=>match o with
  | none=>some (.nx,l,S)
  | some x=>(g x l S).bind λp=>(b p.1 p.2).bind λq=>match q.1 with
   | .nx=>zd7 it g b k (i+1) q.2.1 q.2.2
   | .ct=>zd7 it g b k (i+1) q.2.1 q.2.2
   | .bk=>some (.nx,q.2)
   | .rt d=>some (.rt d,q.2)
noncomputable def zix (im:IM) (g:GM) (b:SM):SM:=λl S=>(im l S).bind λp=>zd7 p.1 g b p.2.1 0 l p.2.2
def zkp (K:QFg) (ρ:List Addr) (H:Hp) (it:ItM) (J:It):Prop:=∀(i:Nat) ρ' S' H',Ext ρ H ρ' H'->Sim K ρ' S' H' ->
 (it i S' = some none->J.stop i H')/\∀x,it i S' = some (some x)->J.go i H'/\∀y H'',J.yld i H' y H''->Ext ρ' H' ρ' H''/\Sim K ρ' S' H''/\RD ρ' H'' x y
noncomputable def itN (it:ItM):ItM:=λi S=>(it i S).map λo=>o.map λx=>.tup [.int i,x]
section
variable {K:QFg}
theorem znk {ρ:List Addr}{H:Hp}{it:ItM}{J:It}(h:ze3 K ρ H it J):zkp K ρ H (itN it) (Itn J):=by
 intro i ρ1 S1 H1 e s
 obtain ⟨h1,h2⟩:=h i ρ1 S1 H1 e s
 unfold itN
 refine ⟨λq=>?_,λx q=>?_⟩
 ·cases hi:it i S1 with
  | none=>rw [hi] at q;cases q
  | some o =>
   cases o with
   | none=>exact h1 hi
   | some x=>rw [hi] at q;cases q
 ·cases hi:it i S1 with
  | none=>rw [hi] at q;cases q
  | some o =>
   cases o with
   | none=>rw [hi] at q;cases q
   | some y =>
    rw [hi] at q;cases q
    obtain ⟨q1,q2⟩:=h2 y hi
    refine ⟨q1,λv H2 ⟨y2,p,hy1,hp,e1,e2⟩=>?_⟩
    subst e1 e2
    obtain ⟨_,r⟩:=q2 y2 H1 hy1
    exact ⟨zbu hp,s.laid hp,.tup zbf (.cons (.int _) (.cons (r.mono (zbu hp)) .nil))⟩
theorem yck {g:GM}{b:SM}{it:ItM}{J:It}{ρ:List Addr}{l:Lo}{S:Sto}{H:Hp}{σ:L2.St}{f:Fl}{l':Lo}{S':Sto}{E:Ends}{k:Nat}(ok:zkp K ρ H it J)
  (sim:Sim K ρ S H) (ro:RO ρ H l σ) (hm:zd7 it g b k 0 l S=some (f,l',S')) (p:∀ρ' H' σ',Ext ρ H ρ' H'->Sim K ρ' S' H'->RO ρ' H' l' σ'->zfh ρ' H' E σ' f) :
  ∃W:Nat->Nat->L2.St->Hp->Prop,(∃m,W 0 m σ H)/\∀i m σ H,W i m σ H ->
   (J.stop i H/\E.nx σ H)\/(J.go i H/\∃N:L2.St->Hp->Prop,(∀σ' H',N σ' H'->∃m',m' < m/\W (i+1) m' σ' H')/\∀x H',J.yld i H x H'->tg K g x σ H' λσ2 H2=>ts K b { E with nx:=N,ct:=N,bk:=E.nx } σ2 H2):=by
 refine ⟨λi m σ1 H1=>∃ρ1 l1 S1,Ext ρ H ρ1 H1/\Sim K ρ1 S1 H1/\RO ρ1 H1 l1 σ1/\zd7 it g b m i l1 S1=some (f,l',S'),⟨k,ρ,l,S,Ext.refl ..,sim,ro,hm⟩,?_⟩
 rintro i m σ1 H1 ⟨ρ1,l1,S1,e1,s1,ro1,hm1⟩
 cases m with
 | zero=>cases hm1
 | succ m =>
  unfold zd7 at hm1
  obtain ⟨o,hi,hm1⟩:=bnd hm1
  obtain ⟨k1,k2⟩:=ok i ρ1 S1 H1 e1 s1
  cases o with
  | none=>cases hm1;exact .inl ⟨k1 hi,p ρ1 H1 σ1 e1 s1 ro1⟩
  | some x =>
   obtain ⟨k3,k4⟩:=k2 x hi
   refine .inr ⟨k3,_,λσ' H' h=>h,λy H2 hyl=>?_⟩
   obtain ⟨x2,s2,r2⟩:=k4 y H2 hyl
   refine zmw (next:=zd7 it g b m (i+1)) s2 (ro1.mono x2) r2 hm1 (λρ' H' σ' e'=>p ρ' H' σ' ((e1.trans x2).trans e')) λρ3 H3 σ3 l3 S3 e3 s3 ro3 hm3=>?_
   exact ⟨m,Nat.lt_succ_self m,ρ3,l3,S3,(e1.trans x2).trans e3,s3,ro3,hm3⟩
end
section
variable {X:Cx}{elts:List Expr}{z:Nat}{tp:Pos}{a:Expr}{mA:AM}{g:GM}{b:SM}{body:List Stmt}{p0 pos' pos:Pos}
end
theorem znl {α:Type}{c:Prop} [Decidable c] {a:Option α}{v:α}(h:(if c then a else none)=some v):c/\a=some v:=by
 by_cases hc:c
 ·rw [if_pos hc] at h;exact ⟨hc,h⟩
 ·rw [if_neg hc] at h;cases h
section
variable {prog:Program}{w:World}{A:Around}{E:Value->Shared->Prop}{s:Shared}
end
section
variable {X:Cx}{gs:GsM}{es:List Expr}{k n:Nat}{pos:Pos}
end
section
variable {X:Cx}{a:Expr}{ma:EM}{lo hi:Option Expr}{ml mh:OM}{p2 pos:Pos}
end
noncomputable abbrev zcp:=oI (λi j=>decide (0<=j/\j<=1000000/\i.natAbs<2 ^ 64)) λi j=>.int (i*2 ^ j.toNat)
noncomputable abbrev zry:=oI (λ_ j=>decide (0<=j)) λi j=>.int (i / 2 ^ j.toNat)
noncomputable abbrev zrz:=oI0 λi j=>.int (Builtin.bitAnd i j)
section
variable {X:Cx}{a b:Expr}{ma mb:EM}{mA:AM}{es:List Expr}{pos p:Pos}
theorem ze7 (ha:PE3 X a ma) (hb:PE3 X b mb):PE3 X (.BinOp a .LShift b pos) (eOp zcp ma mb):=zey zpk (zig (λi j h=>by unfold zg7;exact of_decide_eq_true h) λ_ _ _ _=>.int _) ha hb
theorem ycl (ha:PE3 X a ma) (hb:PE3 X b mb):PE3 X (.BinOp a .RShift b pos) (eOp zry ma mb):=zey zxx (zig (λi j h=>of_decide_eq_true h) λ_ _ _ _=>.int _) ha hb
theorem ycm (ha:PE3 X a ma) (hb:PE3 X b mb):PE3 X (.BinOp a .BitAnd b pos) (eOp zrz ma mb):=zey zxy (zf6 λ_ _ _ _=>.int _) ha hb
end
noncomputable def znm:D->D->Sto->Option (D × Sto)
 | .str z,.int i,S=>if z.length<=sizeLine then (atI z.cps.toList i).bind λc=>some (.str ⟨#[c]⟩,S) else none
 | _,_,_=>none
noncomputable def za3:D->D->Sto->Option (D × Sto):=λx y S=>match dIx x y S with|some v=>some v|none=>znm x y S
theorem ycn {K:QFg}:Op3 K znm zmh:=by
 intro ρ S H x y x' y' v S' Q sim rx ry h p
 unfold znm at h
 split at h
 ·cases rx;cases ry
  split at h
  ·rename_i hz
   obtain ⟨c,h1,h⟩:=bnd h
   cases h
   exact ⟨_,_,c,rfl,rfl,hz,h1,p ρ H _ (Ext.refl ..) sim (.str _)⟩
  ·cases h
 ·cases h
theorem yco {K:QFg}:Op3 K za3 (rIx K):=by
 intro ρ S H x y x' y' v S' Q sim rx ry hm p
 unfold za3 at hm
 cases e:dIx x y S with
 | some w=>rw [e] at hm;cases hm;exact zz5 ρ S H x y x' y' _ _ Q sim rx ry e p
 | none=>rw [e] at hm;exact .inr (.inr (ycn ρ S H x y x' y' _ _ Q sim rx ry hm p))
noncomputable def zbl:FM
 | [.str z],S=>if z.length<=sizeLine then some (.int z.length,S) else none
 | xs,S=>zil xs S
noncomputable def zhq:FM
 | [.int i],S=>if i.natAbs.log2<1920 then some (.str (toString i),S) else none
 | [.str z],S=>none
 | _,_=>none
section
variable {X:Cx}{a b:Expr}{ma mb:EM}{mA:AM}{es:List Expr}{pos p:Pos}{K:QFg}
theorem zbm (ha:PE3 X a ma) (hb:PE3 X b mb) (hs:zmg b:=by intro _ _;rfl):PE3 X (.Subscript a b pos) (eOp za3 ma mb):=PE.imp (zp7 zqa ha hb hs) (zg9 yco)
theorem ycp:Fn3 K zbl (λxs H Q=>(∃p ys,xs=[.ref p]/\(SqL K H p ys\/SqT K H p ys)/\Q (.int ys.length) H)\/∃z,xs=[.str z]/\z.length<=sizeLine/\Q (.int z.length) H):=by
 intro ρ S H xs vs v S' Q sim r h p
 unfold zbl at h
 split at h
 ·obtain ⟨hz,e⟩:=za8 h
  cases e
  obtain ⟨w,rfl,rw'⟩:=r.one
  cases rw'
  exact .inr ⟨_,rfl,hz,p ρ H _ (Ext.refl ..) sim (.int _)⟩
 ·exact .inl (yab ρ S H _ vs v S' Q sim r h p)
theorem zc2 (hg:Gl X "len") (hm:X.mg "len" = none) (ha:PA3 X (a :: es) mA) (he:starEach (a :: es) X.env=(false,eval a X.env) :: starEach es X.env:=by rfl) (hpl:(backTo pos (starEach es X.env)).any (·.1)=false:=by rfl):PE3 X (.Call (.Name "len" p) (a :: es) [] pos) (zaf zbl mA) :=
 zf5 (call_len_seq.or zy8) ycp hg hm PySem.boot_len ha (by decide) (by decide) he hpl
theorem ycq:Fn3 K zhq (λxs H Q=>∃i,xs=[.int i]/\i.natAbs.log2<1920/\Q (.str (toString i)) H):=by
 intro ρ S H xs vs v S' Q sim r h p
 unfold zhq at h
 split at h
 ·obtain ⟨hz,e⟩:=za8 h
  cases e
  obtain ⟨w,rfl,rw'⟩:=r.one
  cases rw'
  exact ⟨_,rfl,hz,p ρ H _ (Ext.refl ..) sim (.str _)⟩
 ·cases h
 ·cases h
theorem ycr (hg:Gl X "str") (hm:X.mg "str" = none) (ha:PA3 X (a :: es) mA) (he:starEach (a :: es) X.env=(false,eval a X.env) :: starEach es X.env:=by rfl) (hpl:(backTo pos (starEach es X.env)).any (·.1)=false:=by rfl):PE3 X (.Call (.Name "str" p) (a :: es) [] pos) (zaf zhq mA) :=
 zif zye ycq hg hm yaz ha (by decide) (by decide) he hpl
end
noncomputable def ze8:D->Option Key
 | .int i=>some (.inl i)
 | .str x=>some (.inr x)
 | _=>none
noncomputable def zdd (kvs:List (Key × D)) (k:Key):Option D:=(kvs.find? λkv=>decide (kv.1=k)).map (·.2)
noncomputable def ze9 (kvs:List (Key × D)) (k:Key) (v:D):List (Key × D):=if (kvs.any λkv=>decide (kv.1=k))=true then kvs.map (λkv=>if kv.1=k then (kv.1,v) else kv) else kvs++[(k,v)]
noncomputable def ziy (S:Sto) (n:Nat):Option (List (Key × D)):=match S[n]? with
 | some (.dct kvs)=>some kvs
 | _=>none
theorem znn {S:Sto}{n:Nat}{kvs:List (Key × D)}(h:ziy S n=some kvs):S[n]? = some (.dct kvs):=by
 unfold ziy at h
 split at h
 ·cases h;assumption
 ·cases h
section
variable {K:QFg}{ρ:List Addr}{H:Hp}{S:Sto}
theorem zkq {k:Key}:∀{kvs:List (Key × D)}{vs:List V},RDs ρ H (kvs.map (·.2)) vs->(zdd kvs k=none->zca ((kvs.map (·.1)).zip vs) k=none)/\∀d,zdd kvs k=some d->∃v,zca ((kvs.map (·.1)).zip vs) k=some v/\RD ρ H d v
 | [],vs,r=>by
  cases r
  exact ⟨λ_=>rfl,λd h=>by cases h⟩
 | (k',d') :: kvs,vs,r=>by
  cases r with
  | @cons _ v _ vs r1 r2 =>
   by_cases e:k' = k
   ·have e1:zdd ((k',d') :: kvs) k=some d':=by simp [zdd,e]
    have e2:zca ((((k',d') :: kvs).map (·.1)).zip (v :: vs)) k=some v:=zia (p:=(k',v)) e
    rw [e1,e2]
    exact ⟨λz=>(by cases z),λd h=>(by cases h;exact ⟨v,rfl,r1⟩)⟩
   ·have e1:zdd ((k',d') :: kvs) k=zdd kvs k:=by simp [zdd,e]
    have e2:zca ((((k',d') :: kvs).map (·.1)).zip (v :: vs)) k=zca ((kvs.map (·.1)).zip vs) k:=zib (p:=(k',v)) e
    rw [e1,e2]
    exact zkq r2
theorem zr0 (k:Key):∀{kvs:List (Key × D)}{vs:List V},RDs ρ H (kvs.map (·.2)) vs->(((kvs.map (·.1)).zip vs).any λkv=>decide (kv.1=k))=kvs.any λkv=>decide (kv.1=k)
 | [],vs,r=>by cases r;rfl
 | (k',d') :: kvs,vs,r=>by
  cases r with
  | @cons _ v _ vs r1 r2 =>
   show (decide (k' = k) || (((kvs.map (·.1)).zip vs).any λkv=>decide (kv.1=k)))=(decide (k' = k) || _)
   rw [zr0 k r2]
theorem zr1 {k:Key}{d:D}{v:V}(rv:RD ρ H d v) {kvs:List (Key × D)}{vs:List V}(r:RDs ρ H (kvs.map (·.2)) vs):∃ws,zbx ((kvs.map (·.1)).zip vs) k v=((ze9 kvs k d).map (·.1)).zip ws/\RDs ρ H ((ze9 kvs k d).map (·.2)) ws:=by
 unfold zbx ze9
 rw [zr0 k r]
 by_cases e:(kvs.any λkv=>decide (kv.1=k))=true
 ·rw [if_pos e,if_pos e]
  clear e
  induction kvs generalizing vs with
  | nil=>cases r;exact ⟨[],rfl,.nil⟩
  | cons p kvs ih =>
   obtain ⟨k',d'⟩:=p
   cases r with
   | @cons _ u _ us r1 r2 =>
    obtain ⟨ws,h1,h2⟩:=ih r2
    by_cases e:k' = k
    ·refine ⟨v :: ws,?_,?_⟩
     ·simp only [List.map_cons,List.zip_cons_cons,if_pos e];rw [<-h1]
     ·simp only [List.map_cons,if_pos e];exact .cons rv h2
    ·refine ⟨u :: ws,?_,?_⟩
     ·simp only [List.map_cons,List.zip_cons_cons,if_neg e];rw [<-h1]
     ·simp only [List.map_cons,if_neg e];exact .cons r1 h2
 ·rw [if_neg e,if_neg e]
  refine ⟨vs++[v],?_,?_⟩
  ·rw [List.map_append,List.zip_append (by rw [qlm];have:=r.length;rw [qlm] at this;exact this)];rfl
  ·rw [List.map_append];exact r.append (.cons rv .nil)
theorem zhr {d:D}{v:V}{k:Key}(h:ze8 d=some k) (r:RD ρ H d v):v=kV k:=by
 cases r <;> first|(cases h;rfl)|cases h
theorem Sim.dct {n:Nat}{kvs:List (Key × D)}(s:Sim K ρ S H) (h:S[n]? = some (.dct kvs)):∃a vs,ρ[n]? = some a/\H a=some (.dK ((kvs.map (·.1)).zip vs))/\RDs ρ H (kvs.map (·.2)) vs:=by
 have hl:n<ρ.length:=by rw [s.len];exact (qme h).1
 obtain ⟨vs,e,r⟩:=s.at' n _ _ (qge hl) h
 exact ⟨_,vs,qge hl,e,r⟩
end
noncomputable def zcq:D->D->Sto->Option (D × Sto)
 | .ref n,y,S=>(ziy S n).bind λkvs=>(ze8 y).bind λk=>(zdd kvs k).bind λv=>some (v,S)
 | _,_,_=>none
def zr2:R2:=λx y H Q=>∃a v,x=.ref a/\DGet H a y (some v)/\Q v H
theorem ycs {K:QFg}:Op3 K zcq zr2:=by
 intro ρ S H x y x' y' v S' Q sim rx ry h p
 unfold zcq at h
 split at h
 ·obtain ⟨kvs,h1,h⟩:=bnd h
  obtain ⟨k,h2,h⟩:=bnd h
  obtain ⟨w,h3,h⟩:=bnd h
  cases h
  obtain ⟨a,vs,ha,hH,r⟩:=sim.dct (znn h1)
  obtain ⟨u,hu,ru⟩:=(zkq r).2 _ h3
  cases rx with
  | ref hn =>
   rw [ha] at hn;cases hn
   have ey:=zhr h2 ry
   subst ey
   exact ⟨_,u,rfl,by rw [<-hu];exact DGet.k hH,p ρ H u (Ext.refl ..) sim ru⟩
 ·cases h
section
variable {X:Cx}{a b e:Expr}{ma mb me:EM}{pos pos':Pos}{k:Nat}
theorem zkr (hr:Room k X.A):X.A.units+1<cLine:=by have:=hr.un;omega
theorem zfq (hr:Room k X.A) (ha:PE3 X a ma) (hb:PE3 X b mb) (hs:zj1 b:=by intro _ _;rfl):PE3 X (.Subscript a b pos) (eOp zcq ma mb):=PE.imp (zqt (zkr hr) ha hb hs) (zg9 ycs)
end
noncomputable def ziz:D->D->D->Sto->Option Sto
 | .ref n,y,v,S=>(ziy S n).bind λkvs=>(ze8 y).bind λk=>if kvs.length<sizeLine then some (S.set n (.dct (ze9 kvs k v))) else none
 | _,_,_,_=>none
noncomputable def zhs (o i:EM):GM:=λv l S=>(o l S).bind λp=>(i l p.2).bind λq=>(ziz p.1 q.1 v q.2).bind λS'=>some (l,S')
theorem zks (kvs:List (Key × V)):zf0 (.dK kvs):=⟨λ_ z=>(by cases z),λ_ _ z=>(by cases z)⟩
section
variable {X:Cx}{o i value:Expr}{mo mi mv:EM}{pos pos':Pos}{k:Nat}
theorem zno (hr:Room k X.A) (ho:PE3 X o mo) (hi:PE3 X i mi) (hv:PE3 X value mv) (hs:swapsWith value (some (.Subscript o i pos')) pos.line X.env=pure false:=by rfl) :
  PS3 X (.Assign [.Subscript o i pos'] value pos) (zaq mv (zhs mo mi)):=PS.imp (zqu (zkr hr) ho hi hv hs) λE σ H hx1_=>by
 obtain ⟨ρ,l,S,f,l',S',sim,ro,hm,p⟩:=hx1_
 obtain ⟨⟨d,S1⟩,h1,hm⟩:=bnd hm
 obtain ⟨⟨l2,S2⟩,h2,hm⟩:=bnd hm
 obtain ⟨⟨x,S3⟩,h3,h2⟩:=bnd h2
 obtain ⟨⟨y,S4⟩,h4,h2⟩:=bnd h2
 obtain ⟨S5,h5,h2⟩:=bnd h2
 cases h2;cases hm
 refine ⟨ρ,l,S,d,S1,sim,ro,h1,λρ1 H1 v' e1 s1 r1=>⟨ρ1,l,S1,x,S3,s1,ro.mono e1,h3,λρ2 H2 x' e2 s2 r2=>⟨ρ2,l,S3,y,S4,s2,(ro.mono e1).mono e2,h4,λρ3 H3 y' e3 s3 r3=>?_⟩⟩⟩
 cases r2 with
 | @ref n a' hn =>
  obtain ⟨kvs,q1,h5⟩:=bnd (show (ziy S4 n).bind (λkvs=>(ze8 y).bind λk=>if kvs.length<sizeLine then some (S4.set n (.dct (ze9 kvs k d))) else none)=some _ from h5)
  obtain ⟨ky,q2,h5⟩:=bnd h5
  obtain ⟨hz,e⟩:=za8 h5
  cases e
  obtain ⟨a,vs,ha,hH,r⟩:=s3.dct (znn q1)
  have r1':=r1.mono (e2.trans e3)
  have hn3:=e3.pre _ _ hn
  rw [ha] at hn3;cases hn3
  have ey:=zhr q2 r3
  subst ey
  have hl:((kvs.map (·.1)).zip vs).length=kvs.length:=by rw [List.length_zip,qlm];have:=r.length;rw [qlm] at this;omega
  obtain ⟨ws,hw1,hw2⟩:=zr1 (k:=ky) r1' r
  refine ⟨_,_,rfl,DPut.k hH (by rw [hl];exact hz),?_⟩
  have ex:=zj3 (o:=.dK (zbx ((kvs.map (·.1)).zip vs) ky v')) ha hH (zks _)
  refine p ρ3 _ σ ((e1.trans (e2.trans e3)).trans ex) (s3.setG ha (znn q1) rfl hH (zks _) ?_) ((((ro.mono e1).mono e2).mono e3).mono ex)
  exact ⟨ws,by rw [zbf,hw1],hw2.mono ex⟩
 | _=>cases h5
end
noncomputable def znp (k1:Str) (n:Nat) (k2:Str) (a:Int) (k3:Str) (b:Int):EM:=λl S=>match l[n]? with
 | some (some d)=>some (.ref S.length,S++[.dct [(Sum.inr k1,d),(Sum.inr k2,.int a),(Sum.inr k3,.int b)]])
 | _=>none
section
variable {X:Cx}{pos:Pos}
theorem yct (n:Nat) {a b:Int}{j1 j2 j3 j4 j5:Nat}{p1 p2 p3 p4 p5 p6:Pos}{k1 k2 k3 x:Str}(h12:k1≠k2) (h13:k1≠k3) (h23:k2≠k3) (hN:X.N[n]? = some x:=by rfl) (hv:Vis X.env.scope x:=by first|exact Or.inl rfl|exact Or.inr (Or.inl rfl)|exact Or.inr (Or.inr rfl)) (hd:(x == ("__debug__":Str))=false:=by decide)
  (hcd:(x == ("__classdict__":Str))=false:=by decide) :
  PE3 X (.Dict [some (.Constant (.str k1) j1 p1),some (.Constant (.str k2) j2 p2),some (.Constant (.str k3) j3 p3)] [.Name x p4,.Constant (.int a) j4 p5,.Constant (.int b) j5 p6] pos) (znp k1 n k2 a k3 b) :=
 PE.imp (zzv (zmp zh3 (zjv hN hv hd hcd) (zmp zh3 zl3 (zmp zh3 zl3 zzt))) rfl rfl (by simp) (by simp)) λσ H Q hx2_=>by
  obtain ⟨ρ,l,S,v,S',sim,ro,hm,p⟩:=hx2_
  unfold znp at hm
  split at hm
  ·rename_i d e
   cases hm
   obtain ⟨w,h1,h2⟩:=ro.get n _ e
   intro q hq
   refine ⟨w,h1,zbf,[(Sum.inr k1,w),(Sum.inr k2,.int a),(Sum.inr k3,.int b)],rfl,by simp,?_⟩
   have em:zfz [] [((Sum.inr k1:Key),w),(Sum.inr k2,.int a),(Sum.inr k3,.int b)]=[((Sum.inr k1:Key),w),(Sum.inr k2,.int a),(Sum.inr k3,.int b)]:=by
    simp [zfz,zbx,h12,h13,h23]
   rw [em,zo8]
   refine p (ρ++[q]) _ _ (zg8 hq) (sim.pushG hq ⟨[w,.int a,.int b],zbf,.cons (h2.mono (zg8 hq)) (.cons (.int _) (.cons (.int _) .nil))⟩) (.ref (by rw [<-sim.len];exact za5 ρ q))
  ·cases hm
end
section
variable {X:Cx}
variable {o e:Expr}{mo m:EM}{apos cpos:Pos}
end
noncomputable def sgn (z:Str):List D:=z.cps.toList.map λc=>.str ⟨#[c]⟩
noncomputable def Its (z:Str):It:=⟨λi _=>i<z.cps.size,λi H x H'=>H' = H/\∃c,z.cps[i]? = some c/\x=.str ⟨#[c]⟩,λi _=>z.cps.size<=i⟩
theorem zr3 (z:Str):(sgn z).length=z.cps.size:=by simp [sgn]
theorem ycu {K:QFg}{ρ:List Addr}{H:Hp}{z:Str}:ze3 K ρ H (itX (sgn z)) (Its z):=by
 intro i ρ' S' H' e s
 refine ⟨λh=>?_,λx h=>?_⟩
 ·have h:(sgn z)[i]? = none:=qoi h
  have:=List.getElem?_eq_none_iff.mp h
  rw [zr3] at this
  exact this
 ·have h:(sgn z)[i]? = some x:=qoi h
  have hl:=(qme h).1
  rw [zr3] at hl
  refine ⟨hl,λy H'' ⟨e1,c,e2,e3⟩=>⟨e1,?_⟩⟩
  subst e3
  unfold sgn at h
  rw [qgm] at h
  have e4:z.cps.toList[i]? = some c:=by simpa using e2
  rw [e4] at h
  cases h
  exact .str _
section
variable {P:Program}{w:World}{K:QFg}{elts:List Expr}{z:Nat}{tp:Pos}
theorem zr4 (x:Str) (t:Tok) (T:String) (e b:Addr) (heb:e≠b) (Dr:∀A:Around,A.handled=none->Draws P w A b [b] x.cps.size (λi v=>∃c u,x.cps[i]? = some c/\v=.str ⟨#[c]⟩ u) (λi h=>h.IsStrIter b T x t i)) :
  Turn P w K (.Tuple elts z tp) (Itn (Its x)) [e,b] e (λi h=>(∃old,IsEnum h e b i old)/\(h.IsStrIter b T x t i/\i<=x.cps.size)) where
 mem:=by simp
 obj:=λi h st=>znh (T:=λh=>h.IsStrIter b T x t i/\i<=x.cps.size) (λh ⟨⟨o,q,c,d⟩,_⟩=>⟨o,q,λv z=>by rw [d] at z;cases z⟩) i h st
 keep:=λi h h1 st k=>⟨let ⟨old,q⟩:=st.1;⟨old,k e (by simp) _ q⟩,let ⟨⟨o,q,r⟩,l⟩:=st.2;⟨⟨o,k b (by simp) o q,r⟩,l⟩⟩
 item:=by
  intro X hP hw hK hc i pins s σ H E I hf st hg
  subst hP hw hK
  obtain ⟨⟨old,he⟩,hb,hle⟩:=st
  have hlt:i<x.cps.size:=hg
  refine wpAny_pyNext_enum_itemD (Dr X.A.in1 (I.ok.hd hc)) he hb hlt heb (by simp [heb]) λx1 h1 tk hP ho hs1 hT hsz hk=>?_
  obtain ⟨c,u,hc1,rfl⟩:=hP
  obtain ⟨ob,gb,_⟩:=id hb
  refine ⟨_,rfl,wpAny_letOwnedTupleGo_enum ho λh2 he2 hs2=>?_⟩
  replace hs2:Heap.SameBut e h1 h2:=hs2
  exact zni (J:=Its x) (x:=.str ⟨#[c]⟩) (T:=λh=>h.IsStrIter b T x t (i+1)/\i+1<=x.cps.size) I hf ⟨u,rfl⟩ (Heap.lt_size he) (Heap.lt_size gb) hk hT he2 hs2 ⟨let ⟨o,q,r⟩:=hs1;⟨o,(hs2.2 b heb.symm).trans q,r⟩,hlt⟩ ⟨rfl,c,hc1,rfl⟩
 done:=by
  intro X hP hw hK hc i pins s σ H E I hf st hg
  subst hP hw hK
  obtain ⟨⟨old,he⟩,hb,hle⟩:=st
  have hge:x.cps.size<=i:=hg
  have hi:i=x.cps.size:=by omega
  subst hi
  obtain ⟨f0,f1,f2,f3,f4,f5⟩:=hf b (by simp)
  exact wpAny_pyNext_enum_endD (Dr X.A.in1 (I.ok.hd hc)) he hb λh1 eb=>⟨rfl,I.turned (t':=s.toks) (λc o hb q=>eb c o hb q) f0 f1 f3 f4 f5⟩
 self:=λA i s Q E st h=>let ⟨old,q⟩:=st.1;wpAny_pyIter_enum q h
end
section
variable {X:Cx}{elts:List Expr}{z:Nat}{tp:Pos}
def ycv (ta:TA):TI:=λσ H R=>ta σ H λvs H1=>∃x,vs=[.str x]/\R (Itn (Its x)) H1
theorem ycw {a:Expr}{ta:TA}{p pos:Pos}(hg:Gl X "enumerate") (hm:X.mg "enumerate" = none) (ha:PA X [a] ta) (hs:starEach [a] X.env=[(false,eval a X.env)]:=by rfl):PI X (.Tuple elts z tp) (.Call (.Name "enumerate" p) [a] [] pos) (ycv ta):=by
 intro pins s σ H R I h
 refine Call_ (zfg I hg hm znj (PyProof.Rows.callWith_type1 (thn (ha pos pins s σ H _ I h) λus s1 ⟨vs,H1,I1,r1,q1⟩=>?_) hs rfl))
 obtain ⟨x,rfl,q⟩:=q1
 cases r1 with
 | cons r rr =>
  cases rr
  obtain ⟨t,rfl⟩:=r
  refine call_enumerate_str λh1 he hb _ hk=>?_
  cases hall:x.cps.all (· < 128)
  ·have hb':h1.IsStrIter s1.heap.objs.size "str_iterator" x t 0:=by simpa [strIterType,hall] using hb
   exact zko (T:=λi h=>h.IsStrIter s1.heap.objs.size "str_iterator" x t i/\i<=x.cps.size) I1 (zr4 x t _ _ _ (Nat.succ_ne_self _) λA hA=>Draws.strWide hA _ x t) he ⟨hb',Nat.zero_le _⟩ hk q
  ·have hb':h1.IsStrIter s1.heap.objs.size "str_ascii_iterator" x t 0:=by simpa [strIterType,hall] using hb
   exact zko (T:=λi h=>h.IsStrIter s1.heap.objs.size "str_ascii_iterator" x t i/\i<=x.cps.size) I1 (zr4 x t _ _ _ (Nat.succ_ne_self _) λA hA=>Draws.strAscii hA _ x t) he ⟨hb',Nat.zero_le _⟩ hk q
end
inductive tiL (K:QFg) (im:IM) (σ:St) (H:Hp) (R:It->Hp->Prop):Prop
 | mk (ρ:_) (l:_) (S:_) (it:_) (k:_) (S':_) (_:Sim K ρ S H) (_:RO ρ H l σ) (_:im l S=some (it,k,S')) (_:∀ρ' H' J,Ext ρ H ρ' H'->Sim K ρ' S' H'->zkp K ρ' H' it J->R J H')
def znq (X:Cx) (tgt iter:Expr) (im:IM):Prop:=PI X tgt iter (tiL X.K im)
noncomputable def zkt (m:AM):IM:=λl S=>(m l S).bind λp=>match p.1 with
 | [.tup xs]=>some (itN (itX xs),xs.length+1,p.2)
 | [.ref n]=>(lstOf p.2 n).bind λxs=>some (itN (itL n),xs.length+1,p.2)
 | [.str z]=>some (itN (itX (sgn z)),z.cps.size+1,p.2)
 | _=>none
section
variable {X:Cx}{elts:List Expr}{z:Nat}{tp:Pos}{a:Expr}{mA:AM}{g:GM}{b:SM}{body:List Stmt}{p0 pos' pos:Pos}
theorem ycx (hgl:Gl X "enumerate") (hmg:X.mg "enumerate" = none) (ha:PA3 X [a] mA) (hst:starEach [a] X.env=[(false,eval a X.env)]:=by rfl):znq X (.Tuple elts z tp) (.Call (.Name "enumerate" p0) [a] [] pos') (zkt mA) :=
 PI.imp (PI.or (PI.or (yci hgl hmg ha hst) (ycj hgl hmg ha hst)) (ycw hgl hmg ha hst)) λσ H R hx1_=>by
  obtain ⟨ρ,l,S,it,k,S',sim,ro,hm,p⟩:=hx1_
  obtain ⟨⟨xs,S2⟩,q2,q1⟩:=bnd hm
  dsimp only at q1
  split at q1
  ·rename_i ys
   cases q1
   refine .inl (.inr ⟨ρ,l,S,[.tup ys],_,sim,ro,q2,λρ1 H1 vs e1 s1 r1=>?_⟩)
   obtain ⟨v,rfl,rv⟩:=r1.one
   cases rv with
   | @tup _ c us hc' r=>exact ⟨c,rfl,⟨us,SqT.of hc'⟩,p ρ1 H1 _ e1 s1 (znk (zmx hc' r))⟩
  ·rename_i n
   obtain ⟨ys,hx,q1⟩:=bnd q1
   cases q1
   refine .inl (.inl ⟨ρ,l,S,[.ref n],_,sim,ro,q2,λρ1 H1 vs e1 s1 r1=>?_⟩)
   obtain ⟨v,rfl,rv⟩:=r1.one
   obtain ⟨c,us,hc',sq,rv'⟩:=s1.lstOf hx
   cases rv with
   | ref hn =>
    rw [hc'] at hn;cases hn
    exact ⟨c,rfl,⟨us,sq⟩,p ρ1 H1 _ e1 s1 (znk (zmy hc'))⟩
  ·rename_i y
   cases q1
   refine .inr ⟨ρ,l,S,[.str y],_,sim,ro,q2,λρ1 H1 vs e1 s1 r1=>?_⟩
   obtain ⟨v,rfl,rv⟩:=r1.one
   cases rv
   exact ⟨y,rfl,p ρ1 H1 _ e1 s1 (znk ycu)⟩
  ·cases q1
theorem zr5 {tgt iter:Expr}{im:IM}(hp:PassesOwn (model X.prog X.w) X.A X.env X.xe) (hc:X.calm=true) (hi:znq X tgt iter im) (hg:PG3 X tgt g) (hb:zct X body b) (hs:∀x,foldedSetIterable iter X.env x=pure x:=by intro _;rfl) :
  PS3 X (.For tgt iter body [] pos) (zix im g b) :=
 PS.imp (zl9 hp hc hi hg hb hs) λE σ H hx2_=>by
  obtain ⟨ρ,l,S,f,l',S',sim,ro,hm,p⟩:=hx2_
  obtain ⟨⟨it,k,S1⟩,q1,hm⟩:=bnd hm
  exact ⟨ρ,l,S,it,k,S1,sim,ro,q1,λρ1 H1 J e1 s1 ok=>yck ok s1 (ro.mono e1) hm λρ' H' σ' e'=>p ρ' H' σ' (e1.trans e')⟩
end
section
variable {X:Cx}{a b:Expr}{ma mb:EM}{pos:Pos}{k:Nat}
end
def ycy:V->Option Int->Option Int->Hp->VK->Prop:=λx lo hi H Q=>∃z,x=.str z/\z.length<=sizeLine/\Q (.str (Txt.slice z lo hi)) H
theorem zr6 {v:Value}{o:Option Int}(h:IsPart v o):∃l:Option (Int × Tok),v=partValue l/\o=l.map (·.1):=by
 cases h with
 | none=>exact ⟨none,rfl,rfl⟩
 | int i t=>exact ⟨some (i,t),rfl,rfl⟩
theorem ycz {X:Cx}:SlR X ycy:=by
 intro pins s σ H x v vl vu lo hi sl Q I rx hs pl pu h
 obtain ⟨z,rfl,hz,q⟩:=h
 obtain ⟨t,rfl⟩:=rx
 obtain ⟨l,rfl,rfl⟩:=zr6 pl
 obtain ⟨u,rfl,rfl⟩:=zr6 pu
 refine ⟨"str",_,F.slot_str_getitem.lookup,typeIs_str _ _ _,?_⟩
 refine wpAny_getItem_str_slice (l:=l) (u:=u) (st:=none) hs rfl ?_
 refine post_val_or_str ⟨Nat.le_trans (Txt.slice_le z _ _) hz,λt' k=>?_⟩
 exact ⟨.str _,H,I.tok _,⟨t',rfl⟩,q⟩
noncomputable def zgj (m:EM) (lo hi:OM):EM:=λl S=>(m l S).bind λp=>(lo l p.2).bind λq=>(hi l q.2).bind λr=>match p.1 with
 | .tup xs=>some (.tup (cutD xs q.1 r.1),r.2)
 | .ref n=>(lstOf r.2 n).bind λxs=>some (.ref r.2.length,r.2++[.lst (cutD xs q.1 r.1)])
 | .str z=>if z.length<=sizeLine then some (.str (Txt.slice z q.1 r.1),r.2) else none
 | _=>none
section
variable {X:Cx}{a:Expr}{ma:EM}{lo hi:Option Expr}{ml mh:OM}{p2 pos:Pos}
theorem zku (he:PE3 X a ma) (hl:PO3 X lo ml) (hu:PO3 X hi mh):PE3 X (.Subscript a (.Slice lo hi none p2) pos) (zgj ma ml mh):=PE.imp (zyy (((sl_tup.or zz7).or zy5).or ycz) he hl hu) λσ H Q hx1_=>by
 obtain ⟨ρ,l,S,v,S',sim,ro,hm,p⟩:=hx1_
 obtain ⟨⟨x,S1⟩,h1,hm⟩:=bnd hm
 obtain ⟨⟨y,S2⟩,h2,hm⟩:=bnd hm
 obtain ⟨⟨z,S3⟩,h3,hm⟩:=bnd hm
 refine ⟨ρ,l,S,x,S1,sim,ro,h1,λρ1 H1 x' e1 s1 r1=>⟨ρ1,l,S1,y,S2,s1,ro.mono e1,h2,λρ2 H2 e2 s2=>⟨ρ2,l,S2,z,S3,s2,ro.mono (e1.trans e2),h3,λρ3 H3 e3 s3=>?_⟩⟩⟩
 have e13:=e1.trans (e2.trans e3)
 cases r1 with
 | @tup xs a vs ha r =>
  cases hm
  have ha3:=(e2.trans e3).tup _ _ ha
  have r3:=r.mono (e2.trans e3)
  have hlen:=r.length
  by_cases hw:HT.sIx vs.length 0 y=0/\HT.sIx vs.length vs.length z=vs.length
  ·refine .inl (.inl (.inr ⟨a,vs,rfl,SqT.of ha3,hw,?_⟩))
   have:=zz8 xs y z (by rw [hlen];exact hw)
   dsimp only at p
   rw [this] at p
   exact p ρ3 H3 _ e13 s3 (.tup ha3 r3)
  ·refine .inl (.inl (.inl ⟨a,vs,rfl,SqT.of ha3,hw,?_⟩))
   have rc:RDs ρ3 H3 (cutD xs y z) (zej vs y z):=by
    unfold cutD zej
    rw [hlen]
    exact (r3.drop _).take _
   exact zie s3 rc (Pv.ext p e13)
 | @ref j b hj =>
  obtain ⟨xs,hx,hm⟩:=bnd (show (lstOf S3 j).bind (λxs=>some (D.ref S3.length,S3++[.lst (cutD xs y z)]))=some (v,S') from hm)
  cases hm
  obtain ⟨c,us,hc,sq,rv⟩:=s3.lstOf hx
  have:=(e2.trans e3).pre _ _ hj
  rw [this] at hc;cases hc
  have rc:RDs ρ3 H3 (cutD xs y z) (zej us y z):=by
   unfold cutD zej
   rw [rv.length]
   exact (rv.drop _).take _
  exact .inl (.inr ⟨b,us,rfl,sq,zf4 s3 rc (Pv.ext p e13)⟩)
 | str t =>
  obtain ⟨hz,e⟩:=za8 (show (if t.length<=sizeLine then some (D.str (Txt.slice t y z),S3) else none)=some (v,S') from hm)
  cases e
  exact .inr ⟨t,rfl,hz,p ρ3 H3 _ e13 s3 (.str _)⟩
 | _=>cases hm
end
noncomputable def znr:D->D->Sto->Option (D × Sto)
 | .str i,.str j,S=>if i.length+j.length<=sizeLine then some (.str (i++j),S) else none
 | _,_,_=>none
noncomputable def zbe:D->D->Sto->Option (D × Sto):=λx y S=>match znr x y S with|some v=>some v|none=>zm1 x y S
theorem op3_plusS {K:QFg}:Op3 K znr (λx y H Q=>∃i j,x=.str i/\y=.str j/\i.length+j.length<=sizeLine/\Q (.str (i++j)) H):=by
 intro ρ S H x y x' y' v S' Q sim rx ry h p
 unfold znr at h
 split at h
 ·obtain ⟨hz,e⟩:=za8 h
  cases e;cases rx;cases ry
  exact ⟨_,_,rfl,rfl,hz,p ρ H _ (Ext.refl ..) sim (.str _)⟩
 ·cases h
theorem zcd {X:Cx}{a b:Expr}{ma mb:EM}{pos:Pos}(ha:PE3 X a ma) (hb:PE3 X b mb):PE3 X (.BinOp a .Add b pos) (eOp zbe ma mb):=zey (op_add_str.or (op_add.or ((op_catT.or zz9).or zzf))) (op3_plusS.or yax) ha hb
noncomputable def zi0:FM
 | [.str z],S=>(intText? z).bind λn=>if z.length<=640 then some (.int n,S) else none
 | xs,S=>zmu xs S
section
variable {X:Cx}{a:Expr}{es:List Expr}{mA:AM}{pos p:Pos}{K:QFg}
theorem call_int_text:CallR X (.type "int") (λxs H Q=>∃z n,xs=[.str z]/\intText? z=some n/\z.length<=640/\Q (.int n) H):=by
 intro pins s σ H xs us Q I r h
 obtain ⟨z,n,rfl,h1,h2,q⟩:=h
 obtain ⟨u,rfl,ru⟩:=zcs r
 obtain ⟨t,rfl⟩:=ru
 exact PySem.W.KIN.call_text h1 h2 ⟨.int n,H,I.tok _,⟨_,rfl⟩,q⟩
theorem yc0:Fn3 K zi0 (λxs H Q=>(∃z n,xs=[.str z]/\intText? z=some n/\z.length<=640/\Q (.int n) H)\/((∃i,xs=[.int i]/\Q (.int i) H)\/∃k,xs=[.bl k]/\Q (.int (if k then 1 else 0)) H)):=by
 intro ρ S H xs vs v S' Q sim r h p
 unfold zi0 at h
 split at h
 ·obtain ⟨n,h1,h⟩:=bnd h
  obtain ⟨hz,e⟩:=za8 h
  cases e
  obtain ⟨w,rfl,rw'⟩:=r.one
  cases rw'
  exact .inl ⟨_,_,rfl,h1,hz,p ρ H _ (Ext.refl ..) sim (.int _)⟩
 ·exact .inr (yad ρ S H _ vs v S' Q sim r h p)
theorem yc1 (hg:Gl X "int") (hm:X.mg "int" = none) (ha:PA3 X (a :: es) mA) (he:starEach (a :: es) X.env=(false,eval a X.env) :: starEach es X.env:=by rfl) (hpl:(backTo pos (starEach es X.env)).any (·.1)=false:=by rfl):PE3 X (.Call (.Name "int" p) (a :: es) [] pos) (zaf zi0 mA) :=
 zif (call_int_text.or zyd) yc0 hg hm zm2 ha (by decide) (by decide) he hpl
end
section
variable {X:Cx}
variable {o e f:Expr}{mo m m':EM}{apos cpos:Pos}
end
noncomputable def zde:List D->Option (List Int)
 | []=>some []
 | .int i :: r=>(zde r).bind λns=>some (i :: ns)
 | _=>none
theorem zkv {ρ:List Addr}{H:Hp}:∀{xs:List D}{ns:List Int}{vs:List V},zde xs=some ns->RDs ρ H xs vs->vs=ns.map V.int
 | [],ts,vs,h,r=>by cases h;cases r;rfl
 | x :: xs,ts,vs,h,r=>by
  cases r with
  | cons r1 r2 =>
   cases r1 with
   | int z =>
    obtain ⟨ts',h1,h⟩:=bnd (show (zde xs).bind (λts=>some (z :: ts))=some ts from h)
    cases h
    rw [zkv h1 r2];rfl
   | _=>cases h
section
variable {X:Cx}
variable {a:Expr}{es:List Expr}{mA:AM}{p pos:Pos}
end
section
variable {prog:Program}{w:World}{A:Around}{E:Value->Shared->Prop}{s:Shared}
end
section
variable {P:Program}{w:World}{K:QFg}{tg:Expr}
end
section
variable {X:Cx}{tg:Expr}
end
section
variable {X:Cx}{tgt:Expr}{a:Expr}{mA:AM}{p0 pos':Pos}
end
section
variable {X:Cx}
theorem yc2:bootBuiltins "sorted" = some (.builtin "sorted"):=by decide +kernel
variable {a:Expr}{es:List Expr}{mA:AM}{pos p:Pos}
end
section
variable {X:Cx}{a b:Expr}{ma mb:EM}{pos:Pos}
end
section
variable {prog:Program}{w:World}{A:Around}{R:Result->Shared->Prop}{s:Shared}
end
section
variable {K:QFg}{ρ:List Addr}{H:Hp}{S:Sto}
end
theorem yc3 {ρ:List Addr}{H:Hp}{kvs:List (Key × D)}{vs:List V}(r:RDs ρ H (kvs.map (·.2)) vs):((kvs.map (·.1)).zip vs).length=kvs.length:=by
 rw [List.length_zip,qlm];have:=r.length;rw [qlm] at this;omega
section
variable {X:Cx}{tg:Expr}
end
section
variable {X:Cx}{tgt iter:Expr}{m:EM}
end
noncomputable def dctR (S:Sto) (n:Nat):Option (List (Key × D)):=match S[n]? with
 | some (.dct kvs)=>some kvs
 | some (.fdct kvs)=>some kvs
 | _=>none
theorem Sim.dctR {K:QFg}{ρ:List Addr}{H:Hp}{S:Sto}{n:Nat}{kvs:List (Key × D)}(s:Sim K ρ S H) (h:dctR S n=some kvs):∃a vs,ρ[n]? = some a/\Rd H a (.dK ((kvs.map (·.1)).zip vs))/\RDs ρ H (kvs.map (·.2)) vs:=by
 unfold L3.dctR at h
 split at h
 ·rename_i e
  cases h
  obtain ⟨a,vs,ha,hH,r⟩:=s.dct e
  exact ⟨a,vs,ha,.inl hH,r⟩
 ·rename_i e
  cases h
  have hl:n<ρ.length:=by rw [s.len];exact (qme e).1
  obtain ⟨o,vs,e1,r⟩:=s.at' n _ _ (qge hl) e
  exact ⟨_,vs,qge hl,.inr ⟨o,e1⟩,r⟩
 ·cases h
section
variable {X:Cx}{a b:Expr}{ma mb:EM}{pos:Pos}{k:Nat}
end
open PySem.W
def Fly (h:Heap) (e C T:Addr):Prop:=∃oe vs oT ts a0,h.get? e=some oe/\oe.cls=.ref C/\oe.data=.fields vs/\vs[0]? = some a0/\vs[1]? = some (.ref T)/\T≠e/\h.get? T=some oT/\oT.data=.fields ts/\ts[3]? = some .none
structure Tr (fs:List Addr) (e T:Addr) (h h':Heap):Prop where
 keep:∀b o,b ∉ fs->b≠e->b≠T->h.get? b=some o->h'.get? b=some o
 slot:∀b o,b∈fs->h.get? b=some o->(∀vs,o.data≠.fields vs)->∃sl,h'.get? b=some { o with slots:=sl }
section
variable {M:Model}{A:Around}{E:Value->Shared->Prop}{s:Shared}{base:Heap}{env:Env}{outer:List Env}{L e C T:Addr}{Q:Unit->Shared->Prop}
theorem zns {l:List Env}:∀env∈l,∀a,env.frame=some a->a∈frs l:=λenv he a ha=>List.mem_filterMap.mpr ⟨env,he,ha⟩
theorem zr7 (hfr:A.frames=some (env :: outer)) (hl:s.heap.FunFrames base (env :: outer)) (hf:env.frame=some L) (fl:Fly s.heap e C T)
  (hQ:∀h' T',Tr (frs (env :: outer)) e T s.heap h'->Fly h' e C T'->(T' = T\/s.heap.get? T' = none)->Q () { s with heap:=h' }):wpAny M A (leaving env (.ref e)) Q E s:=by
 obtain ⟨oe,vs,oT,ts,a0,he,hc,hd,h0,h1,hTe,hT,hdT,h3⟩:=fl
 refine wpAny_leaving_nextW (base:=hideAll s.heap (e :: T :: frs (env :: outer))) (cls:=.ref C) (a0:=a0) hfr (funFrames_hide hl λv hv a ha=>List.mem_cons_of_mem _ (List.mem_cons_of_mem _ (zns v hv a ha))) hf ⟨oe,vs,T,oT,ts,he,⟨hc,h0⟩,hd,h1,hideAll_none _ (by simp),hTe,hT,hdT,h3⟩ (λb o q=>of_hideAll _ q) (hideAll_none _ (by simp)) λh' hL=>?_
 obtain ⟨k1,k2,⟨oe',vs',T',oT',ts',e1,⟨c1,z1⟩,d1,f1,n1,ne1,g1,d1',t1⟩,k4⟩:=hL
 refine hQ h' T' ⟨λb o hb h2 h3 q=>k1 b o (hideAll_get _ q (by simp only [List.mem_cons,not_or];exact ⟨h2,h3,hb⟩)),λb o _ q hn=>k4 b o q hn⟩ ⟨oe',vs',oT',ts',a0,e1,c1,d1,z1,f1,ne1,g1,d1',t1⟩ ?_
 cases q:s.heap.get? T' with
 | none=>exact .inr rfl
 | some o =>
  refine .inl ?_
  by_cases hm:T'∈e :: T :: frs (env :: outer)
  ·rcases List.mem_cons.mp hm with z|z
   ·exact absurd z ne1
   ·rcases List.mem_cons.mp z with z|z
    ·exact z
    ·obtain ⟨_,o2,ho2,hnf⟩:=hl.mem z
     rw [q] at ho2;cases ho2
     obtain ⟨sl,hs⟩:=k4 T' o q hnf
     rw [g1] at hs;cases hs
     exact absurd d1' (hnf ts')
  ·rw [hideAll_get _ q hm] at n1;cases n1
def New (h:Heap) (e C:Addr):Prop:=∃oe vs a0,h.get? e=some oe/\oe.cls=.ref C/\oe.data=.fields vs/\vs[0]? = some a0/\vs[1]? = some .none
theorem yc4 (hfr:A.frames=some (env :: outer)) (hl:s.heap.FunFrames base (env :: outer)) (hf:env.frame=some L) (fl:New s.heap e C)
  (hQ:∀h' T',Tr (frs (env :: outer)) e e s.heap h'->Fly h' e C T'->s.heap.get? T' = none->Q () { s with heap:=h' }):wpAny M A (leaving env (.ref e)) Q E s:=by
 obtain ⟨oe,vs,a0,he,hc,hd,h0,h1⟩:=fl
 refine wpAny_leaving_firstW (base:=hideAll s.heap (e :: frs (env :: outer))) (a0:=a0) hfr (funFrames_hide hl λv hv a ha=>List.mem_cons_of_mem _ (zns v hv a ha)) hf he (λb o q=>of_hideAll _ q) (hideAll_none _ (by simp)) hd h1 h0 λh' hL=>?_
 obtain ⟨k1,k2,⟨oe',vs',T',oT',ts',e1,⟨c1,z1⟩,d1,f1,n1,ne1,g1,d1',t1⟩,k4⟩:=hL
 refine hQ h' T' ⟨λb o hb h2 h3 q=>k1 b o (hideAll_get _ q (by simp only [List.mem_cons,not_or];exact ⟨h2,hb⟩)),λb o _ q hn=>k4 b o q hn⟩ ⟨oe',vs',oT',ts',a0,e1,c1.trans hc,d1,z1,f1,ne1,g1,d1',t1⟩ ?_
 cases q:s.heap.get? T' with
 | none=>rfl
 | some o =>
  by_cases hm:T'∈e :: frs (env :: outer)
  ·rcases List.mem_cons.mp hm with z|z
   ·exact absurd z ne1
   ·obtain ⟨_,o2,ho2,hnf⟩:=hl.mem z
    rw [q] at ho2;cases ho2
    obtain ⟨sl,hs⟩:=k4 T' o q hnf
    rw [g1] at hs;cases hs
    exact absurd d1' (hnf ts')
  ·rw [hideAll_get _ q hm] at n1;cases n1
end
theorem ObjOk.there {P:Program}{w:World}{H:Hp}{h:Heap}{a:Addr}{o:HO}(x:ObjOk P w H h a o):∃q,h.get? a=some q:=by
 cases o with
 | lst xs=>obtain ⟨_,_,_,_,e⟩:=x;exact ⟨_,e⟩
 | tup xs=>obtain ⟨_,_,_,ob,e,_⟩:=x;exact ⟨_,e⟩
 | dK kvs=>obtain ⟨_,_,_,_,o,_,_,e,_⟩:=x;exact ⟨_,e⟩
 | dT kvs=>obtain ⟨_,_,_,_,o,_,_,e,_⟩:=x;exact ⟨_,e⟩
 | set S n=>obtain ⟨o,_,_,_,e,_⟩:=x;exact ⟨_,e⟩
 | ins C dx fs=>obtain ⟨_,_,_,e,_⟩:=x;exact ⟨_,e⟩
 | own y=>obtain ⟨_,e⟩:=x;exact ⟨_,e⟩
 | xd fs=>obtain ⟨_,⟨_,_,_,e,_⟩,_⟩:=x;exact ⟨_,e⟩
 | rng lo hi=>obtain ⟨_,_,_,e⟩:=x;exact ⟨_,e⟩
 | frz ob u=>obtain ⟨e,_⟩:=x;exact ⟨_,e⟩
 | tbl ps=>exact ⟨_,x⟩
 | met f y=>exact ⟨_,x⟩
 | ext φ=>obtain ⟨_,e,_⟩:=x;exact e
def CX1 (P:Program) (w:World):CXT:=λouter H s E x s'=>∃a C T H',x=.ref a/\s'.os=s.os/\AllBare s'.gens/\Un (frs outer) [] H H' s.heap s'.heap/\HOk P w H' s'.heap /\
 s.heap.get? a=none/\s.heap.get? T=none/\Fly s'.heap a C T/\H' a=none/\H' T=none/\E (.ref C) none H'
section
variable {P:Program}{w:World}{K:QFg}{mg:Str->Option Value}{base:Heap}{N:List Str}{qual:Str}{scope:Scope}{f:Addr}{cd:Value}{A:Around}{outer:List Env}{s:Shared}{H:Hp}{E:XK}
theorem zr8 {pins:List (Addr × Obj)}{σ:St}{H1:Hp}{s1:Shared}{a C T T':Addr}{h':Heap}(I:Inv (zbn (CX1 P w) P w K mg base N qual scope f cd A outer s H E) pins σ H1 s1)
  (na:s.heap.get? a=none) (nT:s.heap.get? T=none) (ha:H1 a=none) (hT:H1 T=none) (hE:E (.ref C) none H1)
  (tr:Tr (frs (envOfC qual scope s.heap.objs.size f cd :: outer)) a T s1.heap h') (fl:Fly h' a C T') (hT':T' = T\/s1.heap.get? T' = none) :
  CX1 P w outer H s E (.ref a) { s1 with heap:=h' }:=by
 have hsub:∀b,b∈frs (envOfC qual scope s.heap.objs.size f cd :: outer)->b=s.heap.objs.size\/b∈frs outer:=λb hb=>by
  rcases List.mem_cons.mp (I.stkSub b hb) with z|z
  ·exact .inl z
  ·exact .inr z
 have hne:∀b o,s.heap.get? b=some o->b≠a/\b≠T/\b≠s.heap.objs.size:=λb o q=>⟨λz=>(by rw [z,na] at q;cases q),λz=>(by rw [z,nT] at q;cases q),Nat.ne_of_lt (Heap.lt_size q)⟩
 have nT':s.heap.get? T' = none:=by
  rcases hT' with rfl|q
  ·exact nT
  ·cases z:s.heap.get? T' with
   | none=>rfl
   | some o=>obtain ⟨o',e⟩:=I.base.there T' o z (by simp [zbn]);rw [q] at e;cases e
 have hT'':H1 T' = none:=by
  rcases hT' with rfl|q
  ·exact hT
  ·cases z:H1 T' with
   | none=>rfl
   | some u=>obtain ⟨o',e⟩:=ObjOk.there (I.hok T' u z);rw [q] at e;cases e
 refine ⟨a,C,T',H1,rfl,I.os,I.bare,⟨λb o q n hb hx=>?_,λb o q n hb hx=>?_,λb o q n hx=>?_,λb o q hx=>?_,I.base.tups,I.base.frzs,I.base.tbls⟩,λb u e=>?_,na,nT',fl,ha,hT'',hE⟩
 ·obtain ⟨h1,h2,h3⟩:=hne b o q
  exact tr.keep b o (λz=>(hsub b z).elim h3 hb) h1 h2 (I.base.keep b o q n hb (by simp [zbn]))
 ·obtain ⟨sl,e⟩:=I.base.slot b o q n hb (by simp [zbn])
  have hb':b∈frs (envOfC qual scope s.heap.objs.size f cd :: outer):=by
   unfold frs at hb ⊢
   rw [List.filterMap_cons]
   split
   ·exact hb
   ·exact List.mem_cons_of_mem _ hb
  obtain ⟨_,o2,ho2,hnf⟩:=I.funs.mem hb
  rw [e] at ho2;cases ho2
  obtain ⟨sl',e'⟩:=tr.slot b _ hb' e hnf
  exact ⟨sl',e'⟩
 ·exact I.base.free b o q n (by simp [zbn])
 ·obtain ⟨h1,h2,h3⟩:=hne b o q
  obtain ⟨o',e⟩:=I.base.there b o q (by simp [zbn])
  by_cases hb:b∈frs (envOfC qual scope s.heap.objs.size f cd :: outer)
  ·obtain ⟨_,o2,ho2,hnf⟩:=I.stack.mem hb
   rw [e] at ho2;cases ho2
   obtain ⟨sl,e'⟩:=tr.slot b _ hb e hnf
   exact ⟨_,e'⟩
  ·exact ⟨o',tr.keep b o' hb h1 h2 e⟩
 ·refine (I.hok b u e).stay (λc v hc q=>?_) (λ_ q=>q) λ_ _ q=>q
  have hcn:H1 c≠none:=by
   rcases hc with z|z
   ·rw [z,e];intro y;cases y
   ·rw [z];intro y;cases y
  exact tr.keep c v (λz=>hcn (I.stkFree c z)) (λz=>hcn (by rw [z];exact ha)) (λz=>hcn (by rw [z];exact hT)) q
theorem yc5 {pins:List (Addr × Obj)}{σ:St}{H1:Hp}{s1:Shared}{a C T:Addr}(I:Inv (zbn (CX1 P w) P w K mg base N qual scope f cd A outer s H E) pins σ H1 s1)
  (na:s.heap.get? a=none) (nT:s.heap.get? T=none) (ha:H1 a=none) (hT:H1 T=none) (fl:Fly s1.heap a C T) (hE:E (.ref C) none H1) :
  (zbn (CX1 P w) P w K mg base N qual scope f cd A outer s H E).xe (.ref a) s1 :=
 zr7 (L:=s.heap.objs.size) I.ok.frames I.stack rfl fl λh' T' tr fl' hT'=>zr8 I na nT ha hT hE tr fl' hT'
theorem yc6 {pins:List (Addr × Obj)}{σ:St}{H1:Hp}{s1:Shared}{a C:Addr}(I:Inv (zbn (CX1 P w) P w K mg base N qual scope f cd A outer s H E) pins σ H1 s1)
  (na:s.heap.get? a=none) (ha:H1 a=none) (fl:New s1.heap a C) (hE:E (.ref C) none H1) :
  (zbn (CX1 P w) P w K mg base N qual scope f cd A outer s H E).xe (.ref a) s1 :=
 yc4 (L:=s.heap.objs.size) I.ok.frames I.stack rfl fl λh' T' tr fl' hT'=>zr8 I na na ha ha hE tr fl' (.inr hT')
theorem zkw:zh7 (CX1 P w) (zbn (CX1 P w) P w K mg base N qual scope f cd A outer s H E) E:=by
 rintro pins σ H1 s1 e s2 I ⟨a,C,T,H',rfl,ho,hg,un,hok,na,nT,fl,ha,hT,hE⟩
 have I2:=I.call' (s':=s2) (ch:=[]) ho un hok hg (λb hb=>by cases hb)
 have up:∀b,s1.heap.get? b=none->s.heap.get? b=none:=λb q=>by
  cases z:s.heap.get? b with
  | none=>rfl
  | some o=>obtain ⟨o',e⟩:=I.base.there b o z (by simp [zbn]);rw [q] at e;cases e
 exact yc5 I2 (up a na) (up T nT) ha hT fl hE
end
abbrev ZM:=Lo->Sto->Option (Str × Sto)
abbrev ZF:=List D->Sto->Option (Str × Sto)
def Rz (K:QFg) (E:XK) (CA:Str->Addr) (r:ZM):L2.St->Hp->Prop:=λσ H=>∃ρ l S C S',Sim K ρ S H/\RO ρ H l σ/\r l S=some (C,S')/\∀ρ' H',Ext ρ H ρ' H'->Sim K ρ' S' H'->E (.ref (CA C)) none H'
def PEz (X:Cx) (E:XK) (CA:Str->Addr) (e:Expr) (r:ZM):Prop:=PE X e (λσ H _=>Rz X.K E CA r σ H)
def PAz (X:Cx) (E:XK) (CA:Str->Addr) (es:List Expr) (r:ZM):Prop:=PA X es (λσ H _=>Rz X.K E CA r σ H)
def PSz (X:Cx) (E:XK) (CA:Str->Addr) (st:Stmt) (r:ZM):Prop:=PS X st (λ_ σ H=>Rz X.K E CA r σ H)
def zd8 (X:Cx) (E:XK) (CA:Str->Addr) (st:List Stmt) (r:ZM):Prop:=PSs X st (λ_ σ H=>Rz X.K E CA r σ H)
def spZ (K:QFg) (CA:Str->Addr) (n:Nat) (rx:ZF):Sp:=λvs H _ E=>vs.length=n/\∃ρ ds S C S',Sim K ρ S H/\RDs ρ H ds vs/\rx ds S=some (C,S')/\∀ρ' H',Ext ρ H ρ' H'->Sim K ρ' S' H'->E (.ref (CA C)) none H'
noncomputable def zkx:ZM:=λ_ _=>none
noncomputable def zOr (r q:ZM):ZM:=λl S=>match r l S with
 | some x=>some x
 | none=>q l S
noncomputable def zi1 (m:SM) (r:ZM):ZM:=λl S=>(m l S).bind λq=>match q.1 with
 | .nx=>r q.2.1 q.2.2
 | _=>none
noncomputable def zIf (t:TM) (r q:ZM):ZM:=λl S=>(t l S).bind λp=>if p.1=true then r l p.2 else q l p.2
noncomputable def zgk (m:EM) (r:ZM):ZM:=λl S=>(m l S).bind λp=>r l p.2
noncomputable def zd9 (rx:ZF) (mA:AM):ZM:=λl S=>(mA l S).bind λp=>rx p.1 p.2
section
variable {X:Cx}{E:XK}{CA:Str->Addr}{e:Expr}{es:List Expr}{st:Stmt}{rest:List Stmt}{r q:ZM}{m:EM}{b:SM}{pos:Pos}
theorem Rz.of_or {K:QFg}{σ:L2.St}{H:Hp}(h:Rz K E CA (zOr r q) σ H):Rz K E CA r σ H\/Rz K E CA q σ H:=by
 obtain ⟨ρ,l,S,C,S',sim,ro,hm,p⟩:=h
 unfold zOr at hm
 cases e:r l S with
 | some x=>rw [e] at hm;cases hm;exact .inl ⟨ρ,l,S,C,S',sim,ro,e,p⟩
 | none=>rw [e] at hm;exact .inr ⟨ρ,l,S,C,S',sim,ro,hm,p⟩
theorem Rz.none {K:QFg}{σ:L2.St}{H:Hp}(h:Rz K E CA zkx σ H):False:=by
 obtain ⟨ρ,l,S,C,S',sim,ro,hm,p⟩:=h;cases hm
theorem zr9:zd8 X E CA rest zkx:=λ_ _ _ _ _ _ h=>h.none.elim
theorem yc7 (h1:zd8 X E CA rest r) (h2:zd8 X E CA rest q):zd8 X E CA rest (zOr r q):=λpins s σ H D I h=>h.of_or.elim (h1 pins s σ H D I) (h2 pins s σ H D I)
theorem paF:PA X es (λ_ _ _=>False):=λ_ _ _ _ _ _ _ h=>h.elim
theorem znt:PSs X rest (λ_ _ _=>False):=λ_ _ _ _ _ _ h=>h.elim
theorem pgF {tg:Expr}:PG X tg (λ_ _ _ _=>False):=λ_ _ _ _ _ _ _ _ _ h=>h.elim
theorem yc8 (h:PEz X E CA e r) (hs:starEach (e :: es) X.env=(false,eval e X.env) :: starEach es X.env:=by rfl):PAz X E CA (e :: es) r :=
 λpos pins s σ H Q I q=>zcz (t:=λ_ _ _=>False) h paF hs pos pins s σ H Q I q
theorem zsa (h:PE3 X e m) (h2:PAz X E CA es r) (hs:starEach (e :: es) X.env=(false,eval e X.env) :: starEach es X.env:=by rfl):PAz X E CA (e :: es) (zgk m r) :=
 λpos pins s σ H Q I ⟨ρ,l,S,C,S',sim,ro,hm,p⟩=>zcz h h2 hs pos pins s σ H Q I (by
  obtain ⟨⟨x,S1⟩,q1,hm⟩:=bnd hm
  exact ⟨ρ,l,S,x,S1,sim,ro,q1,λρ1 H1 x' e1 s1 r1=>⟨ρ1,l,S1,C,S',s1,ro.mono e1,hm,λρ2 H2 e2 s2=>p ρ2 H2 (e1.trans e2) s2⟩⟩)
theorem yc9 {tg:Expr}(h:PEz X E CA e r) (hs:swapsWithSole [tg] e pos.line X.env=pure false:=by rfl) (hw:swappedStores [tg] e X.env=pure none:=by rfl)
  (h1:(assignEach [tg] X.env).map (·.2)=[assign tg X.env]:=by rfl):PSz X E CA (.Assign [tg] e pos) r:=λpins s σ H D I q=>zpf (g:=λ_ _ _ _=>False) h pgF hs hw h1 pins s σ H D I q
theorem yda (h:PEz X E CA e r):PSz X E CA (.Return (some e) pos) r:=λpins s σ H D I q=>zpe h pins s σ H D I q
theorem ydb (h:PEz X E CA e r) (hs:swapsWith e none pos.line X.env=pure false:=by rfl):PSz X E CA (.Expr e pos) r:=λpins s σ H D I q=>zpd h hs pins s σ H D I q
theorem zgl (h:PSz X E CA st r):zd8 X E CA (st :: rest) r:=λpins s σ H D I q=>zl4 (u:=λ_ _ _=>False) h znt pins s σ H D I q
theorem zsb (h:PS3 X st b) (h2:zd8 X E CA rest r):zd8 X E CA (st :: rest) (zi1 b r):=λpins s σ H D I ⟨ρ,l,S,C,S',sim,ro,hm,p⟩=>zl4 h h2 pins s σ H D I (by
 obtain ⟨⟨g,l1,S1⟩,q1,hm⟩:=bnd hm
 refine ⟨ρ,l,S,g,l1,S1,sim,ro,q1,λρ1 H1 σ1 e1 s1 r1=>?_⟩
 cases g with
 | nx=>exact ⟨ρ1,l1,S1,C,S',s1,r1,hm,λρ2 H2 e2 s2=>p ρ2 H2 (e1.trans e2) s2⟩
 | _=>cases hm)
theorem zsc {c:Expr}{a d:List Stmt}{mc:TM}(hc:PT3 X c mc) (ha:zd8 X E CA a r) (hb:zd8 X E CA d q):PSz X E CA (.If c a d pos) (zIf mc r q):=λpins s σ H D I ⟨ρ,l,S,C,S',sim,ro,hm,p⟩=>zl5 hc ha hb pins s σ H D I (by
 obtain ⟨⟨x,S1⟩,q1,hm⟩:=bnd hm
 refine ⟨ρ,l,S,x,S1,sim,ro,q1,λρ1 H1 e1 s1=>?_⟩
 cases x with
 | true=>exact zfy ⟨ρ1,l,S1,C,S',s1,ro.mono e1,hm,λρ2 H2 e2 s2=>p ρ2 H2 (e1.trans e2) s2⟩
 | false=>exact zfx ⟨ρ1,l,S1,C,S',s1,ro.mono e1,hm,λρ2 H2 e2 s2=>p ρ2 H2 (e1.trans e2) s2⟩)
end
def zb2 (P:Program) (w:World) (K:QFg) (mg:Str->Option Value) (base:Heap) (CA:Str->Addr) (x:Str) (k n:Nat) (rx:ZF):Prop :=
 ∃(f:Addr) (fd:FuncData) (ps:List Str),FnOk P w K mg base (CX1 P w) k f fd ps (spZ K CA n rx)/\mg x=some (.ref f)/\PySem.W.keepIn K (.ref f)=true/\Binds K fd ps []
section
variable {X:Cx}{E:XK}{CA:Str->Addr}{a:Expr}{es:List Expr}{mA:AM}{pos p:Pos}{x:Str}{k j n:Nat}{rx:ZF}
theorem zky (F:zb2 X.prog X.w X.K X.mg X.base CA x k n rx) (hx:zh7 (CX1 X.prog X.w) X E) (hr:Room j X.A) (hkj:k<=j) (hg:Gl X x)
  (ha:PA3 X (a :: es) mA) (hl:∀l S v S',mA l S=some (v,S')->v.length=n) (hdb:(x == ("__debug__":Str))=false:=by decide) (he:starEach (a :: es) X.env=(false,eval a X.env) :: starEach es X.env:=by rfl) (hpl:(backTo pos (starEach es X.env)).any (·.1)=false:=by rfl) :
  PEz X E CA (.Call (.Name x p) (a :: es) [] pos) (zd9 rx mA):=by
 obtain ⟨f,fd,ps,F,hm,hk,hb⟩:=F
 refine λpins s σ H Q I ⟨ρ,l,S,C,S',sim,ro,hz,p⟩=>zmd F (hr.mono hkj) hg hm hk hb .nil hx ha hdb he hpl pins s σ H Q I ?_
 obtain ⟨⟨ds,S1⟩,q1,hz⟩:=bnd hz
 refine ⟨ρ,l,S,ds,S1,sim,ro,q1,λρ1 H1 vs e1 s1 r1=>?_⟩
 show spZ X.K CA n rx (vs++[]) H1 Q E
 rw [List.append_nil]
 exact ⟨by rw [<-r1.length];exact hl _ _ _ _ q1,ρ1,ds,S1,C,S',s1,r1,hz,λρ2 H2 e2 s2=>p ρ2 H2 (e1.trans e2) s2⟩
end
noncomputable abbrev zcr:List Value:=[.type "ValueError",.type "Exception",.type "BaseException",.type "object"]
noncomputable def zea (K:QFg) (C:Addr):List Value:=match K.lookup C with
 | some ⟨_,_,.cls cd,_⟩=>cd.mro.tail
 | _=>[]
theorem zkz {K:QFg}{h:Heap}{C:Addr}{bmB:List Value}{newId:String}(X:K.In h) (q:excIn K C bmB newId=true) :
  ∃N nm qn bs hdct sn sub ab col dd k0 k1 k2 k3 k5 mN,h.get? C=some (excClassObj nm qn C N bs (zea K C) hdct sn sub ab col dd k0 k1 k2 k3 k5 newId)/\h.Ns N mN/\mN "__init__" = none/\OwnTail h bmB (zea K C):=by
 unfold excIn at q
 split at q
 ·rename_i dd cd sl ho
  split at q
  ·rename_i C' bm k0 k1 k2 k3 n k5 hm hs
   simp only [Bool.and_eq_true,beq_iff_eq,Bool.not_eq_true'] at q
   obtain ⟨⟨⟨⟨⟨rfl,rfl⟩,hdel⟩,ht⟩,hok⟩,hni⟩:=q
   obtain ⟨nm,bs,mro,ns,qn,hd,sn,sub,ab,col,del⟩:=cd
   dsimp only at hm hdel hok hni
   subst hm hdel
   have hsl:sl = #[k0,k1,k2,k3,some (.builtin n),k5]:=by
    obtain ⟨l⟩:=sl
    simp only at hs
    rw [hs]
   subst hsl
   have et:zea K C' = bm:=by unfold zea;rw [ho];rfl
   rw [et]
   exact ⟨ns,nm,qn,bs,hd,sn,sub,ab,col,dd,k0,k1,k2,k3,k5,_,X _ _ ho,.of_isNs (isNs_of_in X hok),nsMap_none_of_in X hok hni,tail_of_in X ht⟩
  ·cases q
 ·cases q
section
variable {P:Program}{w:World}{K:QFg}{mg:Str->Option Value}{base:Heap}{N:List Str}{qual:Str}{scope:Scope}{f:Addr}{cd:Value}{A:Around}{outer:List Env}{s:Shared}{H:Hp}{E:XK}{CA:Str->Addr}
theorem zsd {x z:Str}{j:Nat}{np p1 cpos pos:Pos}(hg:Gl (zbn (CX1 P w) P w K mg base N qual scope f cd A outer s H E) x) (hm:mg x=some (.ref (CA x))) (q:excIn K (CA x) zcr "ValueError.__new__" = true) (hd:(x == ("__debug__":Str))=false:=by decide) :
  PSz (zbn (CX1 P w) P w K mg base N qual scope f cd A outer s H E) E CA (.Raise (some (.Call (.Name x np) [.Constant (.str z) j p1] [] cpos)) none pos) (λ_ S=>some (x,S)):=by
 intro pins s1 σ H1 D I ⟨ρ,l,S,C,S',sim,ro,hz,p⟩
 cases hz
 have hE:=p ρ H1 (Ext.refl ..) sim
 obtain ⟨N',nm,qn,bs,hdct,sn,sub,ab,col,dd,k0,k1,k2,k3,k5,mN,hC,hN,hni,T⟩:=zkz (h:=base) I.mod.kin q
 refine wpAny_Raise_call_subU (C:=CA x) (nm:=nm) (q:=qn) (N:=N') (bs:=bs) (bm:=zea K (CA x)) (hdct:=hdct) (sn:=sn) (sub:=sub) (ab:=ab) (col:=col) (dd:=dd) (k0:=k0) (k1:=k1) (k2:=k2) (k3:=k3) (k5:=k5)
  F.excBase_ValueError (by decide) F.excBase_ValueError (mN:=mN) (T.hasType F.excBase_ValueError.hasBase) (I.ok.hd rfl) rfl hni (zh4 I hg hm ⟨rfl,?_⟩ hd)
 refine Calls.evalArgs_plain (thn (zcz (X:=zbn (CX1 P w) P w K mg base N qual scope f cd A outer s H E) (e:=.Constant (.str z) j p1) zh3 zex rfl cpos pins s1 σ H1 (λvs H2=>H2=H1/\vs.length=1) I ⟨rfl,rfl⟩) λus s2 ⟨vs,H2,I2,r,e2,hl⟩=>?_)
 subst e2
 refine ⟨rfl,by rw [<-r.length,hl];decide,I2.bk _ _ hC,hN.keeps I2.bk,T.keeps I2.bk,λh' e hm=>?_⟩
 have I3:=I2.kept (h':=h') (t':=s2.toks) hm.keeps
 have hne:=hm.new
 have na:s.heap.get? e=none:=by
  cases z:s.heap.get? e with
  | none=>rfl
  | some o=>obtain ⟨o',e'⟩:=I2.base.there e o z (by simp [zbn]);rw [hne] at e';cases e'
 have ha:H2 e=none:=by
  cases z:H2 e with
  | none=>rfl
  | some u=>obtain ⟨o',e'⟩:=ObjOk.there (I2.hok e u z);rw [hne] at e';cases e'
 obtain ⟨t,ht,_,_⟩:=hm.there
 exact yc6 (s1:={ s2 with heap:=h' }) I3 na ha ⟨_,_,_,ht,rfl,rfl,rfl,rfl⟩ hE
end
section
variable {M:Model}{A:Around}{E:Value->Shared->Prop}{s:Shared}{base:Heap}{env:Env}{outer l:List Env}{L e C T:Addr}{Q:Unit->Shared->Prop}
theorem zse (hl:s.heap.FunFrames base l) {h':Heap}{a0:Value}(held:Heap.FlyingW (hideAll s.heap (e :: T :: frs l)) l e (.ref C) a0 h') (sm:s.heap.UpToSlots h') :
  ∃T',Tr (frs l) e T s.heap h'/\Fly h' e C T'/\(T' = T\/s.heap.get? T' = none):=by
 obtain ⟨k1,k2,k3,oe',vs',T',oT',ts',e1,⟨c1,z1⟩,d1,f1,n1,ne1,g1,d1',t1⟩:=held
 refine ⟨T',⟨λb o hb h2 h3 q=>k1 b o (hideAll_get _ q (by simp only [List.mem_cons,not_or];exact ⟨h2,h3,hb⟩)),λb o _ q hn=>sm b o q hn⟩,⟨oe',vs',oT',ts',a0,e1,c1,d1,z1,f1,ne1,g1,d1',t1⟩,?_⟩
 cases q:s.heap.get? T' with
 | none=>exact .inr rfl
 | some o =>
  refine .inl ?_
  by_cases hm:T'∈e :: T :: frs l
  ·rcases List.mem_cons.mp hm with z|z
   ·exact absurd z ne1
   ·rcases List.mem_cons.mp z with z|z
    ·exact z
    ·obtain ⟨_,o2,ho2,hnf⟩:=hl.mem z
     rw [q] at ho2;cases ho2
     obtain ⟨sl,hs⟩:=sm T' o q hnf
     rw [g1] at hs;cases hs
     exact absurd d1' (hnf ts')
  ·rw [hideAll_get _ q hm] at n1;cases n1
theorem zsf (hl:s.heap.FunFrames base l) (fl:Fly s.heap e C T):∃a0,Heap.FlyingW (hideAll s.heap (e :: T :: frs l)) l e (.ref C) a0 s.heap:=by
 obtain ⟨oe,vs,oT,ts,a0,he,hc,hd,h0,h1,hTe,hT,hdT,h3⟩:=fl
 exact ⟨a0,λb o q=>of_hideAll _ q,hideAll_none _ (by simp),funFrames_hide hl λv hv a ha=>List.mem_cons_of_mem _ (List.mem_cons_of_mem _ (zns v hv a ha)),oe,vs,T,oT,ts,he,⟨hc,h0⟩,hd,h1,hideAll_none _ (by simp),hTe,hT,hdT,h3⟩
theorem ydc (hfr:A.frames=some (env :: outer)) (hl:s.heap.FunFrames base (env :: outer)) (hf:env.frame=some L) (fl:Fly s.heap e C T)
  (hQ:∀h' T',Tr (frs (env :: outer)) e T s.heap h'->Fly h' e C T'->(T' = T\/s.heap.get? T' = none)->Q () { s with heap:=h' }) :
  wpAny M A (noteFrame (.ref e) env) (λ_ s₂=>wpAny M A (setFlight (.ref e) none) Q E s₂) E s:=by
 obtain ⟨a0,fw⟩:=zsf hl fl
 refine wpAny_looks_onW hfr hf fw λh4 held4 sm4=>?_
 refine wpAny_landsW (s:={ s with heap:=h4 }) held4 λh5 held sm5=>?_
 obtain ⟨T',t1,t2,t3⟩:=zse hl held (sm4.trans sm5)
 exact hQ h5 T' t1 t2 t3
theorem ydd (hl:s.heap.FunFrames base l) (fl:Fly s.heap e C T)
  (hQ:∀h' T',Tr (frs l) e T s.heap h'->Fly h' e C T'->(T' = T\/s.heap.get? T' = none)->Q () { s with heap:=h' }):wpAny M A (setFlight (.ref e) none) Q E s:=by
 obtain ⟨a0,fw⟩:=zsf hl fl
 refine lands_againW fw λh5 held sm5=>?_
 obtain ⟨T',t1,t2,t3⟩:=zse hl held sm5
 exact hQ h5 T' t1 t2 t3
end
section
variable {X:Cx}{pins:List (Addr × Obj)}{σ:L2.St}{H:Hp}{s:Shared}{h':Heap}{a T:Addr}{t':Nat}
theorem Inv.tr (I:Inv X pins σ H s) (hex:X.ex=[]) (tr:Tr (frs X.stack) a T s.heap h') (na:X.s₀.heap.get? a=none) (nT:X.s₀.heap.get? T=none) (ha:H a=none) (hT:H T=none)
  (oL:X.env.locals≠a/\X.env.locals≠T) (oC:∀x c,X.env.cells.lookup x=some c->c≠a/\c≠T) (oP:∀p∈X.pn++pins,p.1≠a/\p.1≠T):Inv X pins σ H { s with heap:=h',toks:=t' }:=by
 have kp:∀b o,(∀vs,o.data≠.fields vs)->b≠a->b≠T->s.heap.get? b=some o->∃sl,h'.get? b=some { o with slots:=sl }:=λb o hn h1 h2 q=>by
  by_cases hb:b∈frs X.stack
  ·exact tr.slot b o hb q hn
  ·exact ⟨o.slots,tr.keep b o hb h1 h2 q⟩
 have hne:∀b o,X.s₀.heap.get? b=some o->b≠a/\b≠T/\b≠X.env.locals:=λb o q=>⟨λz=>(by rw [z,na] at q;cases q),λz=>(by rw [z,nT] at q;cases q),Nat.ne_of_lt (Nat.lt_of_lt_of_le (Heap.lt_size q) I.ok.above)⟩
 have nex:∀b,b ∉ X.ex:=λb=>by rw [hex];simp
 refine ⟨I.ok,I.os,I.bare,⟨λb o q n hb hx=>?_,λb o q n hb hx=>?_,I.base.free,λb o q hx=>?_,I.base.tups,I.base.frzs,I.base.tbls⟩,?_,λx c e=>?_,I.free,I.freeC,λp hp=>?_,λb u e=>?_,I.len⟩
 ·obtain ⟨h1,h2,h3⟩:=hne b o q
  exact tr.keep b o (λz=>(List.mem_cons.mp (I.stkSub b z)).elim h3 hb) h1 h2 (I.base.keep b o q n hb hx)
 ·obtain ⟨h1,h2,h3⟩:=hne b o q
  obtain ⟨sl,e⟩:=I.base.slot b o q n hb hx
  obtain ⟨_,o2,ho2,hnf⟩:=I.funs.mem hb
  rw [e] at ho2;cases ho2
  obtain ⟨sl',e'⟩:=kp b _ hnf h1 h2 e
  exact ⟨sl',e'⟩
 ·obtain ⟨h1,h2,h3⟩:=hne b o q
  obtain ⟨o',e⟩:=I.base.there b o q hx
  by_cases hb:b∈frs X.stack
  ·obtain ⟨_,o2,ho2,hnf⟩:=I.stack.mem hb
   rw [e] at ho2;cases ho2
   obtain ⟨sl,e'⟩:=tr.slot b _ hb e hnf
   exact ⟨_,e'⟩
  ·exact ⟨o',tr.keep b o' hb h1 h2 e⟩
 ·obtain ⟨m,⟨o,es,ep,ho,hd,hr⟩,hl⟩:=I.loc
  obtain ⟨sl,e'⟩:=kp _ o (λvs z=>by rw [hd] at z;cases z) oL.1 oL.2 ho
  refine ⟨m,⟨_,es,ep,e',hd,hr⟩,λi x v h1 h2 h3=>?_⟩
  obtain ⟨u,r,lk⟩:=hl i x v h1 h2 h3
  refine ⟨u,r,?_⟩
  rcases lk with lk|⟨k,c,hc,oc,hoc,hdc⟩
  ·exact .inl lk
  ·obtain ⟨sl2,e2⟩:=kp c oc (λvs z=>by rw [hdc] at z;cases z) (oC x c hc).1 (oC x c hc).2 hoc
   exact .inr ⟨k,c,hc,_,e2,hdc⟩
 ·obtain ⟨v,o,ho,hd⟩:=I.cell x c e
  obtain ⟨sl2,e2⟩:=kp c o (λvs z=>by rw [hd] at z;cases z) (oC x c e).1 (oC x c e).2 ho
  exact ⟨v,_,e2,hd⟩
 ·obtain ⟨e,n,ne,nf,d⟩:=I.pin p hp
  exact ⟨tr.keep _ _ (λz=>(List.mem_cons.mp (I.stkSub _ z)).elim ne nf) (oP p hp).1 (oP p hp).2 e,n,ne,nf,d⟩
 ·refine (I.hok b u e).stay (λc v hc q=>?_) (λ_ q=>q) λ_ _ q=>q
  have hcn:H c≠none:=by
   rcases hc with z|z
   ·rw [z,e];intro y;cases y
   ·rw [z];intro y;cases y
  exact tr.keep c v (λz=>hcn (I.stkFree c z)) (λz=>hcn (by rw [z];exact ha)) (λz=>hcn (by rw [z];exact hT)) q
end
section
variable {M:Model}{A:Around}{E:Value->Shared->Prop}{h:Heap}{g:Array GenState}{d:Drawn}{t:Nat}{os:OsState}
variable {nm q nm' q':Str}{C N D N':Addr}{bs bm bs' bm':List Value}{hdct hdct':Bool}{sn sn':List Str}{sub sub':List Value}{ab ab':Bool}{col col':Option Bool}{dd dd':Option Addr}{k0 k1 k2 k3 k5 k0' k1' k2' k3' k5':Option Value}{newId newId':String}
theorem yde {e:Addr}{oe:Obj}{Q:Bool->Shared->Prop}
  (hC:h.get? C=some (excClassObj nm q C N bs bm hdct sn sub ab col dd k0 k1 k2 k3 k5 newId)) (hD:h.get? D=some (excClassObj nm' q' D N' bs' bm' hdct' sn' sub' ab' col' dd' k0' k1' k2' k3' k5' newId'))
  (he:h.get? e=some oe) (hcls:oe.cls=.ref C) (hbase:bm'.contains (.type "BaseException")=true) (hin:(Value.ref C :: bm).contains (.ref D)=true)
  (hq:Q true ⟨h,g,d,t,os⟩):wpAny M A (excMatches (.ref e) (.ref D)) Q E ⟨h,g,d,t,os⟩:=by
 have hcB:(Value.ref D :: bm').contains (.type "BaseException")=true:=by rw [List.contains_cons,hbase,Bool.or_true]
 have f:=tc_notTuple
 unfold excMatches
 repeat (first|(with_reducible refine wpAny_loadPart_at he ?_;rw [hcls])|with_reducible refine wpAny_loadPart_at hD ?_|with_reducible refine wpAny_loadPart_at hC ?_|(with_reducible refine wpAny_isSubtype_exc hD ?_;rw [hcB])|(with_reducible refine wpAny_isSubtype_exc hC ?_;rw [hin])|wp_step)
 exact hq
end
noncomputable abbrev mk1 (X:Cx) (e:Value):Cx:={ X with A:=X.A.mark (some e),calm:=false,xe:=λ_ _=>False }
def phi (e C:Addr):Heap->Prop:=λh=>∃o,h.get? e=some o/\o.cls=.ref C
section
variable {X:Cx}{pins:List (Addr × Obj)}{σ:L2.St}{H:Hp}{s:Shared}{a C T:Addr}{e:Value}
theorem Inv.mk1 (I:Inv X pins σ H s):Inv (L3.mk1 X e) pins σ H s :=
 ⟨⟨I.ok.mod,I.ok.kind,I.ok.glob,I.ok.blt,I.ok.above,I.ok.inj,I.ok.has,I.ok.cab,λh=>absurd (show false=true from h) Bool.false_ne_true,I.ok.frames,I.ok.stk,I.ok.exf,I.ok.bs,I.ok.bsz,I.ok.noex,I.ok.exfs,I.ok.funs,I.ok.frf⟩,I.os,I.bare,I.base,I.loc,I.cell,I.free,I.freeC,I.pin,I.hok,I.len⟩
theorem Inv.unmk1 (ok:X.Ok) (I:Inv (L3.mk1 X e) pins σ H s):Inv X pins σ H s:=⟨ok,I.os,I.bare,I.base,I.loc,I.cell,I.free,I.freeC,I.pin,I.hok,I.len⟩
theorem Inv.track (I:Inv X pins σ H s) (ha:H a=none) (na:X.s₀.heap.get? a=none) (oL:X.env.locals≠a) (oC:∀x c,X.env.cells.lookup x=some c->c≠a) (oP:∀p∈X.pn++pins,p.1≠a)
  (he:phi a C s.heap):Inv X pins σ (upd H a (.ext (phi a C))) s:=by
 have up:∀b u,H b=some u->upd H a (.ext (phi a C)) b=some u:=λb u q=>by rw [zan (zbc q ha)];exact q
 refine ⟨I.ok,I.os,I.bare,⟨I.base.keep,I.base.slot,λb o q n hx=>?_,I.base.there,λb xs q=>up _ _ (I.base.tups b xs q),λb o u q=>up _ _ (I.base.frzs b o u q),λb ps q=>?_⟩,I.loc,I.cell,?_,λx c q=>?_,λp hp=>?_,λb u q=>?_,I.len⟩
 ·rw [zan (λz=>by rw [z,na] at q;cases q)]
  exact I.base.free b o q n hx
 ·obtain ⟨more,z⟩:=I.base.tbls b ps q
  exact ⟨more,up _ _ z⟩
 ·rw [zan oL];exact I.free
 ·rw [zan (oC x c q)];exact I.freeC x c q
 ·obtain ⟨z,n,ne,nf,d⟩:=I.pin p hp
  exact ⟨z,by rw [zan (oP p hp)];exact n,ne,nf,d⟩
 ·by_cases hb:b=a
  ·subst hb
   rw [zbf] at q;cases q
   obtain ⟨o,h1,h2⟩:=he
   exact ⟨⟨o,h1,h2⟩,⟨o,h1⟩,λh1 h2 ⟨o,z1,z2⟩ k=>⟨o,k o z1,z2⟩⟩
  ·rw [zan hb] at q
   exact (I.hok b u q).stay (λc v _ z=>z) (λc z=>up _ _ z) λc xs z=>up _ _ z
theorem Inv.unbound {n:Str}{i:Nat}{h':Heap}{m:Str->Option Value}{v:Option Value}{t':Nat}(I:Inv X pins σ H s) (hN:X.N.Nodup) (hi:X.N[i]? = some n)
  (hm:s.heap.Ns X.env.locals m) (hn:h'.Ns X.env.locals (λx=>if x=n then v else m x)) (sb:Heap.SameBut X.env.locals s.heap h'):Inv X pins (σ.set i none) H { s with heap:=h',toks:=t' }:=by
 have kp:∀b o,b≠X.env.locals->s.heap.get? b=some o->h'.get? b=some o:=λb o hb q=>sb.extBut b o hb q
 have hL:∀b o,X.s₀.heap.get? b=some o->b≠X.env.locals:=λb o q=>Nat.ne_of_lt (Nat.lt_of_lt_of_le (Heap.lt_size q) I.ok.above)
 have nfs:X.env.locals ∉ X.fs:=λz=>by
  obtain ⟨_,o,ho,_⟩:=I.ok.funs.mem z
  exact hL _ o ho rfl
 refine ⟨I.ok,I.os,I.bare,⟨λb o q n hb hx=>kp b o (hL b o q) (I.base.keep b o q n hb hx),λb o q n hb hx=>?_,I.base.free,λb o q hx=>?_,I.base.tups,I.base.frzs,I.base.tbls⟩,⟨_,hn,λj x u h1 h2 h3=>?_⟩,λx c q=>?_,I.free,I.freeC,λp hp=>?_,λb u q=>?_,by rw [List.length_set];exact I.len⟩
 ·obtain ⟨sl,z⟩:=I.base.slot b o q n hb hx
  exact ⟨sl,kp b _ (hL b o q) z⟩
 ·obtain ⟨o',z⟩:=I.base.there b o q hx
  exact ⟨o',kp b _ (hL b o q) z⟩
 ·have hji:i≠j:=λz=>by
   subst z
   rw [List.getElem?_set_self (by have:=(qme hi).1;rw [I.len];exact this)] at h2
   cases h2
  rw [List.getElem?_set_ne hji] at h2
  have hxn:x≠n:=λz=>hji (zl1 hN hi (by rw [h1,z]))
  obtain ⟨m0,hn0,hl⟩:=I.loc
  obtain ⟨w,r,lk⟩:=hl j x u h1 h2 h3
  have em:m0=m:=by
   obtain ⟨o1,es1,ep1,ho1,hd1,hk1,hf1⟩:=hn0
   obtain ⟨o2,es2,ep2,ho2,hd2,hk2,hf2⟩:=hm
   rw [ho1] at ho2;cases ho2
   rw [hd1] at hd2;cases hd2
   funext y;rw [<-hf1 y,<-hf2 y]
  subst em
  refine ⟨w,r,?_⟩
  rcases lk with ⟨k,z⟩|⟨k,c,hc,o,ho,hd⟩
  ·exact .inl ⟨k,by show (if x=n then v else m0 x)=some w;rw [if_neg hxn];exact z⟩
  ·exact .inr ⟨k,c,hc,o,kp c o (I.cne x c hc) ho,hd⟩
 ·obtain ⟨w,o,ho,hd⟩:=I.cell x c q
  exact ⟨w,o,kp c o (I.cne x c q) ho,hd⟩
 ·obtain ⟨z,n,ne,nf,d⟩:=I.pin p hp
  exact ⟨kp _ _ ne z,n,ne,nf,d⟩
 ·refine (I.hok b u q).stay (λc w hc z=>kp c w (λy=>?_) z) (λ_ z=>z) λ_ _ z=>z
  have hcn:H c≠none:=by
   rcases hc with y|y
   ·rw [y,q];intro z;cases z
   ·rw [y];intro z;cases z
  exact hcn (by rw [y];exact I.free)
end
def EH (X:Cx) (Dh:Addr) (tS:TS) (i:Nat) (D:Ends) (σ:L2.St):XK:=λc _ H'=>∃C,c=.ref C/\excIn X.K C zcr "ValueError.__new__" = true/\(Value.ref C :: zea X.K C).contains (.ref Dh)=true /\
 ∀e,H' e=none->tS { nx:=λσ' H''=>D.nx (σ'.set i none) H'',rt:=λ_ _=>False } (σ.set i (some (.ref e))) (upd H' e (.ext (phi e C)))
section
variable {X:Cx}{pins:List (Addr × Obj)}{σ:L2.St}{tS:TS}{i:Nat}{Dh:Addr}{n hx:Str}{np hpos:Pos}{b0:Stmt}{suite:List Stmt}
theorem ydf (hstk:X.stack=X.env :: X.outer) (hfm:X.env.frame=some X.env.locals) (hex:X.ex=[]) (hg:Gl X hx) (hm:X.mg hx=some (.ref Dh)) (qD:excIn X.K Dh zcr "ValueError.__new__" = true)
  (hS:∀e,PSs (mk1 X e) (b0 :: suite) tS) (hN:X.N.Nodup) (hi:X.N[i]? = some n) (hln:X.env.scope.names.lookup n=some .local) (hd:(hx == ("__debug__":Str))=false)
  {H1:Hp} {s1 s2:Shared} {e:Value} {D:Ends} (I1:Inv X pins σ H1 s1) (cx:CX1 X.prog X.w X.stack H1 s1 (EH X Dh tS i D σ) e s2) :
  wpAny (model X.prog X.w) X.A (noteFrame e X.env) (λ_ s₂=>wpAny (model X.prog X.w) X.A (setFlight e none) (λ_ s₃ =>
   wpAny (model X.prog X.w) X.A (handleBy e X.env [.ExceptHandler (some (.Name hx np)) (some n) (b0 :: suite) hpos]) (SP X pins D) X.xe s₃) X.xe s₂) X.xe s2:=by
 obtain ⟨a,C,T,H',rfl,ho,hgn,un,hok,na,nT,fl,ha,hT,hE⟩:=cx
 obtain ⟨C',hCe,qC,hin,hE⟩:=hE
 cases hCe
 have I2:Inv X pins σ H' s2:=I1.call' (s':=s2) (ch:=[]) ho un hok hgn (λb hb=>by cases hb)
 have up:∀b,s1.heap.get? b=none->X.s₀.heap.get? b=none:=λb q=>by
  cases z:X.s₀.heap.get? b with
  | none=>rfl
  | some o=>obtain ⟨o',e⟩:=I1.base.there b o z (by rw [hex];simp);rw [q] at e;cases e
 have out:∀b,s1.heap.get? b=none->X.env.locals≠b/\(∀x c,X.env.cells.lookup x=some c->c≠b)/\∀p∈X.pn++pins,p.1≠b:=λb q=>by
  refine ⟨λz=>?_,λx c hc z=>?_,λp hp z=>?_⟩
  ·obtain ⟨m,⟨o,_,_,h1,_⟩,_⟩:=I1.loc
   rw [z,q] at h1;cases h1
  ·obtain ⟨v,o,h1,_⟩:=I1.cell x c hc
   rw [z,q] at h1;cases h1
  ·have:=(I1.pin p hp).1
   rw [z,q] at this;cases this
 have stk:∀{σ':L2.St} {H'':Hp} {s':Shared},Inv X pins σ' H'' s'->s'.heap.FunFrames X.base (X.env :: X.outer):=λI=>by have:=I.stack;rw [hstk] at this;exact this
 have oa:=out a na
 have oT:=out T nT
 refine ydc (L:=X.env.locals) (by rw [I2.ok.frames,hstk]) (stk I2) hfm fl λh3 T3 tr3 fl3 hT3=>?_
 rw [<-hstk] at tr3
 have I3:Inv X pins σ H' { s2 with heap:=h3 }:=Inv.tr (t':=s2.toks) I2 hex tr3 (up a na) (up T nT) ha hT ⟨oa.1,oT.1⟩ (λx c q=>⟨oa.2.1 x c q,oT.2.1 x c q⟩) (λp q=>⟨oa.2.2 p q,oT.2.2 p q⟩)
 have nT3:s1.heap.get? T3=none:=by
  rcases hT3 with rfl|q
  ·exact nT
  ·cases z:s1.heap.get? T3 with
   | none=>rfl
   | some o=>obtain ⟨o',e⟩:=un.there T3 o z (by simp);rw [q] at e;cases e
 have hT3':H' T3=none:=by
  rcases hT3 with rfl|q
  ·exact hT
  ·cases z:H' T3 with
   | none=>rfl
   | some u=>obtain ⟨o',e⟩:=ObjOk.there (hok T3 u z);rw [q] at e;cases e
 have oT3:=out T3 nT3
 obtain ⟨N1,nm1,qn1,bs1,hdct1,sn1,sub1,ab1,col1,dd1,k01,k11,k21,k31,k51,mN1,hC1,_,_,_⟩:=zkz (h:=h3) I3.kIn qC
 obtain ⟨N2,nm2,qn2,bs2,hdct2,sn2,sub2,ab2,col2,dd2,k02,k12,k22,k32,k52,mN2,hC2,_,_,TL2⟩:=zkz (h:=h3) I3.kIn qD
 obtain ⟨oe,vs,oT',ts,a0,he,hcl,_⟩:=id fl3
 refine wpAny_handleBy_cons (codeAny_handlers_test (Calls.Name_function_global I3.ok.kind hg (Calls.loadGlobal_global (by rw [I3.ok.glob];exact I3.mod.glob.keeps I3.bk) hm ?_) hd)) (by intro q;cases q)
 refine yde hC1 hC2 he hcl (TL2.hasType F.excBase_ValueError.hasBase) hin ?_
 refine codeAny_handlers_suite_as ?_
 refine ydd (s:={ s2 with heap:=h3 }) (stk I3) fl3 λh4 T4 tr4 fl4 hT4=>?_
 rw [<-hstk] at tr4
 have I4:Inv X pins σ H' { s2 with heap:=h4 }:=Inv.tr (s:={ s2 with heap:=h3 }) (t':=s2.toks) I3 hex tr4 (up a na) (up T3 nT3) ha hT3' ⟨oa.1,oT3.1⟩ (λx c q=>⟨oa.2.1 x c q,oT3.2.1 x c q⟩) (λp q=>⟨oa.2.2 p q,oT3.2.2 p q⟩)
 obtain ⟨oe4,vs4,oT4,ts4,a04,he4,hcl4,_⟩:=id fl4
 have I5:=Inv.track (C:=C) I4 ha (up a na) oa.1 oa.2.1 oa.2.2 ⟨oe4,he4,hcl4⟩
 refine zl2 (v:=.ref a) I5 hN hi (.inl hln) rfl (λs6 I6=>?_) (.inr hln)
 refine wpAny_mono (hS (.ref a) pins s6 (σ.set i (some (.ref a))) _ _ (Inv.mk1 I6) (hE a ha)) (λf s7 hf=>?_) λ_ _ z=>False.elim z
 cases f with
 | next =>
  obtain ⟨σ',H'',I7,q7⟩:=hf
  have I7:=Inv.unmk1 I6.ok I7
  obtain ⟨m,hn,_⟩:=I7.loc
  show wpAny _ X.A (do bindName X.env n .none;unbindBehindTheSuite X.env n hpos) _ _ s7
  exact wpAny_nameGoes_keeps hln hn (by rw [I7.ok.kind];rfl) λh8 v hn8 sb8=>⟨σ'.set i none,H'',Inv.unbound I7 hN hi hn hn8 sb8,q7⟩
 | ret v=>obtain ⟨_,_,_,_,_,q⟩:=hf;exact q.elim
 | brk=>obtain ⟨_,_,_,q⟩:=hf;exact q.elim
 | cont=>obtain ⟨_,_,_,q⟩:=hf;exact q.elim
end
noncomputable def zdh (k:Nat) (r:ZM):ZF:=λds S=>r (ds.map some++List.replicate (k-ds.length) none) S
theorem ydg {P:Program}{w:World}{K:QFg}{mg:Str->Option Value}{base:Heap}{CA:Str->Addr}{x:Str}{st:Stmt}{f:Addr}{fd:FuncData}{N ps:List Str}{k n:Nat}{r:ZM}(F:Fun K x x st f fd) (hm:mg x=some (.ref f)) (S:FnScope N ps (zay st)) (hn:ps.length=n) (hb:Binds K fd ps [])
  (hbody:∀(cdv:Value),PySem.W.codeIn K cdv x=true->∀(A:Around) (outer:List Env) (s:Shared) (H:Hp) (E:XK),Room k (A.deeper (envOfC x (zay st) s.heap.objs.size f cdv)) ->
   zd8 (zbn (CX1 P w) P w K mg base N x (zay st) f cdv A outer s H E) E CA (zc9 st) r):zb2 P w K mg base CA x (k+1) n (zdh N.length r):=by
 refine ⟨f,fd,ps,?_,hm,F.kp,hb⟩
 obtain ⟨oc,od,kV,doc,pm,an,cdv,ct,osl,rfl,lk,hcd⟩:=F.ex
 refine zme lk hcd S (λvs H Q E h=>by rw [h.1,hn]) λA outer s H vs Q E hr h=>?_
 obtain ⟨hl,ρ,ds,S0,C,S',sim,rd,hz,p⟩:=h
 exact ⟨_,hbody cdv hcd A outer s H E hr,ρ,_,S0,C,S',sim,rd.locals N,hz,p⟩
section
variable {X:Cx}{E:XK}{CA:Str->Addr}{a:Expr}{es:List Expr}{mA:AM}{cpos p apos py tpos:Pos}{x y:Str}{k j n:Nat}{rx:ZF}
variable {tN tS:TS}{i:Nat}{Dh:Addr}{nm hx:Str}{np hpos:Pos}{b0:Stmt}{suite:List Stmt}
end
theorem RO.unset {ρ:List Addr}{H:Hp}{l:Lo}{σ:L2.St}(r:RO ρ H l σ) (i:Nat):RO ρ H (l.set i none) (σ.set i none):=by
 refine ⟨by rw [List.length_set,List.length_set];exact r.len,λj d h=>?_⟩
 by_cases e:i=j
 ·subst e
  have hl:i<l.length:=by
   have:=(qme h).1
   rw [List.length_set] at this;exact this
  rw [List.getElem?_set_self hl] at h;cases h
 ·rw [List.getElem?_set_ne e] at h ⊢
  exact r.get j d h
noncomputable def zi2 (i:Nat) (ok:Str->Bool) (mN:SM) (r:ZM) (mS:SM):SM:=λl S=>match mN l S with
 | some q=>some q
 | none=>match r l S with
  | some (c,S')=>if ok c=true then (mS (l.set i (some (.ref S'.length))) (S'++[.exc c])).bind λq=>(match q.1 with
   | .nx=>some (.nx,q.2.1.set i none,q.2.2)
   | _=>none) else none
  | none=>none
section
variable {X:Cx}{E:XK}{CA:Str->Addr}{a:Expr}{es:List Expr}{mA:AM}{cpos p apos py tpos:Pos}{x y:Str}{k j n:Nat}{rx:ZF}{i:Nat}{Dh:Addr}{nm hx:Str}{np hpos:Pos}{b0:Stmt}{suite:List Stmt}{mN mS:SM}{ok:Str->Bool}
end
open PySem.Builtin PySem.Builtin.ObjectAttr PySem.Builtin.Getset_descriptor
theorem zsg {a C:Addr}(M:Model) (h:Heap) (p:phi a C h):Looks M h (typeOf (.ref a)) (.ref C):=by
 obtain ⟨o,h1,h2⟩:=p
 exact h2 ▸ (Looks.ld h1).andThen .now
section
variable {prog:Program}{w:World}{A:Around}{E:Value->Shared->Prop}{h:Heap}{g:Array GenState}{d:Drawn}{t:Nat}{os:OsState}{a:Addr}{o:Obj}{K:QFg}{C:Addr}
theorem ydh {tp:Value}{R:Result->Shared->Prop}{s:Shared}(X:K.In s.heap) (p:phi a C s.heap) (hm:mroIn K C (.type "object")=some true) (hq:R (.ok (.ret (.ref C))) s) :
  codeAny (model prog w) A (.call (.builtin "getset_descriptor.__get__") ⟨[.builtin "object.__class__",.ref a,tp],[]⟩) R s:=by
 obtain ⟨hh,g,dr,t,os⟩:=s
 have L0:=zsg (model prog w) hh p
 have L1:=looks_mroIn (M:=model prog w) X hm
 refine codeAny_call_builtin KF.slot_gs.plain KF.entry_gs (KF.slot_gs.check _ _ _ _ _ _ _ _ KF.type_class (KF.args_gs _ _ _) ?_)
 unfold Builtin.«getset_descriptor.__get__» descrGet
 rw [dga_obj]
 refine qwb (qwp ?_)
 unfold descrGetter descrCheckInstance descrNameAndClass isInstance
 simp only [KF.owner_class]
 repeat lk
 refine ⟨Code.quiet_builtin _ (by decide +kernel),codeAny_builtin KF.entry_class ?_⟩
 unfold Builtin.«object.__class__» shownTypeOf
 repeat lk
 exact hq
theorem ydi {tk:Tok}{Q:Fin->Shared->Prop}(X:K.In h) (hx:h.get? a=some o) (hc:o.cls=.ref C) (hm:mroIn K C (.type "object")=some true) (hf:findIn K (.ref C) "__class__" = some (some (.builtin "object.__class__")))
  (hq:Q (.done (.ret (.ref C))) ⟨h,g,d,t,os⟩):wpAny (model prog w) A (Builtin.«object.__getattribute__» ⟨[.ref a,.str "__class__" tk],[]⟩) Q E ⟨h,g,d,t,os⟩:=by
 have hT5:(⟨h,g,d,t,os⟩:Shared).TypeIs (.builtin "object.__class__") "getset_descriptor":=F.typeOf_object_class
 have f5:=F.typeOf_object_class
 have f6:=F.slot_gs_get.lookup
 have f7:=F.slot_gs_set.lookup
 have L:=looks_findIn (M:=model prog w) X hf
 repeat (any_goals (first|assumption|(with_reducible refine wpAny_loadPart_at hx ?_;rw [hc])|with_reducible refine L.at ?_|wp_step))
 refine ydh (s:=⟨h,g,d,t,os⟩) X ⟨o,hx,hc⟩ hm ?_
 repeat (any_goals (first|assumption|wp_step))
theorem ydj {M:Model}{nameV:Value}{Q:Unit->Shared->Prop}{nm q:Str}{N:Addr}{bs bm:List Value}{hdct:Bool}{sn:List Str}{sub:List Value}{ab:Bool}{col:Option Bool}{dd:Option Addr}{k0 k1 k2 k3 k5:Option Value}{newId:String}
  (hC:h.get? C=some (excClassObj nm q C N bs bm hdct sn sub ab col dd k0 k1 k2 k3 k5 newId)) (T:OwnTail h zcr bm)
  (hx:h.get? a=some o) (hc:o.cls=.ref C) (hq:Q () ⟨h,g,d,t,os⟩):wpAny M A (checkBuiltinCall "BaseException.__getattribute__" ⟨[.ref a,nameV],[]⟩) Q E ⟨h,g,d,t,os⟩:=by
 have hk:builtinKind "BaseException.__getattribute__" = some .slot:=by decide +kernel
 have hsplit:splitId "BaseException.__getattribute__" = some ("BaseException","__getattribute__"):=by decide +kernel
 have hcB:(Value.ref C :: bm).contains (.type "BaseException")=true:=by rw [List.contains_cons,T.hasType F.excBase_ValueError.hasBase];rfl
 have ha:=F.args_bexc_ga (.ref a) nameV
 simp only [checkBuiltinCall,hk,hsplit]
 refine qwb ?_
 ·unfold isInstance
  repeat (first|(with_reducible refine wpAny_loadPart_at hx ?_;rw [hc])|(with_reducible refine wpAny_isSubtype_exc hC ?_;rw [hcB])|wp_step)
  exact hq
end
structure ExcQ (K:QFg) (C:Addr):Prop where
 exc:excIn K C zcr "ValueError.__new__" = true
 obj:mroIn K C (.type "object")=some true
 cls:findIn K (.ref C) "__class__" = some (some (.builtin "object.__class__"))
 ga:findIn K (.ref C) "__getattribute__" = some (some (.builtin "BaseException.__getattribute__"))
 gr:findIn K (.ref C) "__getattr__" = some none
 is:(clsIn K C).isSome=true
section
variable {prog:Program}{w:World}{A:Around}{E:Value->Shared->Prop}{h:Heap}{g:Array GenState}{d:Drawn}{t:Nat}{os:OsState}{a:Addr}{o:Obj}{K:QFg}{C:Addr}
theorem ydk {tk:Tok}{R:Result->Shared->Prop}(X:K.In h) (c:ExcQ K C) (hx:h.get? a=some o) (hc:o.cls=.ref C) (hq:R (.ok (.ret (.ref C))) ⟨h,g,d,t,os⟩) :
  codeAny (model prog w) A (.call (.builtin "BaseException.__getattribute__") ⟨[.ref a,.str "__class__" tk],[]⟩) R ⟨h,g,d,t,os⟩:=by
 obtain ⟨N,nm,qn,bs,hdct,sn,sub,ab,col,dd,k0,k1,k2,k3,k5,mN,hC,hN,hni,T⟩:=zkz X c.exc
 exact codeAny_call_builtin F.attrBase_ValueError.ga.plain F.entry_bexc_ga (ydj hC T hx hc (ydi X hx hc c.obj c.cls hq))
theorem ydl {tk:Tok}{Q:Value->Shared->Prop}(X:K.In h) (c:ExcQ K C) (hx:h.get? a=some o) (hc:o.cls=.ref C) (hq:Q (.ref C) ⟨h,g,d,t,os⟩) :
  wpAny (model prog w) A (getAttrBy (.ref a) (.str "__class__" tk) false) Q E ⟨h,g,d,t,os⟩:=by
 have f3:=F.attrBase_ValueError.ga.bind (.ref a)
 have hx2:(Value.builtin "BaseException.__getattribute__" == Value.builtin "object.__getattribute__")=false:=by decide +kernel
 have hx1:(onTheHeap (Value.ref C) && Value.builtin "BaseException.__getattribute__" == Value.builtin "object.__getattribute__")=false:=by rw [hx2];rfl
 have L1:=looks_findIn (M:=model prog w) X c.ga
 have L2:=looks_findIn (M:=model prog w) X c.gr
 repeat (any_goals (first|assumption|(with_reducible refine wpAny_loadPart_at hx ?_;rw [hc])|with_reducible refine L1.at ?_|with_reducible refine L2.at ?_|wp_step))
 refine ydk X c hx hc ?_
 repeat (any_goals (first|assumption|wp_step))
theorem ydm {Q:Option Value->Shared->Prop}{s:Shared}(X:K.In s.heap) (c:ExcQ K C) (p:phi a C s.heap) (hq:Q (some (.ref C)) { s with toks:=s.toks+1 }) :
  wpAny (model prog w) A (getAttr? (.ref a) "__class__") Q E s:=by
 obtain ⟨hh,g,d,t,os⟩:=s
 obtain ⟨o,hx,hc⟩:=p
 unfold getAttr? getAttrBy?
 repeat (any_goals (first|assumption|with_reducible apply ydl X c hx hc|wp_step))
theorem zsh (c:ExcQ K C):KitX K (.ref a) (.ref C) (phi a C) where
 ty:=λM h _ p=>zsg M h p
 it:=λ_ _ X _=>by
  obtain ⟨cdD,hcD⟩:=Option.isSome_iff_exists.mp c.is
  unfold clsIn at hcD
  split at hcD
  ·rename_i c' d' cd' sl' ho
   intro A' Q' E' s' k q
   unfold isType loadHead
   exact qwb (wpAny_loadPart (k _ _ (X _ _ ho)) (qwp q))
  ·cases hcD
 ne:=λh tp dd its n sl X htp=>by
  obtain ⟨cdD,hcD⟩:=Option.isSome_iff_exists.mp c.is
  refine Bool.eq_false_iff.mpr λq=>?_
  have e:C=tp:=Value.ref.inj (beq_iff_eq.mp q)
  subst e
  unfold clsIn at hcD
  split at hcD
  ·rename_i c' d' cd' sl' ho
   have z:=(X _ _ ho).symm.trans htp
   cases z
  ·cases hcD
 ca:=λX p k=>ydm X c p k
end
def PN (X:Cx) (es:List Expr) (Cs:List Addr):Prop:=PA X es (λ_ H Q=>Q (Cs.map V.ref) H)
section
variable {X:Cx}{es:List Expr}{Cs:List Addr}{y:Str}{C:Addr}{p:Pos}
theorem zsi (hg:Gl X y) (hm:X.mg y=some (.ref C)) (hd:(y == ("__debug__":Str))=false:=by decide):PE X (.Name y p) (tC (.ref C)):=λ_ _ _ H _ I h=>zh4 I hg hm ⟨.ref C,H,I,rfl,h⟩ hd
theorem zsj:PN X [] []:=λpos pins s σ H Q I h=>zex pos pins s σ H Q I h
theorem zeo (hg:Gl X y) (hm:X.mg y=some (.ref C)) (h:PN X es Cs) (hd:(y == ("__debug__":Str))=false:=by decide) (hs:starEach (.Name y p :: es) X.env=(false,eval (.Name y p) X.env) :: starEach es X.env:=by rfl):PN X (.Name y p :: es) (C :: Cs) :=
 λpos pins s σ H Q I q=>zcz (zsi hg hm hd) h hs pos pins s σ H Q I q
theorem zsk:∀{Cs:List Addr}{us:List Value},Vals (Cs.map V.ref) us->us=Cs.map Value.ref
 | [],us,h=>by cases h;rfl
 | C :: Cs,us,h=>by
  cases h with
  | cons r q =>
   rw [zsk q]
   cases (show _=Value.ref C from r)
   rfl
def ydn (K:QFg):List V->Hp->VK->Prop:=λxs H Q=>∃(a tp C:Addr) (Cs:List Addr) (b:Bool),xs=[.ref a,.ref tp]/\H a=some (.ext (phi a C))/\H tp=some (.tup (Cs.map V.ref))/\ExcQ K C/\kitAny K (.ref C) (Cs.map Value.ref)=some b/\Q (.bl b) H
theorem ydo:CallR X (.builtin "isinstance") (ydn X.K):=by
 intro pins s σ H xs us Q I r h
 obtain ⟨a,tp,C,Cs,b,rfl,ha,ht,hc,hk,q⟩:=h
 obtain ⟨u1,u2,rfl,r1,r2⟩:=r.two
 cases (show u1=Value.ref a from r1)
 cases (show u2=Value.ref tp from r2)
 obtain ⟨ph,_⟩:=(show ObjOk X.prog X.w H s.heap a (.ext (phi a C)) from I.hok a _ ha)
 obtain ⟨its,rv,pt,_⟩:=I.tuple (SqT.of (K:=X.K) ht)
 have e:=zsk rv
 subst e
 obtain ⟨ob,h1,h2,h3⟩:=pt
 obtain ⟨n,h3⟩:=h3
 obtain ⟨c,dd,dt,sl⟩:=ob
 cases h2;cases h3
 exact kia_tup (zsh hc) I.kIn ph h1 hk (λz=>nomatch z) λtk=>⟨.bl b,H,I.tok tk,rfl,q⟩
def ydp (K:QFg) (c:V) (cv:Value):List V->Hp->VK->Prop:=λxs H Q=>∃(a C:Addr) (b:Bool),xs=[.ref a,c]/\H a=some (.ext (phi a C))/\ExcQ K C/\kitOne K (.ref C) cv=some b/\Q (.bl b) H
theorem zsl {c:V}{cv:Value}(hcv:∀u,RelV c u->u=cv):CallR X (.builtin "isinstance") (ydp X.K c cv):=by
 intro pins s σ H xs us Q I r h
 obtain ⟨a,C,b,rfl,ha,hc,hk,q⟩:=h
 obtain ⟨u1,u2,rfl,r1,r2⟩:=r.two
 cases (show u1=Value.ref a from r1)
 cases hcv u2 r2
 obtain ⟨ph,_⟩:=(show ObjOk X.prog X.w H s.heap a (.ext (phi a C)) from I.hok a _ ha)
 exact kia_one (zsh hc) I.kIn ph hk (λz=>nomatch z) λtk=>⟨.bl b,H,I.tok tk,rfl,q⟩
end
noncomputable def zdu (tab:List (Str × Bool)):D->Sto->Option (D × Sto):=λx S=>match x with
 | .ref n=>(match S[n]? with
  | some (.exc c)=>(tab.lookup c).bind λb=>some (.bl b,S)
  | _=>none)
 | _=>none
theorem znu {K:QFg}{ρ:List Addr}{S:Sto}{H:Hp}{x v:D}{S':Sto}{x':V}{tab:List (Str × Bool)}(sim:Sim K ρ S H) (r:RD ρ H x x') (h:zdu tab x S=some (v,S')) :
  S' = S/\∃a c C b,x' = .ref a/\tab.lookup c=some b/\v=.bl b/\nsIn K mainGlobals c=some (some (.ref C))/\H a=some (.ext (phi a C)):=by
 unfold zdu at h
 split at h
 ·split at h
  ·rename_i n S c e
   obtain ⟨b,hb,h⟩:=bnd h
   cases h
   cases r with
   | @ref _ a hn =>
    obtain ⟨C,hc,hH⟩:=sim.at' n a _ hn e
    exact ⟨rfl,a,c,C,b,rfl,hb,rfl,hc,hH⟩
  ·cases h
 ·cases h
section
variable {X:Cx}{a:Expr}{ma:EM}{pos p tp p2:Pos}{es:List Expr}{Cs:List Addr}{x1:Nat}{tab:List (Str × Bool)}{y:Str}{D0:Addr}
theorem znv:bootBuiltins "isinstance" = some (.builtin "isinstance"):=by decide +kernel
theorem zsm (hg:Gl X "isinstance") (hm:X.mg "isinstance" = none) (ha:PE3 X a ma) (hn:PN X es Cs) (hl:Cs.length<=sizeLine)
  (hk:∀c b C,tab.lookup c=some b->nsIn X.K mainGlobals c=some (some (.ref C))->ExcQ X.K C/\kitAny X.K (.ref C) (Cs.map Value.ref)=some b)
  (he:starEach (a :: [.Tuple es x1 tp]) X.env=(false,eval a X.env) :: starEach [.Tuple es x1 tp] X.env:=by rfl) (he2:starEach [.Tuple es x1 tp] X.env=(false,eval (.Tuple es x1 tp) X.env) :: starEach [] X.env:=by rfl) (hpl:(backTo pos (starEach [.Tuple es x1 tp] X.env)).any (·.1)=false:=by rfl) :
  PE3 X (.Call (.Name "isinstance" p) [a,.Tuple es x1 tp] [] pos) (eUn (zdu tab) ma) :=
 PE.imp (zh8 ydo hg hm znv (zcz ha (zcz (zps hn) zex he2) he) (by decide) (by decide) he hpl) λσ H Q hx1_=>by
  obtain ⟨ρ,l,S,v,S',sim,ro,hq,pz⟩:=hx1_
  obtain ⟨⟨x,S1⟩,h1,hq⟩:=bnd hq
  refine ⟨ρ,l,S,x,S1,sim,ro,h1,λρ1 H1 x' e1 s1 r1=>?_⟩
  obtain ⟨rfl,a',c,C,b,rfl,hb,rfl,hc,hH⟩:=znu s1 r1 hq
  obtain ⟨q1,q2⟩:=hk c b C hb hc
  refine ⟨by rw [qlm];exact hl,λt ht=>?_⟩
  refine ⟨a',t,C,Cs,b,rfl,?_,zbf,q1,q2,?_⟩
  ·rw [zan (zbc hH ht)];exact hH
  ·exact pz ρ1 _ _ (e1.trans (zbu ht)) (s1.laid ht) (.bl b)
theorem zsn (hg:Gl X "isinstance") (hm:X.mg "isinstance" = none) (ha:PE3 X a ma) (hgy:Gl X y) (hmy:X.mg y=some (.ref D0))
  (hk:∀c b C,tab.lookup c=some b->nsIn X.K mainGlobals c=some (some (.ref C))->ExcQ X.K C/\kitOne X.K (.ref C) (.ref D0)=some b) (hd:(y == ("__debug__":Str))=false:=by decide)
  (he:starEach (a :: [.Name y p2]) X.env=(false,eval a X.env) :: starEach [.Name y p2] X.env:=by rfl) (he2:starEach [.Name y p2] X.env=(false,eval (.Name y p2) X.env) :: starEach [] X.env:=by rfl) (hpl:(backTo pos (starEach [.Name y p2] X.env)).any (·.1)=false:=by rfl) :
  PE3 X (.Call (.Name "isinstance" p) [a,.Name y p2] [] pos) (eUn (zdu tab) ma) :=
 PE.imp (zh8 (zsl (c:=.ref D0) (cv:=.ref D0) λu h=>h) hg hm znv (zcz ha (zcz (zsi hgy hmy hd) zex he2) he) (by decide) (by decide) he hpl) λσ H Q hx2_=>by
  obtain ⟨ρ,l,S,v,S',sim,ro,hq,pz⟩:=hx2_
  obtain ⟨⟨x,S1⟩,h1,hq⟩:=bnd hq
  refine ⟨ρ,l,S,x,S1,sim,ro,h1,λρ1 H1 x' e1 s1 r1=>?_⟩
  obtain ⟨rfl,a',c,C,b,rfl,hb,rfl,hc,hH⟩:=znu s1 r1 hq
  obtain ⟨q1,q2⟩:=hk c b C hb hc
  exact ⟨a',C,b,rfl,hH,q1,q2,pz ρ1 _ _ e1 s1 (.bl b)⟩
theorem ydq {U:String}(hg:Gl X "isinstance") (hm:X.mg "isinstance" = none) (ha:PE3 X a ma) (hgy:Gl X y) (hmy:X.mg y=none) (hv:bootBuiltins y=some (.type U))
  (hk:∀c b C,tab.lookup c=some b->nsIn X.K mainGlobals c=some (some (.ref C))->ExcQ X.K C/\kitOne X.K (.ref C) (.type U)=some b) (hn:y≠"__name__":=by decide) (hdb:(y == ("__debug__":Str))=false:=by decide)
  (he:starEach (a :: [.Name y p2]) X.env=(false,eval a X.env) :: starEach [.Name y p2] X.env:=by rfl) (he2:starEach [.Name y p2] X.env=(false,eval (.Name y p2) X.env) :: starEach [] X.env:=by rfl) (hpl:(backTo pos (starEach [.Name y p2] X.env)).any (·.1)=false:=by rfl) :
  PE3 X (.Call (.Name "isinstance" p) [a,.Name y p2] [] pos) (eUn (zdu tab) ma) :=
 PE.imp (zh8 (zsl (c:=.ty U) (cv:=.type U) λu h=>h) hg hm znv (zcz ha (zcz (zpa (v:=.ty U) hgy hmy hv rfl hn hdb) zex he2) he) (by decide) (by decide) he hpl) λσ H Q hx3_=>by
  obtain ⟨ρ,l,S,v,S',sim,ro,hq,pz⟩:=hx3_
  obtain ⟨⟨x,S1⟩,h1,hq⟩:=bnd hq
  refine ⟨ρ,l,S,x,S1,sim,ro,h1,λρ1 H1 x' e1 s1 r1=>?_⟩
  obtain ⟨rfl,a',c,C,b,rfl,hb,rfl,hc,hH⟩:=znu s1 r1 hq
  obtain ⟨q1,q2⟩:=hk c b C hb hc
  exact ⟨a',C,b,rfl,hH,q1,q2,pz ρ1 _ _ e1 s1 (.bl b)⟩
end
theorem ydr {c0:Str}{R:Str->Prop}(h:R c0):∀c,(c == c0)=true->R c:=λc hc=>by
 have e:c=c0:=by simpa using hc
 rw [e];exact h
def zso (X:Cx) (T:String) (ty:V->Hp->Prop):Prop:=∀(pins:List (Addr × Obj)) (s:Shared) (σ:St) (H:Hp) (x:V) (v:Value),Inv X pins σ H s->RelV x v->ty x H ->
 s.TypeIs v T/\∀a,v=.ref a->∃ob,s.heap.get? a=some ob/\ob.dict=none
section
variable {X:Cx}{o e:Expr}{es:List Expr}{to:TE}{t:TA}{name:Str}{apos cpos:Pos}{T id:String}{r:V->List V->Hp->VK->Prop}{ty:V->Hp->Prop}
theorem zsp (tok:zso X T ty) (pa:PlainAttrs T) (slot:Slot T name id) (hty:typeOf (.builtin id)=pure (.type "method_descriptor")) (hm:MtM X id r) (ho:PE X o to) (ha:PA X (e :: es) t)
  (hbase:attributeBase o name X.env (eval o X.env)=eval o X.env:=by rfl)
  (hfew:((backTo cpos (starEach (e :: es) X.env)).all (λx=>!x.1) && (backToKw cpos (keywordEach [] X.env)).all (λx=>x.1.isSome)
   && decide ((e :: es).length+([]:List Keyword).length+(if ([]:List Keyword).isEmpty then 0 else 1)<30))=true:=by rfl)
  (hline:(apos.endLine == cpos.line)=true:=by rfl) (hs:starEach (e :: es) X.env=(false,eval e X.env) :: starEach es X.env:=by rfl) (hplain:(backTo cpos (starEach es X.env)).any (·.1)=false:=by rfl) :
  PE X (.Call (.Attribute o name apos) (e :: es) [] cpos) (λσ H Q=>to σ H λx H1=>ty x H1/\t σ H1 λxs H2=>r x xs H2 Q):=by
 intro pins s σ H Q I h
 refine wpAny_Call_method_late hbase hfew hline rfl (thn (ho pins s σ H _ I h) λv s1 ⟨x,H1,I1,r1,ty1,q1⟩=>?_)
 obtain ⟨h1,h2⟩:=tok pins s1 σ H1 x v I1 r1 ty1
 refine ⟨T,id,pa,slot,hty,h1,h2,?_⟩
 have hA:=ha cpos pins s1 σ H1 _ I1 q1
 rw [hs] at hA ⊢
 refine Calls.callWith_builtin (by show (false || (backTo cpos (starEach es X.env)).any (·.1))=false;rw [hplain] <;> rfl) (Calls.evalArgs_plain ?_)
 exact thn hA λus s2 ⟨vs,H2,I2,r2,q2⟩=>hm pins s2 σ H2 x vs v us Q I2 r1 r2 q2
end
theorem zsq (is:List Int):zde (is.map D.int)=some is:=by
 induction is with
 | nil=>rfl
 | cons i r ih=>show (zde (r.map D.int)).bind _=_;rw [ih];rfl
section
variable {X:Cx}{j:Nat}
end
section
variable {X:Cx}{j:Nat}{o e:Expr}{mo m:EM}{apos cpos:Pos}
variable {a b:Expr}{ma mb:EM}{pos:Pos}
end
noncomputable def zi3:List D->Option (List Key)
 | []=>some []
 | x :: r=>(ze8 x).bind λk=>(zi3 r).bind λks=>some (k :: ks)
noncomputable def zk0:D->Option (List Key)
 | .tup xs=>zi3 xs
 | _=>none
theorem zsr {ρ:List Addr}{H:Hp}:∀{xs:List D}{ks:List Key}{vs:List V},zi3 xs=some ks->RDs ρ H xs vs->vs=ks.map kV
 | [],ks,vs,h,r=>by cases h;cases r;rfl
 | x :: xs,ks,vs,h,r=>by
  cases r with
  | cons r1 r2 =>
   obtain ⟨k,h1,h⟩:=bnd (show (ze8 x).bind (λk=>(zi3 xs).bind λks=>some (k :: ks))=some ks from h)
   obtain ⟨ks',h2,h⟩:=bnd h
   cases h
   rw [zsr h2 r2,zhr h1 r1];rfl
theorem znw {ρ:List Addr}{H:Hp}{d:D}{v:V}{k:List Key}(h:zk0 d=some k) (r:RD ρ H d v):∃b,v=.ref b/\H b=some (.tup (k.map kV)):=by
 cases r with
 | @tup xs b vs hb rs =>
  have:=zsr (show zi3 xs=some k from h) rs
  subst this
  exact ⟨b,rfl,hb⟩
 | _=>cases h
noncomputable def zfa (kvs:List (List Key × D)) (k:List Key):Option D:=(kvs.find? λkv=>decide (kv.1=k)).map (·.2)
noncomputable def zk1 (kvs:List (List Key × D)) (k:List Key) (v:D):List (List Key × D):=if (kvs.any λkv=>decide (kv.1=k))=true then kvs.map (λkv=>if kv.1=k then (kv.1,v) else kv) else kvs++[(k,v)]
section
variable {K:QFg}{ρ:List Addr}{H:Hp}{S:Sto}
theorem znx {k:List Key}:∀{kvs:List (List Key × D)}{vs:List V},RDs ρ H (kvs.map (·.2)) vs->(zfa kvs k=none->zca ((kvs.map (·.1)).zip vs) k=none)/\∀d,zfa kvs k=some d->∃v,zca ((kvs.map (·.1)).zip vs) k=some v/\RD ρ H d v
 | [],vs,r=>by
  cases r
  exact ⟨λ_=>rfl,λd h=>by cases h⟩
 | (k',d') :: kvs,vs,r=>by
  cases r with
  | @cons _ v _ vs r1 r2 =>
   by_cases e:k' = k
   ·have e1:zfa ((k',d') :: kvs) k=some d':=by simp [zfa,e]
    have e2:zca ((((k',d') :: kvs).map (·.1)).zip (v :: vs)) k=some v:=zia (p:=(k',v)) e
    rw [e1,e2]
    exact ⟨λz=>(by cases z),λd h=>(by cases h;exact ⟨v,rfl,r1⟩)⟩
   ·have e1:zfa ((k',d') :: kvs) k=zfa kvs k:=by simp [zfa,e]
    have e2:zca ((((k',d') :: kvs).map (·.1)).zip (v :: vs)) k=zca ((kvs.map (·.1)).zip vs) k:=zib (p:=(k',v)) e
    rw [e1,e2]
    exact znx r2
theorem zss (k:List Key):∀{kvs:List (List Key × D)}{vs:List V},RDs ρ H (kvs.map (·.2)) vs->(((kvs.map (·.1)).zip vs).any λkv=>decide (kv.1=k))=kvs.any λkv=>decide (kv.1=k)
 | [],vs,r=>by cases r;rfl
 | (k',d') :: kvs,vs,r=>by
  cases r with
  | @cons _ v _ vs r1 r2 =>
   show (decide (k' = k) || (((kvs.map (·.1)).zip vs).any λkv=>decide (kv.1=k)))=(decide (k' = k) || _)
   rw [zss k r2]
theorem yds {k:List Key}{d:D}{v:V}(rv:RD ρ H d v) {kvs:List (List Key × D)}{vs:List V}(r:RDs ρ H (kvs.map (·.2)) vs):∃ws,zbx ((kvs.map (·.1)).zip vs) k v=((zk1 kvs k d).map (·.1)).zip ws/\RDs ρ H ((zk1 kvs k d).map (·.2)) ws:=by
 unfold zbx zk1
 rw [zss k r]
 by_cases e:(kvs.any λkv=>decide (kv.1=k))=true
 ·rw [if_pos e,if_pos e]
  clear e
  induction kvs generalizing vs with
  | nil=>cases r;exact ⟨[],rfl,.nil⟩
  | cons p kvs ih =>
   obtain ⟨k',d'⟩:=p
   cases r with
   | @cons _ u _ us r1 r2 =>
    obtain ⟨ws,h1,h2⟩:=ih r2
    by_cases e:k' = k
    ·refine ⟨v :: ws,?_,?_⟩
     ·simp only [List.map_cons,List.zip_cons_cons,if_pos e];rw [<-h1]
     ·simp only [List.map_cons,if_pos e];exact .cons rv h2
    ·refine ⟨u :: ws,?_,?_⟩
     ·simp only [List.map_cons,List.zip_cons_cons,if_neg e];rw [<-h1]
     ·simp only [List.map_cons,if_neg e];exact .cons r1 h2
 ·rw [if_neg e,if_neg e]
  refine ⟨vs++[v],?_,?_⟩
  ·rw [List.map_append,List.zip_append (by rw [qlm];have:=r.length;rw [qlm] at this;exact this)];rfl
  ·rw [List.map_append];exact r.append (.cons rv .nil)
end
noncomputable def dRd (S:Sto):D->D->Option (Option D)
 | .ref n,y=>match S[n]? with
  | some (.dct kvs)=>(ze8 y).bind λk=>some (zdd kvs k)
  | some (.fdct kvs)=>(ze8 y).bind λk=>some (zdd kvs k)
  | some (.tdct kvs)=>(zk0 y).bind λk=>some (zfa kvs k)
  | some (.ftdct kvs)=>(zk0 y).bind λk=>some (zfa kvs k)
  | _=>none
 | _,_=>none
def Ro1 (ρ:List Addr) (H:Hp) (o:Option D) (o':Option V):Prop:=(o=none->o' = none)/\∀d,o=some d->∃v,o' = some v/\RD ρ H d v
theorem Sim.dRd {K:QFg}{ρ:List Addr}{H:Hp}{S:Sto}{x y:D}{x' y':V}{o:Option D}(s:Sim K ρ S H) (rx:RD ρ H x x') (ry:RD ρ H y y') (h:L3.dRd S x y=some o):∃a o',x' = .ref a/\DGet H a y' o'/\Ro1 ρ H o o':=by
 unfold L3.dRd at h
 split at h
 ·cases rx with
  | @ref n a hn =>
   split at h
   ·rename_i e
    obtain ⟨k,hk,h⟩:=bnd h
    cases h
    obtain ⟨vs,hH,r⟩:=s.at' _ a _ hn e
    have ey:=zhr hk ry
    subst ey
    exact ⟨a,_,rfl,.inl ⟨_,k,.inl hH,rfl,rfl⟩,zkq r⟩
   ·rename_i e
    obtain ⟨k,hk,h⟩:=bnd h
    cases h
    obtain ⟨ob,vs,hH,r⟩:=s.at' _ a _ hn e
    have ey:=zhr hk ry
    subst ey
    exact ⟨a,_,rfl,.inl ⟨_,k,.inr ⟨ob,hH⟩,rfl,rfl⟩,zkq r⟩
   ·rename_i e
    obtain ⟨k,hk,h⟩:=bnd h
    cases h
    obtain ⟨vs,hH,r⟩:=s.at' _ a _ hn e
    obtain ⟨b,rfl,hb⟩:=znw hk ry
    exact ⟨a,_,rfl,.inr ⟨_,k,b,.inl hH,rfl,hb,rfl⟩,znx r⟩
   ·rename_i e
    obtain ⟨k,hk,h⟩:=bnd h
    cases h
    obtain ⟨ob,vs,hH,r⟩:=s.at' _ a _ hn e
    obtain ⟨b,rfl,hb⟩:=znw hk ry
    exact ⟨a,_,rfl,.inr ⟨_,k,b,.inr ⟨ob,hH⟩,rfl,hb,rfl⟩,znx r⟩
   ·cases h
 ·cases h
noncomputable def zgm:D->D->Sto->Option (D × Sto):=λx y S=>(dRd S x y).bind λo=>o.bind λv=>some (v,S)
theorem ydt {K:QFg}:Op3 K zgm zr2:=by
 intro ρ S H x y x' y' v S' Q sim rx ry h p
 obtain ⟨o,h1,h⟩:=bnd h
 obtain ⟨w,h2,h⟩:=bnd h
 cases h
 obtain ⟨a,o',rfl,g,r⟩:=sim.dRd rx ry h1
 obtain ⟨u,e,ru⟩:=r.2 _ h2
 subst e
 exact ⟨a,u,rfl,g,p ρ H u (Ext.refl ..) sim ru⟩
section
variable {X:Cx}{a b e f o i value:Expr}{ma mb me mf mo mi mv:EM}{pos pos' apos cpos:Pos}{k:Nat}
theorem zst (hr:Room k X.A) (ha:PE3 X a ma) (hb:PE3 X b mb) (hs:zj1 b:=by intro _ _;rfl):PE3 X (.Subscript a b pos) (eOp zgm ma mb):=PE.imp (zqt (zkr hr) ha hb hs) (zg9 ydt)
end
section
variable {X:Cx}{pos:Pos}
end
theorem zsu (kvs:List (List Key × V)):zf0 (.dT kvs):=⟨λ_ z=>(by cases z),λ_ _ z=>(by cases z)⟩
noncomputable def zgn:D->D->D->Sto->Option Sto
 | .ref n,y,v,S=>match S[n]? with
  | some (.dct kvs)=>(ze8 y).bind λk=>if kvs.length<sizeLine then some (S.set n (.dct (ze9 kvs k v))) else none
  | some (.tdct kvs)=>(zk0 y).bind λk=>if kvs.length<sizeLine then some (S.set n (.tdct (zk1 kvs k v))) else none
  | _=>none
 | _,_,_,_=>none
theorem ydu {ρ:List Addr}{H:Hp}{kvs:List (List Key × D)}{vs:List V}(r:RDs ρ H (kvs.map (·.2)) vs):((kvs.map (·.1)).zip vs).length=kvs.length:=by
 rw [List.length_zip,qlm];have:=r.length;rw [qlm] at this;omega
theorem ydv {K:QFg}{ρ:List Addr}{S S':Sto}{H:Hp}{x y d:D}{x' y' v':V}(s:Sim K ρ S H) (rx:RD ρ H x x') (ry:RD ρ H y y') (rd:RD ρ H d v') (h:zgn x y d S=some S'):∃a H',x' = .ref a/\DPut H a y' v' H'/\Ext ρ H ρ H'/\Sim K ρ S' H':=by
 unfold zgn at h
 split at h
 ·cases rx with
  | @ref n a hn =>
   split at h
   ·rename_i kvs e
    obtain ⟨k,hk,h⟩:=bnd h
    obtain ⟨hz,e2⟩:=za8 h
    cases e2
    obtain ⟨vs,hH,r⟩:=s.at' _ a _ hn e
    have ey:=zhr hk ry
    subst ey
    obtain ⟨ws,hw1,hw2⟩:=zr1 (k:=k) rd r
    have ex:=zj3 (o:=.dK (zbx ((kvs.map (·.1)).zip vs) k v')) hn hH (zks _)
    refine ⟨a,_,rfl,DPut.k hH (by rw [yc3 r];exact hz),ex,s.setG hn e rfl hH (zks _) ⟨ws,by rw [zbf,hw1],hw2.mono ex⟩⟩
   ·rename_i kvs e
    obtain ⟨k,hk,h⟩:=bnd h
    obtain ⟨hz,e2⟩:=za8 h
    cases e2
    obtain ⟨vs,hH,r⟩:=s.at' _ a _ hn e
    obtain ⟨b,rfl,hb⟩:=znw hk ry
    obtain ⟨ws,hw1,hw2⟩:=yds (k:=k) rd r
    have ex:=zj3 (o:=.dT (zbx ((kvs.map (·.1)).zip vs) k v')) hn hH (zsu _)
    refine ⟨a,_,rfl,DPut.t hH hb (by rw [ydu r];exact hz),ex,s.setG hn e rfl hH (zsu _) ⟨ws,by rw [zbf,hw1],hw2.mono ex⟩⟩
   ·cases h
 ·cases h
noncomputable def zi4 (o i:EM):GM:=λv l S=>(o l S).bind λp=>(i l p.2).bind λq=>(zgn p.1 q.1 v q.2).bind λS'=>some (l,S')
section
variable {X:Cx}{o i value:Expr}{mo mi mv:EM}{pos pos':Pos}{k:Nat}
theorem zsv (hr:Room k X.A) (ho:PE3 X o mo) (hi:PE3 X i mi) (hv:PE3 X value mv) (hs:swapsWith value (some (.Subscript o i pos')) pos.line X.env=pure false:=by rfl) :
  PS3 X (.Assign [.Subscript o i pos'] value pos) (zaq mv (zi4 mo mi)):=PS.imp (zqu (zkr hr) ho hi hv hs) λE σ H hx4_=>by
 obtain ⟨ρ,l,S,f,l',S',sim,ro,hm,p⟩:=hx4_
 obtain ⟨⟨d,S1⟩,h1,hm⟩:=bnd hm
 obtain ⟨⟨l2,S2⟩,h2,hm⟩:=bnd hm
 obtain ⟨⟨x,S3⟩,h3,h2⟩:=bnd h2
 obtain ⟨⟨y,S4⟩,h4,h2⟩:=bnd h2
 obtain ⟨S5,h5,h2⟩:=bnd h2
 cases h2;cases hm
 refine ⟨ρ,l,S,d,S1,sim,ro,h1,λρ1 H1 v' e1 s1 r1=>⟨ρ1,l,S1,x,S3,s1,ro.mono e1,h3,λρ2 H2 x' e2 s2 r2=>⟨ρ2,l,S3,y,S4,s2,(ro.mono e1).mono e2,h4,λρ3 H3 y' e3 s3 r3=>?_⟩⟩⟩
 obtain ⟨a,H4,rfl,pu,ex,s4⟩:=ydv s3 (r2.mono e3) r3 (r1.mono (e2.trans e3)) h5
 exact ⟨a,H4,rfl,pu,p ρ3 _ σ ((e1.trans (e2.trans e3)).trans ex) s4 ((((ro.mono e1).mono e2).mono e3).mono ex)⟩
end
def Fnc (K:QFg) (mg:Str->Option Value) (x:Str):Prop:=∃f o,PySem.W.nsIn K mainGlobals x=some (some (.ref f))/\K.lookup f=some o/\mg x=some (.ref f)
section
variable {K:QFg}{ρ:List Addr}{H:Hp}{S:Sto}
end
section
variable {X:Cx}{x y:Str}{pos p:Pos}{a:Expr}{es:List Expr}
end
section
variable {k:Nat}{names:List (Str × NameKind)}{acc:List (Str × Addr)}
theorem zny:∀{names:List (Str × NameKind)}{k:Nat}{acc:List (Str × Addr)}{x:Str}{c:Addr},(x,c)∈cellsFrom k names acc->(x,c)∈acc\/(k<=c/\(x,NameKind.cell)∈names)
 | [],_,_,_,_,h=>.inl h
 | (n,kd) :: r,k,acc,x,c,h=>by
  unfold cellsFrom at h
  split at h
  ·rename_i hk
   have hk:kd=.cell:=by simpa using hk
   subst hk
   rcases zny h with h|⟨h1,h2⟩
   ·rcases List.mem_cons.mp h with e|h
    ·cases e;exact .inr ⟨qlr _,List.mem_cons_self⟩
    ·exact .inl h
   ·exact .inr ⟨by omega,List.mem_cons_of_mem _ h2⟩
  ·rcases zny h with h|⟨h1,h2⟩
   ·exact .inl h
   ·exact .inr ⟨h1,List.mem_cons_of_mem _ h2⟩
theorem znz:∀{names:List (Str × NameKind)}{k:Nat}{acc:List (Str × Addr)},(∀x y c,(x,c)∈acc->(y,c)∈acc->x=y)->(∀x c,(x,c)∈acc->c<k)->∀x y c,(x,c)∈cellsFrom k names acc->(y,c)∈cellsFrom k names acc->x=y
 | [],_,_,hi,_,x,y,c,h1,h2=>hi x y c h1 h2
 | (n,kd) :: r,k,acc,hi,hl,x,y,c,h1,h2=>by
  unfold cellsFrom at h1 h2
  split at h1
  ·rename_i hk
   rw [if_pos hk] at h2
   refine znz (λx y c g1 g2=>?_) (λx c g=>?_) x y c h1 h2
   ·rcases List.mem_cons.mp g1 with e1|g1 <;> rcases List.mem_cons.mp g2 with e2|g2
    ·cases e1;cases e2;rfl
    ·cases e1;exact absurd (hl _ _ g2) (Nat.lt_irrefl _)
    ·cases e2;exact absurd (hl _ _ g1) (Nat.lt_irrefl _)
    ·exact hi x y c g1 g2
   ·rcases List.mem_cons.mp g with e|g
    ·cases e;exact Nat.lt_succ_self _
    ·exact Nat.lt_succ_of_lt (hl _ _ g)
  ·rename_i hk
   rw [if_neg hk] at h2
   exact znz hi hl x y c h1 h2
theorem zk2:∀{names:List (Str × NameKind)}{k:Nat}{acc:List (Str × Addr)}{x:Str},((x,NameKind.cell)∈names\/∃c,acc.lookup x=some c)->∃c,(cellsFrom k names acc).lookup x=some c
 | [],_,_,x,h=>by
  rcases h with h|h
  ·cases h
  ·exact h
 | (n,kd) :: r,k,acc,x,h=>by
  unfold cellsFrom
  split
  ·rename_i hk
   have hk:kd=.cell:=by simpa using hk
   subst hk
   refine zk2 ?_
   by_cases hx:x=n
   ·exact .inr ⟨k,by rw [hx,List.lookup_cons];simp⟩
   ·rcases h with h|⟨c,h⟩
    ·rcases List.mem_cons.mp h with e|h
     ·cases e;exact absurd rfl hx
     ·exact .inl h
    ·refine .inr ⟨c,?_⟩
     rw [List.lookup_cons]
     have:(x == n)=false:=by simpa using hx
     rw [this];exact h
  ·rename_i hk
   refine zk2 ?_
   rcases h with h|h
   ·rcases List.mem_cons.mp h with e|h
    ·cases e;simp at hk
    ·exact .inl h
   ·exact .inr h
theorem zn0:∀{names:List (Str × NameKind)}{k:Nat}{acc:List (Str × Addr)}{x:Str},(x,NameKind.cell) ∉ names->(cellsFrom k names acc).lookup x=acc.lookup x
 | [],_,_,_,_=>rfl
 | (n,kd) :: r,k,acc,x,h=>by
  unfold cellsFrom
  split
  ·rename_i hk
   have hk:kd=.cell:=by simpa using hk
   subst hk
   rw [zn0 λz=>h (List.mem_cons_of_mem _ z),List.lookup_cons]
   have:(x == n)=false:=by
    have:x≠n:=λe=>h (by rw [e];exact List.mem_cons_self)
    simpa using this
   rw [this]
  ·exact zn0 λz=>h (List.mem_cons_of_mem _ z)
theorem zn1:∀{names:List (Str × NameKind)}{k k0:Nat}{acc:List (Str × Addr)}{x:Str}{c:Addr},k0<=k->((x,NameKind.cell)∈names\/∃c',acc.lookup x=some c'/\k0<=c')->(cellsFrom k names acc).lookup x=some c->k0<=c
 | [],k,k0,acc,x,c,_,h,e=>by
  have e:acc.lookup x=some c:=e
  rcases h with h|⟨c',h,q⟩
  ·cases h
  ·rw [h] at e;cases e;exact q
 | (n,kd) :: r,k,k0,acc,x,c,hk0,h,e=>by
  unfold cellsFrom at e
  split at e
  ·rename_i hk
   have hk:kd=.cell:=by simpa using hk
   subst hk
   refine zn1 (by omega) ?_ e
   by_cases hx:x=n
   ·exact .inr ⟨k,by rw [hx,List.lookup_cons];simp,hk0⟩
   ·rcases h with h|⟨c',h,q⟩
    ·rcases List.mem_cons.mp h with e|h
     ·cases e;exact absurd rfl hx
     ·exact .inl h
    ·refine .inr ⟨c',?_,q⟩
     rw [List.lookup_cons]
     have:(x == n)=false:=by simpa using hx
     rw [this];exact h
  ·rename_i hk
   refine zn1 hk0 ?_ e
   rcases h with h|h
   ·rcases List.mem_cons.mp h with e|h
    ·cases e;simp at hk
    ·exact .inl h
   ·exact .inr h
theorem zgo (env:Env):∀(names:List (Str × NameKind)) (cs:List (Str × Addr)),(∀x c,(x,c)∈cs->env.cells.lookup x=some c)->∀x c,(x,c)∈zb8 env names cs->env.cells.lookup x=some c
 | [],cs,h,x,c,q=>h x c q
 | (n,k) :: r,cs,h,x,c,q=>by
  unfold zb8 at q
  split at q
  ·split at q
   ·rename_i c' e
    refine zgo env r _ (λy d hy=>?_) x c q
    rcases List.mem_cons.mp hy with z|hy
    ·cases z;exact e
    ·exact h y d hy
   ·exact zgo env r cs h x c q
  ·exact zgo env r cs h x c q
theorem zn2:∀{names:List (Str × NameKind)}{h:Heap}{acc:List (Str × Addr)}{x:Str}{c:Addr},(x,c)∈cellsFrom h.objs.size names acc->(x,c)∈acc\/(pushCells h names).IsCell c none
 | [],_,_,_,_,q=>.inl q
 | (n,kd) :: r,h,acc,x,c,q=>by
  unfold cellsFrom at q
  unfold pushCells
  split at q
  ·rename_i hk
   rw [if_pos hk]
   have:=zn2 (names:=r) (h:=h.push { cls:=.type "cell",data:=.cell none }) (acc:=(n,h.objs.size) :: acc) (x:=x) (c:=c) (by rw [Heap.size_push];exact q)
   rcases this with z|z
   ·rcases List.mem_cons.mp z with e|z
    ·cases e
     exact .inr ⟨_,pushCells_keeps r _ _ _ (Heap.get?_push_size _ rfl),rfl⟩
    ·exact .inl z
   ·exact .inr z
  ·rename_i hk
   rw [if_neg hk]
   exact zn2 q
end
theorem ydw {M:Model}{A:Around}{E:Value->Shared->Prop}{s:Shared}{scope:Scope}{globals:Addr}{cl:List (Str × Addr)}{qual:Str}{outer:Env}{Q:Env->Shared->Prop}
  (hQ:∀h',h'.Ns s.heap.objs.size (λ_=>none)->(∀b o,s.heap.get? b=some o->h'.get? b=some o)->(∀x c,(x,c)∈cellsFrom (s.heap.objs.size+1) scope.names cl->(x,c)∈cl\/h'.IsCell c none) ->
   Q (newEnv scope s.heap.objs.size globals (cellsFrom (s.heap.objs.size+1) scope.names cl) qual none .none (some outer) builtinsNs) { s with heap:=h' }) :
  wpAny M A (newFunctionEnv scope globals cl [] qual none .none (some outer)) Q E s:=by
 unfold newFunctionEnv
 refine qwb (wpAny_alloc ?_)
 refine qwb (wpAny_layCells _ (λname kind cells=>by cases hkc:kind == NameKind.cell <;> simp [hkc]) _ _ _ _ ?_)
 dsimp only
 rw [List.forIn_nil]
 refine qwb (qwp (qwp ?_))
 have hz:(s.heap.push { cls:=.type "dict",data:=.dict #[] }).objs.size=s.heap.objs.size+1:=Heap.size_push ..
 have h1:=hQ (pushCells (s.heap.push { cls:=.type "dict",data:=.dict #[] }) scope.names) ((Heap.Ns.new s.heap (.type "dict")).keeps (pushCells_keeps _ _)) (λb o e=>pushCells_keeps _ _ b o (qps _ e)) (λx c q=>zn2 (by rw [hz];exact q))
 simp only [Option.isSome_some,if_true,hz]
 exact h1
noncomputable def cxD (X:Cx) (N':List Str) (scope:Scope) (C:Addr) (s:Shared) (H:Hp) (fp:List Addr) (pins:List (Addr × Obj)):Cx where
 prog:=X.prog
 w:=X.w
 K:=X.K
 mg:=X.mg
 base:=X.base
 A:=X.A
 N:=N'
 s₀:=s
 H₀:=H
 env:=compEnvC scope (cellsFrom (C+1) scope.names (zb8 X.env scope.names [])) C X.env
 outer:=X.stack
 stack:=X.stack
 ex:=fp
 fn:=λx=>scope.names.contains (x,NameKind.cell)
 calm:=X.calm
 pn:=X.pn++pins
 xe:=λ_ _=>False
structure CompSd (X:Cx) (N':List Str) (scope:Scope) (src:St->St):Prop where
 kind:scope.kind=.function
 names:∀y∈scope.names,y.2=.local->scope.names.lookup y.1=some .local
 free:∀y∈scope.names,y.2=.free->X.env.kindOf y.1=some .cell\/X.env.kindOf y.1=some .free
 rel:∀y,(relabel scope X.env).names.lookup y=some .cell\/(relabel scope X.env).names.lookup y=some .free->(y,NameKind.free)∈scope.names\/(y,NameKind.cell)∈scope.names
 one:∀y,scope.names.lookup y=some .free->(y,NameKind.cell) ∉ scope.names
 len:∀σ,(src σ).length=N'.length
 src:∀σ (i:Nat) v x,(src σ)[i]? = some (some v)->N'[i]? = some x->∃j:Nat,X.N[j]? = some x/\σ[j]? = some (some v)/\scope.names.lookup x=some .free
theorem zsw {X:Cx}{N':List Str}{elt iter tgt:Expr}{ifs:List Expr}{scope:Scope}{pos pos':Pos}{use:Option (Value->Sem Unit)}{R:Value->Shared->Prop}{pins:List (Addr × Obj)}{s:Shared}{σ:St}{H:Hp}{Q:VK}{wi:TI}{src:St->St}{g:TG}{tts:TT}{t:TE}(hcalm:X.calm=true) (sc:CompSd X N' scope src)
  (hi:PI X tgt iter wi) (hg:∀C s H fp pins,PG (cxD X N' scope C s H fp pins) tgt g) (ht:∀C s H fp pins,PTs (cxD X N' scope C s H fp pins) ifs tts) (he:∀C s H fp pins,PE (cxD X N' scope C s H fp pins) elt t)
  (hs:∀x,foldedSetIterable iter X.env x=pure x) (I:Inv X pins σ H s) (h:zke X.K wi src g tts t σ H Q)
  (fin:∀D H5 s6 C mC,Inv X pins σ H5 s6->zdj X pins H5 C->s6.heap.Ns C mC->Q (.ref D) H5->compPost (model X.prog X.w) X.A X.xe use R (.ref D) C (.ok .next) s6) :
  wpAny (model X.prog X.w) X.A (comprehension (.ListComp elt [⟨tgt,iter,ifs,0⟩] scope pos) scope X.env pos' (newList []) false (eval iter X.env) use) R X.xe s:=by
 have hasC:∀x∈scope.names,x.2=.free->∃c,X.env.cells.lookup x.1=some c:=λx hx hf=>I.ok.has x.1 (sc.free x hx hf)
 refine wpAny_comprehension_free (use:=use) (env:=X.env) rfl hs (yar scope X.env hasC) sc.kind sc.names ?_
 show wpAny (model X.prog X.w) X.A (eval iter X.env) _ _ s
 refine wpAny_mono (hi pins s σ H _ I h) (λv s1 h1=>wpAny_mono h1 (λitv s2 h2=>?_) λ_ _ z=>z) λ_ _ z=>z
 obtain ⟨it,fp,tn,J,H2,rfl,I2,T,st2,f2,q⟩:=h2
 refine wpAny_newObj_type ?_ (by show 0<=sizeLine;exact Nat.zero_le _)
 have hD:H2 s2.heap.objs.size=none:=I2.hok.fresh (qlr _)
 have I3:Inv X pins σ (upd H2 s2.heap.objs.size (.lst [])) { s2 with heap:=s2.heap.push { cls:=.type "list",data:=.seq ([]:List Value).toArray } }:=I2.lnew (t':=s2.toks) .nil (Nat.zero_le _)
 obtain ⟨W,⟨m0,w0⟩,turn⟩:=q s2.heap.objs.size hD (by
  cases e:X.K.lookup s2.heap.objs.size with
  | none=>rfl
  | some o=>exact absurd (Heap.lt_size (I2.kIn _ o e)) (Nat.lt_irrefl _))
 refine ydw λh' hns old0 hown0=>?_
 have fpIn:∀b∈fp,∃o,s2.heap.get? b=some o/\∀v,o.data≠.cell v:=T.obj 0 s2.heap st2
 have fpD:∀b∈fp,b≠s2.heap.objs.size:=λb hb=>let ⟨o,e,_⟩:=fpIn b hb;Nat.ne_of_lt (Heap.lt_size e)
 have f3:∀b∈fp,zdj X pins (upd H2 s2.heap.objs.size (.lst [])) b:=λb hb=>⟨by rw [zan (fpD b hb)];exact (f2 b hb).1,(f2 b hb).2⟩
 have st3:tn 0 (s2.heap.push { cls:=.type "list",data:=.seq ([]:List Value).toArray }):=T.keep _ _ _ st2 λb hb o e=>qps _ e
 clear q hD h st2 f2 fpD
 generalize upd H2 s2.heap.objs.size (.lst [])=H3 at *
 generalize hDe:s2.heap.objs.size=D at *
 have fpIn3:∀b∈fp,∃o,(s2.heap.push { cls:=.type "list",data:=.seq ([]:List Value).toArray }).get? b=some o/\∀v,o.data≠.cell v:=T.obj 0 _ st3
 clear fpIn
 generalize s2.heap.push { cls:=.type "list",data:=.seq ([]:List Value).toArray }=h3 at *
 have old:∀b o,h3.get? b=some o->h'.get? b=some o:=old0
 have stkNo:∀b,b≠X.env.locals->b ∉ X.fs->b ∉ frs X.stack:=λb h1 h2 hb=>by
  rcases List.mem_cons.mp (I3.stkSub b hb) with z|z
  ·exact h1 z
  ·exact h2 z
 have sub:=zkd X.env scope.names [] (λx c z=>by simp at z)
 have clLt:∀x c,(x,c)∈zb8 X.env scope.names []->c<h3.objs.size:=λx c z=>by
  obtain ⟨v,o,ho,_⟩:=I3.cell x c (zgo X.env scope.names [] (λx c z=>by simp at z) x c z)
  exact Heap.lt_size ho
 have clInj:∀x y c,(x,c)∈zb8 X.env scope.names []->(y,c)∈zb8 X.env scope.names []->x=y:=λx y c z1 z2=>by
  have e1:=zgo X.env scope.names [] (λx c z=>by simp at z) x c z1
  have e2:=zgo X.env scope.names [] (λx c z=>by simp at z) y c z2
  exact I3.ok.inj x y c e1 e2
 have own:∀x c,(cellsFrom (h3.objs.size+1) scope.names (zb8 X.env scope.names [])).lookup x=some c->X.env.cells.lookup x=some c\/(h3.objs.size+1<=c/\h'.IsCell c none):=λx c z=>by
  have zm:=PySem.mem_of_lookup z
  rcases zny zm with y|⟨y,_⟩
  ·exact .inl (zgo X.env scope.names [] (λx c z=>by simp at z) x c y)
  ·rcases hown0 x c zm with q|q
   ·exact absurd (clLt x c q) (Nat.not_lt.mpr (Nat.le_of_succ_le y))
   ·exact .inr ⟨y,q⟩
 have cNe:∀b o,h3.get? b=some o->b≠h3.objs.size:=λb o e=>Nat.ne_of_lt (Heap.lt_size e)
 have exf:∀b∈fp,∀x c,(cellsFrom (h3.objs.size+1) scope.names (zb8 X.env scope.names [])).lookup x=some c->c≠b:=λb hb x c z=>by
  rcases own x c z with y|⟨y,_⟩
  ·exact (f3 b hb).2.2.2.2.1 x c y
  ·obtain ⟨o,e,_⟩:=fpIn3 b hb
   exact λz=>absurd (Nat.lt_of_lt_of_le (Heap.lt_size e) (Nat.le_of_succ_le y)) (by rw [z];exact Nat.lt_irrefl _)
 have frC:∀x c,(cellsFrom (h3.objs.size+1) scope.names (zb8 X.env scope.names [])).lookup x=some c->H3 c=none:=λx c z=>by
  rcases own x c z with y|⟨y,_⟩
  ·exact I3.freeC x c y
  ·exact I3.hok.fresh (Nat.le_of_succ_le y)
 have I4:Inv (cxD X N' scope h3.objs.size { s2 with heap:=h3 } H3 fp pins) [] (src σ) H3 { s2 with heap:=h',toks:=s2.toks }:=by
  refine ⟨⟨I3.ok.mod,sc.kind,I3.ok.glob,I3.ok.blt,qlr _,λx y c h1 h2=>znz clInj (λx c z=>Nat.lt_succ_of_lt (clLt x c z)) x y c (PySem.mem_of_lookup h1) (PySem.mem_of_lookup h2),λx hx=>?_,λx c z q=>Nat.le_of_succ_le (zn1 (k0:=h3.objs.size+1) (qlr _) (.inl (by have z:scope.names.contains (x,NameKind.cell)=true:=z;simpa using z)) q),I3.ok.hd,I3.ok.frames,.inl rfl,λb hb=>⟨?_,λx c z=>exf b hb x c z⟩,λb o e=>I3.bs b o e,Nat.le_trans I3.ok.bsz I3.sz,λb o e hb=>?_,λb hb=>stkNo b (f3 b hb).2.1 (f3 b hb).2.2.1,I3.stack,I3.stkFree⟩,
   rfl,I3.bare,Un.kept old,⟨_,hns,λi x v h1 h2 h3'=>?_⟩,λx c z=>?_,I3.hok.fresh (qlr _),λx c z=>frC x c z,λp hp=>?_,I3.hok.kept old,sc.len σ⟩
  ·rcases sc.rel x hx with hm|hm
   ·exact zk2 (.inr (zir X.env scope.names [] x (.inl hm) (hasC _ hm rfl)))
   ·exact zk2 (.inl hm)
  ·obtain ⟨o,e,_⟩:=fpIn3 b hb
   exact cNe b o e
  ·rcases (f3 b hb).2.2.2.1 with z|z
   ·exact I3.ok.noex b o e z
   ·have:=Heap.lt_size (I3.ok.bs b o e).1
    exact absurd (Nat.lt_of_lt_of_le this z) (Nat.lt_irrefl _)
  ·obtain ⟨j,e1,e2,e3⟩:=sc.src σ i v x h2 h1
   obtain ⟨m,hn,hl⟩:=I3.loc
   have hmem:=PySem.mem_of_lookup e3
   have hk:=sc.free (x,.free) hmem rfl
   have vis:Vis X.env.scope x:=by
    rcases hk with k|k
    ·exact .inr (.inl k)
    ·exact .inr (.inr k)
   obtain ⟨u,r,lk⟩:=hl j x v e1 e2 vis
   refine ⟨u,r,.inr ⟨?_,?_⟩⟩
   ·exact zre (scope:=scope) e3
   ·rcases lk with ⟨k,_⟩|⟨_,c,hc,hcell⟩
    ·rcases hk with k' | k' <;> (rw [k] at k';cases k')
    ·obtain ⟨c',hc'⟩:=zir X.env scope.names [] x (.inl hmem) ⟨c,hc⟩
     have:=sub x c' hc'
     rw [hc] at this;cases this
     have hc':(cellsFrom (h3.objs.size+1) scope.names (zb8 X.env scope.names [])).lookup x=some c:=by rw [zn0 (sc.one x e3)];exact hc'
     obtain ⟨o,ho,hd⟩:=hcell
     exact ⟨c,hc',o,old _ _ ho,hd⟩
  ·rcases own x c z with y|⟨_,y⟩
   ·obtain ⟨v,o,ho,hd⟩:=I3.cell x c y
    exact ⟨v,o,old _ _ ho,hd⟩
   ·exact ⟨none,y⟩
  ·have hp':p∈X.pn++pins:=by simpa [cxD] using hp
   obtain ⟨e,n,ne,nf,d⟩:=I3.pin p hp'
   exact ⟨old _ _ e,n,cNe _ _ e,stkNo _ ne nf,d⟩
 have st4:tn 0 h':=T.keep _ _ _ st3 λb hb o e=>old b o e
 have fr4:∀b∈fp,H3 b=none:=λb hb=>(f3 b hb).1
 have stat:∀{H':Hp},(∀b∈fp,H' b=none)->∀b∈fp,zdj (cxD X N' scope h3.objs.size { s2 with heap:=h3 } H3 fp pins) [] H' b:=λhn b hb=>by
  obtain ⟨g0,g1,g2,g3,g4,g5⟩:=f3 b hb
  obtain ⟨o,e,_⟩:=fpIn3 b hb
  exact ⟨hn b hb,cNe b o e,stkNo b g1 g2,.inl hb,λx c z=>exf b hb x c z,λp hp=>g5 p (by simpa [cxD] using hp)⟩
 have loop:codeAny (model X.prog X.w) X.A (.compLoop (.ListComp elt [⟨tgt,iter,ifs,0⟩] scope pos) 0 (.ref it) (.ref D) (compEnvC scope (cellsFrom (h3.objs.size+1) scope.names (zb8 X.env scope.names [])) h3.objs.size X.env))
   (compPost (model X.prog X.w) X.A X.xe use R (.ref D) h3.objs.size) { s2 with heap:=h',toks:=s2.toks }:=by
  refine yas (λn s'=>∃i σ' H',Inv (cxD X N' scope h3.objs.size { s2 with heap:=h3 } H3 fp pins) [] σ' H' s'/\tn i s'.heap/\(∀b∈fp,H' b=none)/\W i n σ' H') ?_ m0 ⟨0,src σ,H3,I4,st4,fr4,w0⟩
  rintro n s5 ⟨i,σ5,H5,I5,st5,fr5,w5⟩
  rcases turn i n σ5 H5 w5 with ⟨stop,qn⟩|⟨go,N,hN,step⟩
  ·refine wpAny_mono (T.done (cxD X N' scope h3.objs.size { s2 with heap:=h3 } H3 fp pins) rfl rfl rfl hcalm i [] s5 σ5 H5 (λ_ _=>False) I5 (stat fr5) st5 stop) (λr s6 hr=>?_) λ_ _ z=>False.elim z
   obtain ⟨hr,I6⟩:=hr
   subst hr
   obtain ⟨mC,hnC,_⟩:=I6.loc
   have IX:Inv X pins σ H5 s6:=I3.call' (s':=s6) (ch:=fp) I6.os I6.base I6.hok I6.bare λb hb=>⟨(f3 b hb).2.2.2.1,(f3 b hb).2.1,(f3 b hb).2.2.2.2.1,(f3 b hb).2.2.2.2.2⟩
   exact fin D H5 s6 h3.objs.size mC IX (I3.fpOk (qlr _) I6.free) hnC qn
  ·refine wpAny_mono (T.item (cxD X N' scope h3.objs.size { s2 with heap:=h3 } H3 fp pins) rfl rfl rfl hcalm i [] s5 σ5 H5 (λ_ _=>False) I5 (stat fr5) st5 go) (λr s6 hr=>?_) λ_ _ z=>False.elim z
   obtain ⟨u,hr,h6⟩:=hr
   subst hr
   refine wpAny_mono h6 (λ_ s7 h7=>?_) λ_ _ z=>False.elim z
   obtain ⟨x,H7,I7,r7,y7,st7,fr7⟩:=h7
   have I7':=I7.pinned (stat fr7) (T.obj _ _ st7)
   refine wpAny_mono (hg _ _ _ _ _ _ s7 σ5 H7 x u _ I7' r7 (step x H7 y7)) (λ_ s8 h8=>?_) λ_ _ z=>False.elim z
   obtain ⟨σ8,H8,I8,q8⟩:=h8
   have again:∀{H9:Hp} {s9:Shared},Inv (cxD X N' scope h3.objs.size { s2 with heap:=h3 } H3 fp pins) ([]++zh5 fp s7.heap) σ8 H9 s9->N σ8 H9->∃m,m<n/\∃i σ' H',Inv (cxD X N' scope h3.objs.size { s2 with heap:=h3 } H3 fp pins) [] σ' H' s9/\tn i s9.heap/\(∀b∈fp,H' b=none)/\W i m σ' H':=λ{H9 s9} I9 n9=>by
    obtain ⟨m',hm,w9⟩:=hN σ8 H9 n9
    refine ⟨m',hm,i+1,σ8,H9,I9.unpinned,T.keep _ _ _ st7 λb hb o e=>(I9.pin (b,o) (List.mem_append_right _ (List.mem_append_right _ (zjw hb e)))).1,λb hb=>?_,w9⟩
    obtain ⟨o,e,d⟩:=T.obj _ _ st7 b hb
    exact (I9.pin (b,o) (List.mem_append_right _ (List.mem_append_right _ (zjw hb e)))).2.1
   refine wpAny_mono (ht _ _ _ _ _ _ s8 σ8 H8 _ I8 q8) (λok s9 h9=>?_) λ_ _ z=>False.elim z
   obtain ⟨H9,I9,q9⟩:=h9
   cases ok with
   | false=>exact again I9 q9
   | true =>
    refine wpAny_mono (he _ _ _ _ _ _ s9 σ8 H9 _ I9 q9) (λy s10 h10=>?_) λ_ _ z=>False.elim z
    obtain ⟨vy,H10,I10,r10,ys,hys,hz,nx⟩:=h10
    refine wpAny_mono (zqh (X:=cxD X N' scope h3.objs.size { s2 with heap:=h3 } H3 fp pins) _ s10 σ8 H10 (.ref D) [vy] (.ref D) [y] (λ_ H'=>N σ8 H') I10 rfl (.cons r10 .nil) ⟨D,ys,vy,rfl,rfl,hys,hz,nx⟩) (λ_ s11 h11=>?_) λ_ _ z=>False.elim z
    obtain ⟨_,H11,I11,_,n11⟩:=h11
    exact again I11 n11
 exact codeAny_compStart_list loop (T.self _ 0 _ _ _ st4 loop)
theorem ydx {X:Cx}{N':List Str}{elt iter tgt:Expr}{ifs:List Expr}{scope:Scope}{pos:Pos}{wi:TI}{src:St->St}{g:TG}{tts:TT}{t:TE}(hcalm:X.calm=true) (sc:CompSd X N' scope src)
  (hi:PI X tgt iter wi) (hg:∀C s H fp pins,PG (cxD X N' scope C s H fp pins) tgt g) (ht:∀C s H fp pins,PTs (cxD X N' scope C s H fp pins) ifs tts) (he:∀C s H fp pins,PE (cxD X N' scope C s H fp pins) elt t)
  (hs:∀x,foldedSetIterable iter X.env x=pure x:=by intro _;rfl):PE X (.ListComp elt [⟨tgt,iter,ifs,0⟩] scope pos) (zke X.K wi src g tts t):=by
 intro pins s σ H Q I h
 rw [eval_ListComp]
 refine zsw (use:=none) hcalm sc hi hg ht he hs I h λD H5 s6 C mC IX fp hn q=>⟨mC,hn,λh'' sb=>⟨.ref D,H5,?_,rfl,q⟩⟩
 exact IX.turned (t':=s6.toks) (λb o hb e=>sb.extBut b o hb e) fp.1 fp.2.1 fp.2.2.2.1 fp.2.2.2.2.1 fp.2.2.2.2.2
theorem ydy {X:Cx}{N':List Str}{elt iter tgt:Expr}{ifs:List Expr}{scope:Scope}{pos spos py:Pos}{wi:TI}{src:St->St}{g:TG}{tts:TT}{t:TE}{i:Nat}{y:Str}(hN:X.N.Nodup) (hi':X.N[i]? = some y) (hx:Loc X.env.scope y)
  (hsw:swapsWith (.ListComp elt [⟨tgt,iter,ifs,0⟩] scope pos) (some (.Name y py)) spos.line X.env=pure true) (hf:X.fn y=true\/X.env.scope.names.lookup y=some .local)
  (hcalm:X.calm=true) (sc:CompSd X N' scope src)
  (hi:PI X tgt iter wi) (hg:∀C s H fp pins,PG (cxD X N' scope C s H fp pins) tgt g) (ht:∀C s H fp pins,PTs (cxD X N' scope C s H fp pins) ifs tts) (he:∀C s H fp pins,PE (cxD X N' scope C s H fp pins) elt t)
  (hs:∀x,foldedSetIterable iter X.env x=pure x:=by intro _;rfl):PS X (.Assign [.Name y py] (.ListComp elt [⟨tgt,iter,ifs,0⟩] scope pos) spos) (zl7 (zke X.K wi src g tts t) (zl6 i)):=by
 intro pins s σ H D I h
 rw [exec_Assign_Name_used _ _ _ _ hsw]
 refine qwb (wpAny_standAt (qwb ?_))
 show wpAny _ X.A (do let _ <-comprehension (.ListComp elt [⟨tgt,iter,ifs,0⟩] scope pos) scope X.env _ (newList []) false (eval iter X.env) (some (assign (.Name y py) X.env))) _ _ s
 refine qwb (wpAny_mono (zsw (use:=some (assign (.Name y py) X.env)) (R:=λ_ s'=>SP X pins D .next s') hcalm sc hi hg ht he hs I h λD' H5 s6 C mC IX fp hn q=>?_) (λ_ s' hq=>qwp (qwp hq)) λ_ _ e=>e)
 show wpAny _ X.A (assign (.Name y py) X.env (.ref D')) _ _ s6
 refine wpAny_assign_Name (zo9 (v:=.ref D') IX hN hi' hx rfl (λs' I' ha=>?_) hf)
 obtain ⟨a,sb,ha⟩:=ha
 have hCa:C≠a:=by
  rcases ha with ha|ha
  ·rw [ha];exact fp.2.1
  ·exact λz=>fp.2.2.2.2.1 y a ha z.symm
 refine ⟨mC,hn.sameBut sb hCa,λh'' sb''=>⟨_,H5,?_,q⟩⟩
 exact I'.turned (t':=s'.toks) (λb o hb e=>sb''.extBut b o hb e) fp.1 fp.2.1 fp.2.2.2.1 fp.2.2.2.2.1 fp.2.2.2.2.2
theorem zi5 {X:Cx}{N':List Str}{elt iter tgt:Expr}{ifs:List Expr}{scope:Scope}{pos:Pos}{im:IM}{ixs:List (Option Nat)}{g:GM}{t:TM}{e:EM}(hcalm:X.calm=true) (sc:CompSd X N' scope (zcf ixs))
  (hi:PI3 X tgt iter im) (hg:∀C s H fp pins,PG3 (cxD X N' scope C s H fp pins) tgt g) (ht:∀C s H fp pins,PTs (cxD X N' scope C s H fp pins) ifs (tt X.K t)) (he:∀C s H fp pins,PE3 (cxD X N' scope C s H fp pins) elt e)
  (hs:∀x,foldedSetIterable iter X.env x=pure x:=by intro _;rfl):PE3 X (.ListComp elt [⟨tgt,iter,ifs,0⟩] scope pos) (zco im ixs g t e) :=
 PE.imp (ydx (g:=tg X.K g) (tts:=tt X.K t) (t:=te X.K e) hcalm sc hi hg ht he hs) zrf
theorem zsx (j:Nat) {X:Cx}{N':List Str}{elt iter tgt:Expr}{ifs:List Expr}{scope:Scope}{pos spos py:Pos}{y:Str}{im:IM}{ixs:List (Option Nat)}{g:GM}{t:TM}{e:EM}(hN:X.N.Nodup) (hcalm:X.calm=true) (sc:CompSd X N' scope (zcf ixs))
  (hi:PI3 X tgt iter im) (hg:∀C s H fp pins,PG3 (cxD X N' scope C s H fp pins) tgt g) (ht:∀C s H fp pins,PTs (cxD X N' scope C s H fp pins) ifs (tt X.K t)) (he:∀C s H fp pins,PE3 (cxD X N' scope C s H fp pins) elt e)
  (hi':X.N[j]? = some y:=by rfl) (hx:Loc X.env.scope y:=by first|exact Or.inl rfl|exact Or.inr rfl)
  (hsw:swapsWith (.ListComp elt [⟨tgt,iter,ifs,0⟩] scope pos) (some (.Name y py)) spos.line X.env=pure true:=by with_unfolding_all rfl) (hf:X.fn y=true\/X.env.scope.names.lookup y=some .local:=by first|exact .inl rfl|exact .inr rfl|assumption)
  (hs:∀x,foldedSetIterable iter X.env x=pure x:=by intro _;rfl):PS3 X (.Assign [.Name y py] (.ListComp elt [⟨tgt,iter,ifs,0⟩] scope pos) spos) (zaq (zco im ixs g t e) (zal j)) :=
 PS.imp (ydy (g:=tg X.K g) (tts:=tt X.K t) (t:=te X.K e) hN hi' hx hsw hf hcalm sc hi hg ht he hs) λE σ H hx1_=>by
  obtain ⟨ρ,l,S,f,l',S',sim,ro,hm,p⟩:=hx1_
  obtain ⟨⟨x,S1⟩,q1,hm⟩:=bnd hm
  cases hm
  exact zrf σ H _ ⟨ρ,l,S,x,S1,sim,ro,q1,λρ1 H1 x' e1 s1 r1=>p ρ1 H1 _ e1 s1 ((ro.mono e1).set j r1)⟩
noncomputable def zsy (scO scope:Scope) (NO N':List Str) (ixs:List (Option Nat)):Bool :=
 decide (scope.kind=.function) && (scope.names.all λy=>y.2 != .local || scope.names.lookup y.1 == some .local) && (scope.names.all λy=>y.2 != .cell || scope.names.lookup y.1 == some .cell) &&
 (scope.names.all λy=>y.2 != .free || (scO.names.lookup y.1 == some .cell || scO.names.lookup y.1 == some .free)) && (ixs.length == N'.length) &&
 ((List.range ixs.length).all λi=>match ixs[i]? with|some (some j)=>(NO[j]? == N'[i]? && (match N'[i]? with|some x=>scope.names.lookup x == some .free|none=>false))|_=>true)
theorem zgp {X:Cx}{scO scope:Scope}{NO N':List Str}{ixs:List (Option Nat)}(hX:X.env.scope=scO) (hN:X.N=NO) (h:zsy scO scope NO N' ixs=true):CompSd X N' scope (zcf ixs):=by
 unfold zsy at h
 simp only [Bool.and_eq_true,decide_eq_true_eq,List.all_eq_true,beq_iff_eq,Bool.or_eq_true,bne_iff_ne,ne_eq] at h
 obtain ⟨⟨⟨⟨⟨h1,h3⟩,h2⟩,h4⟩,h5⟩,h6⟩:=h
 refine ⟨h1,λy hy hl=>?_,λy hy hl=>?_,λy hy=>?_,λy hy hc=>?_,λσ=>by simp [zcf,h5],λσ i v x hv hx=>?_⟩
 ·rcases h3 y hy with z|z
  ·exact absurd hl z
  ·exact z
 ·show X.env.scope.names.lookup y.1=_\/X.env.scope.names.lookup y.1=_
  rw [hX]
  rcases h4 y hy with z|z
  ·exact absurd hl z
  ·exact z
 ·have mem:∃k,(k=NameKind.cell\/k=NameKind.free)/\(y,k)∈(relabel scope X.env).names:=by
   rcases hy with z|z
   ·exact ⟨_,.inl rfl,PySem.mem_of_lookup z⟩
   ·exact ⟨_,.inr rfl,PySem.mem_of_lookup z⟩
  obtain ⟨k,hk,hm⟩:=mem
  unfold relabel at hm
  obtain ⟨⟨n,k'⟩,hm1,hm2⟩:=List.mem_map.mp hm
  dsimp only at hm2
  split at hm2
  ·rename_i hc
   have:k' = .free:=by
    rw [Bool.and_eq_true,Bool.and_eq_true] at hc
    exact eq_of_beq hc.1.1
   cases hm2
   rw [<-this];exact .inl hm1
  ·cases hm2
   rcases hk with z|z
   ·rw [<-z];exact .inr hm1
   ·rw [<-z];exact .inl hm1
 ·rcases h2 (y,.cell) hc with z|z
  ·exact z rfl
  ·rw [hy] at z;cases z
 ·have hl:i<ixs.length:=by
   have:=(qme hv).1
   simpa [zcf] using this
  unfold zcf at hv
  rw [qgm] at hv
  have q:=h6 i (List.mem_range.mpr hl)
  cases e:ixs[i]? with
  | none=>rw [e] at hv;cases hv
  | some o =>
   rw [e] at hv
   cases o with
   | none=>cases hv
   | some j =>
    rw [e] at q
    dsimp only at q
    rw [hx] at q
    simp only [Bool.and_eq_true,beq_iff_eq] at q
    have hv:((σ[j]?).join:Option V)=some v:=qoi hv
    refine ⟨j,by rw [hN];exact q.1,?_,q.2⟩
    cases e2:σ[j]? with
    | none=>rw [e2] at hv;cases hv
    | some o2=>rw [e2] at hv;have hv:o2=some v:=hv;rw [hv]
end L3
namespace SP
open PySem PySem.W PyProof.Rows PySem.Calls
section
variable {prog:Program}{w:World}{A:Around}{E:Value->Shared->Prop}{s:Shared}
end
end SP
namespace L3
open PySem PySem.Spec PyProof.Rows L2
section
variable {X:Cx}
end
section
variable {X:Cx}{a:Expr}{es:List Expr}{mA:AM}{pos p:Pos}
end
end L3
namespace SP
open PySem PySem.W PyProof.Rows PySem.Calls
def DAt (h:Heap) (d:Addr) (es:Array DictEntry) (ep:Nat):Prop:=∃o,h.get? d=some o/\o.ExactDict/\o.data=.dict es ep
section
variable {prog:Program}{w:World}{A:Around}{E:Value->Shared->Prop}{s:Shared}{d it:Addr}{es:Array DictEntry}{ep i:Nat}
theorem DAt.keep {h h':Heap}(x:DAt h d es ep) (k:∀o,h.get? d=some o->h'.get? d=some o):DAt h' d es ep:=let ⟨o,e,r⟩:=x;⟨o,k o e,r⟩
theorem DAt.lt {h:Heap}(x:DAt h d es ep):d<h.objs.size:=let ⟨_,e,_⟩:=x;Heap.lt_size e
theorem DAt.ty (x:DAt s.heap d es ep):s.TypeIs (.ref d) "dict":=let ⟨o,e,c,_⟩:=x;⟨o,e,c.1⟩
theorem ydz {Q:Value->Shared->Prop}(hd:(d == sysModules)=false) (x:DAt s.heap d es ep)
  (hQ:Q (.ref s.heap.objs.size) { s with heap:=s.heap.push { cls:=.type "dict_keyiterator",data:=.fields #[.ref d,.int 0 0,.int es.size 0,.int ep 0] } }):wpAny (model prog w) A (pyIter (.ref d)) Q E s:=by
 obtain ⟨o,ho,_,dat⟩:=id x
 refine wpAny_pyIter_slot x.ty PySem.F.slot_dict_iter (wpAny_call_entry PySem.F.slot_dict_iter x.ty PySem.F.entry_dict_iter (show wpAny _ _ (Builtin.«dict.__iter__» _) _ _ _ from ?_) (PySem.F.args_dict_iter_1 _))
 unfold Builtin.«dict.__iter__» Builtin.Dict.dictSlotNone
 refine qwb (qwb (wpAny_notOrdered_dict x.ty (show wpAny _ _ (pure (Value.ref d)) _ _ s from qwp ?_)))
 show wpAny _ _ (Builtin.Dict.showsAll d >>= _) _ _ s
 unfold Builtin.Dict.showsAll
 rw [hd,if_neg Bool.false_ne_true]
 refine qwb (qwp (qwb (wpAny_dictEntries ho dat (qwb (wpAny_dictEpoch ho dat ?_)))))
 refine qwb (wpAny_newObj_type (qwp ⟨_,rfl,"dict_keyiterator",_,⟨_,Heap.get?_push_size _ rfl,rfl⟩,PySem.F.slot_dict_keyiterator_next.lookup,by simpa [rawInt] using hQ⟩))
theorem yd0 {Q:Option Value->Shared->Prop}(hit:s.heap.IsKeyIter it d i es.size ep) (x:DAt s.heap d es ep) (hi:i<es.size)
  (hQ:∀h',h'.IsKeyIter it d (i+1) es.size ep->Heap.SameBut it s.heap h'->Q (some es[i].key) { s with heap:=h' }):wpAny (model prog w) A (pyNext (.ref it)) Q E s:=by
 obtain ⟨o,ho,hc,hd⟩:=id hit
 obtain ⟨od,hod,_,hdd⟩:=id x
 have hown:Builtin.Dict_items.ownsTuple "dict_keyiterator" = false:=by decide
 unfold pyNext
 refine qwb (wpAny_attempt (wpAny_callSpecial?_slot (name:=Str.ofString "__next__") hit.typeIs PySem.F.slot_dict_keyiterator_next (wpAny_call_entry PySem.F.slot_dict_keyiterator_next hit.typeIs PySem.F.entry_dict_keyiterator_next ?_ (PySem.F.args_dict_keyiterator_next_1 _))))
 refine qwb (qwp (qwb (qwb ?_)))
 first|refine qwb (wpAny_typeNameOfWhole_keyiter hit.typeIs (qwp (qwb (wpAny_fieldsOf ho hd ?_))))|refine qwb (wpAny_typeNameOf_keyiter hit.typeIs (qwp (qwb (wpAny_fieldsOf ho hd ?_))))
 simp only [hown,qbf,if_false]
 show wpAny _ _ (if (Value.ref d == Value.none)=true then _ else _) _ _ s
 rw [if_neg (show ¬((Value.ref d == Value.none)=true) from Bool.false_ne_true)]
 refine qwb (qwp (qwb (wpAny_dictEntries hod hdd ?_)))
 rw [if_neg (by simp)]
 refine qwb (qwp (qwb (wpAny_dictEpoch hod hdd ?_)))
 rw [if_neg (by simp)]
 refine qwp ?_
 simp only [show ¬((i:Int)<0) from by omega,if_false,Int.toNat_natCast,Array.getElem?_eq_getElem hi]
 refine qwb ?_
 first|refine qwb (wpAny_typeNameOfWhole_keyiter hit.typeIs (qwp (qwb (wpAny_isOneOf_keyiter hit.typeIs ?_))))|refine qwb (wpAny_typeNameOf_keyiter hit.typeIs (qwp (qwb (wpAny_isOneOf_keyiter hit.typeIs ?_))))
 show wpAny _ _ (setField (.ref it) 1 (rawInt ((i:Int)+1)) >>= _) _ _ s
 have on:(s.heap.update it (Obj.mapFields (·.setIfInBounds 1 (rawInt ((i:Int)+1))))).IsKeyIter it d (i+1) es.size ep:=⟨_,Heap.get?_update_self _ ho (Obj.isFreed_of_fields (Obj.data_mapFields hd _)),(Obj.cls_mapFields ..).trans hc,by rw [Obj.data_mapFields hd];simp [rawInt]⟩
 refine qwb (wpAny_setField ho hd (by simp) (qwb (wpAny_holding (qwb (wpAny_isOneOf_keyiter (s:={ s with heap:=s.heap.update it (Obj.mapFields (·.setIfInBounds 1 (rawInt ((i:Int)+1)))) }) on.typeIs ?_)))))
 show wpAny _ _ (pure es[i].key) _ _ _
 exact qwp (qwp ⟨_,rfl,qwp (hQ _ on (Heap.SameBut.update ..))⟩)
theorem yd1 {Q:Option Value->Shared->Prop}(hh:A.handled=none) (hit:s.heap.IsKeyIter it d i es.size ep) (x:DAt s.heap d es ep) (hi:es.size<=i)
  (hQ:∀h',Heap.ExtBut it s.heap h'->Q none { s with heap:=h' }):wpAny (model prog w) A (pyNext (.ref it)) Q E s:=by
 obtain ⟨o,ho,hc,hd⟩:=id hit
 obtain ⟨od,hod,_,hdd⟩:=id x
 have hown:Builtin.Dict_items.ownsTuple "dict_keyiterator" = false:=by decide
 unfold pyNext
 refine qwb (wpAny_attempt (wpAny_callSpecial?_slot (name:=Str.ofString "__next__") hit.typeIs PySem.F.slot_dict_keyiterator_next (wpAny_call_entry PySem.F.slot_dict_keyiterator_next hit.typeIs PySem.F.entry_dict_keyiterator_next ?_ (PySem.F.args_dict_keyiterator_next_1 _))))
 refine qwb (qwp (qwb (qwb ?_)))
 first|refine qwb (wpAny_typeNameOfWhole_keyiter hit.typeIs (qwp (qwb (wpAny_fieldsOf ho hd ?_))))|refine qwb (wpAny_typeNameOf_keyiter hit.typeIs (qwp (qwb (wpAny_fieldsOf ho hd ?_))))
 simp only [hown,qbf,if_false]
 show wpAny _ _ (if (Value.ref d == Value.none)=true then _ else _) _ _ s
 rw [if_neg (show ¬((Value.ref d == Value.none)=true) from Bool.false_ne_true)]
 refine qwb (qwp (qwb (wpAny_dictEntries hod hdd ?_)))
 rw [if_neg (by simp)]
 refine qwb (qwp (qwb (wpAny_dictEpoch hod hdd ?_)))
 rw [if_neg (by simp)]
 refine qwp ?_
 simp only [show ¬((i:Int)<0) from by omega,if_false,Int.toNat_natCast,Array.getElem?_eq_none hi]
 refine qwb ?_
 first|refine qwb (wpAny_typeNameOfWhole_keyiter hit.typeIs (qwp (show wpAny _ _ (setField (.ref it) 0 .none >>= _) _ _ s from ?_)))|refine qwb (wpAny_typeNameOf_keyiter hit.typeIs (qwp (show wpAny _ _ (setField (.ref it) 0 .none >>= _) _ _ s from ?_)))
 refine qwb (wpAny_setField ho hd (by simp) (show wpAny _ _ (newExc (.type "StopIteration") [] >>= _) _ _ _ from qwb ?_))
 simp only [newExc,newTuple]
 refine qwb (wpAny_newObj_type (qwb (m:=firstArgMember _ _) (wpAny_of_eq (a:=Value.none) (by first|rfl|(simp only [firstArgMember];rfl)) (wpAny_newObj_type ?_ (by size_fits)))) (by size_fits))
 simp only [raiseNew]
 refine qwb (wpAny_handled ?_)
 rw [show A.in1.handled=none from hh]
 refine qwb (qwp (wpAny_throw ?_))
 refine qwb (wpAny_isInstance (T:="StopIteration") (b:=true) ⟨_,Heap.get?_push_size _ rfl,rfl⟩ isSubtype_stop ?_)
 exact qwp (hQ _ (((Heap.SameBut.update ..).extBut.push _).push _))
theorem yd2 (hh:A.handled=none) (I d:Addr) (hne:d≠I) (es:Array DictEntry) (ep:Nat) :
  Walks prog w A I [I,d] [I] es.size (λi v=>es[i]?.map (·.key)=some v) (λi h=>h.IsKeyIter I d i es.size ep/\DAt h d es ep) where
 sub:=λb hb=>by simp at hb;simp [hb]
 frame:=λ_ _ _ st hk=>⟨st.1.at λo e=>hk I (by simp) o e,st.2.keep λo e=>hk d (by simp) o e⟩
 item:=λi s Q E hi st hQ=>yd0 st.1 st.2 hi λh' hit' hs'=>hQ _ h' s.toks (by simp [hi]) ⟨hit',st.2.keep λo e=>hs'.extBut d o hne e⟩ λb o hb e=>hs'.extBut b o (λh=>hb (by simp [h])) e
 done:=λs Q E st hQ=>yd1 hh st.1 st.2 (qlr _) λh' he'=>hQ h' s.toks λb o hb e=>he' b o (λh=>hb (by simp [h])) e
 self:=λ_ _ _ _ st hQ=>wpAny_pyIter_keyiter st.1 hQ
theorem yd3 (lo:(d == sysModules)=false):KdlSrc prog w "dict" d d es.size (λi v=>es[i]?.map (·.key)=some v) (λh=>DAt h d es ep) where
 type:=λ_ hm=>hm.ty
 there:=λ_ hm=>⟨hm.lt,hm.lt⟩
 keep:=λ_ _ hm hk=>hm.keep λo e=>hk d (.inl rfl) o e
 notList:=by decide
 notTuple:=by decide
 hint:=λ_ _ _ _ hm hq=>kdl_hint_dict hm.ty hq
 iter:=λ_ _ hh hm=>⟨_,_,(λ_ _ hq=>ydz lo hm hq),yd2 hh _ d (Nat.ne_of_lt hm.lt) es ep,⟨⟨_,Heap.get?_push_size _ rfl,rfl,rfl⟩,hm.keep λo e=>qps _ e⟩⟩
theorem collectR {R:List Value->Shared->Prop}(lo:(d == sysModules)=false) (hh:A.handled=none) (x:DAt s.heap d es ep) (hn:es.size<=sizeLine)
  (h:∀(h':Heap) (tk:Nat),s.heap.objs.size<=h'.objs.size->(∀b o,s.heap.get? b=some o->h'.get? b=some o)->R (es.toList.map (·.key)) { s with heap:=h',toks:=tk }):wpAny (model prog w) A (collect (.ref d)) R E s:=by
 have K:=yd3 (prog:=prog) (w:=w) (es:=es) (ep:=ep) lo
 have hS₁:(s.heap.push { cls:=.type "list",data:=.seq ([]:List Value).toArray }).get? s.heap.objs.size=some { cls:=.type "list",data:=.seq #[] }:=Heap.get?_push_size _ rfl
 have zfh:∀(h':Heap) (tk:Nat) (acc:Array Value) (c:Nat),(∀b o,s.heap.get? b=some o->h'.get? b=some o)->h'.get? s.heap.objs.size=some { cls:=.type "list",dict:=none,data:=.seq acc c,slots:=#[] }->ItemsOf (λi v=>es[i]?.map (·.key)=some v) acc es.size->R acc.toList { s with heap:=h',toks:=tk }:=λh' tk acc c k g a=>by
  have e:acc.toList=es.toList.map (·.key):=by
   apply List.ext_getElem?
   intro j
   rw [qgm,Array.getElem?_toList,Array.getElem?_toList]
   rcases Nat.lt_or_ge j acc.size with hj|hj
   ·rw [Array.getElem?_eq_getElem hj]
    exact (a.2 j _ (Array.getElem?_eq_getElem hj)).symm
   ·rw [Array.getElem?_eq_none hj,Array.getElem?_eq_none (by rw [<-a.1];exact hj)];rfl
  rw [e]
  exact h h' tk (Nat.le_of_lt (Heap.lt_size g)) k
 unfold collect
 refine qwb (wpAny_runValue (codeAny_builtin entry_proto_collect' ?_))
 rw [Around.under_plainId PySem.F.plain_proto_collect _]
 refine qwb (m:=newList []) (wpAny_newObj_type (qwp ⟨plainId_quiet PySem.F.plain_list_iadd _,codeAny_builtin entry_list_iadd' ?_⟩))
 rw [Around.under_plainId PySem.F.plain_list_iadd _]
 have key:=kdl_extend (A:=A) (s:={ s with heap:=s.heap.push { cls:=.type "list",data:=.seq ([]:List Value).toArray } }) (R:=λ(q:Result) (s':Shared)=>∃(h':Heap) (tk:Nat) (acc:Array Value) (c:Nat),q=.ok (.ret (.ref s.heap.objs.size))/\s' = { s with heap:=h',toks:=tk }/\(∀b o,s.heap.get? b=some o->h'.get? b=some o)/\h'.get? s.heap.objs.size=some { cls:=.type "list",dict:=none,data:=.seq acc c,slots:=#[] }/\ItemsOf (λi v=>es[i]?.map (·.key)=some v) acc es.size)
  K hh (K.keep _ _ x λb _ o e=>qps _ e) s.heap.objs.size (Nat.ne_of_gt x.lt) (Nat.ne_of_gt x.lt) (.ref s.heap.objs.size) 0 hS₁
  (λh' tk acc c hk hS' hacc=>⟨h',tk,acc,c,rfl,rfl,λb o e=>hk b o (Nat.ne_of_lt (Heap.lt_size e)) (qps _ e),hS',hacc⟩) hn
 refine wpAny_mono key (λfin s' z=>?_) λe s' z=>let ⟨_,_,_,_,e',_⟩:=z;(by cases e')
 cases fin with
 | done f =>
  obtain ⟨h',tk,acc,c,e,rfl,k,g,a⟩:=z
  cases e
  show wpAny _ A (load s.heap.objs.size >>= _) _ _ _
  exact qwb (wpAny_load g (qwp (zfh h' tk acc c k g a)))
 | again c₁ =>
  refine ⟨z.1,codeAny_mono z.2 λq s₂ y=>?_⟩
  obtain ⟨h',tk,acc,c,rfl,rfl,k,g,a⟩:=y
  show wpAny _ A (load s.heap.objs.size >>= _) _ _ _
  exact qwb (wpAny_load g (qwp (zfh h' tk acc c k g a)))
end
end SP
namespace L3
open PySem PySem.Spec PyProof.Rows L2
section
variable {X:Cx}{tg:Expr}
end
section
variable {X:Cx}{tgt iter:Expr}{m:EM}
end
section
variable {X:Cx}
end
section
variable {X:Cx}{a:Expr}{es:List Expr}{mA:AM}{pos p:Pos}
end
theorem zsz {α:Type}{c:Prop} [Decidable c] {x:Option α}{y:α}(h:(if c then x else none)=some y):c/\x=some y:=by
 by_cases e:c
 ·rw [if_pos e] at h;exact ⟨e,h⟩
 ·rw [if_neg e] at h;cases h
section
variable {X:Cx}{a:Expr}
end
section
variable {prog:Program}{w:World}{A:Around}{E:Value->Shared->Prop}{s:Shared}{c:Addr}{i j:Int}{t u:Tok}
end
section
variable {X:Cx}
end
section
variable {X:Cx}{a:Expr}{es:List Expr}{mA:AM}{pos p:Pos}
end
section
variable {prog:Program}{w:World}{K:Type} [DecidableEq K] {knd:HeapKind prog w K}{A:Around}{E:Value->Shared->Prop}{s:Shared}{d a:Addr}{k:K}{xs:List (K × Addr × Value)}{z:Value}
end
section
variable {X:Cx}{o e f:Expr}{td ty tx:TE}{apos cpos:Pos}
end
section
variable {X:Cx}{o e f:Expr}{mo me mf:EM}{apos cpos:Pos}{k:Nat}
end
section
variable {h:Heap}{p:PyData}
noncomputable def eqR (h:Heap) (p:PyData) (y:Value):Bool:=@decide (∃q as,Reads h y q as/\q.canLay0=true/\q.eqv p=true) (Classical.propDecidable _)
theorem zs0 {y:Value}{q:PyData}{as:List Addr}(r:Reads h y q as) (c:q.canLay0=true):eqR h p y=q.eqv p:=by
 unfold eqR
 cases e:q.eqv p with
 | true=>exact @decide_eq_true _ (Classical.propDecidable _) ⟨q,as,r,c,e⟩
 | false =>
  refine @decide_eq_false _ (Classical.propDecidable _) λ⟨q',as',r',_,e'⟩=>?_
  have:=PySem.SeqAt.Reads.unique q q' y as as' c r r'
  subst this
  rw [e] at e';cases e'
theorem zn3:∀{us:List Value}{qs:List PyData}{as:List Addr},ReadsAll h us qs as->PyData.canLayAll0 qs=true->us.map (eqR h p)=qs.map λq=>q.eqv p
 | _,_,_,.nil,_=>rfl
 | _,_,_,.cons r rs,c=>by
  rw [PyData.canLayAll0,Bool.and_eq_true] at c
  rw [List.map_cons,List.map_cons,zs0 r c.1,zn3 rs c.2]
theorem zn4 {A:Around}{s:Shared}{x:Value}{bs:List Addr}(rx:Reads s.heap x p bs) (cx:p.canLay0=true) (hu:A.units+p.depth<cLine):∀{us:List Value}{qs:List PyData}{as:List Addr},ReadsAll s.heap us qs as->PyData.canLayAll0 qs=true->∀y∈us,SeqAt.EqAt A s y x (eqR s.heap p y)
 | _,_,_,.nil,_=>λy hy=>by cases hy
 | _,_,_,.cons r rs,c=>λy hy=>by
  rw [PyData.canLayAll0,Bool.and_eq_true] at c
  rcases List.mem_cons.mp hy with e|hy
  ·subst e
   rw [zs0 r c.1]
   exact PySem.SeqAt.eqAt_reads _ p A s _ x _ bs r rx c.1 cx (Nat.lt_of_le_of_lt (Nat.add_le_add_left (Nat.min_le_right _ _) _) hu)
  ·exact zn4 rx cx hu rs c.2 y hy
end
section
variable {X:Cx}{k:Nat}
variable {a b:Expr}{ma mb:EM}{pos:Pos}
end
def zs1 (K:QFg):V->List V->Hp->VK->Prop:=λy vs H Q=>∃x ρ S dx xs p qs a us j,vs=[x]/\Sim K ρ S H/\RD ρ H dx x/\y=.ref a/\H a=some (.lst us)/\RDs ρ H xs us/\zaw S 60 dx=some p/\pyAll S 60 xs=some qs/\p.canLay0=true/\PyData.canLayAll0 qs=true/\(qs.map λq=>q.eqv p).idxOf? true=some j/\Q (.int j) H
noncomputable def zgq:D->List D->Sto->Option (D × Sto)
 | .ref n,[x],S=>match S[n]? with
  | some (.lst xs)=>(zaw S 60 x).bind λp=>(pyAll S 60 xs).bind λqs=>if p.canLay0=true/\PyData.canLayAll0 qs=true then ((qs.map λq=>q.eqv p).idxOf? true).bind λj=>some (.int j,S) else none
  | _=>none
 | _,_,_=>none
theorem yd4 {l:List Bool}{j:Nat}(h:l.idxOf? true=some j):l[j]? = some true/\∀m,m<j->l[m]? = some false:=by
 unfold List.idxOf? at h
 rw [List.findIdx?_eq_some_iff_getElem] at h
 obtain ⟨hj,h1,h2⟩:=h
 refine ⟨by rw [qge hj];simpa using h1,λm hm=>?_⟩
 have:=h2 m hm
 rw [qge (Nat.lt_trans hm hj)]
 simpa using this
section
variable {X:Cx}{k:Nat}
theorem yd5 (hr:Room k X.A):MtM X "list.index" (zs1 X.K):=by
 intro pins s σ H y vs v us' Q I ry rv' h
 obtain ⟨x,ρ,S,dx,xs,p,qs,a,us,j,rfl,sim,r1,rfl,hH,r2,h1,h2,c1,c2,hj,hq⟩:=h
 cases ry
 obtain ⟨u,rfl,ru⟩:=rv'.one
 obtain ⟨⟨as,k1⟩,_,_,k2⟩:=ze6 I sim 60 dx x u p r1 ru h1
 obtain ⟨z,its,n,rv,hl,e⟩:=I.lstM hH
 obtain ⟨⟨bs,k3⟩,_,_,_⟩:=zrl I sim 60 xs us its qs r2 rv h2
 have em:=zn3 (p:=p) k3 c2
 rw [<-em] at hj
 obtain ⟨g1,g2⟩:=yd4 hj
 have hjl:j<its.length:=by have:=(qme g1).1;simpa using this
 have e1:eqR s.heap p its.toArray[j]=true:=by
  rw [qgm,qge hjl] at g1
  simpa using g1
 have hsm:(j:Int)<2 ^ 63-1:=by
  have:(sizeLine:Nat)=16777216:=sizeLine_eq
  omega
 refine call_meets F.slot_list_index ⟨_,e,rfl⟩ F.entry_list_index (F.args_list_index_2 _ _) (SeqAt.list_indexAt a its.toArray n none #[] u (eqR s.heap p) j (by simpa using hjl) hsm e1 λm hm hmj=>?_) ⟨e,λw hw=>zn4 k1 c1 (by have:=hr.un;show X.A.units+1+_<_;omega) k3 c2 w (by simpa using hw),⟨.int j,H,I.tok _,⟨_,rfl⟩,hq⟩⟩
 have:=g2 m hmj
 have hml:m<its.length:=by simpa using hm
 rw [qgm,qge hml] at this
 simpa using this
theorem yd6 {K:QFg}:Mt3 K zgq (zs1 K):=by
 intro ρ S H x x' xs vs v S' Q sim rx r h p
 unfold zgq at h
 split at h
 ·split at h
  ·rename_i n y S ys e
   obtain ⟨d1,h2,h⟩:=bnd h
   obtain ⟨ds,h3,h⟩:=bnd h
   obtain ⟨hc,h⟩:=zsz h
   obtain ⟨j,hj,h⟩:=bnd h
   cases h
   obtain ⟨w,rfl,rw'⟩:=r.one
   obtain ⟨a,us,ha,hH,r2⟩:=sim.lst e
   cases rx with
   | ref hn =>
    rw [ha] at hn;cases hn
    exact ⟨w,ρ,_,y,ys,d1,ds,a,us,j,rfl,sim,rw',rfl,hH,r2,h2,h3,hc.1,hc.2,hj,p ρ H _ (Ext.refl ..) sim (.int _)⟩
  ·cases h
 ·cases h
variable {o e:Expr}{mo me:EM}{apos cpos:Pos}
theorem yd7 (hr:Room k X.A) (ho:PE3 X o mo) (he:PE3 X e me) (hbase:attributeBase o "index" X.env (eval o X.env)=eval o X.env:=by rfl)
  (hfew:((backTo cpos (starEach [e] X.env)).all (λx=>!x.1) && (backToKw cpos (keywordEach [] X.env)).all (λx=>x.1.isSome) && decide (([e]:List Expr).length+([]:List Keyword).length+(if ([]:List Keyword).isEmpty then 0 else 1)<30))=true:=by rfl)
  (hline:(apos.endLine == cpos.line)=true:=by rfl) (hs:starEach [e] X.env=(false,eval e X.env) :: starEach [] X.env:=by rfl) (hplain:(backTo cpos (starEach [] X.env)).any (·.1)=false:=by rfl) :
  PE3 X (.Call (.Attribute o "index" apos) [e] [] cpos) (zci zgq mo (zab me zae)):=zkb PySem.F.slot_list_index PySem.F.type_list_index (yd5 hr) yd6 ho (zad he zag hs) hbase hfew hline hs hplain
end
section
variable {X:Cx}{o:Expr}{mo:EM}{apos cpos:Pos}
end
section
variable {X:Cx}{pos:Pos}{ke ve:Expr}
end
section
variable {X:Cx}{pos:Pos}{ke ve:Expr}{mk mv:EM}{k:Nat}
end
section
variable {X:Cx}
end
section
variable {X:Cx}{a:Expr}{es:List Expr}{mA:AM}{pos p:Pos}
end
section
variable {elt t1 i1 t2 i2:Expr}{ifs1 ifs2:List Expr}{scope:Scope}{pos:Pos}{it acc:Value}{env:Env}
noncomputable abbrev two (elt t1 i1 t2 i2:Expr) (ifs1 ifs2:List Expr) (scope:Scope) (pos:Pos):Expr:=.ListComp elt [⟨t1,i1,ifs1,0⟩,⟨t2,i2,ifs2,0⟩] scope pos
variable {prog:Program}{w:World}{A:Around}{R:Result->Shared->Prop}{s:Shared}
end
abbrev RM:=Lo->Sto->Option ((Int × Nat) × Sto)
inductive tr (K:QFg) (r:RM) (σ:St) (H:Hp) (R:It->Hp->Prop):Prop
 | mk (ρ:_) (l:_) (S:_) (lo:_) (n:_) (S':_) (_:Sim K ρ S H) (_:RO ρ H l σ) (_:r l S=some ((lo,n),S')) (_:∀ρ' H',Ext ρ H ρ' H'->Sim K ρ' S' H'->R (Itr lo n) H')
section
variable {X:Cx}{tgt:Expr}{mA:AM}{p0 pos':Pos}{a a2:Expr}
end
theorem Inv.turnedL {X:Cx}{pins:List (Addr × Obj)}{σ:L2.St}{H:Hp}{s:Shared}{h':Heap}{t':Nat}{ch:List Addr}(I:Inv X pins σ H s) (hf:∀b∈ch,zdj X pins H b) (k:∀b o,b ∉ ch->s.heap.get? b=some o->h'.get? b=some o):Inv X pins σ H { s with heap:=h',toks:=t' }:=by
 have nf:∀b u,H b=some u->b ∉ ch:=λb u e z=>by rw [(hf b z).1] at e;cases e
 refine I.step (g':=s.gens) (d':=s.drawn) (ch:=ch) (λb hb=>?_) (λb o _ _ hc e _=>k b o hc e) (λb o _ _ hc e _=>⟨o.slots,k b o hc e⟩) (λ_ _ _ _ n=>n) (λb o hc e=>⟨o,k b o hc e⟩) (λ_ _ e=>e) (λ_ _ _ e=>e) (λb ps e=>⟨#[],by rw [e];simp⟩) (λm hm=>?_) (λb u e=>?_) I.bare
 ·obtain ⟨_,q1,_,q3,q4,q5⟩:=hf b hb
  exact ⟨q3,q1,q4,q5⟩
 ·obtain ⟨o,es,ep,ho,q⟩:=hm
  exact ⟨o,es,ep,k _ o (λz=>(hf _ z).2.1 rfl) ho,q⟩
 ·refine (I.hok b u e).stay (λc v hc q=>k c v ?_ q) (λ_ q=>q) λ_ _ q=>q
  rcases hc with z|z
  ·rw [z];exact nf b u e
  ·exact nf c _ z
section
variable {prog:Program}{w:World}{A:Around}{E:Value->Shared->Prop}{s:Shared}
variable {z TI TO i1 i2 c1 c2:Addr}{n1 n2 k:Nat}{P1 P2:Nat->Value->Prop}{T1 T2:Nat->Heap->Prop}{a b:Value}
theorem fr1 {h h':Heap}(D1:Draws prog w A i1 [i1,c1] n1 P1 T1) (st:T1 k h) {x:Addr}(sb:Heap.ExtBut x h h') (n1':i1≠x) (n2':c1≠x):T1 k h':=D1.frame k h h' st λb hb o e=>by
 have hb:b=i1\/b=c1:=by simpa using hb
 rcases hb with rfl|rfl
 ·exact sb _ _ n1' e
 ·exact sb _ _ n2' e
theorem yd8 {Q:Value->Shared->Prop}(D1:Draws prog w A i1 [i1,c1] n1 P1 T1) (D2:Draws prog w A i2 [i2,c2] n2 P2 T2) (G:ZipApart z TI TO i1 i2 c1 c2) (hz:IsZip s.heap z TI TO .none) (hI:IsPair s.heap TI (.ref i1) (.ref i2)) (hO:IsPair s.heap TO a b)
  (h1:T1 k s.heap) (h2:T2 k s.heap) (k1:k<n1) (k2:k<n2)
  (hQ:∀x y h' tk,P1 k x->P2 k y->IsZip h' z TI TO (rawInt s.heap.objs.size)->IsPair h' TO x y->T1 (k+1) h'->T2 (k+1) h'->IsPair h' s.heap.objs.size x y ->
   (∀c o,c≠z->c≠TO->c≠i1->c≠i2->s.heap.get? c=some o->h'.get? c=some o)->Q (.ref s.heap.objs.size) { s with heap:=h',toks:=tk }) :
  wpAny (model prog w) A (Builtin.«zip.__next__» ⟨[.ref z],[]⟩) (λfin s'=>∃v,fin=.done (.ret v)/\Q v s') E s:=by
 show wpAny _ _ (field (.ref z) 2 >>= _) _ _ _
 refine qwb (wpAny_field hz rfl (x:=.bool false) rfl ?_)
 show wpAny _ _ (field (.ref z) 3 >>= _) _ _ _
 refine qwb (wpAny_field hz rfl (x:=.ref TI) rfl (qwb (wpAny_seqItems hI rfl ?_)))
 show wpAny _ _ (Builtin.SmallTypes.ownedTupleIsFree (.ref z) >>= _) _ _ _
 refine qwb ?_
 unfold Builtin.SmallTypes.ownedTupleIsFree
 refine qwb (wpAny_field hz rfl (x:=.none) rfl (qwp ?_))
 simp only [if_true]
 refine qwb (wpAny_rule (qwb (wpAny_field hz rfl (x:=.ref TO) rfl (qwb (wpAny_setField_rec hz (by simp) λg1 z1 s1=>?_)))))
 replace z1:IsZip g1 z TI TO .ellipsis:=z1
 refine qwb ?_
 simp only [List.zipIdx_cons,List.zipIdx_nil,List.forIn_cons,List.forIn_nil]
 refine qwb (qwb (wpAny_onRaise ?_))
 show wpAny _ _ (Builtin.SmallTypes.nextOf (.ref i1) >>= _) _ _ _
 refine qwb (D1.item k _ _ _ k1 (fr1 D1 h1 s1.extBut G.i1z G.l1z) λx g2 tk2 px t1 s2=>qwp ?_)
 have o2:IsPair g2 TO a b:=s2.extBut _ _ G.TOi1 (s1.extBut _ _ G.TOz hO)
 refine qwb (wpAny_seqItems o2 rfl (qwb (wpAny_updateSeq_pair o2 λg3 o3 s3=>?_)))
 replace o3:IsPair g3 TO x b:=o3
 refine qwb (wpAny_letGo (qwp (qwb (qwb (wpAny_onRaise ?_)))))
 show wpAny _ _ (Builtin.SmallTypes.nextOf (.ref i2) >>= _) _ _ _
 have t2:T2 k g3:=fr1 D2 (fr1 D2 (fr1 D2 h2 s1.extBut G.i2z G.l2z) s2.extBut G.i12.symm G.l2i1) s3.extBut G.TOi2.symm G.l2TO
 refine qwb (D2.item k _ _ _ k2 t2 λy g4 tk4 py u2 s4=>qwp ?_)
 have o4:IsPair g4 TO x b:=s4.extBut _ _ G.TOi2 o3
 refine qwb (wpAny_seqItems o4 rfl (qwb (wpAny_updateSeq_pair o4 λg5 o5 s5=>?_)))
 replace o5:IsPair g5 TO x y:=o5
 refine qwb (wpAny_letGo (qwp (qwp (qwb (wpAny_seqItems o5 rfl (qwb (wpAny_newTuple ?_)))))))
 have sz:g5.objs.size=s.heap.objs.size:=by rw [s5.1,s4.1,s3.1,s2.1,s1.1]
 have z5:IsZip g5 z TI TO .ellipsis:=s5.extBut _ _ G.TOz.symm (s4.extBut _ _ G.i2z.symm (s3.extBut _ _ G.TOz.symm (s2.extBut _ _ G.i1z.symm z1)))
 have old5:∀c o,c≠z->c≠TO->c≠i1->c≠i2->s.heap.get? c=some o->g5.get? c=some o:=λc o q1 q2 q3 q4 e=>s5.extBut _ _ q2 (s4.extBut _ _ q4 (s3.extBut _ _ q2 (s2.extBut _ _ q3 (s1.extBut _ _ q1 e))))
 have v1:T1 (k+1) g5:=fr1 D1 (fr1 D1 (fr1 D1 t1 s3.extBut G.TOi1.symm G.l1TO) s4.extBut G.i12 G.l1i2) s5.extBut G.TOi1.symm G.l1TO
 have v2:T2 (k+1) g5:=fr1 D2 u2 s5.extBut G.TOi2.symm G.l2TO
 have zl:z<g5.objs.size:=Heap.lt_size z5
 show wpAny _ _ (Builtin.SmallTypes.ownedTupleHandOut (.ref z) (.ref g5.objs.size) >>= _) _ _ _
 refine qwb ?_
 unfold Builtin.SmallTypes.ownedTupleHandOut
 have z6:IsZip (g5.push { cls:=.type "tuple",data:=.seq #[x,y] }) z TI TO .ellipsis:=qps _ z5
 refine qwb (wpAny_setField_rec z6 (by simp) λg7 z7 s7=>?_)
 replace z7:IsZip g7 z TI TO (rawInt g5.objs.size):=z7
 refine wpAny_setField_rec z7 (by simp) λg8 z8 s8=>?_
 replace z8:IsZip g8 z TI TO (rawInt g5.objs.size):=z8
 have rise:∀c o,c≠z->g5.get? c=some o->g8.get? c=some o:=λc o q e=>s8.extBut _ _ q (s7.extBut _ _ q (qps _ e))
 have pr8:IsPair g8 g5.objs.size x y:=s8.extBut _ _ (Nat.ne_of_gt zl) (s7.extBut _ _ (Nat.ne_of_gt zl) (Heap.get?_push_size _ rfl))
 rw [sz] at z8 pr8
 refine qwp ⟨_,rfl,?_⟩
 show Q (.ref g5.objs.size) _
 rw [sz]
 exact hQ x y g8 _ px py z8 (rise _ _ G.TOz o5) (fr1 D1 v1 (x:=z) (λc o q e=>rise c o q e) G.i1z G.l1z) (fr1 D2 v2 (x:=z) (λc o q e=>rise c o q e) G.i2z G.l2z) pr8 λc o q1 q2 q3 q4 e=>rise c o q1 (old5 c o q1 q2 q3 q4 e)
theorem yd9 {Q:Fin->Shared->Prop}(D1:Draws prog w A i1 [i1,c1] n1 P1 T1) (G:ZipApart z TI TO i1 i2 c1 c2) (hz:IsZip s.heap z TI TO .none) (hI:IsPair s.heap TI (.ref i1) (.ref i2)) (hO:IsPair s.heap TO a b)
  (h1:T1 k s.heap) (hend:k=n1\/k<n1/\∃P2 T2,Draws prog w A i2 [i2,c2] k P2 T2/\T2 k s.heap)
  (hE:∀h' e tk,(∀c o,c≠z->c≠TO->c≠i1->c≠i2->s.heap.get? c=some o->h'.get? c=some o)->(∃o,h'.get? e=some o/\o.cls=.type "StopIteration")->E (.ref e) { s with heap:=h',toks:=tk }) :
  wpAny (model prog w) A (Builtin.«zip.__next__» ⟨[.ref z],[]⟩) Q E s:=by
 show wpAny _ _ (field (.ref z) 2 >>= _) _ _ _
 refine qwb (wpAny_field hz rfl (x:=.bool false) rfl ?_)
 show wpAny _ _ (field (.ref z) 3 >>= _) _ _ _
 refine qwb (wpAny_field hz rfl (x:=.ref TI) rfl (qwb (wpAny_seqItems hI rfl ?_)))
 show wpAny _ _ (Builtin.SmallTypes.ownedTupleIsFree (.ref z) >>= _) _ _ _
 refine qwb ?_
 unfold Builtin.SmallTypes.ownedTupleIsFree
 refine qwb (wpAny_field hz rfl (x:=.none) rfl (qwp ?_))
 simp only [if_true]
 refine qwb (wpAny_rule (qwb (wpAny_field hz rfl (x:=.ref TO) rfl (qwb (wpAny_setField_rec hz (by simp) λg1 z1 s1=>?_)))))
 replace z1:IsZip g1 z TI TO .ellipsis:=z1
 refine qwb ?_
 simp only [List.zipIdx_cons,List.zipIdx_nil,List.forIn_cons,List.forIn_nil]
 refine qwb (qwb (wpAny_onRaise ?_))
 show wpAny _ _ (Builtin.SmallTypes.nextOf (.ref i1) >>= _) _ _ _
 have q1:=fr1 D1 h1 s1.extBut G.i1z G.l1z
 rcases hend with rfl|⟨k1,P2,T2,D2,h2⟩
 ·refine qwb (D1.done _ _ _ q1 λg2 e s2 he=>?_)
  obtain ⟨oe,hoe,hce⟩:=he
  have z2:IsZip g2 z TI TO .ellipsis:=s2 _ _ G.i1z.symm z1
  have ez:e≠z:=λx=>by subst x;rw [z2] at hoe;cases hoe;simp at hce
  refine wpAny_setField_rec z2 (by simp) λg3 _ s3=>hE g3 e _ (λc o c1 _ c3 _ x=>s3.extBut _ _ c1 (s2 _ _ c3 (s1.extBut _ _ c1 x))) ⟨oe,s3.extBut _ _ ez hoe,hce⟩
 ·refine qwb (D1.item k _ _ _ k1 q1 λx g2 tk2 px t1 s2=>qwp ?_)
  have o2:IsPair g2 TO a b:=s2.extBut _ _ G.TOi1 (s1.extBut _ _ G.TOz hO)
  refine qwb (wpAny_seqItems o2 rfl (qwb (wpAny_updateSeq_pair o2 λg3 o3 s3=>?_)))
  refine qwb (wpAny_letGo (qwp (qwb (qwb (wpAny_onRaise ?_)))))
  show wpAny _ _ (Builtin.SmallTypes.nextOf (.ref i2) >>= _) _ _ _
  have t2:T2 k g3:=fr1 D2 (fr1 D2 (fr1 D2 h2 s1.extBut G.i2z G.l2z) s2.extBut G.i12.symm G.l2i1) s3.extBut G.TOi2.symm G.l2TO
  refine qwb (D2.done _ _ _ t2 λg4 e s4 he=>?_)
  obtain ⟨oe,hoe,hce⟩:=he
  have z4:IsZip g4 z TI TO .ellipsis:=s4 _ _ G.i2z.symm (s3.extBut _ _ G.TOz.symm (s2.extBut _ _ G.i1z.symm z1))
  have ez:e≠z:=λx=>by subst x;rw [z4] at hoe;cases hoe;simp at hce
  refine wpAny_setField_rec z4 (by simp) λg5 _ s5=>hE g5 e _ (λc o q1 q2 q3 q4 x=>s5.extBut _ _ q1 (s4 _ _ q4 (s3.extBut _ _ q2 (s2.extBut _ _ q3 (s1.extBut _ _ q1 x))))) ⟨oe,s5.extBut _ _ ez hoe,hce⟩
end
section
variable {prog:Program}{w:World}{A:Around}{E:Value->Shared->Prop}{s:Shared}
variable {z TI TO i1 i2 c1 c2:Addr}{n1 n2 k:Nat}{P1 P2:Nat->Value->Prop}{T1 T2:Nat->Heap->Prop}{a b:Value}
theorem yea {Q:Option Value->Shared->Prop}(D1:Draws prog w A.in1 i1 [i1,c1] n1 P1 T1) (D2:Draws prog w A.in1 i2 [i2,c2] n2 P2 T2) (G:ZipApart z TI TO i1 i2 c1 c2) (hz:IsZip s.heap z TI TO .none) (hI:IsPair s.heap TI (.ref i1) (.ref i2)) (hO:IsPair s.heap TO a b)
  (h1:T1 k s.heap) (h2:T2 k s.heap) (k1:k<n1) (k2:k<n2)
  (hQ:∀x y h' tk,P1 k x->P2 k y->IsZip h' z TI TO (rawInt s.heap.objs.size)->IsPair h' TO x y->T1 (k+1) h'->T2 (k+1) h'->IsPair h' s.heap.objs.size x y ->
   (∀c o,c≠z->c≠TO->c≠i1->c≠i2->s.heap.get? c=some o->h'.get? c=some o)->Q (some (.ref s.heap.objs.size)) { s with heap:=h',toks:=tk }) :
  wpAny (model prog w) A (pyNext (.ref z)) Q E s:=by
 have hT:s.TypeIs (.ref z) "zip":=⟨_,hz,rfl⟩
 unfold pyNext
 exact qwb (wpAny_attempt (wpAny_callSpecial?_slot (name:=Str.ofString "__next__") hT F.slot_zip_next (wpAny_call_entry F.slot_zip_next hT F.entry_zip_next (yd8 D1 D2 G hz hI hO h1 h2 k1 k2 λx y h' tk p1 p2 p3 p4 p5 p6 p7 p8=>qwp (hQ x y h' tk p1 p2 p3 p4 p5 p6 p7 p8)) (F.args_zip_next_1 _))))
theorem zs2 {Q:Option Value->Shared->Prop}(D1:Draws prog w A.in1 i1 [i1,c1] n1 P1 T1) (G:ZipApart z TI TO i1 i2 c1 c2) (hz:IsZip s.heap z TI TO .none) (hI:IsPair s.heap TI (.ref i1) (.ref i2)) (hO:IsPair s.heap TO a b)
  (h1:T1 k s.heap) (hend:k=n1\/k<n1/\∃P2 T2,Draws prog w A.in1 i2 [i2,c2] k P2 T2/\T2 k s.heap)
  (hQ:∀h' tk,(∀c o,c≠z->c≠TO->c≠i1->c≠i2->s.heap.get? c=some o->h'.get? c=some o)->Q none { s with heap:=h',toks:=tk }):wpAny (model prog w) A (pyNext (.ref z)) Q E s:=by
 have hT:s.TypeIs (.ref z) "zip":=⟨_,hz,rfl⟩
 unfold pyNext
 refine qwb (wpAny_attempt (wpAny_callSpecial?_slot (name:=Str.ofString "__next__") hT F.slot_zip_next (wpAny_call_entry F.slot_zip_next hT F.entry_zip_next (yd9 D1 G hz hI hO h1 hend λh' e tk hk he=>?_) (F.args_zip_next_1 _))))
 obtain ⟨o,ho,hc⟩:=he
 exact qwb (wpAny_isInstance (T:="StopIteration") (b:=true) ⟨o,ho,hc⟩ isSubtype_stop (qwp (hQ _ _ hk)))
end
structure Zs (P:Program) (w:World) (K:QFg) (J:It) (b a:Addr) (tn:Nat->Heap->Prop):Prop where
 obj:∀i h,tn i h->∃o,h.get? b=some o/\∀v,o.data≠.cell v
 keep:∀i h h',tn i h->(∀o,h.get? b=some o->h'.get? b=some o)->tn i h'
 go:∀(X:Cx),X.prog=P->X.w=w->X.K=K->X.calm=true->∀(i:Nat) (pins:List (Addr × Obj)) (s:Shared) (σ:L2.St) (H:Hp),Inv X pins σ H s->tn i s.heap->J.go i H ->
  ∃n Pv St,Draws P w X.A.in1 b [b,a] n Pv St/\St i s.heap/\i<n/\(∀h',St (i+1) h'->tn (i+1) h')/\∀u,Pv i u->∃x,RelV x u/\J.yld i H x H
 stop:∀(X:Cx),X.prog=P->X.w=w->X.K=K->X.calm=true->∀(i:Nat) (pins:List (Addr × Obj)) (s:Shared) (σ:L2.St) (H:Hp),Inv X pins σ H s->tn i s.heap->J.stop i H ->
  ∃Pv St,Draws P w X.A.in1 b [b,a] i Pv St/\St i s.heap
theorem yeb {P:Program}{w:World}{K:QFg}(b a:Addr) (nab:a≠b):Zs P w K (Itl K a) b a (λi h=>h.IsListIter b a i) where
 obj:=λi h st=>by
  obtain ⟨o,q,c,d⟩:=st
  exact ⟨o,q,λv z=>by rw [d] at z;cases z⟩
 keep:=λi h h1 st k=>st.at λo q=>k o q
 go:=by
  intro X hP hw hK hc i pins s σ H I st hg
  subst hP hw hK
  obtain ⟨xs,x,hq,hx⟩:=hg
  obtain ⟨its,rv,p,hz⟩:=I.list hq
  obtain ⟨u,hu,ru⟩:=rv.get hx
  have hlt:i<its.toArray.size:=by simpa using (qme hu).1
  refine ⟨_,_,_,Draws.list (A:=X.A.in1) (I.ok.hd hc) b a nab its.toArray,⟨st,p.isList⟩,hlt,λh' q=>q.1,λv hv=>⟨x,?_,rfl,λys hy=>by rw [I.list_inj hy hq];exact hx⟩⟩
  have:its.toArray[i]? = some u:=by simpa using hu
  rw [this] at hv
  exact (qoi hv) ▸ ru
 stop:=by
  intro X hP hw hK hc i pins s σ H I st hg
  subst hP hw hK
  obtain ⟨xs,hq,hx⟩:=hg
  obtain ⟨its,rv,p,hz⟩:=I.list hq
  have hl:=rv.length
  refine ⟨λ_ _=>False,λj h=>j=i/\h.IsListIter b a i/\h.IsList a its.toArray,?_,rfl,st,p.isList⟩
  refine ⟨λj h q=>?_,λj h h' q k=>⟨q.1,q.2.1.at λo e=>k b (by simp) o e,q.2.2.at λo e=>k a (by simp) o e⟩,λj s' Q E hj q=>absurd hj (by rw [q.1];exact Nat.lt_irrefl _),λs' Q E q hE=>?_⟩
  ·obtain ⟨_,⟨o,e,_⟩,_⟩:=q
   exact ⟨o,e⟩
  ·exact wpAny_nextOf_list_end (I.ok.hd hc) q.2.1 q.2.2 (by simp;omega) hE
theorem yec {P:Program}{w:World}{K:QFg}(b a:Addr) (nab:a≠b):Zs P w K (Itt K a) b a (λi h=>h.IsTupleIter b a i) where
 obj:=λi h st=>by
  obtain ⟨o,q,c,d⟩:=st
  exact ⟨o,q,λv z=>by rw [d] at z;cases z⟩
 keep:=λi h h1 st k=>by
  obtain ⟨o,q,r⟩:=st
  exact ⟨o,k o q,r⟩
 go:=by
  intro X hP hw hK hc i pins s σ H I st hg
  subst hP hw hK
  obtain ⟨xs,x,hq,hx⟩:=hg
  obtain ⟨its,rv,p,hz⟩:=I.tuple hq
  obtain ⟨u,hu,ru⟩:=rv.get hx
  have p:s.heap.IsTuple a its.toArray:=p
  have hlt:i<its.toArray.size:=by simpa using (qme hu).1
  refine ⟨_,_,_,zrx (A:=X.A.in1) (I.ok.hd hc) b a nab its.toArray,⟨st,p⟩,hlt,λh' q=>q.1,λv hv=>⟨x,?_,rfl,λys hy=>by rw [I.tuple_inj hy hq];exact hx⟩⟩
  have:its.toArray[i]? = some u:=by simpa using hu
  rw [this] at hv
  exact (qoi hv) ▸ ru
 stop:=by
  intro X hP hw hK hc i pins s σ H I st hg
  subst hP hw hK
  obtain ⟨xs,hq,hx⟩:=hg
  obtain ⟨its,rv,p,hz⟩:=I.tuple hq
  have p:s.heap.IsTuple a its.toArray:=p
  have hl:=rv.length
  refine ⟨λ_ _=>False,λj h=>j=i/\h.IsTupleIter b a i/\h.IsTuple a its.toArray,?_,rfl,st,p⟩
  refine ⟨λj h q=>?_,λj h h' q k=>⟨q.1,?_,?_⟩,λj s' Q E hj q=>absurd hj (by rw [q.1];exact Nat.lt_irrefl _),λs' Q E q hE=>?_⟩
  ·obtain ⟨_,⟨o,e,_⟩,_⟩:=q
   exact ⟨o,e⟩
  ·obtain ⟨o,e,r⟩:=q.2.1
   exact ⟨o,k b (by simp) o e,r⟩
  ·obtain ⟨o,e,r⟩:=q.2.2
   exact ⟨o,k a (by simp) o e,r⟩
  ·exact zng (I.ok.hd hc) q.2.1 q.2.2 (by simp;omega) hE
noncomputable def Itz (J1 J2:It):It:=⟨λi H=>J1.go i H/\J2.go i H,λi H x H1=>∃y1 y2 p,J1.yld i H y1 H/\J2.yld i H y2 H/\H p=none/\x=.ref p/\H1=upd H p (.tup [y1,y2]),λi H=>J1.stop i H\/(J1.go i H/\J2.stop i H)⟩
theorem yed {P:Program}{w:World}{K:QFg}{elts:List Expr}{x0:Nat}{tp:Pos}{J1 J2:It}{z TI TO i1 i2 c1 c2:Addr}{t1 t2:Nat->Heap->Prop}(Z1:Zs P w K J1 i1 c1 t1) (Z2:Zs P w K J2 i2 c2 t2) (G:ZipApart z TI TO i1 i2 c1 c2) :
  Turn P w K (.Tuple elts x0 tp) (Itz J1 J2) [z,TI,TO,i1,i2] z (λi h=>IsZip h z TI TO .none/\IsPair h TI (.ref i1) (.ref i2)/\(∃a b,IsPair h TO a b)/\t1 i h/\t2 i h) where
 mem:=by simp
 obj:=by
  rintro i h ⟨hz,hI,⟨a,b,hO⟩,q1,q2⟩ c hc
  simp only [List.mem_cons,List.not_mem_nil,or_false] at hc
  rcases hc with rfl|rfl|rfl|rfl|rfl
  ·exact ⟨_,hz,λv e=>by have e:Data.fields _=Data.cell v:=e
                        cases e⟩
  ·exact ⟨_,hI,λv e=>by have e:Data.seq _ _=Data.cell v:=e
                        cases e⟩
  ·exact ⟨_,hO,λv e=>by have e:Data.seq _ _=Data.cell v:=e
                        cases e⟩
  ·exact Z1.obj i h q1
  ·exact Z2.obj i h q2
 keep:=by
  rintro i h h' ⟨hz,hI,⟨a,b,hO⟩,q1,q2⟩ k
  exact ⟨k z (by simp) _ hz,k TI (by simp) _ hI,⟨a,b,k TO (by simp) _ hO⟩,Z1.keep i h h' q1 (k i1 (by simp)),Z2.keep i h h' q2 (k i2 (by simp))⟩
 item:=by
  intro X hP hw hK hc i pins s σ H E I hf st hg
  obtain ⟨hz,hI,⟨a,b,hO⟩,q1,q2⟩:=st
  obtain ⟨n1,P1,T1,D1,u1,k1,v1,r1⟩:=Z1.go X hP hw hK hc i pins s σ H I q1 hg.1
  obtain ⟨n2,P2,T2,D2,u2,k2,v2,r2⟩:=Z2.go X hP hw hK hc i pins s σ H I q2 hg.2
  subst hP hw hK
  have hn:H s.heap.objs.size=none:=I.hok.fresh (qlr _)
  have lt:∀{c:Addr} {o:Obj},s.heap.get? c=some o->c≠s.heap.objs.size:=λe=>Nat.ne_of_lt (Heap.lt_size e)
  have li1:i1≠s.heap.objs.size:=by
   obtain ⟨o,e,_⟩:=Z1.obj i _ q1
   exact lt e
  have li2:i2≠s.heap.objs.size:=by
   obtain ⟨o,e,_⟩:=Z2.obj i _ q2
   exact lt e
  refine yea D1 D2 G hz hI hO u1 u2 k1 k2 λx y h1 tk p1 p2 p3 p4 p5 p6 p7 p8=>⟨_,rfl,wpAny_letOwnedTupleGo_zip p3 λh2 z2 s2=>?_⟩
  replace s2:Heap.SameBut z h1 h2:=s2
  obtain ⟨dx,rx,yx⟩:=r1 x p1
  obtain ⟨dy,ry,yy⟩:=r2 y p2
  refine ⟨.ref s.heap.objs.size,upd H s.heap.objs.size (.tup [dx,dy]),?_,rfl,⟨dx,dy,s.heap.objs.size,yx,yy,hn,rfl,rfl⟩,⟨z2,s2.extBut _ _ G.TIz (p8 _ _ G.TIz G.TITO G.TIi1 G.TIi2 hI),⟨_,_,s2.extBut _ _ G.TOz p4⟩,Z1.keep _ _ _ (v1 _ p5) (λo e=>s2.extBut _ _ G.i1z e),Z2.keep _ _ _ (v2 _ p6) (λo e=>s2.extBut _ _ G.i2z e)⟩,λc hc=>?_⟩
  ·refine Inv.dealt (t1:=tk) (us:=[x,y]) (ch:=[z,TI,TO,i1,i2]) I hf (λc o hc q=>?_) ⟨_,s2.extBut _ _ (lt hz).symm p7,rfl,_,rfl,rfl⟩ (.cons rx (.cons ry .nil)) (by show 2<=sizeLine;decide)
   simp only [List.mem_cons,List.not_mem_nil,or_false,not_or] at hc
   exact s2.extBut _ _ hc.1 (p8 c o hc.1 hc.2.2.1 hc.2.2.2.1 hc.2.2.2.2 q)
  ·have hne:c≠s.heap.objs.size:=by
    simp only [List.mem_cons,List.not_mem_nil,or_false] at hc
    rcases hc with rfl|rfl|rfl|rfl|rfl
    ·exact lt hz
    ·exact lt hI
    ·exact lt hO
    ·exact li1
    ·exact li2
   rw [zan hne];exact (hf c hc).1
 done:=by
  intro X hP hw hK hc i pins s σ H E I hf st hg
  obtain ⟨hz,hI,⟨a,b,hO⟩,q1,q2⟩:=st
  have fin:∀(h1:Heap) (tk:Nat),(∀c o,c≠z->c≠TO->c≠i1->c≠i2->s.heap.get? c=some o->h1.get? c=some o)->Inv X pins σ H { s with heap:=h1,toks:=tk }:=λh1 tk k =>
   Inv.turnedL (ch:=[z,TI,TO,i1,i2]) I hf λc o hc q=>by
    simp only [List.mem_cons,List.not_mem_nil,or_false,not_or] at hc
    exact k c o hc.1 hc.2.2.1 hc.2.2.2.1 hc.2.2.2.2 q
  rcases hg with g1|⟨g1,g2⟩
  ·obtain ⟨P1,T1,D1,u1⟩:=Z1.stop X hP hw hK hc i pins s σ H I q1 g1
   subst hP hw hK
   exact zs2 D1 G hz hI hO u1 (.inl rfl) λh1 tk k=>⟨rfl,fin h1 tk k⟩
  ·obtain ⟨n1,P1,T1,D1,u1,k1,_⟩:=Z1.go X hP hw hK hc i pins s σ H I q1 g1
   obtain ⟨P2,T2,D2,u2⟩:=Z2.stop X hP hw hK hc i pins s σ H I q2 g2
   subst hP hw hK
   exact zs2 D1 G hz hI hO u1 (.inr ⟨k1,P2,T2,D2,u2⟩) λh1 tk k=>⟨rfl,fin h1 tk k⟩
 self:=λA i s Q E st h=>wpAny_pyIter_zip st.1 h
noncomputable abbrev itO (t:Bool) (a:Addr):Obj:={ cls:=.type (if t then "tuple_iterator" else "list_iterator"),data:=.fields #[.ref a,.int 0 0] }
def SqB (t:Bool) (h:Heap) (a:Addr) (vs:Array Value):Prop:=if t then h.IsTuple a vs else h.IsList a vs
theorem SqB.push {t:Bool}{h:Heap}{a:Addr}{vs:Array Value}(q:SqB t h a vs) (o:Obj):SqB t (h.push o) a vs:=by
 cases t with
 | true =>
  obtain ⟨x,e,r⟩:=(q:h.IsTuple a vs)
  exact (⟨x,qps _ e,r⟩:(h.push o).IsTuple a vs)
 | false=>exact Heap.IsList.push (q:h.IsList a vs) o
theorem zs3 {prog:Program}{w:World}{A:Around}{E:Value->Shared->Prop}{s:Shared}{t:Bool}{a:Addr}{vs:Array Value}{Q:Value->Shared->Prop}(q:SqB t s.heap a vs) (h:Q (.ref s.heap.objs.size) { s with heap:=s.heap.push (itO t a) }):wpAny (model prog w) A (pyIter (.ref a)) Q E s:=by
 cases t with
 | true=>exact wpAny_pyIter_tuple (q:s.heap.IsTuple a vs) h
 | false=>exact wpAny_pyIter_list (q:s.heap.IsList a vs) h
noncomputable abbrev zp1 (t1:Bool) (h:Heap) (l1:Addr):Heap:=h.push (itO t1 l1)
noncomputable abbrev zp2 (t1 t2:Bool) (h:Heap) (l1 l2:Addr):Heap:=(zp1 t1 h l1).push (itO t2 l2)
noncomputable abbrev zp3 (t1 t2:Bool) (h:Heap) (l1 l2:Addr):Heap:=(zp2 t1 t2 h l1 l2).push { cls:=.type "tuple",data:=.seq #[.ref h.objs.size,.ref (zp1 t1 h l1).objs.size] }
noncomputable abbrev zp4 (t1 t2:Bool) (h:Heap) (l1 l2:Addr):Heap:=(zp3 t1 t2 h l1 l2).push { cls:=.type "tuple",data:=.seq #[.none,.none] }
noncomputable abbrev zp5 (t1 t2:Bool) (h:Heap) (l1 l2:Addr):Heap:=(zp4 t1 t2 h l1 l2).push { cls:=.type "zip",data:=.fields #[.none,.bool false,.bool false,.ref (zp2 t1 t2 h l1 l2).objs.size,.ref (zp3 t1 t2 h l1 l2).objs.size] }
theorem yee (t1 t2:Bool) (l1 l2:Addr) (xs ys:Array Value) :
  Meets (Builtin.«zip.__new__» ⟨[.type "zip",.ref l1,.ref l2],[]⟩) (λ_ R s=>SqB t1 s.heap l1 xs/\SqB t2 s.heap l2 ys/\R (.ok (.ret (.ref (zp4 t1 t2 s.heap l1 l2).objs.size))) { s with heap:=zp5 t1 t2 s.heap l1 l2 }) :=
 .of_wp λprog w A R s h=>by
  obtain ⟨hp,g,d,tk,os⟩:=s
  obtain ⟨q1,q2,h⟩:=h
  have hsub:=sub_zip
  have b1:SqB t1 (Shared.heap ⟨hp,g,d,tk,os⟩) l1 xs:=q1
  have b2:SqB t2 (Shared.heap ⟨hp.push (itO t1 l1),g,d,tk,os⟩) l2 ys:=SqB.push q2 _
  wp_walk using zs3 b1,zs3 b2
  exact ⟨_,rfl,h⟩
section
variable {prog:Program}{w:World}{A:Around}{E:Value->Shared->Prop}{s:Shared}
theorem yef {t1 t2:Bool}{l1 l2:Addr}{xs ys:Array Value}{Q:Value->Shared->Prop}(q1:SqB t1 s.heap l1 xs) (q2:SqB t2 s.heap l2 ys)
  (h:∀h',IsZip h' (s.heap.objs.size+4) (s.heap.objs.size+2) (s.heap.objs.size+3) .none->IsPair h' (s.heap.objs.size+2) (.ref s.heap.objs.size) (.ref (s.heap.objs.size+1))->IsPair h' (s.heap.objs.size+3) .none .none ->
   h'.get? s.heap.objs.size=some (itO t1 l1)->h'.get? (s.heap.objs.size+1)=some (itO t2 l2)->(∀c o,s.heap.get? c=some o->h'.get? c=some o)->Q (.ref (s.heap.objs.size+4)) { s with heap:=h' }) :
  wpAny (model prog w) A (call (.type "zip") [.ref l1,.ref l2]) Q E s:=by
 refine callType_new F.called_zip (by decide) (F.typeCall_zip_2 _ _) (F.newCall_zip_2 _ _) (λobj=>F.args_object_init_3 obj _ _) F.entry_zip_new (yee t1 t2 l1 l2 xs ys) ⟨q1,q2,?_⟩
 have e1:(zp1 t1 s.heap l1).objs.size=s.heap.objs.size+1:=Heap.size_push ..
 have e2:(zp2 t1 t2 s.heap l1 l2).objs.size=s.heap.objs.size+2:=by rw [Heap.size_push,e1]
 have e3:(zp3 t1 t2 s.heap l1 l2).objs.size=s.heap.objs.size+3:=by rw [Heap.size_push,e2]
 have e4:(zp4 t1 t2 s.heap l1 l2).objs.size=s.heap.objs.size+4:=by rw [Heap.size_push,e3]
 have g5:(zp5 t1 t2 s.heap l1 l2).get? (zp4 t1 t2 s.heap l1 l2).objs.size=some _:=Heap.get?_push_size _ rfl
 have g4:(zp5 t1 t2 s.heap l1 l2).get? (zp3 t1 t2 s.heap l1 l2).objs.size=some _:=qps _ (Heap.get?_push_size _ rfl)
 have g3:(zp5 t1 t2 s.heap l1 l2).get? (zp2 t1 t2 s.heap l1 l2).objs.size=some _:=qps _ (qps _ (Heap.get?_push_size _ rfl))
 have g2:(zp5 t1 t2 s.heap l1 l2).get? (zp1 t1 s.heap l1).objs.size=some _:=qps _ (qps _ (qps _ (Heap.get?_push_size _ rfl)))
 have g1:(zp5 t1 t2 s.heap l1 l2).get? s.heap.objs.size=some _:=qps _ (qps _ (qps _ (qps _ (Heap.get?_push_size _ rfl))))
 show _/\_
 rw [e2,e3,e4] at g5
 rw [e1,e2] at g3
 rw [e3] at g4
 rw [e1] at g2
 rw [e4]
 exact ⟨⟨_,g5,rfl⟩,h _ g5 g3 g4 g1 g2 λc o x=>qps _ (qps _ (qps _ (qps _ (qps _ x))))⟩
end
theorem yeg:bootBuiltins "zip" = some (.type "zip"):=by decide +kernel
noncomputable def ItB (K:QFg) (t:Bool) (a:Addr):It:=if t then Itt K a else Itl K a
def SqK (K:QFg) (t:Bool) (H:Hp) (a:Addr):Prop:=if t then ∃xs,SqT K H a xs else ∃xs,SqL K H a xs
def iZp (K:QFg) (ta:TA):TI:=λσ H R=>ta σ H λvs H1=>∃(t1 t2:Bool) (a b:Addr),vs=[.ref a,.ref b]/\SqK K t1 H1 a/\SqK K t2 H1 b/\R (Itz (ItB K t1 a) (ItB K t2 b)) H1
theorem SqK.at {X:Cx}{pins:List (Addr × Obj)}{σ:L2.St}{H:Hp}{s:Shared}{t:Bool}{a:Addr}(I:Inv X pins σ H s) (q:SqK X.K t H a):∃vs,SqB t s.heap a vs/\a<s.heap.objs.size:=by
 cases t with
 | true =>
  obtain ⟨xs,hq⟩:=(q:∃xs,SqT X.K H a xs)
  obtain ⟨its,rv,pl,hz⟩:=I.tuple hq
  have pl:s.heap.IsTuple a its.toArray:=pl
  obtain ⟨o,e,_⟩:=id pl
  exact ⟨_,pl,Heap.lt_size e⟩
 | false =>
  obtain ⟨xs,hq⟩:=(q:∃xs,SqL X.K H a xs)
  obtain ⟨its,rv,pl,hz⟩:=I.list hq
  obtain ⟨o,e,_⟩:=id pl.isList
  exact ⟨_,pl.isList,Heap.lt_size e⟩
theorem zs4 {P:Program}{w:World}{K:QFg}(t:Bool) (b a:Addr) (nab:a≠b):Zs P w K (ItB K t a) b a (λi h=>if t then h.IsTupleIter b a i else h.IsListIter b a i):=by
 cases t with
 | true=>exact yec b a nab
 | false=>exact yeb b a nab
theorem yeh {X:Cx}{elts:List Expr}{x0:Nat}{tp:Pos}{a a2:Expr}{ta:TA}{p pos:Pos}(hg:Gl X "zip") (hm:X.mg "zip" = none) (ha:PA X [a,a2] ta) (hs:starEach [a,a2] X.env=(false,eval a X.env) :: starEach [a2] X.env:=by rfl) (hs2:(backTo pos (starEach [a2] X.env)).any (·.1)=false:=by rfl) :
  PI X (.Tuple elts x0 tp) (.Call (.Name "zip" p) [a,a2] [] pos) (iZp X.K ta):=by
 intro pins s σ H R I h
 refine Call_ (zfg I hg hm yeg (PyProof.Rows.callWith_type1 (thn (ha pos pins s σ H _ I h) λus s1 hx_=>?_) hs hs2))
 obtain ⟨vs,H1,I1,r1,q1⟩:=hx_
 obtain ⟨t1,t2,b,c,rfl,k1,k2,q⟩:=q1
 obtain ⟨u,v,rfl,ru,rv⟩:=Vals.two r1
 cases ru;cases rv
 obtain ⟨xs,b1,l1⟩:=k1.at I1
 obtain ⟨ys,b2,l2⟩:=k2.at I1
 refine yef b1 b2 λh' hz hI hO w1 w2 hk=>?_
 have m1:@LT.lt Nat _ b s1.heap.objs.size:=l1
 have m2:@LT.lt Nat _ c s1.heap.objs.size:=l2
 generalize hn:s1.heap.objs.size=n at *
 have G:ZipApart (n+4) (n+2) (n+3) n (n+1) b c:=by constructor <;> (show (_:Nat)≠_) <;> omega
 refine wpAny_pyIter_zip (s:={ s1 with heap:=h' }) hz ⟨_,_,_,_,H1,rfl,I1.kept (t':=s1.toks) hk,yed (zs4 t1 n b (Nat.ne_of_lt m1)) (zs4 t2 (n+1) c (Nat.ne_of_lt (Nat.lt_succ_of_lt m2))) G,⟨hz,hI,⟨_,_,hO⟩,?_,?_⟩,λc hc=>?_,q⟩
 ·cases t1 with
  | true=>exact ⟨_,w1,rfl,rfl⟩
  | false=>exact ⟨_,w1,rfl,rfl⟩
 ·cases t2 with
  | true=>exact ⟨_,w2,rfl,rfl⟩
  | false=>exact ⟨_,w2,rfl,rfl⟩
 ·have:s1.heap.objs.size<=c:=by
   simp only [List.mem_cons,List.not_mem_nil,or_false] at hc
   rcases hc with rfl|rfl|rfl|rfl|rfl <;> omega
  exact I1.fpOk this (I1.hok.fresh this)
noncomputable def itZ (i1 i2:ItM):ItM:=λi S=>(i1 i S).bind λo=>match o with
 | none=>some none
 | some x=>(i2 i S).bind λp=>match p with
  | none=>some none
  | some y=>some (some (.tup [x,y]))
noncomputable def sqI (S:Sto):D->Option (ItM × Nat)
 | .tup xs=>some (itX xs,xs.length)
 | .ref n=>(lstOf S n).bind λxs=>some (itL n,xs.length)
 | _=>none
noncomputable def zk3 (m:AM):IM:=λl S=>(m l S).bind λp=>match p.1 with
 | [x,y]=>(sqI p.2 x).bind λa=>(sqI p.2 y).bind λb=>some (itZ a.1 b.1,min a.2 b.2+1,p.2)
 | _=>none
theorem yei {K:QFg}{ρ:List Addr}{H:Hp}{i1 i2:ItM}{J1 J2:It}(h1:ze3 K ρ H i1 J1) (h2:ze3 K ρ H i2 J2):zkp K ρ H (itZ i1 i2) (Itz J1 J2):=by
 intro i ρ1 S1 H1 e s
 obtain ⟨a1,a2⟩:=h1 i ρ1 S1 H1 e s
 obtain ⟨b1,b2⟩:=h2 i ρ1 S1 H1 e s
 unfold itZ
 refine ⟨λq=>?_,λx q=>?_⟩
 ·obtain ⟨o,ho,q⟩:=bnd q
  cases o with
  | none=>exact .inl (a1 ho)
  | some x =>
   obtain ⟨p,hp,q⟩:=bnd q
   cases p with
   | none=>exact .inr ⟨(a2 x ho).1,b1 hp⟩
   | some y=>cases q
 ·obtain ⟨o,ho,q⟩:=bnd q
  cases o with
  | none=>cases q
  | some x1 =>
   obtain ⟨p,hp,q⟩:=bnd q
   cases p with
   | none=>cases q
   | some y1 =>
    cases q
    obtain ⟨g1,r1⟩:=a2 x1 ho
    obtain ⟨g2,r2⟩:=b2 y1 hp
    refine ⟨⟨g1,g2⟩,λv H2 hx_=>?_⟩
    obtain ⟨y,y',p,hy1,hy2,hp,e1,e2⟩:=hx_
    subst e1 e2
    obtain ⟨_,s1⟩:=r1 y H1 hy1
    obtain ⟨_,s2⟩:=r2 y' H1 hy2
    exact ⟨zbu hp,s.laid hp,.tup zbf (.cons (s1.mono (zbu hp)) (.cons (s2.mono (zbu hp)) .nil))⟩
theorem zs5 {K:QFg}{ρ:List Addr}{S:Sto}{H:Hp}{x:D}{v:V}{a:ItM × Nat}(h:sqI S x=some a) (sim:Sim K ρ S H) (r:RD ρ H x v):∃t c,v=.ref c/\SqK K t H c/\ze3 K ρ H a.1 (ItB K t c):=by
 unfold sqI at h
 split at h
 ·cases h
  cases r with
  | @tup _ c us hc' rr=>exact ⟨true,c,rfl,⟨us,SqT.of hc'⟩,zmx hc' rr⟩
 ·obtain ⟨ys,hx,h⟩:=bnd h
  cases h
  obtain ⟨c,us,hc',sq,rv'⟩:=sim.lstOf hx
  cases r with
  | ref hn =>
   rw [hc'] at hn;cases hn
   exact ⟨false,c,rfl,⟨us,sq⟩,zmy hc'⟩
 ·cases h
theorem yej {X:Cx}{elts:List Expr}{x0:Nat}{tp:Pos}{a a2:Expr}{mA:AM}{p0 pos':Pos}(hgl:Gl X "zip") (hmg:X.mg "zip" = none) (ha:PA3 X [a,a2] mA) (hst:starEach [a,a2] X.env=(false,eval a X.env) :: starEach [a2] X.env:=by rfl) (hst2:(backTo pos' (starEach [a2] X.env)).any (·.1)=false:=by rfl):znq X (.Tuple elts x0 tp) (.Call (.Name "zip" p0) [a,a2] [] pos') (zk3 mA) :=
 PI.imp (yeh hgl hmg ha hst hst2) λσ H R hx_=>by
  obtain ⟨ρ,l,S,it,k,S',sim,ro,hm,p⟩:=hx_
  obtain ⟨⟨xs,S2⟩,q2,q1⟩:=bnd hm
  dsimp only at q1
  split at q1
  ·rename_i x y
   obtain ⟨u1,e1,q1⟩:=bnd q1
   obtain ⟨u2,e2,q1⟩:=bnd q1
   cases q1
   refine ⟨ρ,l,S,[x,y],_,sim,ro,q2,λρ1 H1 vs ex s1 r1=>?_⟩
   obtain ⟨v,u,rfl,rv,ru⟩:=r1.two
   obtain ⟨t1,c1,rfl,k1,o1⟩:=zs5 e1 s1 rv
   obtain ⟨t2,c2,rfl,k2,o2⟩:=zs5 e2 s1 ru
   exact ⟨t1,t2,c1,c2,rfl,k1,k2,p ρ1 H1 _ ex s1 (yei o1 o2)⟩
  ·cases q1
section
variable {P:Program}{w:World}{K:QFg}{tg:Expr}
end
section
variable {X:Cx}{tg l:Expr}{tl:TE}{m:EM}
end
section
variable {X:Cx}{a b e:Expr}{m ma mb:EM}{pos:Pos}{es:List Expr}{ms:List EM}{out:Str}
end
open PySem.Builtin PySem.Builtin.Str
section
variable {X:Cx}
variable {o e:Expr}{mo m:EM}{apos cpos:Pos}{name:Str}{id:String}{f:D->List D->Sto->Option (D × Sto)}{r:V->List V->Hp->VK->Prop}
end
noncomputable def zk4:D->Sto->Option (D × Sto)
 | .int i,S=>some (.int (Builtin.Int.intBits i),S)
 | _,_=>none
section
variable {X:Cx}{o:Expr}{mo:EM}{apos cpos:Pos}
theorem yek:MtM X "int.bit_length" (λx vs H Q=>∃i,x=.int i/\vs=[]/\Q (.int (Builtin.Int.intBits i)) H):=by
 intro pins s σ H x vs v us Q I rx rv h
 obtain ⟨i,rfl,rfl,q⟩:=h
 obtain ⟨t,rfl⟩:=rx
 cases rv
 exact call_int_bit_length ⟨.int (Builtin.Int.intBits i),H,I.tok _,⟨_,rfl⟩,q⟩
theorem zs6 (ho:PE3 X o mo) (hbase:attributeBase o "bit_length" X.env (eval o X.env)=eval o X.env:=by rfl) (hline:(apos.endLine == cpos.line)=true:=by rfl) :
  PE3 X (.Call (.Attribute o "bit_length" apos) [] [] cpos) (eUn zk4 mo) :=
 PE.imp (zqd PySem.F.plainAttrs_int PySem.F.slot_int_bit_length PySem.F.type_int_bit_length yek ho hbase hline) λσ H Q hx2_=>by
  obtain ⟨ρ,l,S,v,S',sim,ro,hq,p⟩:=hx2_
  obtain ⟨⟨x,S1⟩,h1,hq⟩:=bnd hq
  refine ⟨ρ,l,S,x,S1,sim,ro,h1,λρ1 H1 x' e1 s1 r1=>?_⟩
  cases r1 with
  | int i=>cases hq;exact ⟨rfl,i,rfl,rfl,p ρ1 H1 _ e1 s1 (.int _)⟩
  | _=>cases hq
end
section
variable {prog:Program}{w:World}{A:Around}{E:Value->Shared->Prop}
noncomputable def zi6 (its:Array Value) (x:Value) (i:Nat) (_:Option PySem.Fin × Unit):Sem (ForInStep (Option PySem.Fin × Unit)):=match its[i]? with
 | some y=>do
  let b <-eqBool y x
  if b=true then do
   let r <-retInt i
   pure (ForInStep.done (some r,()))
  else pure (ForInStep.yield (none,()))
 | _=>pure (ForInStep.yield (none,()))
theorem zs7 {its:Array Value}{x:Int}{u:Tok}{j:Nat}{s:Shared}{Q:Option PySem.Fin × Unit->Shared->Prop}(hj:∃t,its[j]? = some (.int x t)) (hb:∀m,m<j->∃y t,its[m]? = some (.int y t)/\y≠x)
  (h:Q (some (.done (.ret (.int j s.toks))),()) { s with toks:=s.toks+1 }):∀(n k:Nat),k<=j->j<k+n->wpAny (model prog w) A (forIn (List.range' k n) (none,()) (zi6 its (.int x u))) Q E s
 | 0,k,h1,h2=>absurd h2 (by omega)
 | n+1,k,h1,h2=>by
  rw [List.range'_succ,List.forIn_cons]
  by_cases hk:k=j
  ·subst hk
   obtain ⟨t,e⟩:=hj
   unfold zi6
   rw [e]
   refine qwb (qwb (wpAny_eqBool_int ?_))
   rw [beq_self_eq_true,if_pos rfl]
   refine qwb ?_
   unfold retInt
   exact qwb (wpAny_mkInt (qwp (qwp (qwp h))))
  ·obtain ⟨y,t,e,hne⟩:=hb k (by omega)
   have hstep:wpAny (model prog w) A (zi6 its (.int x u) k (none,())) (λr s'=>r=.yield (none,())/\s' = s) E s:=by
    unfold zi6
    rw [e]
    refine qwb (wpAny_eqBool_int ?_)
    rw [if_neg (by simpa using hne)]
    exact qwp ⟨rfl,rfl⟩
   refine qwb (thn hstep ?_)
   rintro r s' ⟨rfl,rfl⟩
   exact zs7 hj hb h n (k+1) (by omega) (by omega)
theorem yel {a:Addr}{its:Array Value}{o:Obj}{e0:Nat}{s:Shared}{x:Int}{u:Tok}{j:Nat}{Q:Value->Shared->Prop}(ho:s.heap.get? a=some o) (hc:o.cls=.type "tuple") (hd:o.data=.seq its e0)
  (hj:∃t,its[j]? = some (.int x t)) (hb:∀m,m<j->∃y t,its[m]? = some (.int y t)/\y≠x) (h:Q (.int j s.toks) { s with toks:=s.toks+1 }) :
  wpAny (model prog w) A (call (.builtin "tuple.index") [.ref a,.int x u]) Q E s:=by
 refine wpAny_call_entry F.slot_tuple_index ⟨_,ho,hc⟩ F.entry_tuple_index ?_ (F.args_tuple_index_2 _ _)
 unfold Builtin.«tuple.index»
 obtain ⟨hp,g,d,tk,os⟩:=s
 obtain ⟨c1,c2,c3,c4⟩:=o
 dsimp only at hc hd ho
 subst hc hd
 simp only [Std.Legacy.Range.forIn_eq_forIn_range',Std.Legacy.Range.size,Nat.add_sub_cancel,Nat.div_one]
 wp_walk
 have hlt:j<its.size:=by
  obtain ⟨t,e⟩:=hj
  exact (Array.getElem?_eq_some_iff.mp e).1
 show wpAny (model prog w) A.in1 (forIn (List.range' 0 (min its.size its.size-0)) (none,()) (zi6 its (.int x u))) _ E ⟨hp,g,d,tk,os⟩
 refine zs7 hj hb ?_ _ 0 (Nat.zero_le _) (by rw [Nat.min_self];omega)
 exact qwp ⟨_,rfl,h⟩
end
theorem zk5 {X:Cx}{pins:List (Addr × Obj)}{σ:St}{H:Hp}{s:Shared}{a:Addr}{xs:List V}(I:Inv X pins σ H s) (h:H a=some (.tup xs)):∃its:List Value,Vals xs its/\IsTD s.heap a its.toArray:=by
 obtain ⟨_,its,r,p⟩:=I.hok a _ h
 exact ⟨its,r,p⟩
def yem:V->Hp->Prop:=λx H=>∃a xs,x=.ref a/\H a=some (.tup xs)
theorem zs8 {X:Cx}:zso X "tuple" yem:=by
 intro pins s σ H x v I rx h
 obtain ⟨a,xs,rfl,hH⟩:=h
 cases rx
 obtain ⟨its,r,o,e,c,n,d,hd⟩:=zk5 I hH
 exact ⟨⟨o,e,c⟩,λb z=>by cases z;exact ⟨o,e,hd⟩⟩
theorem yen {ns:List Int}{x:Int}{j:Nat}(h:ns.idxOf? x=some j):ns[j]? = some x/\∀m,m<j->∃y,ns[m]? = some y/\y≠x:=by
 unfold List.idxOf? at h
 rw [List.findIdx?_eq_some_iff_getElem] at h
 obtain ⟨hj,h1,h2⟩:=h
 refine ⟨by rw [qge hj];simpa using h1,λm hm=>⟨ns[m]'(Nat.lt_trans hm hj),qge _,?_⟩⟩
 have:=h2 m hm
 simpa using this
theorem zn5 {ns:List Int}{its:List Value}(r:Vals (ns.map V.int) its) {i:Nat}{y:Int}(h:ns[i]? = some y):∃t,its[i]? = some (.int y t):=by
 have e:(ns.map V.int)[i]? = some (.int y):=by rw [qgm,h];rfl
 obtain ⟨u,hu,ru⟩:=r.get e
 obtain ⟨t,rfl⟩:=ru
 exact ⟨t,hu⟩
def zs9:V->List V->Hp->VK->Prop:=λy vs H Q=>∃(a:Addr) (ns:List Int) (x:Int) (j:Nat),y=.ref a/\vs=[.int x]/\H a=some (.tup (ns.map V.int))/\ns.idxOf? x=some j/\Q (.int j) H
noncomputable def zi7:D->List D->Sto->Option (D × Sto)
 | .tup xs,[.int x],S=>(zde xs).bind λns=>(ns.idxOf? x).bind λj=>some (.int j,S)
 | _,_,_=>none
section
variable {X:Cx}
theorem yeo:MtM X "tuple.index" zs9:=by
 intro pins s σ H y vs v us Q I ry rv h
 obtain ⟨a,ns,x,j,rfl,rfl,hH,hj,q⟩:=h
 cases ry
 obtain ⟨u,rfl,ru⟩:=rv.one
 obtain ⟨t,rfl⟩:=ru
 obtain ⟨its,r,o,e,c,n,d,hd⟩:=zk5 I hH
 obtain ⟨h1,h2⟩:=yen hj
 refine yel e c d (j:=j) ?_ (λm hm=>?_) ⟨.int j,H,I.tok _,⟨_,rfl⟩,q⟩
 ·obtain ⟨t,ht⟩:=zn5 r h1
  exact ⟨t,by simpa using ht⟩
 ·obtain ⟨y,hy,hne⟩:=h2 m hm
  obtain ⟨t,ht⟩:=zn5 r hy
  exact ⟨y,t,by simpa using ht,hne⟩
theorem yep {K:QFg}:Mt3 K zi7 zs9:=by
 intro ρ S H x x' xs vs v S' Q sim rx r h p
 unfold zi7 at h
 split at h
 ·obtain ⟨ns,h1,h⟩:=bnd h
  obtain ⟨j,h2,h⟩:=bnd h
  cases h
  obtain ⟨w,rfl,rw'⟩:=r.one
  cases rw'
  cases rx with
  | tup ha rr =>
   have:=zkv h1 rr
   subst this
   exact ⟨_,ns,_,j,rfl,rfl,ha,h2,p ρ H _ (Ext.refl ..) sim (.int _)⟩
 ·cases h
noncomputable def zta:D->Option Unit
 | .tup _=>some ()
 | _=>none
noncomputable def zgr (f:D->List D->Sto->Option (D × Sto)) (o:EM) (as:AM):EM:=λl S=>(o l S).bind λp=>(zta p.1).bind λ_=>(as l p.2).bind λq=>f p.1 q.1 q.2
variable {o e:Expr}{mo m:EM}{apos cpos:Pos}
theorem yeq (ho:PE3 X o mo) (he:PE3 X e m)
  (hbase:attributeBase o "index" X.env (eval o X.env)=eval o X.env:=by rfl)
  (hfew:((backTo cpos (starEach [e] X.env)).all (λx=>!x.1) && (backToKw cpos (keywordEach [] X.env)).all (λx=>x.1.isSome)
   && decide ([e].length+([]:List Keyword).length+(if ([]:List Keyword).isEmpty then 0 else 1)<30))=true:=by rfl)
  (hline:(apos.endLine == cpos.line)=true:=by rfl) (hs:starEach [e] X.env=(false,eval e X.env) :: starEach [] X.env:=by rfl) :
  PE3 X (.Call (.Attribute o "index" apos) [e] [] cpos) (zgr zi7 mo (zab m zae)) :=
 PE.imp (zsp zs8 PySem.F.plainAttrs_tuple PySem.F.slot_tuple_index PySem.F.type_tuple_index yeo ho (zad he zag hs) hbase hfew hline hs rfl) λσ H Q hx2_=>by
  obtain ⟨ρ,l,S,v,S',sim,ro,hq,p⟩:=hx2_
  obtain ⟨⟨x,S1⟩,h1,hq⟩:=bnd hq
  obtain ⟨_,h2,hq⟩:=bnd hq
  obtain ⟨⟨ys,S2⟩,h4,hq⟩:=bnd hq
  refine ⟨ρ,l,S,x,S1,sim,ro,h1,λρ1 H1 x' e1 s1 r1=>⟨?_,ρ1,l,S1,ys,S2,s1,ro.mono e1,h4,λρ2 H2 vs e2 s2 r2=>yep ρ2 S2 H2 x x' ys vs v S' Q s2 (r1.mono e2) r2 hq (p.ext (e1.trans e2))⟩⟩
  cases r1 with
  | @tup xs a us ha rr=>exact ⟨a,us,rfl,ha⟩
  | _=>cases h2
end
theorem yer:isSubtype (.type "tuple") (.type "set")=pure false:=by rw [isSubtype_type];kernel_rfl
theorem yes:isSubtype (.type "tuple") (.type "frozenset")=pure false:=by rw [isSubtype_type];kernel_rfl
noncomputable abbrev zht (led:Bool):Obj:={ cls:=.type "set",dict:=none,data:=.set #[] 0 (.fresh 0 0 led) }
section
variable {prog:Program}{w:World}{A:Around}{E:Value->Shared->Prop}{s:Shared}
noncomputable abbrev dis (ns:List Int) (n:Nat):List Int:=firstMet (λi=>ns.getD i 0) n
theorem yet {t d:Addr}{its:Array Value}{ns:List Int}{led:Bool}{Q:PySem.Fin->Shared->Prop}(hh:A.handled=none) (ht:s.heap.IsTuple t its) (hi:IntsAre its.toList ns) (hb:its.size+1<scanBound)
  (hd:s.heap.get? d=some (zht led)) (htd:t≠d)
  (h:∀(h':Heap) (tk:Nat),h'.SetOf (intKind prog w) d (λk'=>(dis ns its.size).any (· == k')) (dis ns its.size).length->(∀b o,b≠d->s.heap.get? b=some o->h'.get? b=some o)->Q (.done (.ret .none)) { s with heap:=h',toks:=tk }) :
  wpAny (model prog w) A (Builtin.«set.__init__» ⟨[.ref d,.ref t],[]⟩) Q E s:=by
 obtain ⟨ol,hol,hcl,nl,hdl⟩:=id ht
 have hTs:s.TypeIs (.ref d) "set":=⟨_,hd,rfl⟩
 have hTt:s.TypeIs (.ref t) "tuple":=⟨_,hol,hcl⟩
 have q1:=yer
 have q2:=yes
 obtain ⟨hp,g,dr,tk,os⟩:=s
 obtain ⟨c1,c2,c3,c4⟩:=ol
 dsimp only at hcl hdl hol
 subst hcl hdl
 unfold Builtin.«set.__init__» noKeywords Builtin.Frozenset.updateFrom
 generalize hPI:pyIter=PI
 wp_walk
 subst hPI
 have ht':hp.IsTuple t its:=ht
 have lt1:t<hp.objs.size:=Heap.lt_size hol
 have lt2:d<hp.objs.size:=Heap.lt_size hd
 refine wpAny_pyIter_tuple ht' (qwb (wpAny_runValue ?_))
 have vi:∀(i:Nat) (v:Value),its[i]? = some v->∃t,v=.int (ns.getD i 0) t:=λi v hv=>IntsAre.int_at hi i v (by rw [Array.getElem?_toList];exact hv)
 have nf:d ∉ [hp.objs.size,t]:=by
  simp only [List.mem_cons,List.not_mem_nil,or_false,not_or]
  exact ⟨Nat.ne_of_lt lt2,Ne.symm htd⟩
 refine codeAny_set_update_loopS (Walks.tuple (by simpa using hh) hp.objs.size t (Nat.ne_of_lt lt1) its).toS d nf (λi=>ns.getD i 0) vi hb (its.size-0) 0 _ (by omega) (Nat.zero_le _) ⟨⟨_,Heap.get?_push_size _ rfl,rfl,rfl⟩,?_⟩ ?_ λs' mv hS=>?_
 ·obtain ⟨o,e,r⟩:=id ht'
  exact ⟨o,qps _ e,r⟩
 ·exact SetOf_congr ((setObjOf_fresh (knd:=intKind prog w) led).setOf (qps _ hd) (by unfold scanBound;omega)) (λ_=>rfl) rfl
 ·obtain ⟨h',g',d',tk',os'⟩:=s'
  have eg:g' = g:=mv.gens
  have ed:d' = dr:=mv.drawn
  have eo:os' = os:=mv.os
  subst eg ed eo
  refine qwp (qwp (h h' tk' hS λb o hb e=>?_))
  exact mv.heap b o (by simp only [List.mem_cons,List.not_mem_nil,or_false,not_or];exact ⟨hb,Nat.ne_of_lt (Heap.lt_size e)⟩) (qps _ e)
theorem yeu {t:Addr}{its:Array Value}{ns:List Int}{Q:Value->Shared->Prop}(hh:A.handled=none) (ht:s.heap.IsTuple t its) (hi:IntsAre its.toList ns) (hb:its.size+1<scanBound)
  (h:∀(h':Heap) (tk:Nat),h'.SetOf (intKind prog w) s.heap.objs.size (λk'=>(dis ns its.size).any (· == k')) (dis ns its.size).length->(∀b o,s.heap.get? b=some o->h'.get? b=some o)->Q (.ref s.heap.objs.size) { s with heap:=h',toks:=tk }) :
  wpAny (model prog w) A (call (.type "set") [.ref t]) Q E s:=by
 obtain ⟨c,tl,k0⟩:=F.called_set.mro;have k1:=F.called_set.made;have k2:=F.called_set.sub
 refine wpAny_call (codeAny_of_tree (show wpAny _ _ (callAny (.type "set") _) _ _ _ from ?_))
 refine qwp ⟨Code.quiet_builtin _ (by decide +kernel),codeAny_builtin F.entry_type_call ?_⟩;rw [Around.under_plain (weight_type_call_type "set" [.ref t] []) rfl]
 have k3:=F.called_set.notType;have k4:=F.called_set.canCreate;have k5:=F.typeCall_set_1 (.ref t)
 repeat (any_goals (first|assumption|wp_step))
 refine codeAny_mono (code_set_new_1 (.ref t) (E:=E) (Q₁:=λx s1=>∃led,x=.ref s.heap.objs.size/\s1={ s with heap:=s.heap.push (zht led) }) λled=>⟨led,rfl,rfl⟩) λr s1 hr=>?_
 match r,hr with
 | .error e,hr=>exact hr
 | .ok .next,hr=>exact hr.elim
 | .ok .brk,hr=>exact hr.elim
 | .ok .cont,hr=>exact hr.elim
 | .ok (.ret x),hr =>
  obtain ⟨led,rfl,rfl⟩:=hr
  have g1:(s.heap.push (zht led)).get? s.heap.objs.size=some (zht led):=Heap.get?_push_size _ rfl
  have g2:Shared.TypeIs { s with heap:=s.heap.push (zht led) } (.ref s.heap.objs.size) "set":=⟨_,g1,rfl⟩
  have k6:=F.called_set.init.lookup;have k7:=F.called_set.init.bind (.ref s.heap.objs.size)
  repeat (any_goals (first|assumption|wp_step))
  have ht':(s.heap.push (zht led)).IsTuple t its:=by
   obtain ⟨o,e,q⟩:=ht
   exact ⟨o,qps _ e,q⟩
  have lt1:t≠s.heap.objs.size:=by
   obtain ⟨o,e,q⟩:=ht
   exact Nat.ne_of_lt (Heap.lt_size e)
  refine codeAny_mono (codeAny_call_builtin (R:=wants (λr s2=>r=.none/\∃h' tk,s2={ s with heap:=h',toks:=tk }/\h'.SetOf (intKind prog w) s.heap.objs.size (λk'=>(dis ns its.size).any (· == k')) (dis ns its.size).length/\∀b o,s.heap.get? b=some o->h'.get? b=some o) E) F.called_set.init.plain F.entry_set_init
   (check_set_init_1 g2 (yet (led:=led) (by simpa using hh) ht' hi hb g1 lt1 λh' tk hS hk=>⟨rfl,h',tk,rfl,hS,λb o e=>hk b o (Nat.ne_of_lt (Heap.lt_size e)) (qps _ e)⟩))) λr2 s2 hr2=>?_
  match r2,hr2 with
  | .error e,hr2=>exact hr2
  | .ok .next,hr2=>exact hr2.elim
  | .ok .brk,hr2=>exact hr2.elim
  | .ok .cont,hr2=>exact hr2.elim
  | .ok (.ret y),hr2 =>
   obtain ⟨rfl,h',tk,rfl,hS,hk⟩:=hr2
   repeat (any_goals (first|assumption|wp_step))
   exact h _ _ hS hk
end
noncomputable def zgs:FM
 | [.tup xs],S=>(zde xs).bind λns=>if ns.length+1<scanBound then some (.ref S.length,S++[.iset (λk=>(dis ns ns.length).any (· == k)) (dis ns ns.length).length]) else none
 | _,_=>none
noncomputable def zgt:FM
 | [.ref n],S=>match S[n]? with
  | some (.iset _ k)=>if k<scanBound then some (.int k,S) else none
  | _=>none
 | _,_=>none
theorem ztb:∀{ns:List Int}{its:List Value},Vals (ns.map V.int) its->IntsAre its ns
 | [],its,r=>by cases r;exact .nil
 | n :: ns,its,r=>by
  cases r with
  | cons p q=>obtain ⟨t,rfl⟩:=p;exact .cons n t (ztb q)
def ztc:List V->Hp->VK->Prop:=λxs H Q=>∃(a:Addr) (ns:List Int),xs=[.ref a]/\H a=some (.tup (ns.map V.int))/\ns.length+1<scanBound/\∀l,H l=none->Q (.ref l) (upd H l (.set (λk=>(dis ns ns.length).any (· == k)) (dis ns ns.length).length))
def ztd:List V->Hp->VK->Prop:=λxs H Q=>∃(a:Addr) (f:Int->Bool) (k:Nat),xs=[.ref a]/\H a=some (.set f k)/\k<scanBound/\Q (.int k) H
section
variable {X:Cx}{K:QFg}{a:Expr}{es:List Expr}{mA:AM}{pos p:Pos}{k:Nat}
theorem yev (hr:Room k X.A):CallR X (.type "set") ztc:=by
 intro pins s σ H xs us Q I r h
 obtain ⟨b,ns,rfl,hH,hb,q⟩:=h
 obtain ⟨u,rfl,ru⟩:=zcs r
 cases ru
 obtain ⟨its,rv,o,e,c,n,d,hd⟩:=zk5 I hH
 have hl:its.toArray.size=ns.length:=by have:=rv.length;simp at this;simp;omega
 refine yeu (its:=its.toArray) (ns:=ns) hr.hd ⟨o,e,c,n,d⟩ (by simpa using ztb rv) (by rw [hl];exact hb) λh' tk hS hk=>?_
 rw [hl] at hS
 exact ⟨.ref s.heap.objs.size,_,I.laid (o:=.set _ _) hk (qlr _) hS,rfl,q _ I.fresh⟩
theorem yew:CallR X (.builtin "len") ztd:=by
 intro pins s σ H xs us Q I r h
 obtain ⟨b,f,j,rfl,hH,hj,q⟩:=h
 obtain ⟨u,rfl,ru⟩:=zcs r
 cases ru
 obtain ⟨o,es,ep,t,ho,hex,hd,_,_,_,hf,hn⟩:=(show s.heap.SetOf (intKind X.prog X.w) b f j from I.hok b _ hH)
 have h4:(4096:Nat)=scanBound:=rfl
 refine call_len_set ho hex hd hf (by omega) ?_
 rw [hn]
 exact ⟨.int j,H,I.tok _,⟨_,rfl⟩,q⟩
theorem yex:Fn3 K zgs ztc:=by
 intro ρ S H xs vs v S' Q sim r h p
 unfold zgs at h
 split at h
 ·obtain ⟨ns,h1,h⟩:=bnd h
  obtain ⟨hz,e⟩:=za8 h
  cases e
  obtain ⟨w,rfl,rw'⟩:=r.one
  cases rw' with
  | tup ha rr =>
   have:=zkv h1 rr
   subst this
   exact ⟨_,ns,rfl,ha,hz,λl hl=>p (ρ++[l]) _ _ (zg8 hl) (sim.pushG hl zbf) (.ref (by rw [<-sim.len];exact za5 ρ l))⟩
 ·cases h
theorem yey:Fn3 K zgt ztd:=by
 intro ρ S H xs vs v S' Q sim r h p
 unfold zgt at h
 split at h
 ·split at h
  ·rename_i n S f j e
   obtain ⟨hz,e2⟩:=za8 h
   cases e2
   obtain ⟨w,rfl,rw'⟩:=r.one
   cases rw' with
   | ref hn=>exact ⟨_,f,j,rfl,sim.at' _ _ _ hn e,hz,p ρ H _ (Ext.refl ..) sim (.int _)⟩
  ·cases h
 ·cases h
theorem yez:bootBuiltins "set" = some (.type "set"):=by decide +kernel
theorem ye0 (hr:Room k X.A) (hg:Gl X "set") (hm:X.mg "set" = none) (ha:PA3 X (a :: es) mA) (he:starEach (a :: es) X.env=(false,eval a X.env) :: starEach es X.env:=by rfl) (hpl:(backTo pos (starEach es X.env)).any (·.1)=false:=by rfl):PE3 X (.Call (.Name "set" p) (a :: es) [] pos) (zaf zgs mA) :=
 zif (yev hr) yex hg hm yez ha (by decide) (by decide) he hpl
theorem ye1 (hg:Gl X "len") (hm:X.mg "len" = none) (ha:PA3 X (a :: es) mA) (he:starEach (a :: es) X.env=(false,eval a X.env) :: starEach es X.env:=by rfl) (hpl:(backTo pos (starEach es X.env)).any (·.1)=false:=by rfl):PE3 X (.Call (.Name "len" p) (a :: es) [] pos) (zaf zgt mA) :=
 zf5 yew yey hg hm PySem.boot_len ha (by decide) (by decide) he hpl
end
theorem zte (ns:List Int):(dis ns ns.length).length=ns.length↔ns.Nodup:=by
 have key:∀(l acc:List Int),acc.Nodup->((l.foldl step_dedup acc).length=acc.length+l.length↔(acc++l).Nodup)/\(l.foldl step_dedup acc).length<=acc.length+l.length:=by
  intro l
  induction l with
  | nil=>intro acc h;simp [h]
  | cons x l ih =>
   intro acc h
   rw [List.foldl_cons]
   unfold step_dedup
   by_cases hx:acc.any (· == x)=true
   ·rw [if_pos hx]
    obtain ⟨i1,i2⟩:=ih acc h
    have hm:x∈acc:=by simpa using hx
    constructor
    ·constructor
     ·intro z;simp only [List.length_cons] at z;have i2:=i2;unfold step_dedup at i2;omega
     ·intro z
      rw [List.nodup_append] at z
      exact absurd rfl (z.2.2 x hm x List.mem_cons_self)
    ·simp only [List.length_cons];unfold step_dedup at i2;omega
   ·rw [if_neg hx]
    have hm:x ∉ acc:=by simpa using hx
    have hn:(acc++[x]).Nodup:=by rw [List.nodup_append];exact ⟨h,by simp,λa ha b hb=>by rw [List.mem_singleton.mp hb];exact λz=>hm (z ▸ ha)⟩
    obtain ⟨i1,i2⟩:=ih (acc++[x]) hn
    unfold step_dedup at i1 i2
    rw [qla,List.length_singleton] at i1 i2
    rw [List.append_assoc] at i1
    constructor
    ·rw [List.length_cons,show l.length+1=1+l.length from Nat.add_comm _ _,<-Nat.add_assoc]
     exact i1
    ·simp only [List.length_cons];omega
 have e:dis ns ns.length=ns.foldl step_dedup []:=by
  unfold dis firstMet
  congr 1
  apply List.ext_getElem?
  intro i
  rw [qgm]
  by_cases hi:i<ns.length
  ·rw [List.getElem?_range hi,qge hi];simp [hi]
  ·rw [List.getElem?_eq_none (by simpa using hi),List.getElem?_eq_none (by simpa using hi)];rfl
 rw [e]
 simpa using (key ns [] List.nodup_nil).1
end L3
namespace SP
open PySem PySem.W PyProof.Rows PySem.Calls
section
variable {prog:Program}{w:World}{A:Around}{E:Value->Shared->Prop}{s:Shared}
theorem sorted_lays {x:Addr}{ns:List Int}{Q:Value->Shared->Prop}
  (hc:∀(E:Value->Shared->Prop) (R:List Value->Shared->Prop),(∀h' tk vs,s.heap.objs.size<=h'.objs.size->(∀b o,s.heap.get? b=some o->h'.get? b=some o)->IntsAre vs ns->R vs { s with heap:=h',toks:=tk })->wpAny (model prog w) A.in1 (collect (.ref x)) R E s) (h64:ns.length<64)
  (h:∀h' tk D e out ns',(∀b o,s.heap.get? b=some o->h'.get? b=some o)->s.heap.objs.size<=D->h'.get? D=some (seqObj "list" out e)->IntsAre out.toList ns'->ns'.Perm ns->ns'.Pairwise (·<=·)->Q (.ref D) { s with heap:=h',toks:=tk }) :
  wpAny (model prog w) A (call (.builtin "sorted") [.ref x]) Q E s:=by
 have fits:∀k,k<64->k<=sizeLine:=λk hk=>by rw [sizeLine_eq];omega
 refine call_function_entry kind_sorted plain_sorted entry_sorted (args_sorted1 _) ?_
 unfold Builtin.«sorted»
 refine qwb (m:=checkCount "sorted" 1 1 _) (qwp (qwb (hc _ _ λh' tk vs sz keep t=>?_)))
 have hl:vs.length=ns.length:=by
  clear hc h
  induction t with
  | nil=>rfl
  | cons n t q ih=>simp [ih (by simp at h64;omega)]
 refine qwb (wpAny_newList ?_ (fits _ (by omega)))
 have hD:(h'.push (seqObj "list" vs.toArray 0)).get? h'.objs.size=some (seqObj "list" vs.toArray 0):=Heap.get?_push_size _ rfl
 refine qwb (wpAny_holding (wpAny_call_entry slot_list_sort ⟨_,hD,rfl⟩ entry_list_sort (list_sort_tree (s:={ s with heap:=h'.push (seqObj "list" vs.toArray 0),toks:=tk }) hD t (by omega) λout ns' a1 a2 a3=>⟨_,rfl,?_⟩) (args_list_sort _)))
 refine qwp ⟨_,rfl,?_⟩
 obtain ⟨c,hc2⟩:=sortedHeap_at (out:=out) hD
 refine h _ tk h'.objs.size c out ns' (λb o e=>?_) sz hc2 a1 a2 a3
 have lb:=Heap.lt_size (keep b o e)
 rw [sortedHeap_old (Nat.ne_of_lt lb) (by rw [size_push'];exact Nat.lt_succ_of_lt lb)]
 exact qps _ (keep b o e)
end
end SP
namespace L3
open PySem PySem.Spec PyProof.Rows L2
noncomputable def zeb (ns:List Int):List Int:=ns.mergeSort λa b=>decide (a<=b)
theorem zfr (ns:List Int):(zeb ns).Perm ns:=List.mergeSort_perm ns _
theorem ztf (ns:List Int):(zeb ns).Pairwise (·<=·):=by
 have:=List.pairwise_mergeSort (le:=λa b:Int=>decide (a<=b)) (λa b c h1 h2=>by simp at *;omega) (λa b=>by simp;omega) ns
 exact this.imp λh=>by simpa using h
theorem ye2 {a l:List Int}(h:a.Perm l) (s:a.Pairwise (·<=·)):a=zeb l :=
 List.Perm.eq_of_pairwise (λ_ _ _ _ h1 h2=>Int.le_antisymm h1 h2) s (ztf l) (h.trans (zfr l).symm)
noncomputable def zgu:List Key->Option (List Int)
 | []=>some []
 | .inl i :: r=>(zgu r).bind λns=>some (i :: ns)
 | _=>none
theorem ztg:∀{ks:List Key}{ns:List Int},zgu ks=some ns->ks=ns.map Sum.inl
 | [],ns,h=>by cases h;rfl
 | .inl i :: r,ns,h=>by
  obtain ⟨m,h1,h⟩:=bnd (show (zgu r).bind (λns=>some (i :: ns))=some ns from h)
  cases h
  rw [ztg h1];rfl
 | .inr x :: r,ns,h=>nomatch h
theorem zth:∀ns:List Int,zgu (ns.map Sum.inl)=some ns
 | []=>rfl
 | n :: ns=>by show (zgu (ns.map Sum.inl)).bind _=_;rw [zth ns];rfl
noncomputable def zi8:FM
 | [.ref n],S=>(dctR S n).bind λkvs=>(zgu (kvs.map (·.1))).bind λns=>if ns.length<64 then some (.ref S.length,S++[.lst ((zeb ns).map .int)]) else none
 | _,_=>none
def zti:List V->Hp->VK->Prop:=λxs H Q=>∃(a:Addr) (kvs:List (Key × V)) (ns:List Int),xs=[.ref a]/\Rd H a (.dK kvs)/\kvs.map (·.1)=ns.map Sum.inl/\ns.length<64/\∀l,H l=none->Q (.ref l) (upd H l (.lst ((zeb ns).map V.int)))
theorem ztj:∀{ns:List Int}{us:List Value},IntsAre us ns->Vals (ns.map V.int) us
 | [],us,h=>by cases h;exact .nil
 | t :: ts,us,h=>by
  cases h with
  | cons x k q=>exact .cons ⟨_,rfl⟩ (ztj q)
theorem ztk {ρ:List Addr}{H:Hp}:∀ns:List Int,RDs ρ H (ns.map D.int) (ns.map V.int)
 | []=>.nil
 | n :: ns=>.cons (.int n) (ztk ns)
theorem ztl {P:Program}{w:World}:∀{ns:List Int}{es:List DictEntry}{vs:List (Key × Value)},Pairs (zcn P w) es vs->vs.map (·.1)=ns.map Sum.inl->IntsAre (es.map (·.key)) ns
 | [],es,vs,h,e=>by
  cases h with
  | nil=>exact .nil
  | cons _ _ _=>simp at e
 | n :: ns,es,vs,h,e=>by
  cases h with
  | nil=>simp at e
  | @cons e0 kv es' kvs' h1 h2 q =>
   rw [List.map_cons,List.map_cons,List.cons.injEq] at e
   rw [e.1] at h1
   rcases zdz (show zfe (Sum.inl n:Key) e0.key=true from h1) with ⟨i,t,e1,e2⟩|⟨x,t,e1,e2⟩
   ·cases e1
    rw [List.map_cons,e2]
    exact .cons _ t (ztl q e.2)
   ·cases e1
section
variable {X:Cx}{K:QFg}{a:Expr}{es:List Expr}{mA:AM}{pos p:Pos}
theorem ye3 (hcalm:X.calm=true):CallR X (.builtin "sorted") zti:=by
 intro pins s σ H xs us Q I r h
 obtain ⟨b,kvs,ns,rfl,hH,ek,h64,q⟩:=h
 obtain ⟨u,rfl,ru⟩:=zcs r
 cases ru
 obtain ⟨z,hs,vs,rel,o,es,ep,ho,hx,hd,_,pr,_⟩:=zj0 I.hok hH
 have ek2:vs.map (·.1)=ns.map Sum.inl:=by rw [<-rel.keys];exact ek
 have iv:=ztl pr ek2
 have hl:es.size=ns.length:=by
  have h1:=pr.length
  have h2:=congrArg List.length ek2
  simp at h1 h2;omega
 refine SP.sorted_lays (λE R hR=>SP.collectR hs (I.ok.hd hcalm) ⟨o,ho,hx,hd⟩ (by rw [sizeLine_eq];omega) λh' tk sz keep=>hR h' tk _ sz keep iv) h64 λh' tk D e out ns' keep sz hD a1 a2 a3=>?_
 have e1:=ye2 a2 a3
 subst e1
 exact ⟨.ref D,_,I.laid (t':=tk) keep sz (show ObjOk X.prog X.w _ _ _ (.lst ((zeb ns).map V.int)) from ⟨by rw [qlm,(zfr ns).length_eq,sizeLine_eq];omega,out.toList,e,ztj a1,by rw [hD]⟩),rfl,q D (I.hok.fresh sz)⟩
theorem ye4:Fn3 K zi8 zti:=by
 intro ρ S H xs vs v S' Q sim r h p
 unfold zi8 at h
 split at h
 ·obtain ⟨kvs,h1,h⟩:=bnd h
  obtain ⟨ns,h2,h⟩:=bnd h
  obtain ⟨hz,e⟩:=za8 h
  cases e
  obtain ⟨w,rfl,rw'⟩:=r.one
  obtain ⟨a,us,ha,hH,rr⟩:=sim.dctR h1
  cases rw' with
  | ref hn =>
   rw [ha] at hn;cases hn
   refine ⟨a,_,ns,rfl,hH,?_,hz,zf4 sim (ztk _) p⟩
   rw [List.map_fst_zip]
   ·exact ztg h2
   ·have:=rr.length
    rw [qlm] at this ⊢
    omega
 ·cases h
theorem ye5 (hcalm:X.calm=true) (hg:Gl X "sorted") (hm:X.mg "sorted" = none) (ha:PA3 X (a :: es) mA) (he:starEach (a :: es) X.env=(false,eval a X.env) :: starEach es X.env:=by rfl) (hpl:(backTo pos (starEach es X.env)).any (·.1)=false:=by rfl):PE3 X (.Call (.Name "sorted" p) (a :: es) [] pos) (zaf zi8 mA) :=
 zf5 (ye3 hcalm) ye4 hg hm yc2 ha (by decide) (by decide) he hpl
end
section
variable {X:Cx}{a b:Expr}{ma mb:EM}{pos:Pos}
end
open PySem.W
section
variable {X:Cx}{pos:Pos}
end
section
variable {X:Cx}{E:XK}{CA:Str->Addr}{tgt iter:Expr}{body:List Stmt}{g:GM}{b:SM}{rb:ZM}{m:EM}{pos:Pos}
end
section
variable {X:Cx}{K:QFg}{a:Expr}{es:List Expr}{mA:AM}{pos p:Pos}{k:Nat}
end
section
variable {X:Cx}{K:QFg}{a:Expr}{es:List Expr}{mA:AM}{pos p:Pos}
end
section
variable {M:Model}{A:Around}{E:Value->Shared->Prop}{s:Shared}{base:Heap}{env:Env}{outer:List Env}{L e C T:Addr}{m:Value}{Q:Unit->Shared->Prop}
end
section
variable {P:Program}{w:World}{K:QFg}{mg:Str->Option Value}{base:Heap}{N:List Str}{qual:Str}{scope:Scope}{f:Addr}{cd:Value}{A:Around}{outer:List Env}{s:Shared}{H:Hp}{E:XK}
end
section
variable {X:Cx}{E:XK}{CA:Str->Addr}{N':List Str}{elt iter tgt:Expr}{ifs:List Expr}{scope:Scope}{pos:Pos}
end
section
variable {X:Cx}{E:XK}{CA:Str->Addr}{r q:ZM}{mc:TM}{pos:Pos}
end
def TZ (X:Cx) (E:XK) (CA:Str->Addr) (sts:List Stmt) (r:ZM):Prop:=∀(pins:List (Addr × Obj)) (s:Shared) (σ:L2.St) (H:Hp),Inv X pins σ H s->Rz X.K E CA r σ H ->
 wpAny (model X.prog X.w) X.A (execs sts X.env) (λ_ _=>False) (λe s'=>∃H1 s1,Inv X pins σ H1 s1/\CX1 X.prog X.w X.stack H1 s1 E e s') s
section
variable {X:Cx}{E:XK}{CA:Str->Addr}{a:Expr}{es:List Expr}{mA:AM}{cpos p apos py tpos:Pos}{x y:Str}{k j n:Nat}{rx:ZF}{r q:ZM}
variable {i:Nat}{Dh:Addr}{nm hx:Str}{np hpos:Pos}{b0:Stmt}{body suite:List Stmt}{mN mS:SM}{ok:Str->Bool}
theorem ye6 (i:Nat) (hN:X.N.Nodup) (hxe:∀e s,X.xe e s->False) (hstk:X.stack=X.env :: X.outer) (hfm:X.env.frame=some X.env.locals) (hex:X.ex=[]) (hmh:X.mg hx=some (.ref Dh)) (qD:excIn X.K Dh zcr "ValueError.__new__" = true)
  (hok:∀c,ok c=true->PySem.W.nsIn X.K mainGlobals c=some (some (.ref (CA c)))/\excIn X.K (CA c) zcr "ValueError.__new__" = true/\(Value.ref (CA c) :: zea X.K (CA c)).contains (.ref Dh)=true)
  (hS:∀e,zct (mk1 X e) (b0 :: suite) mS) (hz:∀E,TZ X E CA body r) (hNorm:zct X body mN)
  (hi:X.N[i]? = some nm:=by rfl) (hln:X.env.scope.names.lookup nm=some .local:=by rfl) (hgh:Gl X hx:=by rfl) (hd:(hx == ("__debug__":Str))=false:=by decide) :
  PS3 X (.Try body [.ExceptHandler (some (.Name hx np)) (some nm) (b0 :: suite) hpos] [] [] tpos) (zi2 i ok mN r mS):=by
 have main:PS X (.Try body [.ExceptHandler (some (.Name hx np)) (some nm) (b0 :: suite) hpos] [] [] tpos) (λD σ H=>ts X.K mN D σ H\/Rz X.K (EH X Dh (ts X.K mS) i D σ) CA r σ H):=by
  intro pins s σ H D I h
  rcases h with h|h
  ·refine wpAny_Try_except (wpAny_mono (hNorm pins s σ H D I h) (λf s1 q=>?_) λe s1 z=>(hxe _ _ z).elim)
   cases f with
   | next=>exact wpAny_execs_nil q
   | _=>exact q
  ·exact wpAny_Try_except (wpAny_mono (hz _ pins s σ H I h) (λ_ _ z=>z.elim) λe s2 ⟨H1,s1,I1,cx⟩=>ydf (tS:=ts X.K mS) hstk hfm hex hgh hmh qD hS hN hi hln hd I1 cx)
 refine PS.imp main λD σ H hx1_=>?_
 obtain ⟨ρ,l,S,f,l',S',sim,ro,hm,pz⟩:=hx1_
 unfold zi2 at hm
 cases e1:mN l S with
 | some q =>
  rw [e1] at hm
  cases hm
  exact .inl ⟨ρ,l,S,f,l',S',sim,ro,e1,pz⟩
 | none =>
  rw [e1] at hm
  cases e2:r l S with
  | none=>rw [e2] at hm;cases hm
  | some q =>
   obtain ⟨c,S1⟩:=q
   rw [e2] at hm
   obtain ⟨hc,hm⟩:=znl hm
   obtain ⟨⟨g,l2,S2⟩,q2,hm⟩:=bnd hm
   obtain ⟨k1,k2,k3⟩:=hok c hc
   refine .inr ⟨ρ,l,S,c,S1,sim,ro,e2,λρ1 H1 ex1 s1=>⟨CA c,rfl,k2,k3,λe he'=>?_⟩⟩
   have ex2:=zg8 (ρ:=ρ1) (u:=.ext (phi e (CA c))) he'
   have sim2:Sim X.K (ρ1++[e]) (S1++[.exc c]) (upd H1 e (.ext (phi e (CA c)))):=s1.pushG he' ⟨CA c,k1,zbf⟩
   have ro2:=((ro.mono ex1).mono ex2).set i (d:=.ref S1.length) (v:=.ref e) (.ref (by rw [<-s1.len];exact za5 ρ1 e))
   cases g with
   | nx =>
    cases hm
    exact ⟨ρ1++[e],_,_,.nx,l2,S2,sim2,ro2,q2,λρ' H' σ' e' s' r'=>pz ρ' H' (σ'.set i none) (ex1.trans (ex2.trans e')) s' (RO.unset r' i)⟩
   | _=>cases hm
end
section
variable {X:Cx}{K:QFg}{a b:Expr}{ma mb:EM}{pos:Pos}
end
theorem ye7 {a b c:Value}{i j:Int}{t u:Tok}(ha:a=.int i t) (hb:b=.int j u):∀{l:List Value},TriplesOk l->TriplesOk (l++[a,b,c]):=by
 intro l h
 subst ha hb
 fun_induction TriplesOk l with
 | case1=>exact trivial
 | case2 a t b u x rest ih=>exact ih h
 | case3=>exact h.elim
theorem ye8 {pos:Pos}{a b c cv:Value}:∀{l:List Value},TriplesOk l->codeAmong pos (l++[a,b,c])=some cv->codeAmong pos l=some cv\/cv=c:=by
 intro l h e
 fun_induction TriplesOk l with
 | case1 =>
  simp only [List.nil_append] at e
  unfold codeAmong at e
  split at e
  ·rename_i heq
   injection heq with h1 h2
   injection h2 with h3 h4
   injection h4 with h5 h6
   split at e
   ·cases e;exact .inr h5.symm
   ·rw [<-h6] at e;simp [codeAmong] at e
  ·cases e
 | case2 a t b u x rest ih =>
  simp only [List.cons_append] at e
  unfold codeAmong at e ⊢
  try dsimp only at e ⊢
  split at e
  ·rename_i hc;rw [if_pos hc];exact .inl e
  ·rename_i hc;rw [if_neg hc];exact ih h e
 | case3=>exact h.elim
def zn6 (H H':Hp) (qual:Str) (P c:Addr):Prop:=CodeF H' qual c/\(H' = H\/∃oc ps',H c=none/\c≠P/\H' = upd (upd H c (.frz oc hTr)) P (.tbl ps')/\TabOk H' qual ps')
section
variable {X:Cx}{pins:List (Addr × Obj)}{σ:L2.St}{H:Hp}{s:Shared}{M:Model}{A:Around}{E:Value->Shared->Prop}
theorem ye9 {params:Arguments}{body:Expr}{scope:Scope}{pos:Pos}{qual:Str}{c P:Addr}{ps:Array Value}{clos:List (Str × Addr)}{Q:Value->Shared->Prop}
  (I:Inv X pins σ H s) (hcode:X.env.code=.ref c) (hC:PySem.W.codeHdIn X.K c P=true) (hP:H P=some (.tbl ps)) (hT:TabOk H qual ps) (hq:X.env.qual++"<lambda>" = qual)
  (hdef:defaultsOf params X.env=([],[])) (hcl:closureFor scope X.env=pure clos)
  (h:∀f c' pm ctv H' s',zn6 H H' qual P c'->Inv X pins σ H' s'->s'.heap.get? f=some (PySem.W.kla_obj "<lambda>" qual params body scope clos pm c' ctv)->H' f=none->s.heap.objs.size<=f->Q (.ref f) s') :
  wpAny M A (eval (.Lambda params body scope pos) X.env) Q E s:=by
 have hPh:s.heap.get? P=some (PySem.W.tabObj ps):=I.hok P _ hP
 have C:PySem.W.CodeHd s.heap c P:=PySem.W.codeHd_of_K I.kIn hC
 have hg:s.heap.Ns mainGlobals X.mg:=I.mod.glob.keeps I.bk
 obtain ⟨bm,ob,b1,b2,b3,b4,b5,b6⟩:=I.mod.bm
 have neT:∀{b:Addr} {o:Obj},X.base.get? b=some o->b≠P:=λ{b o} e z=>by
  have:=(I.bs b o e).2
  rw [z,hP] at this;cases this
 have hgP:mainGlobals≠P:=by
  obtain ⟨o,es,ep,e,_⟩:=I.mod.glob
  exact neT e
 have hbG:bm≠mainGlobals:=λq=>by
  obtain ⟨o,es,ep,e,hd,_⟩:=I.mod.glob
  rw [q,e] at b3;cases b3;rw [hd] at b6;cases b6
 have hB:s.heap.BuiltinsAt X.mg P:=⟨bm,ob,b1,b2,hbG,neT b3,I.bk _ _ b3,b4,b5,b6⟩
 refine PySem.W.kla_eval hdef ?_
 rw [hq]
 cases hf:codeAmong pos ps.toList with
 | some cv =>
  obtain ⟨c',rfl,kc⟩:=hT.2 pos cv hf
  refine PySem.W.kla_makeFunctionHit (mg:=X.mg) hcl I.ok.glob hg hcode C hPh hT.1 hf hB λctv h' tk hk hsz=>?_
  have I1:Inv X pins σ H { s with heap:=h'.push { cls:=.type "function",data:=.func (PySem.W.kla_fn "<lambda>" qual params body scope clos ((X.mg "__name__").getD .none) (.ref c') ctv) },toks:=tk } :=
   I.kept λb o e=>qps _ (hk b o e)
  exact h _ c' _ ctv H _ ⟨kc,.inl rfl⟩ I1 (Heap.get?_push_size _ rfl) (I.hok.fresh hsz) hsz
 | none =>
  refine PySem.W.kla_makeFunction (mg:=X.mg) hcl I.ok.glob hg hcode C hPh hT.1 hf hgP hB λc' ctv h' tk hx hge hlt hrec htb=>?_
  obtain ⟨c₂,oc,vs,t,e2,hoc,hd,hv⟩:=hrec
  cases e2
  have hc0:H c' = none:=I.hok.fresh hge
  have hcP:c'≠P:=λz=>by rw [z,hP] at hc0;cases hc0
  have kp:∀b o,b≠P->s.heap.get? b=some o->(h'.push (PySem.W.kla_obj "<lambda>" qual params body scope clos ((X.mg "__name__").getD .none) c' ctv)).get? b=some o:=λb o hb e=>qps _ (hx b o hb e)
  have hP':(h'.push (PySem.W.kla_obj "<lambda>" qual params body scope clos ((X.mg "__name__").getD .none) c' ctv)).get? P=some (PySem.W.tabObj (ps++#[rawInt pos.line,rawInt pos.col,.ref c'])):=qps _ htb
  have hc':(h'.push (PySem.W.kla_obj "<lambda>" qual params body scope clos ((X.mg "__name__").getD .none) c' ctv)).get? c' = some oc:=qps _ hoc
  have nP:∀b,H b=none->b≠P:=λb n z=>by rw [z,hP] at n;cases n
  have nc:∀b u,H b=some u->b≠c':=λb u e z=>by rw [z,hc0] at e;cases e
  have keepH:∀b u,H b=some u->b≠P->upd (upd H c' (.frz oc hTr)) P (.tbl (ps++#[rawInt pos.line,rawInt pos.col,.ref c'])) b=some u:=λb u e hb=>by
   rw [zan hb,zan (nc b u e)];exact e
  have I1:Inv X pins σ (upd (upd H c' (.frz oc hTr)) P (.tbl (ps++#[rawInt pos.line,rawInt pos.col,.ref c']))) { s with heap:=h'.push (PySem.W.kla_obj "<lambda>" qual params body scope clos ((X.mg "__name__").getD .none) c' ctv),toks:=tk }:=by
   refine I.un ⟨λb o e n _ _=>kp b o (nP b n) e,λb o e n _ _=>⟨o.slots,kp b o (nP b n) e⟩,λb o e n _=>?_,λb o e _=>?_,λb xs e=>keepH b _ e (zc8 e hP (by intro z;cases z)),λb o u e=>keepH b _ e (zc8 e hP (by intro z;cases z)),λb qs e=>?_⟩ λb u e=>?_
   ·rw [zan (nP b n),zan (λz=>absurd (Nat.lt_of_lt_of_le (Heap.lt_size e) hge) (by rw [z];exact Nat.lt_irrefl _))];exact n
   ·by_cases hb:b=P
    ·exact ⟨_,hb ▸ hP'⟩
    ·exact ⟨o,kp b o hb e⟩
   ·by_cases hb:b=P
    ·subst hb
     rw [hP] at e;cases e
     exact ⟨_,zbf⟩
    ·exact ⟨#[],by rw [keepH b _ e hb];simp⟩
   ·by_cases hb:b=P
    ·subst hb
     rw [zbf] at e;cases e
     exact hP'
    ·rw [zan hb] at e
     by_cases hbc:b=c'
     ·subst hbc
      rw [zbf] at e;cases e
      exact ⟨hc',trivial,⟨_,hc'⟩,λ_ _ _ _=>trivial⟩
     ·rw [zan hbc] at e
      refine (I.hok b u e).stay (λd v hd r=>kp d v ?_ r) (λd r=>keepH d _ r (zc8 r hP (by intro z;cases z))) λd xs r=>keepH d _ r (zc8 r hP (by intro z;cases z))
      rcases hd with z|z
      ·rw [z];exact hb
      ·exact zc8 z hP (by intro z;cases z)
  have kc:CodeF (upd (upd H c' (.frz oc hTr)) P (.tbl (ps++#[rawInt pos.line,rawInt pos.col,.ref c']))) qual c':=⟨oc,vs,t,by rw [zan hcP,zbf],hd,hv⟩
  refine h _ c' _ ctv _ _ ⟨kc,.inr ⟨oc,_,hc0,hcP,rfl,?_,λpos' cv e=>?_⟩⟩ I1 (Heap.get?_push_size _ rfl) ?_ (Nat.le_trans hge (Nat.le_of_lt hlt))
  ·rw [Array.toList_append]
   exact ye7 rfl rfl hT.1
  ·rw [Array.toList_append] at e
   rcases ye8 hT.1 e with e|e
   ·obtain ⟨d,e1,oc2,vs2,t2,e3,e4⟩:=hT.2 pos' cv e
    exact ⟨d,e1,oc2,vs2,t2,keepH d _ e3 (zc8 e3 hP (by intro z;cases z)),e4⟩
   ·exact ⟨c',e,kc⟩
  ·have hs:s.heap.objs.size<=h'.objs.size:=Nat.le_trans hge (Nat.le_of_lt hlt)
   rw [zan (λz=>?_),zan (Nat.ne_of_gt hlt)]
   ·exact I.hok.fresh hs
   ·have:=Heap.lt_size htb
    rw [z] at this;exact absurd this (Nat.lt_irrefl _)
end
section
variable {K:QFg}{ρ:List Addr}{H H':Hp}{S:Sto}
theorem yfa {qual:Str}{P c:Addr}{n:Nat}(hn:ρ[n]? = some P) (hP:∃ps,H P=some (.tbl ps)) (m:zn6 H H' qual P c):Ext ρ H ρ H':=by
 obtain ⟨ps,hP⟩:=hP
 obtain ⟨_,rfl|⟨oc,ps',h1,h2,rfl,h3⟩⟩:=m
 ·exact Ext.refl ..
 ·exact (zbu h1).trans (zj3 (u:=.tbl ps) hn (by rw [zan h2.symm];exact hP) ⟨λ_ z=>(by cases z),λ_ _ z=>(by cases z)⟩)
theorem Sim.made {x:Str}{P c:Addr}{n:Nat}(s:Sim K ρ S H) (hn:ρ[n]? = some P) (hS:S[n]? = some (.tab x)) (m:zn6 H H' (zdf x) P c):Sim K ρ S H':=by
 obtain ⟨c0,ps,t1,t2,hP,_⟩:=s.at' n P _ hn hS
 obtain ⟨_,rfl|⟨oc,ps',h1,h2,rfl,h3⟩⟩:=m
 ·exact s
 ·have e:=(s.laid (u:=.frz oc hTr) h1).setG (o1:=.tab x) (u1:=.tbl ps') hn hS rfl (by rw [zan h2.symm];exact hP) ⟨λ_ z=>(by cases z),λ_ _ z=>(by cases z)⟩ ⟨c0,ps',t1,t2,zbf,h3⟩
  have hl:=qme hS
  rwa [show S.set n (.tab x)=S from by rw [<-hl.2,List.set_getElem_self]] at e
end
end L3
namespace SK
open PySem PySem.W PyProof.Rows PySem.Calls
section
variable {prog:Program}{w:World}{A:Around}{E:Value->Shared->Prop}{s:Shared}
theorem collectG {R:List Value->Shared->Prop}{r:Addr}{a b c:Int}{t u v:Tok}{n:Nat}(hh:A.handled=none) (hr:IsRange s.heap r a b c t u v) (hsm:Builtin.Range.small a b c=true) (hn:Builtin.Range.rangeSize a b c=n) (hl:n<=2 ^ 24)
  (h:∀(h':Heap) (tk:Nat) (acc:Array Value),s.heap.objs.size<=h'.objs.size->(∀b o,s.heap.get? b=some o->h'.get? b=some o)->ItemsOf (λi v=>∃t,v=.int (a+i*c) t) acc n->R acc.toList { s with heap:=h',toks:=tk }):wpAny (model prog w) A (collect (.ref r)) R E s:=by
 have hS₁:(s.heap.push { cls:=.type "list",data:=.seq ([]:List Value).toArray }).get? s.heap.objs.size=some { cls:=.type "list",data:=.seq #[] }:=Heap.get?_push_size _ rfl
 unfold collect
 refine qwb (wpAny_runValue (codeAny_builtin entry_proto_collect' ?_))
 rw [Around.under_plainId PySem.F.plain_proto_collect _]
 refine qwb (m:=newList []) (wpAny_newObj_type (qwp ⟨plainId_quiet PySem.F.plain_list_iadd _,codeAny_builtin entry_list_iadd' ?_⟩))
 rw [Around.under_plainId PySem.F.plain_list_iadd _]
 have key:=wpAny_extend_range (prog:=prog) (w:=w) (A:=A) (s:={ s with heap:=s.heap.push { cls:=.type "list",data:=.seq ([]:List Value).toArray } }) (R:=λ(q:Result) (s':Shared)=>∃(h':Heap) (tk:Nat) (acc:Array Value) (k:Nat),q=.ok (.ret (.ref s.heap.objs.size))/\s' = { s with heap:=h',toks:=tk }/\(∀b o,s.heap.get? b=some o->h'.get? b=some o)/\h'.get? s.heap.objs.size=some { cls:=.type "list",dict:=none,data:=.seq acc k,slots:=#[] }/\ItemsOf (λi v=>∃t,v=.int (a+i*c) t) acc n)
  hh (qps _ hr) hsm hn hl s.heap.objs.size (.ref s.heap.objs.size) 0 hS₁
  (λh' tk acc c hk hS' hacc=>⟨h',tk,acc,c,rfl,rfl,λb o e=>hk b o (Nat.ne_of_lt (Heap.lt_size e)) (qps _ e),hS',hacc⟩)
 refine wpAny_mono key (λfin s' z=>?_) λe s' z=>let ⟨_,_,_,_,e',_⟩:=z;(by cases e')
 cases fin with
 | done f =>
  obtain ⟨h',tk,acc,c,e,rfl,k,g,a⟩:=z
  cases e
  show wpAny _ A (load s.heap.objs.size >>= _) _ _ _
  exact qwb (wpAny_load g (qwp (h h' tk acc (Nat.le_of_lt (Heap.lt_size g)) k a)))
 | again c₁ =>
  refine ⟨z.1,codeAny_mono z.2 λq s₂ y=>?_⟩
  obtain ⟨h',tk,acc,c,rfl,rfl,k,g,a⟩:=y
  show wpAny _ A (load s.heap.objs.size >>= _) _ _ _
  exact qwb (wpAny_load g (qwp (h h' tk acc (Nat.le_of_lt (Heap.lt_size g)) k a)))
end
end SK
namespace L3
open PySem PySem.Spec PyProof.Rows L2
noncomputable def plc (xs:List Int):List Int:=(List.range xs.length).map λ(k:Nat)=>((xs.idxOf (k:Int):Nat):Int)
section
variable {X:Cx}{pins:List (Addr × Obj)}{σ:L2.St}{H:Hp}{s:Shared}
end
section
variable {X:Cx}
end
theorem rdI (ρ:List Addr) (H:Hp):∀xs:List Int,RDs ρ H (xs.map D.int) (xs.map V.int)
 | []=>.nil
 | x :: xs=>.cons (.int x) (rdI ρ H xs)
noncomputable def zbh:D->Int
 | .int i=>i
 | _=>0
section
variable {X:Cx}
end
section
variable {P:Program}{w:World}{K:QFg}{mg:Str->Option Value}{base:Heap}
theorem yfb {x qual:Str}{st:Stmt}{f c T:Addr}{fd:FuncData}{N ps:List Str}{k n:Nat}{b:SM}(F:Fun K x qual st f fd) (hf:PySem.W.nsIn K mainGlobals x=some (some (.ref f))) (hT:PySem.W.tabIn K x=some (c,T)) (S:FnScope N ps (zay st)) (hn:ps.length=n)
  (hbody:PySem.W.codeIn K (.ref c) qual=true->∀(A:Around) (outer:List Env) (s:Shared) (H:Hp) (E:XK),Room k (A.deeper (envOfC qual (zay st) s.heap.objs.size f (.ref c))) ->
   zct (zbn CX0 P w K mg base N qual (zay st) f (.ref c) A outer s H E).nox (zc9 st) b):FnOk P w K mg base CX0 (k+1) f fd ps (sp3 K n (zbq N.length b)):=by
 obtain ⟨oc,od,kV,doc,pm,an,cdv,ct,osl,rfl,lk,hcd⟩:=F.ex
 have ec:cdv=.ref c:=by
  unfold PySem.W.tabIn at hT
  rw [hf] at hT
  dsimp only at hT
  rw [lk] at hT
  dsimp only [PySem.W.fnOf] at hT
  split at hT
  ·split at hT
   ·split at hT
    ·cases hT;first|assumption|rfl
    ·cases hT
   ·cases hT
  ·cases hT
 subst ec
 refine zme lk hcd S (λvs H Q E h=>by rw [h.1,hn]) λA outer s H vs Q E hr h=>?_
 obtain ⟨hl,ρ,ds,S0,v,S',sim,rd,hm,p⟩:=h
 refine ⟨_,PSs.nox (hbody hcd A outer s H E hr),?_⟩
 obtain ⟨⟨fl,l',S1⟩,q,hm⟩:=bnd hm
 refine ⟨ρ,_,S0,fl,l',S1,sim,rd.locals N,q,λρ' H' σ' e' s' r'=>?_⟩
 cases fl with
 | nx=>cases hm;exact p ρ' H' _ e' s' .non
 | rt d=>cases hm;exact λv' rv=>p ρ' H' v' e' s' rv
 | bk=>cases hm
 | ct=>cases hm
end
def zk6 (ts:List Addr) (H:Hp):Prop:=∀b,(b∈ts/\H b=some (.tbl #[]))\/(b ∉ ts/\(H b=none\/∃o xs,H b=some (.frz o (.lst xs))))
theorem yfc {P:Program}{w:World}{K:QFg}{mg mb:Str->Option Value}{CX:CXT}{k:Nat}{fa a:Addr}{fd:FuncData}{x:Str}{sp:Sp}{s₁:Shared}{vs:List Value}{ns:List Int}{ts:List Addr}
  (KX:K.In s₁.heap) (hbm:BMd mg s₁.heap) (hns:s₁.heap.Ns mainGlobals mg) (hb:s₁.heap.Ns builtinsNs mb) (hbb:∀x:Str,x≠"__name__"->mb x=bootBuiltins x) (hlim:s₁.heap.NoLimit) (hg:s₁.gens = #[])
  (ha:s₁.heap.get? a=some { cls:=.type "list",data:=.seq vs.toArray }) (hi:IntsAre vs ns) (hl:ns.length<=sizeLine) (hr:Room k callerA)
  (hT:∀t∈ts,s₁.heap.get? t=some (PySem.W.tabObj #[])/\isCodeTable s₁.heap t/\K.lookup t=none)
  (F:∀base:Heap,K.In base->base.Ns mainGlobals mg->FnOk P w K mg base CX k fa fd [x] sp) (hbind:∀(s:Shared) (u:Value),BindsTo s fd ⟨[u],[]⟩ [(x,u)])
  (hsp:∀H:Hp,zk6 ts H->SqL K H a (ns.map V.int)->sp [.ref a] H (λv _=>v=.bl true) λ_ _ _=>False)
  (hCX:∀H e s',CX [] H s₁ (λ_ _ _=>False) e s'->False) :
  codeAny (model P w) callerA (.call (.ref fa) ⟨[.ref a],[]⟩) (λr s'=>r=.ok (.ret (.bool true))/\OldK s₁.heap s'.heap/\s'.os=s₁.os/\AllBare s'.gens) s₁:=by
 have rv:=zqm hi
 have lenV:=hi.length
 have aT:a ∉ ts:=λz=>by rw [(hT a z).1] at ha;cases ha
 have core:∀H:Hp,zk6 ts H->SqL K H a (ns.map V.int)->HOk P w H s₁.heap->(∀b,H b≠none->b=a\/b∈ts)->(H a≠none->K.lookup a=none) ->
   codeAny (model P w) callerA (.call (.ref fa) ⟨[.ref a],[]⟩) (λr s'=>r=.ok (.ret (.bool true))/\OldK s₁.heap s'.heap/\s'.os=s₁.os/\AllBare s'.gens) s₁:=by
  intro H hO hS hok hA hK
  have no:∀{b:Addr} {o:Obj},s₁.heap.get? b=some o->o.cls≠.type "list"->o≠PySem.W.tabObj #[]->H b=none:=λ{b o} e n1 n2=>by
   cases q:H b with
   | none=>rfl
   | some u =>
    rcases hA b (by rw [q];simp) with z|z
    ·subst z
     rw [ha] at e;cases e
     exact absurd rfl n1
    ·rw [(hT b z).1] at e;cases e
     exact absurd rfl n2
  have nsK:∀{b:Addr} {m:Str->Option Value},s₁.heap.Ns b m->(zff s₁.heap H).Ns b m:=λ{b m} hx1_=>by
   obtain ⟨o,es,ep,e,d,r⟩:=hx1_
   refine ⟨o,es,ep,zl0 e ?_,d,r⟩
   cases q:H b with
   | none=>rfl
   | some u =>
    rcases hA b (by rw [q];simp) with z|z
    ·subst z
     rw [ha] at e;cases e
     have d':Data.seq vs.toArray _=Data.dict es ep:=d
     cases d'
    ·rw [(hT b z).1] at e;cases e;cases d
  have hKb:K.In (zff s₁.heap H):=λb o e=>zl0 (KX b o e) (by
   cases q:H b with
   | none=>rfl
   | some u =>
    rcases hA b (by rw [q];simp) with z|z
    ·subst z
     rw [hK (by rw [q];simp)] at e;cases e
    ·rw [(hT b z).2.2] at e;cases e)
  have hM:Mod K mg (zff s₁.heap H):=⟨hKb,nsK hns,⟨mb,nsK hb,hbb⟩,let ⟨mc,h1,h2⟩:=hlim;⟨mc,nsK h1,h2⟩,by
   obtain ⟨bm,ob,b1,b2,b3,b4,b5⟩:=hbm
   exact ⟨bm,ob,b1,b2,zl0 b3 (no b3 (by rw [b4];decide) (by rintro rfl;cases b4)),b4,b5⟩⟩
  have e0:Env0 P w K mg (zff s₁.heap H) callerA [] s₁ H:=⟨rfl,hM,λb o e=>zwj e,Nat.le_of_eq (zwi _ _),trivial,λb hb=>absurd (show b∈([]:List Addr) from hb) (by simp),hok,.of_eq hg⟩
  refine codeAny_mono ((F _ hKb (nsK hns)).run callerA [] s₁ H ⟨[.ref a],[]⟩ [.ref a] [.ref a] _ _ hr e0 (hbind s₁ (.ref a)) (.cons rfl .nil) (hsp H hO hS)) λr s' h=>?_
  cases r with
  | error e=>exact (hCX H e s' h).elim
  | ok fl =>
   cases fl with
   | next=>exact False.elim h
   | brk=>exact False.elim h
   | cont=>exact False.elim h
   | ret u =>
    obtain ⟨v,H',os,bare,un,hok',r',q⟩:=h
    have q':v=.bl true:=q
    subst q'
    obtain rfl:u=Value.bool true:=r'
    refine ⟨rfl,⟨λb o e=>?_,λb o e=>un.there b o e (by simp)⟩,os,bare⟩
    rcases hO b with ⟨hb,z⟩|⟨hb,z|⟨ob,xs,z⟩⟩
    ·obtain ⟨more,z2⟩:=un.tbls b _ z
     rw [(hT b hb).1] at e;cases e
     exact .inr (.inl ⟨(hT b hb).2.1,rfl,#[],more,rfl,hok' b _ z2⟩)
    ·exact .inl (un.keep b o e z (by intro y;exact absurd (show b∈([]:List Addr) from y) (by simp)) (by simp))
    ·have z2:=un.frzs b ob _ z
     obtain ⟨e1,_⟩:=hok b _ z
     obtain ⟨e2,_⟩:=hok' b _ z2
     rw [e] at e1;cases e1
     exact .inl e2
 cases hk:K.lookup a with
 | some o =>
  have e:=KX a o hk
  rw [ha] at e
  cases e
  refine core (λb=>if b∈ts then some (.tbl #[]) else none) (λb=>?_) (.inr ⟨_,vs.toArray,_,hk,rfl,rfl,rfl,by rw [List.size_toArray,lenV];exact hl,by simpa using rv⟩) (λb u z=>?_) (λb z=>?_) λz=>absurd (if_neg aT) z
  ·by_cases h:b∈ts
   ·exact .inl ⟨h,if_pos h⟩
   ·exact .inr ⟨h,.inl (if_neg h)⟩
  ·by_cases h:b∈ts
   ·have z':=(if_pos h).symm.trans z
    cases z'
    exact (hT b h).1
   ·have z':=(if_neg h).symm.trans z
    cases z'
  ·by_cases h:b∈ts
   ·exact .inr h
   ·exact absurd (if_neg h) z
 | none =>
  refine core (λb=>if b∈ts then some (.tbl #[]) else if b=a then some (.frz { cls:=.type "list",data:=.seq vs.toArray } (.lst (ns.map V.int))) else none) (λb=>?_) (.inl (.inr ⟨{ cls:=.type "list",data:=.seq vs.toArray },(if_neg aT).trans (if_pos rfl)⟩)) (λb u z=>?_) (λb z=>?_) λ_=>hk
  ·by_cases h:b∈ts
   ·exact .inl ⟨h,if_pos h⟩
   ·refine .inr ⟨h,?_⟩
    by_cases hb:b=a
    ·exact .inr ⟨_,_,(if_neg h).trans (if_pos hb)⟩
    ·exact .inl ((if_neg h).trans (if_neg hb))
  ·by_cases h:b∈ts
   ·have z':=(if_pos h).symm.trans z
    cases z'
    exact (hT b h).1
   ·have z':=(if_neg h).symm.trans z
    by_cases hb:b=a
    ·have z2:=(if_pos hb).symm.trans z'
     cases z2
     subst hb
     exact ⟨ha,by rw [qlm];exact hl,vs,_,rv,ha⟩
    ·have z2:=(if_neg hb).symm.trans z'
     cases z2
  ·by_cases h:b∈ts
   ·exact .inr h
   ·by_cases hb:b=a
    ·exact .inl hb
    ·exact absurd ((if_neg h).trans (if_neg hb)) z
theorem yfd {l:PySem.W.OpenLaw}{n k:Nat}{q:Program}{loose:List Str}{XP:(Str->Option Value)->Heap->Prop}{YP:World->Heap->Prop}{d:DefRec}{K:Params->QFg}{CX:World->CXT}{sp:World->Sp}{x:Str}{ts:List Addr}
  (hn:l.most=some n) (hn2:n<=sizeLine) (hdf:d.params.defaults=[]) (hr:Room k callerA)
  (hY:∀(w:World) (h:Heap),YP w h->(K w.params).In h/\∀t∈ts,h.get? t=some (PySem.W.tabObj #[]))
  (hC:∀w:World,∀t∈ts,∃c,PySem.W.codeHdIn (K w.params) c t=true) (hN:∀w:World,PySem.W.noTabs (K w.params)=true)
  (F:∀(w:World) (mg:Str->Option Value) (fa:Addr) (h:Heap),(K w.params).In h->h.Ns mainGlobals mg->mg d.name=some (.ref fa) ->
   ∃fd:FuncData,(∀(s:Shared) (u:Value),BindsTo s fd ⟨[u],[]⟩ [(x,u)]) /\
    ∀base:Heap,(K w.params).In base->base.Ns mainGlobals mg->FnOk l.prog w (K w.params) mg base (CX w) k fa fd [x] (sp w))
  (hsp:∀(w:World) (H:Hp) (a:Addr) (ns:List Int),ns.length<=n->zk6 ts H->SqL (K w.params) H a (ns.map V.int)->sp w [.ref a] H (λv _=>v=.bl true) λ_ _ _=>False)
  (hCX:∀(w:World) (H:Hp) (s:Shared) (e:Value) (s':Shared),CX w [] H s (λ_ _ _=>False) e s'->False) :
  PySem.W.WalkO q loose XP YP l.row.toRowW d [] (λf vs=>PySem.call f vs):=by
 refine Att.attach_call hn hdf λw s₀ s₁ mg mb fa o pm cd doc a vs ns G Y ho hd hcd hmg hobj hints hlen hg=>?_
 obtain ⟨KX,hT⟩:=hY w _ Y
 obtain ⟨fd,hb,hF⟩:=F w mg fa _ KX G.T.g hmg
 refine yfc KX G.T.bmain G.T.g G.T.b G.T.builtins G.T.nolimit hg hobj hints (Nat.le_trans hlen hn2) hr (λt ht=>?_) hF hb (λH hO hS=>hsp w H a ns hlen hO hS) λH e s'=>hCX w H s₁ e s'
 obtain ⟨c,hc⟩:=hC w t ht
 refine ⟨hT t ht,((PySem.W.codeHd_of_K KX hc).tab (hT t ht)).isCodeTable,?_⟩
 cases e:(K w.params).lookup t with
 | none=>rfl
 | some u =>
  have e1:=KX t u e
  rw [hT t ht] at e1
  cases e1
  have h2:=List.all_eq_true.mp (hN w) (t,_) (PySem.W.mem_of_lookupK e)
  exact absurd (show false=true from h2) Bool.false_ne_true
noncomputable def zgv (gs:List Str):Sto:=gs.map Ob.tab
theorem yfe {K:QFg}{H:Hp}{a:Addr}{ns:List Int}{m:FM}{gs:List Str}{ts:List Addr}(hG:ts.Nodup) (hts:∀(i:Nat) g t,gs[i]? = some g->ts[i]? = some t->∃c,PySem.W.tabIn K g=some (c,t)/\PySem.W.codeHdIn K c t=true) (hlen:gs.length=ts.length)
  (hO:zk6 ts H) (hS:SqL K H a (ns.map V.int)) (h:∃S',m [.ref 0] (.flst (ns.map D.int) :: zgv gs)=some (.bl true,S')):sp3 K 1 m [.ref a] H (λv _=>v=.bl true) λ_ _ _=>False:=by
 obtain ⟨S',h⟩:=h
 refine ⟨rfl,a :: ts,[.ref 0],_,_,S',⟨by simp [zgv,hlen],λi j b o1 o2 h1 h2 h3 h4 m1 m2=>?_,λn b o h1 h2=>?_⟩,.cons (.ref rfl) .nil,h,λρ' H' v' e s r=>?_⟩
 ·cases i with
  | zero=>cases h3;cases m1
  | succ i =>
   cases j with
   | zero=>cases h4;cases m2
   | succ j =>
    rw [List.getElem?_cons_succ] at h1 h2
    obtain ⟨l1,e1⟩:=qme h1
    obtain ⟨l2,e2⟩:=qme h2
    have:=(List.getElem_inj hG).mp (e1.trans e2.symm)
    omega
 ·cases n with
  | zero =>
   cases h1;cases h2
   refine ⟨_,?_,rdI _ _ ns⟩
   rcases hS with (z|⟨o,z⟩)|z
   ·rcases hO a with ⟨_,y⟩|⟨_,y|⟨o,xs,y⟩⟩ <;> (rw [z] at y;cases y)
   ·exact .inl ⟨o,z⟩
   ·exact .inr z
  | succ n =>
   rw [List.getElem?_cons_succ] at h1 h2
   unfold zgv at h2
   rw [qgm] at h2
   cases q:gs[n]? with
   | none=>rw [q] at h2;cases h2
   | some g =>
    rw [q] at h2
    cases h2
    obtain ⟨c,t1,t2⟩:=hts n g b q h1
    have hb:H b=some (.tbl #[]):=by
     rcases hO b with ⟨_,y⟩|⟨y,_⟩
     ·exact y
     ·exact absurd (qmg h1) y
    exact ⟨c,#[],t1,t2,hb,trivial,λpos cv z=>by simp [codeAmong] at z⟩
 ·cases r;rfl
def FT (K:QFg) (x:Str) (T:Addr):Prop:=∃c,PySem.W.tabIn K x=some (c,T)/\PySem.W.codeHdIn K c T=true
theorem ft_mk {K:QFg}{x:Str}{f c T:Addr}{oc o1:Value}{od o2:Option Addr}{sl o3:Array (Option Value)}{fd:FuncData}{vs:Array Value}(a:PySem.W.nsIn K mainGlobals x=some (some (.ref f))) (l:K.lookup f=some ⟨oc,od,.func fd,sl⟩) (e:fd.code=.ref c)
  (k:K.lookup c=some ⟨o1,o2,.fields vs,o3⟩) (h:vs[11]? = some (.ref T)) (d:PySem.W.codeHdIn K c T=true):FT K x T:=by
 refine ⟨c,?_,d⟩
 unfold PySem.W.tabIn
 rw [a]
 dsimp only
 rw [l]
 dsimp only
 rw [e]
 dsimp only
 rw [k]
 dsimp only
 rw [h]
section
variable {X:Cx}{pos:Pos}
end
section
variable {prog:Program}{w:World}{h₀:Heap}{a:Addr}{A:Around}{E:Value->Shared->Prop}{s:Shared}{Q:Value->Shared->Prop}
end
noncomputable def sm (i:Int):Bool:=decide (i.natAbs.log2<1920)
section
variable {X:Cx}{pins:List (Addr × Obj)}{σ:L2.St}{H:Hp}{s:Shared}{ρ:List Addr}{S:Sto}
end
noncomputable def txU (p:PyData) (S:Sto):Option (D × Sto):=if p.shown.length<=sizeLine then some (.str p.shown,S) else none
section
variable {X:Cx}{a:Expr}{es:List Expr}{mA:AM}{pos p:Pos}
theorem yff {K:QFg}{f g:FM}{r r':List V->Hp->VK->Prop}(h:Fn3 K f r) (h':Fn3 K g r'):Fn3 K (λxs S=>match f xs S with|some v=>some v|none=>g xs S) (λxs H Q=>r xs H Q\/r' xs H Q):=by
 intro ρ S H xs vs v S' Q sim rr hm p
 dsimp only at hm
 cases e:f xs S with
 | some w=>rw [e] at hm;cases hm;exact .inl (h ρ S H xs vs _ _ Q sim rr e p)
 | none=>rw [e] at hm;exact .inr (h' ρ S H xs vs _ _ Q sim rr hm p)
end
open PySem.W
inductive LArgs (sc:Scope) (cs:List (Str × Addr)) (h:Heap):List Expr->List Value->Prop where
 | nil:LArgs sc cs h [] []
 | cons {x:Str} {p:Pos} {c:Addr} {u:Value} {es:List Expr} {us:List Value}:sc.names.lookup x=some .free->(x == ("__debug__":Str))=false->(x == ("__classdict__":Str))=false->cs.lookup x=some c->h.IsCell c (some u)->LArgs sc cs h es us->LArgs sc cs h (.Name x p :: es) (u :: us)
theorem LArgs.keeps {sc:Scope}{cs:List (Str × Addr)}{h h':Heap}{es:List Expr}{us:List Value}(k:∀b o,h.get? b=some o->h'.get? b=some o) (r:LArgs sc cs h es us):LArgs sc cs h' es us:=by
 induction r with
 | nil=>exact .nil
 | cons h1 h2 h3 h4 h5 _ ih=>exact .cons h1 h2 h3 h4 (h5.keeps k) ih
theorem yfg {M:Model}{A:Around}{E:Value->Shared->Prop}{s:Shared}{env:Env}{pos:Pos}{es:List Expr}{us:List Value}(hk:env.scope.kind=.function) (r:LArgs env.scope env.cells s.heap es us):∀{Q:List Value->Shared->Prop},Q us s->wpAny M A (spliced (backTo pos (starEach es env))) Q E s:=by
 induction r with
 | nil=>exact λh=>qwp h
 | cons h1 h2 h3 h4 h5 _ ih =>
  intro Q h
  refine Calls.spliced_cons (wpAny_Name (wpAny_loadName_free hk h1 h4 h5 ?_ h3) h2)
  exact ih h
section
variable {X:Cx}{pins:List (Addr × Obj)}{σ:L2.St}{H:Hp}{s:Shared}{E:XK}{CA:Str->Addr}
theorem yfh {env:Env}{s1 s':Shared}{H':Hp}{a C T T':Addr}{h':Heap}(kp:∀b o,s.heap.get? b=some o->s1.heap.get? b=some o) (hL:env.frame=some s.heap.objs.size)
  (I2:Inv X pins σ H' s') (un:Un (frs (env :: X.stack)) [] H H' s1.heap s'.heap) (na:s1.heap.get? a=none) (nT:s1.heap.get? T=none) (ha:H' a=none) (hT:H' T=none) (hE:E (.ref C) none H') (hLf:H' s.heap.objs.size=none) (hfl:s'.heap.FunFrames X.base (env :: X.stack))
  (hos:s'.os=s.os) (tr:Tr (frs (env :: X.stack)) a T s'.heap h') (fl:Fly h' a C T') (hT':T' = T\/s'.heap.get? T' = none):CX1 X.prog X.w X.stack H s E (.ref a) { s' with heap:=h' }:=by
 have hsub:∀b,b∈frs (env :: X.stack)->b=s.heap.objs.size\/b∈frs X.stack:=λb hb=>by
  unfold frs at hb
  rw [List.filterMap_cons,hL] at hb
  exact List.mem_cons.mp hb
 have hin:∀b,b∈frs X.stack->b∈frs (env :: X.stack):=λb hb=>by
  unfold frs
  rw [List.filterMap_cons,hL]
  exact List.mem_cons_of_mem _ hb
 have up:∀b,s1.heap.get? b=none->s.heap.get? b=none:=λb q=>by
  cases z:s.heap.get? b with
  | none=>rfl
  | some o=>rw [kp b o z] at q;cases q
 have hne:∀b o,s.heap.get? b=some o->b≠a/\b≠T/\b≠s.heap.objs.size:=λb o q=>⟨λz=>(by rw [z,up a na] at q;cases q),λz=>(by rw [z,up T nT] at q;cases q),Nat.ne_of_lt (Heap.lt_size q)⟩
 have there:∀b o,s.heap.get? b=some o->∃o',s'.heap.get? b=some o':=λb o q=>un.there b o (kp b o q) (by simp)
 have nT':s.heap.get? T' = none:=by
  rcases hT' with rfl|q
  ·exact up _ nT
  ·cases z:s.heap.get? T' with
   | none=>rfl
   | some o=>obtain ⟨o',e⟩:=there T' o z;rw [q] at e;cases e
 have hT'':H' T' = none:=by
  rcases hT' with rfl|q
  ·exact hT
  ·cases z:H' T' with
   | none=>rfl
   | some u=>obtain ⟨o',e⟩:=ObjOk.there (I2.hok T' u z);rw [q] at e;cases e
 refine ⟨a,C,T',H',rfl,hos,I2.bare,⟨λb o q n hb hx=>?_,λb o q n hb hx=>?_,λb o q n hx=>un.free b o (kp b o q) n (by simp),λb o q hx=>?_,un.tups,un.frzs,un.tbls⟩,λb u e=>?_,up a na,nT',fl,ha,hT'',hE⟩
 ·obtain ⟨h1,h2,h3⟩:=hne b o q
  have nb:b ∉ frs (env :: X.stack):=λz=>(hsub b z).elim h3 hb
  exact tr.keep b o nb h1 h2 (un.keep b o (kp b o q) n nb (by simp))
 ·obtain ⟨sl,e⟩:=un.slot b o (kp b o q) n (hin b hb) (by simp)
  obtain ⟨_,o2,ho2,hnf⟩:=hfl.mem (hin b hb)
  rw [e] at ho2;cases ho2
  obtain ⟨sl',e'⟩:=tr.slot b _ (hin b hb) e hnf
  exact ⟨sl',e'⟩
 ·obtain ⟨h1,h2,h3⟩:=hne b o q
  obtain ⟨o',e⟩:=there b o q
  by_cases hb:b∈frs (env :: X.stack)
  ·obtain ⟨_,o2,ho2,hnf⟩:=hfl.mem hb
   rw [e] at ho2;cases ho2
   obtain ⟨sl,e'⟩:=tr.slot b _ hb e hnf
   exact ⟨_,e'⟩
  ·exact ⟨o',tr.keep b o' hb h1 h2 e⟩
 ·refine (I2.hok b u e).stay (λc v hc q=>?_) (λ_ q=>q) λ_ _ q=>q
  have hcn:H' c≠none:=by
   rcases hc with z|z
   ·rw [z,e];intro y;cases y
   ·rw [z];intro y;cases y
  refine tr.keep c v (λz=>?_) (λz=>hcn (by rw [z];exact ha)) (λz=>hcn (by rw [z];exact hT)) q
  rcases hsub c z with y|y
  ·exact hcn (by rw [y];exact hLf)
  ·exact hcn (I2.stkFree c y)
theorem yfi {k n:Nat}{f a c:Addr}{fd:FuncData}{ps:List Str}{rx:ZF}{fx qual:Str}{params:Arguments}{scope:Scope}{cs:List (Str × Addr)}{pm ctv:Value}{p0 cpos:Pos}{e0:Expr}{es:List Expr}{us:List Value}{vs:List V}
  (F:FnOk X.prog X.w X.K X.mg X.base (CX1 X.prog X.w) k f fd ps (spZ X.K CA n rx)) (hm:X.mg fx=some (.ref f)) (hkf:PySem.W.keepIn X.K (.ref f)=true) (hb:Binds X.K fd ps []) (hr:Room (k+1) X.A) (I:Inv X pins σ H s)
  (ho:H a=some (.frz (PySem.W.kla_obj "<lambda>" qual params (.Call (.Name fx p0) (e0 :: es) [] cpos) scope cs pm c ctv) hTr)) (hC:CodeF H qual c)
  (hk:scope.kind=.function) (hco:scope.isCoroutine=false) (hgen:scope.isGenerator=false) (hno:∀z∈scope.names,z.2≠.cell) (hgf:scope.names.lookup fx=some .globalImplicit) (hdf:(fx == ("__debug__":Str))=false)
  (hbind:bindArgs (PySem.W.kla_fn "<lambda>" qual params (.Call (.Name fx p0) (e0 :: es) [] cpos) scope cs pm (.ref c) ctv) ⟨[],[]⟩=pure []) (hA:LArgs scope cs s.heap (e0 :: es) us) (rv:Vals vs us) (hz:spZ X.K CA n rx vs H (λ_ _=>False) E) (hst:∀env,starEach (e0 :: es) env=(false,eval e0 env) :: starEach es env) (hpl:∀env,(backTo cpos (starEach es env)).any (·.1)=false) :
  wpAny (model X.prog X.w) X.A (call (.ref a) []) (λ_ _=>False) (λe s'=>CX1 X.prog X.w X.stack H s E e s') s:=by
 obtain ⟨hoa,_⟩:=I.hok a _ ho
 obtain ⟨oc,vs2,t3,e1,e2,e3⟩:=hC
 refine wpAny_call (PySem.W.kla_callFunE hr.depth hoa rfl hco hgen rfl ⟨c,oc,vs2,t3,rfl,(I.hok c _ e1).1,e2,e3⟩ ?_)
 rw [hbind]
 refine qwp (wpAny_newFunctionEnv hno (λz hz=>by cases hz) (λh₁ hns hsb=>⟨I.nolimit.fresh _ hsb,PySem.W.kla_codeExpr ?_⟩) hk)
 have kp:∀b o,s.heap.get? b=some o->h₁.get? b=some o:=λb o e=>hsb.extBut b o (Nat.ne_of_lt (Heap.lt_size e)) (qps _ e)
 generalize henv:newEnv scope s.heap.objs.size mainGlobals cs (qual++Str.ofString ".<locals>.") (some a) (.ref c) none builtinsNs=env
 have hsc:env.scope=scope:=by rw [<-henv];rfl
 have hce:env.cells=cs:=by rw [<-henv];rfl
 have hfr:env.frame=some s.heap.objs.size:=by rw [<-henv];rfl
 have hgl:env.globals=mainGlobals:=by rw [<-henv];rfl
 have I1:Inv X pins σ H { s with heap:=h₁,toks:=s.toks+([]:List (Str × Value)).length }:=I.kept kp
 have hAs:LArgs env.scope env.cells h₁ (e0 :: es) us:=by rw [hsc,hce];exact hA.keeps kp
 have nst:s.heap.objs.size ∉ frs X.stack:=λz=>by
  obtain ⟨_,o,e,_⟩:=I.stack.mem z
  exact absurd (Heap.lt_size e) (Nat.lt_irrefl _)
 have nbase:X.base.get? s.heap.objs.size=none:=Heap.get?_none_of_le (Nat.le_trans I.ok.bsz I.sz)
 have nH:H s.heap.objs.size=none:=I.hok.fresh (qlr _)
 have e0':Env0 X.prog X.w X.K X.mg X.base (X.A.deeper env) (env :: X.stack) { s with heap:=h₁,toks:=s.toks+([]:List (Str × Value)).length } H:=by
  refine ⟨Around.frames_deeper I.ok.frames,I.ok.mod,I1.bs,Nat.le_trans I.ok.bsz I1.sz,.cons (by rw [hsc,hk];decide) hfr hns nbase I1.stack,λb hb=>?_,I1.hok,I1.bare⟩
  unfold frs at hb
  rw [List.filterMap_cons,hfr] at hb
  rcases List.mem_cons.mp hb with z|z
  ·rw [z];exact nH
  ·exact I1.stkFree b z
 refine wpAny_Call_Name_kw (Calls.Name_function_global (by rw [hsc];exact hk) (by show env.scope.names.lookup fx=_;rw [hsc];exact hgf) (Calls.loadGlobal_global (mg:=X.mg) (by rw [hgl];exact I1.mod.glob.keeps I1.bk) hm ?_) hdf)
 refine PySem.W.callWith_K (h₀:=X.base) I.ok.mod.kin hkf (yfg (us:=us) (by rw [hsc];exact hk) hAs ⟨I1.kIn,?_⟩) (hst env) (hpl env)
 have r2:Vals (vs++[]) (us++[]):=by rw [List.append_nil,List.append_nil];exact rv
 have hlen:(us++[]).length=ps.length:=by rw [List.append_nil,<-rv.length];exact F.len _ _ _ _ hz
 refine wpAny_call (codeAny_mono (F.run (X.A.deeper env) (env :: X.stack) _ H ⟨us,[]⟩ (us++[]) (vs++[]) (λ_ _=>False) E (hr.deeper env) e0' (hb _ us I1.kIn hlen) r2 (by rw [List.append_nil];exact hz)) λres s' hq=>?_)
 cases res with
 | ok fl =>
  cases fl with
  | ret u=>obtain ⟨_,_,_,_,_,_,_,z⟩:=hq;exact z.elim
  | next=>exact False.elim hq
  | brk=>exact False.elim hq
  | cont=>exact False.elim hq
 | error e =>
  obtain ⟨a',C,T,H',rfl,os,bare,un,hok,na,nT,fl,ha,hT,hE⟩:=hq
  have hin:s.heap.objs.size∈frs (env :: X.stack):=by
   unfold frs;rw [List.filterMap_cons,hfr];exact List.mem_cons_self
  have hsub:∀b,b∈frs (env :: X.stack)->b=s.heap.objs.size\/b∈frs X.stack:=λb hb=>by
   unfold frs at hb
   rw [List.filterMap_cons,hfr] at hb
   exact List.mem_cons.mp hb
  have hin2:∀b,b∈frs X.stack->b∈frs (env :: X.stack):=λb hb=>by
   unfold frs;rw [List.filterMap_cons,hfr];exact List.mem_cons_of_mem _ hb
  have I2:Inv X pins σ H' s':=I1.call' (ch:=[s.heap.objs.size]) os
   ⟨λb o q n hb hx=>un.keep b o q n (λz=>(hsub b z).elim (λy=>hx (by simp [y])) hb) (by simp),λb o q n hb _=>un.slot b o q n (hin2 b hb) (by simp),λb o q n _=>un.free b o q n (by simp),λb o q _=>un.there b o q (by simp),un.tups,un.frzs,un.tbls⟩ hok bare λb hb=>by
    have e:b=s.heap.objs.size:=by simpa using hb
    subst e
    refine ⟨.inr I.sz,Nat.ne_of_gt I.lt,λx c z y=>?_,λp hp y=>?_⟩
    ·obtain ⟨v,o,q,_⟩:=I.cell x c z
     rw [y] at q;exact absurd (Heap.lt_size q) (Nat.lt_irrefl _)
    ·have q:=(I.pin p hp).1
     rw [y] at q;exact absurd (Heap.lt_size q) (Nat.lt_irrefl _)
  obtain ⟨oL,es',ep',hoL,hdL,hrL⟩:=id hns
  obtain ⟨sl,hsl⟩:=un.slot _ oL hoL nH hin (by simp)
  have hfl:s'.heap.FunFrames X.base (env :: X.stack):=.cons (by rw [hsc,hk];decide) hfr (m:=λx=>List.lookup x ([]:List (Str × Value)).reverse) ⟨_,es',ep',hsl,hdL,hrL⟩ nbase I2.stack
  exact zr7 (base:=X.base) (Around.frames_deeper I.ok.frames) hfl hfr fl λh' T' tr fl' hT'=>yfh kp hfr I2 un na nT ha hT hE (un.free _ oL hoL nH (by simp)) hfl os tr fl' hT'
end
noncomputable def zcm:List Expr->Option (List Str)
 | []=>some []
 | .Name x _ :: es=>(zcm es).map (x :: ·)
 | _=>none
noncomputable def zk7:Expr->Option (Str × List Str)
 | .Call (.Name f _) es [] _=>(zcm es).map (f,·)
 | _=>none
noncomputable def zi9 (caps:List (Str × D)):List Str->Option (List D)
 | []=>some []
 | x :: xs=>(caps.lookup x).bind λd=>(zi9 caps xs).map (d :: ·)
def ztm (sc:Scope) (x:Str):Prop:=sc.names.lookup x=some .free/\(x == ("__debug__":Str))=false/\(x == ("__classdict__":Str))=false
structure LamW (g:LamG):Prop where
 kind:g.scope.kind=.function
 co:g.scope.isCoroutine=false
 gen:g.scope.isGenerator=false
 no:∀z∈g.scope.names,z.2≠.cell
 call:∃fx p0 e0 es cpos xs,g.body=.Call (.Name fx p0) (e0 :: es) [] cpos/\zcm (e0 :: es)=some xs/\g.scope.names.lookup fx=some .globalImplicit/\(fx == ("__debug__":Str))=false/\∀x∈xs,ztm g.scope x
 bind:∀cs pm c ctv,bindArgs (PySem.W.kla_fn "<lambda>" g.qual g.params g.body g.scope cs pm c ctv) ⟨[],[]⟩=pure []
open Classical in
noncomputable def zhu (i:Nat) (gs:List LamG) (tb:List (Str × Nat × ZF)):ZM:=λl S=>match l[i]? with
 | some (some (.ref n))=>match S[n]? with
  | some (.lam g caps)=>if g∈gs then (zk7 g.body).bind λq=>(tb.lookup q.1).bind λt=>(zi9 caps q.2).bind λds=>if ds.length=t.1 then t.2 ds S else none else none
  | _=>none
 | _=>none
theorem yfj {ρ:List Addr}{H:Hp}{cs:List (Str × Addr)}{caps:List (Str × D)}{x:Str}{d:D}(r:CellsR ρ H cs caps) (h:caps.lookup x=some d):∃c o u v,cs.lookup x=some c/\H c=some (.frz o hTr)/\o.data=.cell (some u)/\RelV v u/\RD ρ H d v:=by
 induction r with
 | nil=>cases h
 | @cons y c o u v e cs ds h1 h2 h3 h4 _ ih =>
  rw [List.lookup_cons] at h ⊢
  split at h
  ·cases h;exact ⟨c,o,u,v,rfl,h1,h2,h3,h4⟩
  ·exact ih h
theorem ztn {P:Program}{w:World}{ρ:List Addr}{H:Hp}{h:Heap}{sc:Scope}{cs:List (Str × Addr)}{caps:List (Str × D)}(hok:HOk P w H h) (r:CellsR ρ H cs caps):∀{es:List Expr}{xs:List Str}{ds:List D},zcm es=some xs->(∀x∈xs,ztm sc x)->zi9 caps xs=some ds->∃us vs,LArgs sc cs h es us/\Vals vs us/\RDs ρ H ds vs
 | [],xs,ds,e,_,q=>by
  cases e;cases q
  exact ⟨[],[],.nil,.nil,.nil⟩
 | e :: es,xs,ds,h1,hf,q=>by
  unfold zcm at h1
  split at h1
  ·rename_i heq;cases heq
  ·rename_i x p es' heq
   cases heq
   cases h2:zcm es with
   | none=>rw [h2] at h1;cases h1
   | some ys =>
    rw [h2] at h1
    cases h1
    obtain ⟨d,q1,q⟩:=bnd q
    cases q2:zi9 caps ys with
    | none=>rw [q2] at q;cases q
    | some ds' =>
     rw [q2] at q
     cases q
     obtain ⟨us,vs,a1,a2,a3⟩:=ztn hok r h2 (λx hx=>hf x (List.mem_cons_of_mem _ hx)) q2
     obtain ⟨c,o,u,v,b1,b2,b3,b4,b5⟩:=yfj r q1
     obtain ⟨f1,f2,f3⟩:=hf x List.mem_cons_self
     exact ⟨u :: us,v :: vs,.cons f1 f2 f3 b1 ⟨o,(hok c _ b2).1,b3⟩ a1,.cons b4 a2,.cons b5 a3⟩
  ·cases h1
theorem zk8 {env:Env}:∀{es:List Expr}{xs:List Str},zcm es=some xs->starEach es env=es.map λe=>(false,eval e env)
 | [],_,_=>rfl
 | e :: es,xs,h1=>by
  unfold zcm at h1
  split at h1
  ·rename_i heq;cases heq
  ·rename_i x p es' heq
   cases heq
   cases h2:zcm es with
   | none=>rw [h2] at h1;cases h1
   | some ys =>
    show (false,eval (.Name x p) env) :: starEach es env=_
    rw [zk8 h2];rfl
  ·cases h1
theorem zto {e:Expr}{es:List Expr}{xs:List Str}(h1:zcm (e :: es)=some xs):∃ys,zcm es=some ys:=by
 unfold zcm at h1
 split at h1
 ·rename_i heq;cases heq
 ·rename_i heq
  cases heq
  cases h2:zcm es with
  | none=>rw [h2] at h1;cases h1
  | some ys=>exact ⟨ys,rfl⟩
 ·cases h1
theorem yfk {env:Env}{e:Expr}{es:List Expr}{xs:List Str}(h1:zcm (e :: es)=some xs):starEach (e :: es) env=(false,eval e env) :: starEach es env:=by
 obtain ⟨ys,h2⟩:=zto h1
 rw [zk8 h1,zk8 h2];rfl
theorem yfl {env:Env}{pos:Pos}{es:List Expr}{xs:List Str}(h1:zcm es=some xs):(backTo pos (starEach es env)).any (·.1)=false:=by
 rw [zk8 h1]
 unfold backTo
 clear h1
 induction es with
 | nil=>rfl
 | cons e es ih=>rw [List.map_cons,List.map_cons,List.any_cons];exact ih
section
variable {X:Cx}{E:XK}{CA:Str->Addr}{cpos p apos py:Pos}{x y:Str}{i j:Nat}{gs:List LamG}{tb:List (Str × Nat × ZF)}
theorem yfm (i:Nat) (hxe:∀e s,X.xe e s->False) (hr:Room j X.A) (hg:∀g∈gs,LamW g) (ht:∀f t,tb.lookup f=some t->∃k,k+1<=j/\zb2 X.prog X.w X.K X.mg X.base CA f k t.1 t.2)
  (hN:X.N[i]? = some x:=by rfl) (hv:Vis X.env.scope x:=by first|exact Or.inl rfl|exact Or.inr (Or.inl rfl)|exact Or.inr (Or.inr rfl)) (hd:(x == ("__debug__":Str))=false:=by decide) (hcd:(x == ("__classdict__":Str))=false:=by decide)
  (hs:swapsWithSole [.Name y py] (.Call (.Name x p) [] [] cpos) apos.line X.env=pure false:=by rfl) (hw:swappedStores [.Name y py] (.Call (.Name x p) [] [] cpos) X.env=pure none:=by rfl) :
  TZ X E CA [.Assign [.Name y py] (.Call (.Name x p) [] [] cpos) apos] (zhu i gs tb):=by
 intro pins s σ H I h
 obtain ⟨ρ,l,S,C,S',sim,ro,hm,pz⟩:=h
 unfold zhu at hm
 split at hm
 ·rename_i n el
  split at hm
  ·rename_i g caps es
   have hgg:g∈gs:=Classical.byContradiction λh=>by rw [if_neg h] at hm;cases hm
   rw [if_pos hgg] at hm
   obtain ⟨⟨f,xs⟩,q1,hm⟩:=bnd hm
   obtain ⟨⟨nn,rx⟩,q2,hm⟩:=bnd hm
   obtain ⟨ds,q3,hm⟩:=bnd hm
   obtain ⟨hlen,hm⟩:=znl hm
   obtain ⟨v,hσ,rd⟩:=ro.get i _ el
   cases rd with
   | @ref _ a hn =>
    obtain ⟨cs,pm,c,ctv,e1,kc,cr⟩:=sim.at' n a _ hn es
    have W:=hg g hgg
    obtain ⟨fx,p0,e0,es0,cpos0,ys,b1,b2,b3,b4,b5⟩:=W.call
    have hb:=W.bind cs pm (.ref c) ctv
    rw [b1] at q1 hb e1
    unfold zk7 at q1
    dsimp only at q1
    rw [b2] at q1
    cases q1
    obtain ⟨k,hkj,f',fd,ps,F,hmf,hk,hbi⟩:=ht _ _ q2
    refine wpAny_execs_cons (wpAny_mono (Q:=λ_ _=>False) ?_ (λ_ _ z=>z.elim) λ_ _ z=>z)
    refine wpAny_Assign_stores (wpAny_mono (Q:=λ_ _=>False) ?_ (λ_ _ z=>z.elim) λ_ _ z=>z) hs hw
    refine wpAny_Call_Name_kw (wpAny_mono (zjv hN hv hd hcd pins s σ H (λv H1=>v=.ref a/\H1=H) I ⟨.ref a,hσ,rfl,rfl⟩) (λu s1 ⟨v,H1,I1,rv,e,e'⟩=>?_) λ_ _ z=>(hxe _ _ z).elim)
    subst e e'
    cases rv
    obtain ⟨us,vs,a1,a2,a3⟩:=ztn (sc:=g.scope) I1.hok cr b2 b5 q3
    refine PySem.W.callWith_F0 ⟨_,_,_,_,(I1.hok a _ e1).1⟩ (wpAny_mono (yfi F hmf hk hbi (hr.mono hkj) I1 e1 kc W.kind W.co W.gen W.no b3 b4 hb a1 a2 ⟨by rw [<-a3.length];exact hlen,ρ,ds,S,C,S',sim,a3,hm,pz⟩ (λenv=>?_) λenv=>?_) (λ_ _ z=>z.elim) λe s' cx=>⟨_,s1,I1,cx⟩)
    ·exact yfk b2
    ·obtain ⟨zs,h2⟩:=zto b2
     exact yfl h2
  ·cases hm
 ·cases hm
end
section
variable {ρ:List Addr}{H H':Hp}
mutual
theorem RD.tupm (e:∀a vs,H a=some (.tup vs)->H' a=some (.tup vs)):∀{d:D}{v:V},RD ρ H d v->RD ρ H' d v
 | _,_,.non=>.non
 | _,_,.bl b=>.bl b
 | _,_,.int i=>.int i
 | _,_,.str x=>.str x
 | _,_,.tup h r=>.tup (e _ _ h) (RDs.tupm e r)
 | _,_,.ref h=>.ref h
 | _,_,.fn a=>.fn a
theorem RDs.tupm (e:∀a vs,H a=some (.tup vs)->H' a=some (.tup vs)):∀{d:List D}{v:List V},RDs ρ H d v->RDs ρ H' d v
 | _,_,.nil=>.nil
 | _,_,.cons r q=>.cons (RD.tupm e r) (RDs.tupm e q)
end
end
noncomputable def kill:Ob->Ob
 | .lam _ _=>.dead
 | o=>o
noncomputable def zc3 (cs:List Addr) (h:Heap) (H:Hp):Hp:=λb=>if b∈cs then (h.get? b).map (.frz · hTr) else H b
noncomputable def zec (cs:List Addr) (H:Hp):Hp:=λb=>if b∈cs then none else H b
theorem zep {cs:List Addr}{h:Heap}{H:Hp}{b:Addr}(n:b ∉ cs):zc3 cs h H b=H b:=if_neg n
theorem zgw {cs:List Addr}{H:Hp}{b:Addr}(n:b ∉ cs):zec cs H b=H b:=if_neg n
section
variable {K:QFg}{ρ:List Addr}{H H':Hp}{S:Sto}
theorem ObR.grow {o:Ob}{a:Addr}(up:∀b u,H b=some u->H' b=some u) (h:ObR K ρ H o a):ObR K ρ H' o a:=by
 have e:Ext0 ρ H ρ H':=⟨λ_ _ h=>h,λa vs h=>up _ _ h,λa o u h=>up _ _ h⟩
 cases o with
 | lst xs=>obtain ⟨vs,e1,r⟩:=h;exact ⟨vs,up _ _ e1,r.mono0 e⟩
 | flst xs =>
  obtain ⟨vs,e1,r⟩:=h
  refine ⟨vs,?_,r.mono0 e⟩
  rcases e1 with ⟨o,e1⟩|e1
  ·exact .inl ⟨o,up _ _ e1⟩
  ·exact .inr e1
 | iset f n=>exact up _ _ h
 | dct kvs=>obtain ⟨vs,e1,r⟩:=h;exact ⟨vs,up _ _ e1,r.mono0 e⟩
 | tdct kvs=>obtain ⟨vs,e1,r⟩:=h;exact ⟨vs,up _ _ e1,r.mono0 e⟩
 | fdct kvs=>obtain ⟨o,vs,e1,r⟩:=h;exact ⟨o,vs,up _ _ e1,r.mono0 e⟩
 | ftdct kvs=>obtain ⟨o,vs,e1,r⟩:=h;exact ⟨o,vs,up _ _ e1,r.mono0 e⟩
 | tset ks=>obtain ⟨xs,e0,e1,r⟩:=h;exact ⟨xs,e0,up _ _ e1,λp hq=>up _ _ (r p hq)⟩
 | fnc x=>exact h
 | exc c=>obtain ⟨C,hc,e1⟩:=h;exact ⟨C,hc,up _ _ e1⟩
 | tab x=>obtain ⟨c,ps,h1,h2,e1,t⟩:=h;exact ⟨c,ps,h1,h2,up _ _ e1,t.mono e.frz⟩
 | lam g caps=>obtain ⟨cs,pm,c,ctv,e1,k,r⟩:=h;exact ⟨cs,pm,c,ctv,up _ _ e1,k.mono e.frz,r.mono e⟩
 | dead=>obtain ⟨o,fd,e1,d⟩:=h;exact ⟨o,fd,up _ _ e1,d⟩
theorem Sim.grow (up:∀b u,H b=some u->H' b=some u) (s:Sim K ρ S H):Sim K ρ S H':=⟨s.len,s.nd,λn a o h1 h2=>(s.at' n a o h1 h2).grow up⟩
theorem ObR.kill {cs:List Addr}{o:Ob}{a:Addr}(hc:∀b∈cs,∃o v,H b=some (.frz o hTr)/\o.data=.cell v) (h:ObR K ρ H o a):ObR K ρ (zec cs H) (kill o) a:=by
 have off:∀b u,H b=some u->(∀o,u=.frz o hTr->∀v,o.data≠.cell v)->zec cs H b=some u:=λb u e n=>by
  rw [zgw];exact e
  intro z
  obtain ⟨o,v,e1,d⟩:=hc b z
  rw [e1] at e;cases e
  exact n o rfl v d
 have tp:∀b vs,H b=some (.tup vs)->zec cs H b=some (.tup vs):=λb vs e=>off b _ e λo z=>(by cases z)
 have cf:∀q c,CodeF H q c->CodeF (zec cs H) q c:=λq c ⟨oc,vs,t,h1,h2,h3⟩=>⟨oc,vs,t,off _ _ h1 λo z v y=>(by cases z;rw [h2] at y;cases y),h2,h3⟩
 cases o with
 | lst xs=>obtain ⟨vs,e1,r⟩:=h;exact ⟨vs,off _ _ e1 λo z=>(by cases z),r.tupm tp⟩
 | flst xs =>
  obtain ⟨vs,e1,r⟩:=h
  refine ⟨vs,?_,r.tupm tp⟩
  rcases e1 with ⟨o,e1⟩|e1
  ·exact .inl ⟨o,off _ _ e1 λo z=>(by cases z)⟩
  ·exact .inr e1
 | iset f n=>exact off _ _ h λo z=>(by cases z)
 | dct kvs=>obtain ⟨vs,e1,r⟩:=h;exact ⟨vs,off _ _ e1 λo z=>(by cases z),r.tupm tp⟩
 | tdct kvs=>obtain ⟨vs,e1,r⟩:=h;exact ⟨vs,off _ _ e1 λo z=>(by cases z),r.tupm tp⟩
 | fdct kvs=>obtain ⟨o,vs,e1,r⟩:=h;exact ⟨o,vs,off _ _ e1 λo z=>(by cases z),r.tupm tp⟩
 | ftdct kvs=>obtain ⟨o,vs,e1,r⟩:=h;exact ⟨o,vs,off _ _ e1 λo z=>(by cases z),r.tupm tp⟩
 | tset ks=>obtain ⟨xs,e0,e1,r⟩:=h;exact ⟨xs,e0,off _ _ e1 λo z=>(by cases z),λp hq=>tp _ _ (r p hq)⟩
 | fnc x=>exact h
 | exc c=>obtain ⟨C,hc',e1⟩:=h;exact ⟨C,hc',off _ _ e1 λo z=>(by cases z)⟩
 | tab x=>obtain ⟨c,ps,h1,h2,e1,t1,t2⟩:=h;exact ⟨c,ps,h1,h2,off _ _ e1 λo z=>(by cases z),t1,λpos cv z=>let ⟨c,y,k⟩:=t2 pos cv z;⟨c,y,cf _ _ k⟩⟩
 | lam g caps=>obtain ⟨cs,pm,c,ctv,e1,k,r⟩:=h;exact ⟨_,_,off _ _ e1 λo z v y=>(by cases z;cases y),rfl⟩
 | dead=>obtain ⟨o,fd,e1,d⟩:=h;exact ⟨o,fd,off _ _ e1 λo z v y=>(by cases z;rw [d] at y;cases y),d⟩
theorem ztp {o:Ob}(h:(kill o).mut=true):o.mut=true:=by cases o <;> first|exact h|cases h
theorem Sim.kill {cs:List Addr}(hc:∀b∈cs,∃o v,H b=some (.frz o hTr)/\o.data=.cell v) (s:Sim K ρ S H):Sim K ρ (S.map kill) (zec cs H):=by
 have inv:∀{i:Nat} {o:Ob},(S.map L3.kill)[i]? = some o->∃o',S[i]? = some o'/\L3.kill o' = o:=λ{i o} h=>by
  rw [qgm] at h
  cases e:S[i]? with
  | none=>rw [e] at h;cases h
  | some o'=>rw [e] at h;cases h;exact ⟨o',rfl,rfl⟩
 refine ⟨by rw [qlm];exact s.len,λi j a o1 o2 h1 h2 h3 h4 m1 m2=>?_,λn a o h1 h2=>?_⟩
 ·obtain ⟨q1,e1,rfl⟩:=inv h3
  obtain ⟨q2,e2,rfl⟩:=inv h4
  exact s.nd i j a q1 q2 h1 h2 e1 e2 (ztp m1) (ztp m2)
 ·obtain ⟨q1,e1,rfl⟩:=inv h2
  exact (s.at' n a q1 h1 e1).kill hc
end
inductive Caps (X:Cx):List (Str × Addr)->List (Str × Nat)->Prop where
 | nil:Caps X [] []
 | cons {x:Str} {c:Addr} {i:Nat} {cs:List (Str × Addr)} {xs:List (Str × Nat)}:X.N[i]? = some x->X.env.scope.names.lookup x=some .cell->X.env.cells.lookup x=some c->Caps X cs xs->Caps X ((x,c) :: cs) ((x,i) :: xs)
noncomputable def zfb (l:Lo):List (Str × Nat)->Option (List (Str × D))
 | []=>some []
 | (x,i) :: r=>match l[i]? with
  | some (some d)=>(zfb l r).map ((x,d) :: ·)
  | _=>none
noncomputable def zhv (t:Nat) (y:Str) (g:LamG) (xs:List (Str × Nat)) (m:FM):EM:=λl S=>match S[t]? with
 | some (.tab y')=>if y' = y then (zfb l xs).bind λcaps=>(m [.ref S.length] (S++[.lam g caps])).map λq=>(q.1,q.2.map kill) else none
 | _=>none
section
variable {X:Cx}{pins:List (Addr × Obj)}{σ:L2.St}{H H2 H4:Hp}{s:Shared}{ρ ρ4:List Addr}{l:Lo}
theorem yfn {cs:List (Str × Addr)}{xs:List (Str × Nat)}(c:Caps X cs xs):∀b∈cs.map (·.2),∃x,X.env.cells.lookup x=some b:=by
 induction c with
 | nil=>intro b hb;cases hb
 | cons h1 h2 h3 _ ih =>
  intro b hb
  rcases List.mem_cons.mp hb with z|z
  ·exact ⟨_,by rw [z];exact h3⟩
  ·exact ih b z
theorem yfo {cs:List (Str × Addr)}{xs:List (Str × Nat)}(c:Caps X cs xs) (I:Inv X pins σ H2 s) (ro:RO ρ H l σ) (e:Ext0 ρ H ρ4 H4) (hf:∀b∈cs.map (·.2),∀o,s.heap.get? b=some o->H4 b=some (.frz o hTr)):∀{caps:List (Str × D)},zfb l xs=some caps->CellsR ρ4 H4 cs caps:=by
 induction c with
 | nil=>intro caps h;cases h;exact .nil
 | @cons x c i cs xs h1 h2 h3 _ ih =>
  intro caps h
  unfold zfb at h
  split at h
  ·rename_i d el
   cases q:zfb l xs with
   | none=>rw [q] at h;cases h
   | some cp =>
    rw [q] at h
    cases h
    obtain ⟨v,hσ,rd⟩:=ro.get i _ el
    obtain ⟨m,hn,hl⟩:=I.loc
    obtain ⟨u,ru,lk⟩:=hl i x v h1 hσ (.inr (.inl h2))
    have hcell:s.heap.IsCell c (some u):=by
     rcases lk with ⟨z,_⟩|⟨_,c2,z,q2⟩
     ·have z':X.env.scope.names.lookup x=some .local:=z
      rw [h2] at z';cases z'
     ·rw [h3] at z;cases z;exact q2
    obtain ⟨o,ho,hd⟩:=hcell
    exact .cons (hf c List.mem_cons_self o ho) hd ru (rd.mono0 e) (ih (λb hb=>hf b (List.mem_cons_of_mem _ hb)) q)
  ·cases h
theorem Inv.adopted {a:Addr}{o:Obj}(I:Inv X pins σ H s) (ha:H a=none) (ho:s.heap.get? a=some o) (hz:X.s₀.heap.objs.size<=a) (hL:a≠X.env.locals) (hC:∀x c,X.env.cells.lookup x=some c->c≠a) (hp:∀p∈X.pn++pins,p.1≠a):Inv X pins σ (upd H a (.frz o hTr)) s:=by
 have up:∀b u,H b=some u->upd H a (.frz o hTr) b=some u:=λb u e=>by rw [zan (zbc e ha)];exact e
 have ne:∀b o',X.s₀.heap.get? b=some o'->b≠a:=λb o' e z=>by
  rw [z] at e;exact absurd (Nat.lt_of_lt_of_le (Heap.lt_size e) hz) (Nat.lt_irrefl _)
 refine ⟨I.ok,I.os,I.bare,⟨I.base.keep,I.base.slot,λb o' e n hx=>?_,I.base.there,λb xs e=>up _ _ (I.base.tups b xs e),λb o' u e=>up _ _ (I.base.frzs b o' u e),λb ps e=>?_⟩,I.loc,I.cell,?_,λx c e=>?_,λp hp'=>?_,λb u e=>?_,I.len⟩
 ·rw [zan (ne b o' e)];exact I.base.free b o' e n hx
 ·obtain ⟨more,q⟩:=I.base.tbls b ps e
  exact ⟨more,up _ _ q⟩
 ·rw [zan (Ne.symm hL)];exact I.free
 ·rw [zan (hC x c e)];exact I.freeC x c e
 ·obtain ⟨h1,h2,h3⟩:=I.pin p hp'
  exact ⟨h1,by rw [zan (hp p hp')];exact h2,h3⟩
 ·by_cases hb:b=a
  ·subst hb
   rw [zbf] at e;cases e
   exact ⟨ho,trivial,⟨_,ho⟩,λ_ _ _ _=>trivial⟩
  ·rw [zan hb] at e
   exact (I.hok b u e).stay (λc v _ q=>q) (λ_ q=>up _ _ q) λ_ _ q=>up _ _ q
end
noncomputable def zfs (y f:Str) (pf pc:Pos) (xs:List (Str × Pos)) (ns:List (Str × NameKind)):LamG :=
 ⟨zdf y,{ posonlyargs:=[],args:=[],vararg:=none,kwonlyargs:=[],kw_defaults:=[],kwarg:=none,defaults:=[] },.Call (.Name f pf) (xs.map λq=>.Name q.1 q.2) [] pc,{ kind:=.function,names:=ns,isGenerator:=false,isCoroutine:=false,more:=[] }⟩
theorem zn7:∀xs:List (Str × Pos),zcm (xs.map λq=>Expr.Name q.1 q.2)=some (xs.map (·.1))
 | []=>rfl
 | x :: xs=>by
  show (zcm (xs.map λq=>Expr.Name q.1 q.2)).map (x.1 :: ·)=_
  rw [zn7 xs];rfl
theorem yfp {y f:Str}{pf pc:Pos}{xs:List (Str × Pos)}{ns:List (Str × NameKind)}:zk7 (zfs y f pf pc xs ns).body=some (f,xs.map (·.1)):=by
 show (zcm (xs.map λq=>Expr.Name q.1 q.2)).map (f,·)=_
 rw [zn7];rfl
theorem ztq {y f:Str}{pf pc p:Pos}{x:Str}{xs:List (Str × Pos)}{ns:List (Str × NameKind)}(h1:∀z∈ns,z.2≠.cell) (h2:ns.lookup f=some .globalImplicit) (h3:(f == ("__debug__":Str))=false)
  (h4:∀z∈(x :: xs.map (·.1)),ns.lookup z=some .free/\(z == ("__debug__":Str))=false/\(z == ("__classdict__":Str))=false):LamW (zfs y f pf pc ((x,p) :: xs) ns) :=
 ⟨rfl,rfl,rfl,h1,⟨f,pf,.Name x p,_,pc,_,rfl,zn7 ((x,p) :: xs),h2,h3,h4⟩,λ_ _ _ _=>rfl⟩
section
variable {X:Cx}
theorem ztr {j k:Nat}{c P:Addr}{h y:Str}{params:Arguments}{body:Expr}{scope:Scope}{lp p pos:Pos}{cs:List (Str × Addr)}{xs:List (Str × Nat)}{m:FM}(t:Nat) (hT:PySem.W.tabIn X.K y=some (c,P)) (F:Has X.prog X.w X.K X.mg X.base h k 1 m) (hr:Room j X.A) (hkj:k<=j) (hfn:∀x,X.fn x=true)
  (hcs:Caps X cs xs) (hcl:closureFor scope X.env=pure cs) (hcode:X.env.code=.ref c) (hq:X.env.qual++"<lambda>" = zdf y) (hdef:defaultsOf params X.env=([],[])) (hg:Gl X h:=by rfl) (hdb:(h == ("__debug__":Str))=false:=by decide)
  (he:starEach [.Lambda params body scope lp] X.env=(false,eval (.Lambda params body scope lp) X.env) :: starEach [] X.env:=by rfl) (hpl:(backTo pos (starEach [] X.env)).any (·.1)=false:=by rfl) :
  PE3 X (.Call (.Name h p) [.Lambda params body scope lp] [] pos) (zhv t y ⟨zdf y,params,body,scope⟩ xs m):=by
 intro pins s σ H Q I hx
 obtain ⟨ρ,l,S,v,S',sim,ro,hm,pz⟩:=hx
 unfold zhv at hm
 split at hm
 ·rename_i y' es
  obtain ⟨rfl,hm⟩:=znl hm
  obtain ⟨caps,hcap,hm⟩:=bnd hm
  cases hmm:m [.ref S.length] (S++[.lam ⟨zdf y',params,body,scope⟩ caps]) with
  | none=>rw [hmm] at hm;cases hm
  | some q =>
   obtain ⟨v1,S1⟩:=q
   rw [hmm] at hm
   cases hm
   have hl:t<ρ.length:=by rw [sim.len];exact (qme es).1
   have hn:=qge hl
   obtain ⟨c0,ps,t1,t2,hP,tok⟩:=sim.at' t _ _ hn es
   rw [hT] at t1
   obtain ⟨rfl,rfl⟩:c=c0/\P=ρ[t]:=by cases t1;exact ⟨rfl,rfl⟩
   obtain ⟨f,fd,ps',F,hmf,hk,hb⟩:=F
   refine wpAny_Call_Name_kw (zh4 I hg hmf ?_ hdb)
   refine PySem.W.callWith_K (h₀:=X.base) I.ok.mod.kin hk ?_ he hpl
   rw [he]
   show wpAny _ _ (spliced ((false,eval (.Lambda params body scope lp) X.env) :: backTo pos (starEach [] X.env))) _ _ s
   refine Calls.spliced_cons (ye9 I hcode t2 hP tok hq hdef hcl λfa c' pm ctv H2 s2 md I2 ho hf hsz=>Calls.spliced_nil ⟨I2.kIn,?_⟩)
   have sim2:Sim X.K ρ S H2:=sim.made hn es md
   have e2:Ext ρ H ρ H2:=yfa hn ⟨ps,hP⟩ md
   have lk:=yfn hcs
   have c0:∀b∈cs.map (·.2),H2 b=none:=λb hb=>let ⟨x,e⟩:=lk b hb;I2.freeC x b e
   have cO:∀b∈cs.map (·.2),∃o v,s2.heap.get? b=some o/\o.data=.cell v:=λb hb=>by
    obtain ⟨x,e⟩:=lk b hb
    obtain ⟨v,o,e1,d⟩:=I2.cell x b e
    exact ⟨o,v,e1,d⟩
   have cz:∀b∈cs.map (·.2),X.s₀.heap.objs.size<=b:=λb hb=>let ⟨x,e⟩:=lk b hb;I.ok.cab x b (hfn x) e
   have fne:fa ∉ cs.map (·.2):=λz=>by
    obtain ⟨o,v,e,d⟩:=cO fa z
    rw [ho] at e;cases e;cases d
   have fL:fa≠X.env.locals:=Nat.ne_of_gt (Nat.lt_of_lt_of_le I.lt hsz)
   have I3:Inv X pins σ (upd H2 fa (.frz (PySem.W.kla_obj "<lambda>" (zdf y') params body scope cs pm c' ctv) hTr)) s2 :=
    Inv.adopted I2 hf ho (Nat.le_trans I.sz hsz) fL (λx c e z=>by
     obtain ⟨v,o,q,_⟩:=I.cell x c e
     rw [z] at q;exact absurd (Nat.lt_of_lt_of_le (Heap.lt_size q) hsz) (Nat.lt_irrefl _)) λp hp z=>by
     have q:=(I.pin p hp).1
     rw [z] at q;exact absurd (Nat.lt_of_lt_of_le (Heap.lt_size q) hsz) (Nat.lt_irrefl _)
   generalize hH3:upd H2 fa (.frz (PySem.W.kla_obj "<lambda>" (zdf y') params body scope cs pm c' ctv) hTr)=H3 at I3
   have h3f:H3 fa=some (.frz (PySem.W.kla_obj "<lambda>" (zdf y') params body scope cs pm c' ctv) hTr):=by rw [<-hH3];exact zbf
   have up3:∀b u,H2 b=some u->H3 b=some u:=λb u e=>by rw [<-hH3,zan (zbc e hf)];exact e
   have c3:∀b∈cs.map (·.2),H3 b=none:=λb hb=>let ⟨x,e⟩:=lk b hb;I3.freeC x b e
   have c4:∀b∈cs.map (·.2),∀o,s2.heap.get? b=some o->zc3 (cs.map (·.2)) s2.heap H3 b=some (.frz o hTr):=λb hb o e=>by
    unfold zc3;rw [if_pos hb,e];rfl
   have up4:∀b u,H3 b=some u->zc3 (cs.map (·.2)) s2.heap H3 b=some u:=λb u e=>by
    rw [zep];exact e
    intro z;rw [c3 b z] at e;cases e
   have e4:Ext0 ρ H (ρ++[fa]) (zc3 (cs.map (·.2)) s2.heap H3):=⟨λn a z=>by rw [List.getElem?_append_left (qme z).1];exact z,λa vs z=>up4 _ _ (up3 _ _ (e2.tup _ _ z)),λa o u z=>up4 _ _ (up3 _ _ (e2.frz _ _ _ z))⟩
   have cr:CellsR (ρ++[fa]) (zc3 (cs.map (·.2)) s2.heap H3) cs caps:=yfo hcs I2 ro e4 c4 hcap
   have sim4:Sim X.K (ρ++[fa]) (S++[.lam ⟨zdf y',params,body,scope⟩ caps]) (zc3 (cs.map (·.2)) s2.heap H3):=by
    have a:=(sim2.grow (H':=zc3 (cs.map (·.2)) s2.heap H2) λb u e=>by
     rw [zep];exact e
     intro z;rw [c0 b z] at e;cases e).pushG (a:=fa) (o1:=.lam ⟨zdf y',params,body,scope⟩ caps) (u:=.frz (PySem.W.kla_obj "<lambda>" (zdf y') params body scope cs pm c' ctv) hTr) (by rw [zep fne];exact hf)
    have eH:upd (zc3 (cs.map (·.2)) s2.heap H2) fa (.frz (PySem.W.kla_obj "<lambda>" (zdf y') params body scope cs pm c' ctv) hTr)=zc3 (cs.map (·.2)) s2.heap H3:=by
     funext b
     by_cases hb:b=fa
     ·rw [hb,zbf,zep fne,h3f]
     ·rw [zan hb]
      unfold zc3
      rw [<-hH3,zan hb]
    rw [eH] at a
    obtain ⟨oc,vs,tt,k1,k2,k3⟩:=md.1
    exact a ⟨cs,pm,c',ctv,up4 _ _ h3f,⟨oc,vs,tt,up4 _ _ (up3 _ _ k1),k2,k3⟩,cr⟩
   have stN:∀b∈frs X.stack,b ∉ cs.map (·.2):=λb hb z=>by
    rcases List.mem_cons.mp (I2.stkSub b hb) with e|hb
    ·obtain ⟨x,q⟩:=lk b z
     exact I2.cne x b q e
    ·obtain ⟨_,o,q,_⟩:=I2.ok.funs.mem hb
     exact absurd (Nat.lt_of_lt_of_le (Heap.lt_size q) (cz b z)) (Nat.lt_irrefl _)
   have env:Env0 X.prog X.w X.K X.mg X.base X.A X.stack s2 (zc3 (cs.map (·.2)) s2.heap H3):=by
    have E3:=I3.env0
    refine ⟨E3.frames,E3.mod,λb o e=>⟨(E3.bs b o e).1,?_⟩,E3.bsz,E3.funs,λb hb=>by rw [zep (stN b hb)];exact E3.frf b hb,λb u e=>?_,E3.bare⟩
    ·rw [zep];exact (E3.bs b o e).2
     intro z
     exact absurd (Nat.lt_of_lt_of_le (Heap.lt_size e) (Nat.le_trans I.ok.bsz (cz b z))) (Nat.lt_irrefl _)
    ·by_cases hb:b∈cs.map (·.2)
     ·obtain ⟨o,v,q,d⟩:=cO b hb
      rw [c4 b hb o q] at e;cases e
      exact ⟨q,trivial,⟨_,q⟩,λ_ _ _ _=>trivial⟩
     ·rw [zep hb] at e
      exact (I3.hok b u e).stay (λ_ _ _ q=>q) (λ_ q=>up4 _ _ q) λ_ _ q=>up4 _ _ q
   have hlen:([Value.ref fa]++[]).length=ps'.length:=(F.len [.ref fa] (zc3 (cs.map (·.2)) s2.heap H3) (λ_ _=>True) (λ_ _ _=>True) ⟨rfl,ρ++[fa],[.ref S.length],_,v1,S1,sim4,.cons (.ref (by rw [<-sim.len];exact za5 ρ fa)) .nil,hmm,λ_ _ _ _ _ _=>trivial⟩)
   refine wpAny_call (codeAny_mono (F.run X.A X.stack s2 (zc3 (cs.map (·.2)) s2.heap H3) ⟨[.ref fa],[]⟩ ([.ref fa]++[]) [.ref fa] (λv' H'=>∃ρ',Ext (ρ++[fa]) (zc3 (cs.map (·.2)) s2.heap H3) ρ' H'/\Sim X.K ρ' S1 H'/\RD ρ' H' v1 v') (λ_ _ _=>True) (hr.mono hkj) env (hb s2 [.ref fa] I2.kIn hlen) (show Vals [V.ref fa] [Value.ref fa] from .cons rfl .nil)
    ⟨rfl,ρ++[fa],[.ref S.length],_,v1,S1,sim4,.cons (.ref (by rw [<-sim.len];exact za5 ρ fa)) .nil,hmm,λρ' H' v' a b d=>⟨ρ',a,b,d⟩⟩) λr s' hq=>?_)
   cases r with
   | error e=>exact False.elim hq
   | ok fl =>
    cases fl with
    | next=>exact False.elim hq
    | brk=>exact False.elim hq
    | cont=>exact False.elim hq
    | ret u =>
     obtain ⟨v',H',os,bare,un,hok',rv,ρ',ex,sim',rd⟩:=hq
     have cF:∀b∈cs.map (·.2),∃o v,H' b=some (.frz o hTr)/\o.data=.cell v/\s2.heap.get? b=some o:=λb hb=>by
      obtain ⟨o,v,q,d⟩:=cO b hb
      exact ⟨o,v,un.frzs b o hTr (c4 b hb o q),d,q⟩
     have off:∀b u,H' b=some u->(∀o,u≠.frz o hTr)->zec (cs.map (·.2)) H' b=some u:=λb u e n=>by
      rw [zgw];exact e
      intro z
      obtain ⟨o,v,e1,_⟩:=cF b z
      rw [e1] at e;cases e
      exact n o rfl
     have tp:∀b vs,H' b=some (.tup vs)->zec (cs.map (·.2)) H' b=some (.tup vs):=λb vs e=>off b _ e λo z=>(by cases z)
     have n3:∀b u,H3 b=some u->b ∉ cs.map (·.2):=λb u e z=>by rw [c3 b z] at e;cases e
     have I5:Inv X pins σ (zec (cs.map (·.2)) H') s':=I3.call' (ch:=[]) os
      ⟨λb o q n hb hx=>?_,λb o q n hb hx=>?_,λb o q n hx=>?_,λb o q hx=>un.there b o q hx,λb xs e=>tp b xs (un.tups b xs (up4 _ _ e)),λb o u e=>by rw [zgw (n3 b _ e)];exact un.frzs b o u (up4 _ _ e),λb ps e=>?_⟩ (λb u e=>?_) bare λb z=>absurd z (by simp)
     ·have up:∀b u,H b=some u->b ∉ cs.map (·.2):=λb u e z=>by
       obtain ⟨x,q⟩:=lk b z
       rw [I.freeC x b q] at e;cases e
      refine ⟨v',_,I5,rv,pz ρ' _ v' ⟨⟨λn a z=>ex.pre n a (e4.pre n a z),λa vs z=>tp _ _ (ex.tup _ _ (e4.tup _ _ z)),λa o u z=>?_⟩,λa vs z nn=>?_⟩ (sim'.kill λb hb=>let ⟨o,v,e,d,_⟩:=cF b hb;⟨o,v,e,d⟩) (rd.tupm tp)⟩
      ·rw [zgw (up a _ z)];exact ex.frz _ _ _ (e4.frz _ _ _ z)
      ·obtain ⟨z2,n2⟩:=e2.out a vs z nn
       obtain ⟨z5,n5⟩:=ex.out a vs (up4 _ _ (up3 _ _ z2)) λn q=>by
        rcases zb3 q with q|⟨_,q⟩
        ·exact n2 n q
        ·rw [q,hf] at z2;cases z2
       exact ⟨by rw [zgw (up a _ z)];exact z5,n5⟩
     ·by_cases hc:b∈cs.map (·.2)
      ·obtain ⟨o',v,e1,_,e2⟩:=cF b hc
       rw [q] at e2;cases e2
       exact (hok' b _ e1).1
      ·exact un.keep b o q (by rw [zep hc];exact n) hb hx
     ·by_cases hc:b∈cs.map (·.2)
      ·exact absurd hc (stN b hb)
      ·exact un.slot b o q (by rw [zep hc];exact n) hb hx
     ·by_cases hc:b∈cs.map (·.2)
      ·unfold zec;rw [if_pos hc]
      ·rw [zgw hc];exact un.free b o q (by rw [zep hc];exact n) hx
     ·obtain ⟨more,z⟩:=un.tbls b ps (up4 _ _ e)
      exact ⟨more,off _ _ z λo y=>(by cases y)⟩
     ·by_cases hc:b∈cs.map (·.2)
      ·unfold zec at e;rw [if_pos hc] at e;cases e
      ·rw [zgw hc] at e
       exact (hok' b u e).stay (λ_ _ _ q=>q) (λ_ q=>off _ _ q λo y=>(by cases y)) λ_ _ q=>tp _ _ q
 ·cases hm
end
section
variable {X:Cx}{E:XK}{CA:Str->Addr}{a b:Expr}{es:List Expr}{pos p:Pos}{x:Str}{k j n:Nat}{m:FM}{ma:EM}{r:QFg->Nat}{z:ZM}
theorem yfq {z:ZM}(F:Has X.prog X.w X.K X.mg X.base x k n m) (hr:Room j X.A) (hkj:k<=j) (hg:Gl X x) (ha:PAz X E CA (a :: es) z) (hdb:(x == ("__debug__":Str))=false:=by decide) (he:starEach (a :: es) X.env=(false,eval a X.env) :: starEach es X.env:=by rfl) (hpl:(backTo pos (starEach es X.env)).any (·.1)=false:=by rfl) :
  PEz X E CA (.Call (.Name x p) (a :: es) [] pos) z:=by
 obtain ⟨f,fd,ps,F,hm,hk,hb⟩:=F
 exact λpins s σ H Q I q=>zmd F (hr.mono hkj) hg hm hk hb .nil zqn ha hdb he hpl pins s σ H Q I q
theorem yfr {z:ZM}(ha:PE3 X a ma) (hb:PEz X E CA b z):PEz X E CA (.BinOp a .LShift b pos) (zgk ma z):=λpins s σ H Q I ⟨ρ,l,S,C,S',sim,ro,hm,p⟩=>zpj zpk ha hb pins s σ H Q I (by
 obtain ⟨⟨x,S1⟩,q1,hm⟩:=bnd hm
 exact ⟨ρ,l,S,x,S1,sim,ro,q1,λρ1 H1 x' e1 s1 r1=>⟨ρ1,l,S1,C,S',s1,ro.mono e1,hm,λρ2 H2 e2 s2=>p ρ2 H2 (e1.trans e2) s2⟩⟩)
theorem zts {z:ZM}{mb:EM}(ha:PEz X E CA a z) (hb:PE3 X b mb) (hs:zmg b:=by intro _ _;rfl):PEz X E CA (.Subscript a b pos) z:=λpins s σ H Q I q=>zp7 zqa ha hb hs pins s σ H Q I q
end
def ztt:V->List V->Hp->VK->Prop:=λy vs H Q=>∃(a:Addr) (ns:List Int) (x:Int),y=.ref a/\vs=[.int x]/\H a=some (.tup (ns.map V.int))/\Q (.int (ns.count x)) H
noncomputable def zhw:D->List D->Sto->Option (D × Sto)
 | .tup xs,[.int x],S=>(zde xs).bind λns=>some (.int (ns.count x),S)
 | _,_,_=>none
noncomputable def eqN (x:Int):Value->Bool
 | .int y _=>y == x
 | _=>false
theorem ztu {x:Int}:∀{ns:List Int}{its:List Value},Vals (ns.map V.int) its->its.countP (eqN x)=ns.count x
 | [],its,r=>by cases r;rfl
 | n :: ns,its,r=>by
  cases r with
  | cons p q =>
   obtain ⟨t,rfl⟩:=p
   rw [List.countP_cons,List.count_cons,ztu q];rfl
section
variable {X:Cx}
theorem yfs:MtM X "tuple.count" ztt:=by
 intro pins s σ H y vs v us Q I ry rv h
 obtain ⟨a,ns,x,rfl,rfl,hH,q⟩:=h
 cases ry
 obtain ⟨u,rfl,ru⟩:=rv.one
 obtain ⟨t,rfl⟩:=ru
 obtain ⟨its,r,o,e,c,n,d,hd⟩:=zk5 I hH
 obtain ⟨o1,o2,o3,o4⟩:=o
 dsimp only at c d hd
 subst c d hd
 refine call_meets F.slot_tuple_count ⟨_,e,rfl⟩ F.entry_tuple_count (F.args_tuple_count_2 _ _) (SeqAt.tuple_countAt a its.toArray n none o4 (.int x t) (eqN x)) ⟨e,λw hw=>?_,⟨.int (ns.count x),H,I.tok _,⟨_,by rw [<-ztu (x:=x) r]⟩,q⟩⟩
 obtain ⟨i,hi⟩:=List.getElem?_of_mem (show w∈its by simpa using hw)
 have hil:=(qme hi).1
 rw [<-r.length,qlm] at hil
 obtain ⟨t2,e2⟩:=zn5 r (qge hil)
 rw [hi] at e2
 cases e2
 exact SeqAt.EqAt.int_int _ _ _ _
theorem yft {K:QFg}:Mt3 K zhw ztt:=by
 intro ρ S H x x' xs vs v S' Q sim rx r h p
 unfold zhw at h
 split at h
 ·obtain ⟨ns,h1,h⟩:=bnd h
  cases h
  obtain ⟨w,rfl,rw'⟩:=r.one
  cases rw'
  cases rx with
  | tup ha rr =>
   have:=zkv h1 rr
   subst this
   exact ⟨_,ns,_,rfl,rfl,ha,p ρ H _ (Ext.refl ..) sim (.int _)⟩
 ·cases h
variable {o e:Expr}{mo m:EM}{apos cpos:Pos}
theorem yfu (ho:PE3 X o mo) (he:PE3 X e m)
  (hbase:attributeBase o "count" X.env (eval o X.env)=eval o X.env:=by rfl)
  (hfew:((backTo cpos (starEach [e] X.env)).all (λx=>!x.1) && (backToKw cpos (keywordEach [] X.env)).all (λx=>x.1.isSome)
   && decide ([e].length+([]:List Keyword).length+(if ([]:List Keyword).isEmpty then 0 else 1)<30))=true:=by rfl)
  (hline:(apos.endLine == cpos.line)=true:=by rfl) (hs:starEach [e] X.env=(false,eval e X.env) :: starEach [] X.env:=by rfl) :
  PE3 X (.Call (.Attribute o "count" apos) [e] [] cpos) (zgr zhw mo (zab m zae)) :=
 PE.imp (zsp zs8 PySem.F.plainAttrs_tuple PySem.F.slot_tuple_count PySem.F.type_tuple_count yfs ho (zad he zag hs) hbase hfew hline hs rfl) λσ H Q hx2_=>by
  obtain ⟨ρ,l,S,v,S',sim,ro,hq,p⟩:=hx2_
  obtain ⟨⟨x,S1⟩,h1,hq⟩:=bnd hq
  obtain ⟨_,h2,hq⟩:=bnd hq
  obtain ⟨⟨ys,S2⟩,h4,hq⟩:=bnd hq
  refine ⟨ρ,l,S,x,S1,sim,ro,h1,λρ1 H1 x' e1 s1 r1=>⟨?_,ρ1,l,S1,ys,S2,s1,ro.mono e1,h4,λρ2 H2 vs e2 s2 r2=>yft ρ2 S2 H2 x x' ys vs v S' Q s2 (r1.mono e2) r2 hq (p.ext (e1.trans e2))⟩⟩
  cases r1 with
  | @tup xs a us ha rr=>exact ⟨a,us,rfl,ha⟩
  | _=>cases h2
end
def ztv (K:QFg):V->List V->Hp->VK->Prop:=λy vs H Q=>∃x ρ S dx xs p qs a us,vs=[x]/\Sim K ρ S H/\RD ρ H dx x/\y=.ref a/\H a=some (.lst us)/\RDs ρ H xs us/\zaw S 60 dx=some p/\pyAll S 60 xs=some qs/\p.canLay0=true/\PyData.canLayAll0 qs=true/\Q (.int ((qs.map λq=>q.eqv p).count true)) H
noncomputable def zgx:D->List D->Sto->Option (D × Sto)
 | .ref n,[x],S=>match S[n]? with
  | some (.lst xs)=>(zaw S 60 x).bind λp=>(pyAll S 60 xs).bind λqs=>if p.canLay0=true/\PyData.canLayAll0 qs=true then some (.int ((qs.map λq=>q.eqv p).count true),S) else none
  | _=>none
 | _,_,_=>none
theorem ztw {α:Type}{f:α->Bool}:∀l:List α,l.countP f=(l.map f).count true
 | []=>rfl
 | x :: l=>by rw [List.countP_cons,List.map_cons,List.count_cons,ztw l];simp
section
variable {X:Cx}{k:Nat}
theorem yfv (hr:Room k X.A):MtM X "list.count" (ztv X.K):=by
 intro pins s σ H y vs v us' Q I ry rv' h
 obtain ⟨x,ρ,S,dx,xs,p,qs,a,us,rfl,sim,r1,rfl,hH,r2,h1,h2,c1,c2,hq⟩:=h
 cases ry
 obtain ⟨u,rfl,ru⟩:=rv'.one
 obtain ⟨⟨as,k1⟩,_,_,k2⟩:=ze6 I sim 60 dx x u p r1 ru h1
 obtain ⟨z,its,n,rv,hl,e⟩:=I.lstM hH
 obtain ⟨⟨bs,k3⟩,_,_,_⟩:=zrl I sim 60 xs us its qs r2 rv h2
 have em:=zn3 (p:=p) k3 c2
 refine call_meets F.slot_list_count ⟨_,e,rfl⟩ F.entry_list_count (F.args_list_count_2 _ _) (SeqAt.list_countAt a its.toArray n none #[] u (eqR s.heap p)) ⟨e,λw hw=>zn4 k1 c1 (by have:=hr.un;show X.A.units+1+_<_;omega) k3 c2 w (by simpa using hw),⟨.int _,H,I.tok _,⟨_,rfl⟩,?_⟩⟩
 rw [ztw]
 show Q (.int ((its.map (eqR s.heap p)).count true)) H
 rw [em]
 exact hq
theorem yfw {K:QFg}:Mt3 K zgx (ztv K):=by
 intro ρ S H x x' xs vs v S' Q sim rx r h p
 unfold zgx at h
 split at h
 ·split at h
  ·rename_i n y S ys e
   obtain ⟨d1,h2,h⟩:=bnd h
   obtain ⟨ds,h3,h⟩:=bnd h
   obtain ⟨hc,h⟩:=zsz h
   cases h
   obtain ⟨w,rfl,rw'⟩:=r.one
   obtain ⟨a,us,ha,hH,r2⟩:=sim.lst e
   cases rx with
   | ref hn =>
    rw [ha] at hn;cases hn
    exact ⟨w,ρ,_,y,ys,d1,ds,a,us,rfl,sim,rw',rfl,hH,r2,h2,h3,hc.1,hc.2,p ρ H _ (Ext.refl ..) sim (.int _)⟩
  ·cases h
 ·cases h
variable {o e:Expr}{mo me:EM}{apos cpos:Pos}
theorem yfx (hr:Room k X.A) (ho:PE3 X o mo) (he:PE3 X e me) (hbase:attributeBase o "count" X.env (eval o X.env)=eval o X.env:=by rfl)
  (hfew:((backTo cpos (starEach [e] X.env)).all (λx=>!x.1) && (backToKw cpos (keywordEach [] X.env)).all (λx=>x.1.isSome) && decide (([e]:List Expr).length+([]:List Keyword).length+(if ([]:List Keyword).isEmpty then 0 else 1)<30))=true:=by rfl)
  (hline:(apos.endLine == cpos.line)=true:=by rfl) (hs:starEach [e] X.env=(false,eval e X.env) :: starEach [] X.env:=by rfl) (hplain:(backTo cpos (starEach [] X.env)).any (·.1)=false:=by rfl) :
  PE3 X (.Call (.Attribute o "count" apos) [e] [] cpos) (zci zgx mo (zab me zae)):=zkb PySem.F.slot_list_count PySem.F.type_list_count (yfv hr) yfw ho (zad he zag hs) hbase hfew hline hs hplain
end
theorem yfy {i:Int}{u:Value}:merged ([]:List (Key × Value)) [(Sum.inl i,u)]=[(Sum.inl i,u)]:=by simp [merged,stored]
section
variable {X:Cx}{pos:Pos}
theorem yfz {a:Int}{i:Nat}{x:Str}{j3:Nat}{p1 p3:Pos}(hN:X.N[i]? = some x) (hv:Vis X.env.scope x) (hd:(x == ("__debug__":Str))=false:=by decide) (hcd:(x == ("__classdict__":Str))=false:=by decide) :
  PE X (.Dict [some (.Name x p1)] [.Constant (.int a) j3 p3] pos) (λσ H Q=>∃k,σ[i]? = some (some (.int k))/\∀p,H p=none->Q (.ref p) (upd H p (.dK [(Sum.inl k,.int a)]))):=by
 intro pins s σ H Q I q
 obtain ⟨k,hσ,q⟩:=q
 have hn:=I.fresh
 have I1:=I.laid (a:=s.heap.objs.size) (o:=.dK []) (h':=s.heap.push { cls:=.type "dict",data:=.dict #[] }) (t':=s.toks) (λ_ _ q=>qps _ q) (qlr _)
  ⟨Nat.zero_le _,beq_eq_false_iff_ne.mpr (Ne.symm (Nat.ne_of_lt (zrv I))),[],.nil,Heap.DictOf.new s.heap⟩
 refine wpAny_Dict_walk (knd:=zcn X.prog X.w) rfl rfl (by simp) (by simp) ?_
 refine pairTrees_cons_walk (thn (zjv hN hv hd hcd pins _ σ _ (λv H2=>v=.int k/\H2=upd H s.heap.objs.size (.dK [])) I1 ⟨.int k,hσ,rfl,rfl⟩) λu s2 ⟨v,H2,I2,rv,e1,e2⟩=>wpAny_Constant_int ?_)
 subst e1 e2
 obtain ⟨t,rfl⟩:=rv
 refine pairTrees_nil_walk ?_
 obtain ⟨_,hd,vs0,r0,dd⟩:=I2.hok s.heap.objs.size _ zbf
 cases r0
 refine ⟨[(Sum.inl k,_)],⟨zo7 X.prog X.w k _,rfl,trivial⟩,dd,λh' dd' hs=>?_⟩
 rw [yfy] at dd'
 obtain ⟨o,es,ep,ho,hr⟩:=id dd'
 have I3:=I2.write (x:=s.heap.objs.size) (e:=s.heap.objs.size) (o:=.dK [(Sum.inl k,.int a)]) (h':=h') (t':=s2.toks+1) (by rw [zbf];exact trivial) (.inl rfl) (λb o hb e=>hs.extBut b o hb e) ⟨o,ho⟩
  ⟨by show 1<=sizeLine;decide,hd,_,.cons ⟨rfl,_,rfl⟩ .nil,dd'⟩
 rw [zo8] at I3
 exact ⟨.ref s.heap.objs.size,_,I3.tok _,rfl,q _ hn⟩
noncomputable def zgy (i:Nat) (a:Int):EM:=λl S=>match l[i]? with
 | some (some (.int k))=>some (.ref S.length,S++[.dct [(Sum.inl k,.int a)]])
 | _=>none
theorem yf0 {a:Int}{x:Str}{j3:Nat}{p1 p3:Pos}(i:Nat) (hN:X.N[i]? = some x:=by rfl) (hv:Vis X.env.scope x:=by first|exact Or.inl rfl|exact Or.inr (Or.inl rfl)|exact Or.inr (Or.inr rfl)) (hd:(x == ("__debug__":Str))=false:=by decide) (hcd:(x == ("__classdict__":Str))=false:=by decide) :
  PE3 X (.Dict [some (.Name x p1)] [.Constant (.int a) j3 p3] pos) (zgy i a):=PE.imp (yfz hN hv hd hcd) λσ H Q hx=>by
 obtain ⟨ρ,l,S,v,S',sim,ro,hm,p⟩:=hx
 unfold zgy at hm
 split at hm
 ·rename_i k el
  cases hm
  obtain ⟨v,hσ,rd⟩:=ro.get i _ el
  cases rd
  refine ⟨k,hσ,λd hd=>?_⟩
  exact p (ρ++[d]) _ _ (zg8 hd) (sim.pushG hd ⟨[.int a],zbf,.cons (.int a) .nil⟩) (.ref (by rw [<-sim.len];exact za5 ρ d))
 ·cases hm
end
theorem zja {K:QFg}{R:Addr->Bool->Prop}:∀c b C,([]:List (Str × Bool)).lookup c=some b->nsIn K mainGlobals c=some (some (.ref C))->R C b:=λc b C hl=>by cases hl
theorem zeq {K:QFg}{c0:Str}{b0:Bool}{C0:Addr}{R:Addr->Bool->Prop}{t:List (Str × Bool)}(hn:nsIn K mainGlobals c0=some (some (.ref C0))) (h:R C0 b0) (ht:∀c b C,t.lookup c=some b->nsIn K mainGlobals c=some (some (.ref C))->R C b) :
  ∀c b C,((c0,b0) :: t).lookup c=some b->nsIn K mainGlobals c=some (some (.ref C))->R C b:=λc b C hl hc=>by
 rw [List.lookup_cons] at hl
 split at hl
 ·rename_i q
  cases hl
  have e:c=c0:=by simpa using q
  subst e
  rw [hn] at hc;cases hc
  exact h
 ·exact ht c b C hl hc
theorem yf1 {c0:Str}{f:Str->Bool}{R:Str->Prop}(h:R c0) (hf:∀c,f c=true->R c):∀c,(c == c0 || f c)=true->R c:=λc hc=>by
 rw [Bool.or_eq_true] at hc
 rcases hc with hc|hc
 ·have e:c=c0:=by simpa using hc
  rw [e];exact h
 ·exact hf c hc
theorem yf2:∀g∈([]:List LamG),LamW g:=λ_ z=>by cases z
theorem ztx {g0:LamG}{gs:List LamG}(h:LamW g0) (t:∀g∈gs,LamW g):∀g∈g0 :: gs,LamW g:=λg z=>by
 rcases List.mem_cons.mp z with e|e
 ·rw [e];exact h
 ·exact t g e
section
variable {P:Program}{w:World}{K:QFg}{mg:Str->Option Value}{base:Heap}{CA:Str->Addr}{j k n:Nat}{f0:Str}{rx:ZF}{tb:List (Str × Nat × ZF)}
theorem yf3:∀f t,([]:List (Str × Nat × ZF)).lookup f=some t->∃k,k+1<=j/\zb2 P w K mg base CA f k t.1 t.2:=λ_ _ z=>by cases z
theorem yf4 (F:zb2 P w K mg base CA f0 k n rx) (hk:k+1<=j) (ht:∀f t,tb.lookup f=some t->∃k,k+1<=j/\zb2 P w K mg base CA f k t.1 t.2):∀f t,((f0,n,rx) :: tb).lookup f=some t->∃k,k+1<=j/\zb2 P w K mg base CA f k t.1 t.2:=λf t hl=>by
 rw [List.lookup_cons] at hl
 split at hl
 ·rename_i q
  cases hl
  have e:f=f0:=by simpa using q
  subst e
  exact ⟨k,hk,F⟩
 ·exact ht f t hl
end
section
variable {prog:Program}{w:World}{A:Around}{E:Value->Shared->Prop}{s:Shared}
theorem yf5:isSubtype (.type "range") (.type "tuple")=pure false:=by rw [isSubtype_type];kernel_rfl
theorem yf6 {r:Addr}:checkBuiltinCall "tuple.__new__" ⟨[.type "tuple",.ref r],[]⟩=pure ():=by kernel_rfl
theorem yf7:Bind.madeHere "tuple.__new__" (.type "tuple")=pure ():=by kernel_rfl
theorem zty:typeLookup (.type "tuple") (Str.ofString "__init__")=pure (some (.builtin "object.__init__")):=by kernel_rfl
theorem yf8 {r:Addr}{n:Nat}{t u v:Tok}{Q:Value->Shared->Prop}(hh:A.handled=none) (hr:IsRange s.heap r 0 n 1 t u v) (hn:n<=1000)
  (h:∀(h':Heap) (tk:Nat) (acc:Array Value),s.heap.objs.size<=h'.objs.size->(∀b o,s.heap.get? b=some o->h'.get? b=some o)->ItemsOf (λi v=>∃t,v=.int (0+i*1) t) acc n->Q (.ref h'.objs.size) { s with heap:=h'.push { cls:=.type "tuple",data:=.seq acc },toks:=tk }) :
  codeAny (model prog w) A (.call (.builtin "tuple.__new__") ⟨[.type "tuple",.ref r],[]⟩) (wants Q E) s:=by
 refine codeAny_call_builtin F.plain_tuple_new F.entry_tuple_new ?_
 rw [yf6]
 refine qwp ?_
 have k2:=F.called_tuple.sub
 have hz:Builtin.Range.rangeSize 0 (n:Int) 1=((n:Nat):Int):=by rw [rangeSize_one];split <;> omega
 have hT:s.TypeIs (.ref r) "range":=⟨_,hr,rfl⟩
 have q1:=yf5
 have m1:=yf7
 have m2:=zty
 have cl:=SK.collectG (prog:=prog) (w:=w) (A:=A.in1) (E:=λe s'=>wants Q E (.error e) s') (s:=s) (R:=λl s'=>∃(h':Heap) (tk:Nat) (acc:Array Value),l=acc.toList/\s' = { s with heap:=h',toks:=tk }/\s.heap.objs.size<=h'.objs.size/\(∀b o,s.heap.get? b=some o->h'.get? b=some o)/\ItemsOf (λi v=>∃t,v=.int (0+i*1) t) acc n)
  (by simpa using hh) hr (small_one (by omega) (by omega) (by omega) (by omega)) hz (by omega) λh' tk acc a b c=>⟨h',tk,acc,rfl,rfl,a,b,c⟩
 unfold Builtin.«tuple.__new__»
 generalize hC:collect=C
 simp only [m1,m2,k2]
 wp_walk
 subst hC
 refine thn cl λa s' hq=>?_
 obtain ⟨h',tk,acc,rfl,rfl,z1,z2,z3⟩:=hq
 refine qwb (qwp ?_)
 unfold Builtin.Tuple.tupleExact
 have hs:acc.size=n:=z3.1
 have H:=h h' tk acc z1 z2 z3
 refine qwb (wpAny_newObj_type (qwp ?_) ?_)
 ·simpa using H
 ·show acc.toList.toArray.size<=sizeLine
  rw [sizeLine_eq];simp;omega
theorem yf9 {a r:Addr}{acc:Array Value}{Q:Value->Shared->Prop}(h1:s.heap.get? a=some { cls:=.type "tuple",data:=.seq acc }) (h:Q .none s):codeAny (model prog w) A (.call (.builtin "object.__init__") ⟨[.ref a,.ref r],[]⟩) (wants Q E) s:=by
 have hT:s.TypeIs (.ref a) "tuple":=⟨_,h1,rfl⟩
 have m2:=zty
 have k1:=F.called_tuple.made
 refine codeAny_call_builtin F.called_tuple.init.plain F.entry_object_init (F.called_tuple.init.check _ _ _ _ _ _ _ _ hT (F.args_object_init_2 _ _) ?_)
 exact object_init_meets (self:=.ref a) (rest:=[.ref r]) m2 k1 (by decide) prog w A (wants Q E) s ⟨hT,h⟩
theorem yga {r:Addr}{n:Nat}{t u v:Tok}{Q:Value->Shared->Prop}(hh:A.handled=none) (hr:IsRange s.heap r 0 n 1 t u v) (hn:n<=1000)
  (h:∀(h':Heap) (tk:Nat) (acc:Array Value),s.heap.objs.size<=h'.objs.size->(∀b o,s.heap.get? b=some o->h'.get? b=some o)->ItemsOf (λi v=>∃t,v=.int (0+i*1) t) acc n->Q (.ref h'.objs.size) { s with heap:=h'.push { cls:=.type "tuple",data:=.seq acc },toks:=tk }) :
  wpAny (model prog w) A (call (.type "tuple") [.ref r]) Q E s:=by
 obtain ⟨c,tl,k0⟩:=F.called_tuple.mro;have k1:=F.called_tuple.made;have k2:=F.called_tuple.sub
 refine wpAny_call (codeAny_of_tree (show wpAny _ _ (callAny (.type "tuple") _) _ _ _ from ?_))
 refine qwp ⟨Code.quiet_builtin _ (by decide +kernel),codeAny_builtin F.entry_type_call ?_⟩;rw [Around.under_plain (weight_type_call_type "tuple" [.ref r] []) rfl]
 have k3:=F.called_tuple.notType;have k4:=F.called_tuple.canCreate;have k5:=F.typeCall_tuple_1 (.ref r)
 repeat (any_goals (first|assumption|wp_step))
 refine codeAny_mono (yf8 (E:=E) (Q:=λx s1=>∃(h':Heap) (tk:Nat) (acc:Array Value),x=.ref h'.objs.size/\s1={ s with heap:=h'.push { cls:=.type "tuple",data:=.seq acc },toks:=tk }/\s.heap.objs.size<=h'.objs.size/\(∀b o,s.heap.get? b=some o->h'.get? b=some o)/\ItemsOf (λi v=>∃t,v=.int (0+i*1) t) acc n) (by simpa using hh) hr hn λh' tk acc a b c=>⟨h',tk,acc,rfl,rfl,a,b,c⟩) λq s1 hq=>?_
 match q,hq with
 | .error e,hq=>exact hq
 | .ok .next,hq=>exact hq.elim
 | .ok .brk,hq=>exact hq.elim
 | .ok .cont,hq=>exact hq.elim
 | .ok (.ret x),hq =>
  obtain ⟨h',tk,acc,rfl,rfl,z1,z2,z3⟩:=hq
  have H:=h h' tk acc z1 z2 z3
  have g1:(h'.push { cls:=.type "tuple",data:=.seq acc }).get? h'.objs.size=some { cls:=.type "tuple",data:=.seq acc }:=Heap.get?_push_size _ rfl
  have g2:Shared.TypeIs { s with heap:=h'.push { cls:=.type "tuple",data:=.seq acc },toks:=tk } (.ref h'.objs.size) "tuple":=⟨_,g1,rfl⟩
  have k6:=F.called_tuple.init.lookup;have k7:=F.called_tuple.init.bind (.ref h'.objs.size)
  repeat (any_goals (first|assumption|wp_step))
  refine codeAny_mono (yf9 (E:=E) (Q:=λx s1=>x=.none/\s1={ s with heap:=h'.push { cls:=.type "tuple",data:=.seq acc },toks:=tk }) g1 ⟨rfl,rfl⟩) λq2 s2 hq2=>?_
  match q2,hq2 with
  | .error e,hq=>exact hq
  | .ok .next,hq=>exact hq.elim
  | .ok .brk,hq=>exact hq.elim
  | .ok .cont,hq=>exact hq.elim
  | .ok (.ret x),hq =>
   obtain ⟨rfl,rfl⟩:=hq
   repeat (any_goals (first|assumption|wp_step))
end
noncomputable def zer (n:Nat):List Int:=(List.range n).map λk=>((k:Nat):Int)
theorem ygb {acc:Array Value}{n:Nat}(h:ItemsOf (λi v=>∃t,v=Value.int (0+i*1) t) acc n):Vals ((zer n).map V.int) acc.toList:=by
 refine znc (by simp [zer,h.1]) λj x v e1 e2=>?_
 obtain ⟨t,rfl⟩:=h.2 j v (by rw [<-e2,Array.getElem?_toList])
 have hj:j<n:=by rw [<-h.1];have:=(qme e2).1;simpa using this
 unfold zer at e1
 rw [List.map_map,qgm,List.getElem?_range hj] at e1
 cases e1
 exact ⟨t,by show Value.int (0+(j:Int)*1) t=Value.int (j:Int) t;congr 1;omega⟩
section
variable {X:Cx}{a:Expr}{mA:AM}{p p0 pos pos':Pos}
def ygc:List V->Hp->VK->Prop:=λxs H Q=>∃(r:Addr) (n:Nat),xs=[.ref r]/\H r=some (.rng 0 n)/\n<=1000/\∀l,H l=none->Q (.ref l) (upd H l (.tup ((zer n).map V.int)))
theorem ygd (hc:X.calm=true):CallR X (.type "tuple") ygc:=by
 intro pins s σ H xs us Q I r h
 obtain ⟨p,n,rfl,hH,hn,q⟩:=h
 obtain ⟨u,rfl,rx⟩:=zcs r
 cases rx
 obtain ⟨t,u,v,er⟩:=I.hok p _ hH
 refine yga (I.ok.hd hc) er hn λh' tk acc z1 kp hi=>?_
 have I1:Inv X pins σ H { s with heap:=h',toks:=tk }:=I.kept kp
 have I2:Inv X pins σ (upd H h'.objs.size (.tup ((zer n).map V.int))) { s with heap:=h'.push { cls:=.type "tuple",data:=.seq acc },toks:=tk } :=
  I1.laid (t':=tk) (λb o e=>qps _ e) (qlr _) (show ObjOk X.prog X.w _ _ _ (.tup ((zer n).map V.int)) from ⟨by rw [qlm,sizeLine_eq];simp only [zer,qlm,List.length_range];omega,acc.toList,ygb hi,by simpa using IsTD.new h' acc⟩)
 exact ⟨.ref h'.objs.size,_,I2,rfl,q _ (I1.hok.fresh (qlr _))⟩
noncomputable def zhx (mA:AM):EM:=λl S=>(mA l S).bind λq=>match q.1 with
 | [.int n]=>if 0<=n/\n<=1000 then some (.tup ((zer n.toNat).map D.int),q.2) else none
 | _=>none
theorem yge (hc:X.calm=true) (hg:Gl X "tuple") (hm:X.mg "tuple" = none) (hgr:Gl X "range") (hmr:X.mg "range" = none) (ha:PA3 X [a] mA)
  (he:starEach [.Call (.Name "range" p0) [a] [] pos'] X.env=[(false,eval (.Call (.Name "range" p0) [a] [] pos') X.env)]:=by rfl)
  (he2:starEach [a] X.env=(false,eval a X.env) :: starEach [] X.env:=by rfl) :
  PE3 X (.Call (.Name "tuple" p) [.Call (.Name "range" p0) [a] [] pos'] [] pos) (zhx mA) :=
 PE.imp (zh9 (ygd hc) hg hm zkh (zcz (zh9 zrr hgr hmr zrs ha (by decide) (by decide) he2 rfl) zex he) (by decide) (by decide) he rfl) λσ H Q hx=>by
  obtain ⟨ρ,l,S,v,S',sim,ro,hm,p⟩:=hx
  obtain ⟨⟨xs,S2⟩,q2,q1⟩:=bnd hm
  dsimp only at q1
  split at q1
  ·rename_i n
   obtain ⟨hb,e⟩:=za8 q1
   cases e
   refine ⟨ρ,l,S,_,_,sim,ro,q2,λρ1 H1 vs e1 s1 r1=>?_⟩
   obtain ⟨u,rfl,ru⟩:=r1.one
   cases ru
   refine ⟨_,rfl,λr hr=>⟨r,n.toNat,rfl,by rw [zbf];congr 2;omega,by omega,λd hd=>?_⟩⟩
   exact p ρ1 _ _ ((e1.trans (zbu hr)).trans (zbu hd)) ((s1.laid hr).laid hd) (.tup zbf (rdI ρ1 _ _))
  ·cases q1
end
section
variable {prog:Program}{w:World}{A:Around}{E:Value->Shared->Prop}{s:Shared}{Q:Value->Shared->Prop}
theorem ygf {t a:Addr}{o oa:Obj}{u:Value}{n na:Nat}{l:List Value}{p:PyData}{xs:List PyData}{as bs:List Addr}(h1:s.heap.get? t=some o) (h2:o.cls=.type "tuple") (h3:o.data=.seq #[u,.ref a] n) (hp:Reads s.heap u p as) (hps:p.showable=true) (hpd:p.hasDict=false)
  (g1:s.heap.get? a=some oa) (g2:oa.cls=.type "list") (g3:oa.data=.seq l.toArray na) (hl:ReadsAll s.heap l xs bs) (hls:PyData.showableAll xs=true) (hsm:sysModules ∉ bs)
  (hg:A.guards=some []) (hu:A.units+(p.depth+PyData.depthAll xs+5)<cLine)
  (hQ:∀h' u tk,(∀b o,s.heap.get? b=some o->h'.get? b=some o)->Q (.str (PyData.tuple [p,.list xs]).shown u) { s with heap:=h',toks:=tk })
  (hsz:(PyData.tuple [p,.list xs]).shown.length<=sizeLine):wpAny (model prog w) A (call (.builtin "repr") [.ref t]) Q E s:=by
 have hl':ReadsAll s.heap l.toArray.toList xs bs:=by simpa using hl
 have sh:(PyData.tuple [p,.list xs]).shown=tupleText [p.shown,listText (PyData.shownAll xs)]:=by simp only [PyData.shown,PyData.shownAll]
 rw [sh] at hsz
 have z1:p.shown.length<=sizeLine:=Nat.le_trans (tupleText_mem_le (by simp)) hsz
 have z2:(listText (PyData.shownAll xs)).length<=sizeLine:=Nat.le_trans (tupleText_mem_le (by simp)) hsz
 have rl:Reads s.heap (.ref a) (.list xs) (a :: bs):=.list g1 g2 g3 hl'
 have rt:Reads s.heap (.ref t) (.tuple [p,.list xs]) _:=.tuple h1 h2 h3 (.cons hp (.cons rl .nil))
 obtain ⟨cs,c1,c2⟩:=ReprK.of_reads (prog:=prog) (w:=w) hp hps (λe=>by rw [hpd] at e;cases e) z1
 obtain ⟨ds,d1,d2⟩:=ReprAllK.of_readsAll (prog:=prog) (w:=w) hl' hls (λ_=>hsm) λt ht=>Nat.le_trans (listText_mem_le ht) z2
 have na':a ∉ ds:=not_mem_of_deeper rl (by simp only [PyData.depth];omega) d1
 have kl:ReprK prog w (a :: ds) s.heap (PyData.depthAll xs+1) (.ref a) (listText (PyData.shownAll xs)):=by
  cases l with
  | nil =>
   cases hl
   have:=ReprK.listEmpty (prog:=prog) (w:=w) (as:=a :: ds) (d:=PyData.depthAll []+1) g1 g2 g3
   simpa only [PyData.shownAll,listText_nil] using this
  | cons x l =>
   exact ReprK.list g1 g2 g3 na' (by simpa using d2.length_eq) λi y e=>d2.item i y (by simpa using e)
 have dd:(PyData.list xs).depth=PyData.depthAll xs+1:=by simp only [PyData.depth]
 have nt:t ∉ cs++a :: ds:=by
  intro z
  obtain ⟨dq,aq,rq,le⟩:∃dq aq,Reads s.heap (.ref t) dq aq/\dq.depth<=max p.depth (PyData.depthAll xs+1):=by
   rcases List.mem_append.mp z with z|z
   ·obtain ⟨dq,aq,rq,le⟩:=c1 t z
    exact ⟨dq,aq,rq,by omega⟩
   ·rcases List.mem_cons.mp z with rfl|z
    ·exact ⟨_,_,rl,by omega⟩
    ·obtain ⟨dq,aq,rq,le⟩:=d1 t z
     exact ⟨dq,aq,rq,by omega⟩
  refine not_mem_of_deeper (n:=max p.depth (PyData.depthAll xs+1)) (bs:=[t]) rt ?_ (λb hb=>?_) (List.mem_singleton.mpr rfl)
  ·simp only [PyData.depth,PyData.depthAll];omega
  ·rw [List.mem_singleton.mp hb];exact ⟨dq,aq,rq,le⟩
 have all:ReprAllK prog w (cs++a :: ds) s.heap (p.depth+PyData.depthAll xs+1) (#[u,.ref a]:Array Value).toList [p.shown,listText (PyData.shownAll xs)] :=
  .cons ((c2.more λb hb=>List.mem_append_left _ hb).level_le (by omega)) (.cons ((kl.more λb hb=>List.mem_append_right _ hb).level_le (by omega)) .nil)
 refine call_repr_slot (by omega) ⟨o,h1,h2⟩ F.slot_tuple_repr ?_
 rw [sh] at hQ
 exact call_tuple_reprK h1 h2 h3 nt all hg (λb _=>Clear.nil b) (by show A.units+1+_<_;omega) (λ_ _ e=>e) (λh' u tk k=>⟨_,_,rfl,hQ h' u tk k⟩) hsz
end
noncomputable def zjb:FM
 | [.tup [x,.ref n]],S=>match S[n]? with
  | some (.lst ys)=>(zaw S 60 x).bind λp=>(pyTs S 60 ys).bind λds=>txU (.tuple [p,.list ds]) S
  | _=>none
 | _,_=>none
def ztz (K:QFg):List V->Hp->VK->Prop:=λxs H Q=>∃v ρ S d z S',xs=[v]/\Sim K ρ S H/\RD ρ H d v/\zjb [d] S=some (.str z,S')/\Q (.str z) H
section
variable {X:Cx}{a:Expr}{es:List Expr}{mA:AM}{pos p:Pos}
theorem ygg {k:Nat}(hr:Room k X.A):CallR X (.builtin "repr") (ztz X.K):=by
 intro pins s σ H xs us Q I r h
 obtain ⟨v,ρ,S,d,z,S',rfl,sim,rd,hp,q⟩:=h
 obtain ⟨u,rfl,ru⟩:=zcs r
 unfold zjb at hp
 split at hp
 ·rename_i x n T heq
  cases heq
  split at hp
  ·rename_i ys e0
   obtain ⟨p,h1,hp⟩:=bnd hp
   obtain ⟨ds,h2,hp⟩:=bnd hp
   unfold txU at hp
   obtain ⟨hz,e⟩:=za8 hp
   cases e
   cases rd with
   | @tup _ ta vs ha rr =>
    cases ru
    obtain ⟨v1,v2,rfl,r1,r2⟩:=rr.two
    cases r2 with
    | @ref _ ad hn =>
     obtain ⟨us,hH,r3⟩:=sim.at' _ ad _ hn e0
     obtain ⟨zz,its,n2,rv,ho⟩:=I.hok ad _ hH
     obtain ⟨zt,itt,rt,ot,ho2,hc2,n3,hd2,_⟩:=I.hok ta _ ha
     have rt':Vals [v1,V.ref ad] itt:=rt
     cases rt' with
     | cons w1 w2 =>
      cases w2 with
      | cons w3 w4 =>
       cases w4
       cases w3
       obtain ⟨⟨as,k1⟩,k2,k3,k4⟩:=ze6 I sim 60 _ v1 _ p r1 w1 h1
       obtain ⟨⟨bs,m1,m2⟩,m3,m4⟩:=readsTs_of I sim 60 ys us its ds r3 rv h2
       exact ygf ho2 hc2 hd2 k1 k2 k3 ho rfl rfl m1 m3 m2 hr.gd (by have:=hr.un;omega) (λh' u tk hk=>⟨.str _,H,I.kept hk,⟨u,rfl⟩,q⟩) hz
  ·cases hp
 ·cases hp
theorem ygh {K:QFg}:Fn3 K zjb (ztz K):=by
 intro ρ S H xs vs v S' Q sim r h p
 have key:∃d z,xs=[d]/\v=.str z/\S' = S:=by
  unfold zjb at h
  split at h
  ·split at h
   ·obtain ⟨p,h1,h⟩:=bnd h
    obtain ⟨ds,h2,h⟩:=bnd h
    unfold txU at h
    obtain ⟨hz,e⟩:=za8 h
    cases e
    exact ⟨_,_,rfl,rfl,rfl⟩
   ·cases h
  ·cases h
 obtain ⟨d,z,rfl,rfl,rfl⟩:=key
 obtain ⟨w,rfl,rw'⟩:=r.one
 exact ⟨w,ρ,_,d,z,_,rfl,sim,rw',h,p ρ H _ (Ext.refl ..) sim (.str _)⟩
noncomputable def zes:FM:=λxs S=>match zgi xs S with|some v=>some v|none=>zjb xs S
theorem zk9 {k:Nat}(hr:Room k X.A) (hg:Gl X "repr") (hm:X.mg "repr" = none) (ha:PA3 X (a :: es) mA) (he:starEach (a :: es) X.env=(false,eval a X.env) :: starEach es X.env:=by rfl) (hpl:(backTo pos (starEach es X.env)).any (·.1)=false:=by rfl):PE3 X (.Call (.Name "repr" p) (a :: es) [] pos) (zaf zes mA) :=
 zf5 (CallR.or3 (CallR.or3 (yb6 hr) (ya7 hr)) (ygg hr)) (yff (yb8 yb7 ya8) ygh) hg hm ya9 ha (by decide) (by decide) he hpl
end
section
variable {X:Cx}{E:XK}{CA:Str->Addr}{e c:Expr}{a d:List Stmt}{st:Stmt}{r q:ZM}{pos:Pos}
def PTz (X:Cx) (E:XK) (CA:Str->Addr) (e:Expr) (r:ZM):Prop:=PT X e (λσ H _=>Rz X.K E CA r σ H)
theorem ygi (h:PEz X E CA e r) (he:∀whole,isTrue e X.env whole=(do let v <-whole;standAt e.pos;holding [v] (truthy v)):=by intro _;rfl):PTz X E CA e r:=λpins s σ H Q I x=>zpb h he pins s σ H Q I x
theorem ygj (h:PTz X E CA e r):PTz X E CA (.UnaryOp .Not e pos) r:=λpins s σ H Q I x=>zpc h pins s σ H Q I x
theorem ygk (h:PTz X E CA c r):PSz X E CA (.If c a d pos) r:=λpins s σ H D I x=>zl5 (t:=λ_ _ _=>False) (u:=λ_ _ _=>False) h znt znt pins s σ H D I x
theorem ygl (h1:PSz X E CA st r) (h2:PSz X E CA st q):PSz X E CA st (zOr r q):=λpins s σ H D I h=>h.of_or.elim (h1 pins s σ H D I) (h2 pins s σ H D I)
end
section
variable {X:Cx}{o:Expr}{mo:EM}{apos cpos:Pos}
end
section
variable {P:Program}{w:World}{K:QFg}{mg:Str->Option Value}{base:Heap}
theorem ygm {x:Str}{st:Stmt}{f c T:Addr}{fd:FuncData}{N ps:List Str}{k n:Nat}{b:SM}(F:Fun K x x st f fd) (hm:mg x=some (.ref f)) (hf:Fnc K mg x) (hT:PySem.W.tabIn K x=some (c,T)) (S:FnScope N ps (zay st)) (hn:ps.length=n)
  (hbody:PySem.W.codeIn K (.ref c) x=true->∀(A:Around) (outer:List Env) (s:Shared) (H:Hp) (E:XK),Room k (A.deeper (envOfC x (zay st) s.heap.objs.size f (.ref c))) ->
   zct (zbn CX0 P w K mg base N x (zay st) f (.ref c) A outer s H E).nox (zc9 st) b):FnOk P w K mg base CX0 (k+1) f fd ps (sp3 K n (zbq N.length b)):=by
 obtain ⟨f',o,h1,h2,h3⟩:=hf
 rw [hm] at h3
 cases h3
 exact yfb F h1 hT S hn hbody
end
theorem zam {α:Type}{x:α}{p:α->Prop}:(∃d,(some (some x):Option (Option α))=some (some d)/\p d)=p x:=by
 apply propext;constructor
 ·rintro ⟨d,h,q⟩;cases h;exact q
 ·exact λq=>⟨x,rfl,q⟩
theorem zcg {α:Type}{x:α}{p:α->Prop}:(∃d,(some x:Option α)=some d/\p d)=p x:=by
 apply propext;constructor
 ·rintro ⟨d,h,q⟩;cases h;exact q
 ·exact λq=>⟨x,rfl,q⟩
theorem za9 {b:Bool}{p:Bool->Prop}:(∃k,D.bl b=D.bl k/\p k)=p b:=by
 apply propext;constructor
 ·rintro ⟨d,h,q⟩;cases h;exact q
 ·exact λq=>⟨b,rfl,q⟩
theorem zt0 {α:Type}{x y:α}:L2.atI [x,y] 0=some x:=rfl
theorem zt1 {α:Type}{x y:α}:L2.atI [x,y] 1=some y:=rfl
theorem zt2 {α:Type}{x y z:α}:L2.atI [x,y,z] 0=some x:=rfl
theorem zt3 {α:Type}{x y z:α}:L2.atI [x,y,z] 1=some y:=rfl
theorem zt4 {α:Type}{x y z:α}:L2.atI [x,y,z] 2=some z:=rfl
theorem zed {S:Sto}{xs:List D}:lstOf (S++[.lst xs]) S.length=some xs:=by unfold lstOf;rw [za5]
theorem zjc {α:Type}(xs:List α) (i:Int) (h0:0<=i) (h1:i<xs.length):∃x,L2.atI xs i=some x/\x∈xs:=by
 have hl:i.toNat<xs.length:=by omega
 refine ⟨xs[i.toNat],?_,List.getElem_mem hl⟩
 unfold L2.atI L2.ixN
 rw [if_pos h0,if_pos h1]
 simp [hl]
theorem atI_get {α:Type}{xs:List α}{i:Nat}{x:α}(h:xs[i]? = some x):L2.atI xs (i:Int)=some x:=by
 have hl:=(qme h).1
 unfold L2.atI L2.ixN
 rw [if_pos (by omega),if_pos (by omega)]
 simpa using h
section
variable {S:Sto}{Q:D->Sto->Prop}{l:Lo}{QG:Lo->Sto->Prop}
theorem zt5 {i j:Int}:Wo (zdt (.int i) (.int j) S) Q=(((-(2 ^ 64)<i/\i<2 ^ 64)\/(-(2 ^ 64)<j/\j<2 ^ 64))/\Q (.int (i*j)) S):=zfo
theorem zjd {xs:List D}{i:Int}:Wo (za3 (.tup xs) (.int i) S) Q = ∃v,L2.atI xs i=some v/\Q v S:=by
 have e:za3 (.tup xs) (.int i) S=dIx (.tup xs) (.int i) S:=by
  unfold za3
  cases h:dIx (.tup xs) (.int i) S with
  | some v=>rfl
  | none=>rfl
 rw [e,zm5]
theorem zdv {k:Nat}{i:Int}:Wo (za3 (.ref k) (.int i) S) Q = ∃xs,lstOf S k=some xs/\∃v,L2.atI xs i=some v/\Q v S:=by
 have e:za3 (.ref k) (.int i) S=dIx (.ref k) (.int i) S:=by
  unfold za3
  cases h:dIx (.ref k) (.int i) S with
  | some v=>rfl
  | none=>rfl
 rw [e,zm6]
theorem zla {k:Nat}:Wo (zbl [.ref k] S) Q = ∃xs,lstOf S k=some xs/\Q (.int xs.length) S:=zm8
theorem zet {xs:List D}:Wo (zbl [.tup xs] S) Q=Q (.int xs.length) S:=zm7
theorem zhy {i j:Int}:Wo (dNe (.int i) (.int j) S) Q=Q (.bl (!decide (i=j))) S:=za1
theorem zt6 {n:Nat}:Wo (zho [.ref n] S) Q = ∃xs,lstOf S n=some xs/\xs.all zgh=true/\Q (.bl (xs.all isT)) S:=by
 show Wo ((lstOf S n).bind λxs=>if xs.all zgh=true then some (.bl (xs.all isT),S) else none) Q=_
 rw [zd4];simp only [zfo]
theorem zt7 {o i:EM}{v:D}:Wg (zhs o i v l S) QG=We o l S λx S1=>We i l S1 λy S2=>∃S',ziz x y v S2=some S'/\QG l S':=by
 apply propext
 constructor
 ·rintro ⟨l',S',h,q⟩
  obtain ⟨⟨x,S1⟩,h1,h⟩:=bnd h
  obtain ⟨⟨y,S2⟩,h2,h⟩:=bnd h
  obtain ⟨S3,h3,h⟩:=bnd h
  cases h
  exact ⟨x,S1,h1,y,S2,h2,_,h3,q⟩
 ·rintro ⟨x,S1,h1,y,S2,h2,S3,h3,q⟩
  refine ⟨l,S3,?_,q⟩
  unfold zhs;rw [h1];show (i l S1).bind _=_;rw [h2];show (ziz x y v S2).bind _=_;rw [h3];rfl
theorem zlb {U:String}{b:Bool}:Wo (zcl U (.bl b) S) Q=Q (.bl (isI "bool" U)) S:=za1
theorem zje {U:String}{b:Int}:Wo (zcl U (.int b) S) Q=Q (.bl (isI "int" U)) S:=za1
theorem zjf {U:String}{b:List D}:Wo (zcl U (.tup b) S) Q=Q (.bl (isI "tuple" U)) S:=za1
theorem zjg {U:String}:isI U U=true:=by unfold isI;simp
end
def Gr (S0 S:Sto):Prop:=∃ex,S=S0++ex
theorem Gr.refl (S:Sto):Gr S S:=⟨[],by rw [List.append_nil]⟩
theorem Gr.trans {A B C:Sto}(h:Gr A B) (g:Gr B C):Gr A C:=by obtain ⟨x,rfl⟩:=h;obtain ⟨y,rfl⟩:=g;exact ⟨x++y,by rw [List.append_assoc]⟩
theorem Gr.push {A B:Sto}(h:Gr A B) (o:Ob):Gr A (B++[o]):=h.trans ⟨[o],rfl⟩
theorem Gr.get {A B:Sto}{n:Nat}{o:Ob}(h:Gr A B) (e:A[n]? = some o):B[n]? = some o:=by
 obtain ⟨x,rfl⟩:=h
 rw [List.getElem?_append_left (qme e).1];exact e
theorem Gr.lst {A B:Sto}{n:Nat}{xs:List D}(h:Gr A B) (e:lstOf A n=some xs):lstOf B n=some xs:=by
 unfold lstOf at e ⊢
 cases q:A[n]? with
 | none=>rw [q] at e;cases e
 | some o=>rw [h.get q];rw [q] at e;exact e
section
variable {it:ItM}{im:IM}{ixs:List (Option Nat)}{g:GM}{t:TM}{e:EM}{l:Lo}{S S1:Sto}{Q:D->Sto->Prop}{k:Nat}
theorem zn8 (xs:List D) (R:Nat->List D->Lo->Sto->Prop) (hit:∀i acc l S,R i acc l S->it i S=some xs[i]?)
  (step:∀(i:Nat) x acc l S,xs[i]? = some x->R i acc l S->Wg (g x l S) λl1 S1=>Wt t l1 S1 λb S2=>if b=true then We e l1 S2 λv S3=>R (i+1) (acc++[v]) l1 S3 else R (i+1) acc l1 S2) :
  ∀(n i:Nat) (acc:List D) (l:Lo) (S:Sto),n+i=xs.length->R i acc l S->∃rest S' l',zdp it g t e (n+1) i l S=some (rest,S')/\R xs.length (acc++rest) l' S'
 | 0,i,acc,l,S,hn,h=>by
  have hi:i=xs.length:=by omega
  have e0:=hit i acc l S h
  rw [List.getElem?_eq_none_iff.mpr (by omega)] at e0
  refine ⟨[],S,l,?_,by rw [List.append_nil,<-hi];exact h⟩
  unfold zdp;rw [e0];rfl
 | n+1,i,acc,l,S,hn,h=>by
  have hi:i<xs.length:=by omega
  have e0:=hit i acc l S h
  rw [qge hi] at e0
  obtain ⟨l1,S1,e1,b,S2,e2,q⟩:=step i _ acc l S (qge hi) h
  cases b with
  | true =>
   obtain ⟨v,S3,e3,q⟩:=q
   obtain ⟨rest,S',l',e4,q⟩:=zn8 xs R hit step n (i+1) (acc++[v]) l1 S3 (by omega) q
   refine ⟨v :: rest,S',l',?_,by rw [List.append_assoc] at q;exact q⟩
   unfold zdp;rw [e0];show (g _ l S).bind _=_;rw [e1];show (t l1 S1).bind _=_;rw [e2]
   show (e l1 S2).bind _=_;rw [e3];show (zdp it g t e (n+1) (i+1) l1 S3).bind _=_;rw [e4];rfl
  | false =>
   obtain ⟨rest,S',l',e4,q⟩:=zn8 xs R hit step n (i+1) acc l1 S2 (by omega) q
   refine ⟨rest,S',l',?_,q⟩
   unfold zdp;rw [e0];show (g _ l S).bind _=_;rw [e1];show (t l1 S1).bind _=_;rw [e2]
   exact e4
theorem zn9 (xs:List D) (R:Nat->List D->Lo->Sto->Prop) (him:im l S=some (it,xs.length+1,S1)) (h0:R 0 [] (zcf ixs l) S1) (hit:∀i acc l S,R i acc l S->it i S=some xs[i]?)
  (step:∀(i:Nat) x acc l S,xs[i]? = some x->R i acc l S->Wg (g x l S) λl1 S1=>Wt t l1 S1 λb S2=>if b=true then We e l1 S2 λv S3=>R (i+1) (acc++[v]) l1 S3 else R (i+1) acc l1 S2)
  (fin:∀acc l' S',R xs.length acc l' S'->acc.length<=sizeLine/\Q (.ref S'.length) (S'++[.lst acc])):We (zco im ixs g t e) l S Q:=by
 obtain ⟨rest,S',l',h1,h2⟩:=zn8 (it:=it) (g:=g) (t:=t) (e:=e) xs R hit step xs.length 0 [] (zcf ixs l) S1 rfl h0
 obtain ⟨hz,q⟩:=fin rest l' S' h2
 refine ⟨_,_,?_,q⟩
 unfold zco;rw [him];show (zdp it g t e (xs.length+1) 0 (zcf ixs l) S1).bind _=_;rw [h1];show (if _ then _ else _)=_;rw [if_pos hz]
theorem zoa (xs:List D) (F:D->D) (P:Sto->Prop) (L:Lo->Prop) (him:im l S=some (it,xs.length+1,S1)) (h0:P S1) (l0:L (zcf ixs l)) (hit:∀i S,P S->it i S=some xs[i]?) (hz:xs.length<=sizeLine)
  (step:∀x l S,x∈xs->L l->P S->Wg (g x l S) λl1 S2=>P S2/\L l1/\We e l1 S2 λv S3=>v=F x/\P S3)
  (fin:∀S',P S'->Q (.ref S'.length) (S'++[.lst (xs.map F)])):We (zco im ixs g ze4 e) l S Q:=by
 refine zn9 xs (λi acc l S=>acc=(xs.take i).map F/\L l/\P S) him ⟨rfl,l0,h0⟩ (λi acc l S h=>hit i S h.2.2) ?_ ?_
 ·rintro i x acc l S hx ⟨rfl,hl,hp⟩
  obtain ⟨l1,S2,e1,p1,q1,v,S3,e2,rfl,p3⟩:=step x l S (qmg hx) hl hp
  refine ⟨l1,S2,e1,?_⟩
  dsimp only
  rw [ya4,if_pos rfl]
  refine ⟨_,S3,e2,?_,q1,p3⟩
  rw [List.take_add_one,hx];simp
 ·rintro acc l' S' ⟨rfl,hl,hp⟩
  rw [List.take_length]
  exact ⟨by rw [qlm];exact hz,fin S' hp⟩
theorem zt8 (xs:List D) (F:D->Option D) (P:Sto->Prop) (L:Lo->Prop) (him:im l S=some (it,xs.length+1,S1)) (h0:P S1) (l0:L (zcf ixs l)) (hit:∀i S,P S->it i S=some xs[i]?) (hz:xs.length<=sizeLine)
  (step:∀x l S,x∈xs->L l->P S->Wg (g x l S) λl1 S2=>L l1/\Wt t l1 S2 λb S3=>P S3/\(b=false->F x=none)/\(b=true->We e l1 S3 λv S4=>F x=some v/\P S4))
  (fin:∀S',P S'->Q (.ref S'.length) (S'++[.lst (xs.filterMap F)])):We (zco im ixs g t e) l S Q:=by
 refine zn9 xs (λi acc l S=>acc=(xs.take i).filterMap F/\L l/\P S) him ⟨rfl,l0,h0⟩ (λi acc l S h=>hit i S h.2.2) ?_ ?_
 ·rintro i x acc l S hx ⟨rfl,hl,hp⟩
  obtain ⟨l1,S2,e1,q1,b,S3,e2,p3,hf,ht⟩:=step x l S (qmg hx) hl hp
  refine ⟨l1,S2,e1,b,S3,e2,?_⟩
  have et:xs.take (i+1)=xs.take i++[x]:=by rw [List.take_add_one,hx];rfl
  cases b with
  | true =>
   obtain ⟨v,S4,e4,hv,p4⟩:=ht rfl
   dsimp only
   rw [if_pos rfl]
   refine ⟨v,S4,e4,?_,q1,p4⟩
   rw [et,List.filterMap_append];simp [hv]
  | false =>
   dsimp only
   rw [if_neg Bool.false_ne_true]
   refine ⟨?_,q1,p3⟩
   rw [et,List.filterMap_append];simp [hf rfl]
 ·rintro acc l' S' ⟨rfl,hl,hp⟩
  rw [List.take_length]
  exact ⟨Nat.le_trans (List.length_filterMap_le _ _) hz,fin S' hp⟩
end
theorem zt9 {as:AM}{l:Lo}{S S1:Sto}{j:Int}(h:as l S=some ([.int j],S1)) (hz:-(2 ^ 62)<=j/\j<2 ^ 62):zby as l S=some ((0,j.toNat),S1):=by
 unfold zby;rw [h];simp only [Option.bind_some];rw [if_pos hz]
theorem zua {as:AM}{l:Lo}{S S1:Sto}{n:Nat}(h:as l S=some ([.int (n:Int)],S1)) (hn:n<1000000000):zga (zby as) l S=some (itX (zbp 0 n),(zbp 0 n).length+1,S1):=by
 have:=zt9 h ⟨by omega,by omega⟩
 unfold zga;rw [this];simp only [Option.bind_some,Int.toNat_natCast,zki]
noncomputable def enl (xs:List D):List D:=xs.mapIdx λi x=>.tup [.int i,x]
theorem zub (xs:List D):(enl xs).length=xs.length:=by simp [enl]
theorem zuc (xs:List D) (i:Nat):(enl xs)[i]? = (xs[i]?).map λx=>.tup [.int i,x]:=by simp [enl,List.getElem?_mapIdx]
theorem ygn {xs:List D}{i:Nat}{S:Sto}:itN (itX xs) i S=some (enl xs)[i]?:=by
 rw [zuc];rfl
theorem ygo {as:AM}{l:Lo}{S S1:Sto}{xs:List D}(h:as l S=some ([.tup xs],S1)):zkt as l S=some (itN (itX xs),(enl xs).length+1,S1):=by
 unfold zkt;rw [h,zub];rfl
theorem zob {e:EM}{l:Lo}{S S1:Sto}{xs:List D}(h:e l S=some (.tup xs,S1)):zd3 e l S=some (itX xs,xs.length+1,S1):=by
 unfold zd3;rw [h];rfl
theorem ygp {e:EM}{l:Lo}{S S1:Sto}{n:Nat}{xs:List D}(h:e l S=some (.ref n,S1)) (hn:lstOf S1 n=some xs):zd3 e l S=some (itL n,xs.length+1,S1):=by
 unfold zd3;rw [h];show (lstOf S1 n).bind _=_;rw [hn];rfl
theorem ygq {n i:Nat}{S:Sto}{xs:List D}(hn:lstOf S n=some xs):itL n i S=some xs[i]?:=by unfold itL;rw [hn];rfl
section
variable {g:GM}{b:SM}
theorem zoc (P:Nat->Lo->Sto->Prop) (O:D->Sto->Prop):∀(xs:List D) (k:Nat) (l:Lo) (S:Sto),P k l S ->
  (∀(i:Nat) x l S,xs[i]? = some x->P (k+i) l S->Wg (g x l S) λl1 S1=>Ws b l1 S1 λf l2 S2=>((f=.nx\/f=.ct)/\P (k+i+1) l2 S2)\/∃d,f=.rt d/\O d S2) ->
  Wr (zdo g b xs l S) λf l' S'=>(f=.nx/\P (k+xs.length) l' S')\/∃d,f=.rt d/\O d S'
 | [],k,l,S,h0,_=>⟨_,_,_,rfl,.inl ⟨rfl,h0⟩⟩
 | x :: xs,k,l,S,h0,hs=>by
  obtain ⟨l1,S1,e1,f,l2,S2,e2,q⟩:=hs 0 x l S rfl h0
  rcases q with ⟨hf,h1⟩|⟨d,rfl,hd⟩
  ·have ih:=zoc P O xs (k+1) l2 S2 h1 λi y l S hy hp=>by
    have:=hs (i+1) y l S (by simpa using hy) (by rw [show k+(i+1)=k+1+i by omega];exact hp)
    rw [show k+(i+1)+1=k+1+i+1 by omega] at this
    exact this
   obtain ⟨f',l',S',e3,q1⟩:=ih
   refine ⟨f',l',S',?_,by rw [List.length_cons,show k+(xs.length+1)=k+1+xs.length by omega];exact q1⟩
   unfold zdo
   rw [e1];show (b l1 S1).bind _=_;rw [e2]
   rcases hf with rfl|rfl <;> exact e3
  ·refine ⟨_,l2,S2,?_,.inr ⟨d,rfl,hd⟩⟩
   unfold zdo
   rw [e1];show (b l1 S1).bind _=_;rw [e2];rfl
theorem zhz (P:Nat->Lo->Sto->Prop) (O:D->Sto->Prop) {as:AM}{l:Lo}{S S1:Sto}{n:Nat}{QS:Fl->Lo->Sto->Prop}(h:as l S=some ([.int (n:Int)],S1)) (hn:n<1000000000) (h0:P 0 l S1)
  (step:∀(i:Nat) l S,i<n->P i l S->Wg (g (.int i) l S) λl1 S1=>Ws b l1 S1 λf l2 S2=>((f=.nx\/f=.ct)/\P (i+1) l2 S2)\/∃d,f=.rt d/\O d S2)
  (fin:∀l' S',P n l' S'->QS .nx l' S') (out:∀d l' S',O d S'->QS (.rt d) l' S'):Ws (zem (zby as) g b) l S QS:=by
 rw [ya5]
 refine ⟨_,_,h,(n:Int),rfl,⟨by omega,by omega⟩,?_⟩
 rw [Int.toNat_natCast]
 refine (zoc P O (zbp 0 n) 0 l S1 h0 ?_).mono ?_
 ·intro i x l S hx hp
  obtain ⟨hi,rfl⟩:=zrk hx
  rw [Nat.zero_add] at hp
  have:=step i l S hi hp
  rw [Int.zero_add,Nat.zero_add]
  exact this
 ·rintro f l' S' (⟨rfl,hp⟩|⟨d,rfl,hd⟩)
  ·rw [zki,Nat.zero_add] at hp;exact fin l' S' hp
  ·exact out d l' S' hd
end
section
variable {S:Sto}{Q:D->Sto->Prop}{l:Lo}
theorem zeu {i j:Int}:Wo (zbe (.int i) (.int j) S) Q=Q (.int (i+j)) S:=za1
theorem zjh {xs ys:List D}:Wo (zbe (.tup xs) (.tup ys) S) Q=(xs.length+ys.length<=sizeLine/\Q (.tup (xs++ys)) S):=zfo
theorem zud {n m:Nat}{xs ys:List D}(h1:S[n]? = some (.lst xs)) (h2:S[m]? = some (.lst ys)):Wo (zbe (.ref n) (.ref m) S) Q=(xs.length+ys.length<=sizeLine/\Q (.ref S.length) (S++[.lst (xs++ys)])):=by
 show Wo (match S[n]?,S[m]? with|some (.lst xs),some (.lst ys)=>if xs.length+ys.length<=sizeLine then some (.ref S.length,S++[.lst (xs++ys)]) else none|_,_=>none) Q=_
 rw [h1,h2];exact zfo
theorem zod {k:Bool}:Wo (zi0 [.bl k] S) Q=Q (.int (if k then 1 else 0)) S:=za1
def Wp (o:OM) (l:Lo) (S:Sto) (Q:Option Int->Sto->Prop):Prop:=∃v S',o l S=some (v,S')/\Q v S'
theorem zlc {Q:Option Int->Sto->Prop}:Wp zhe l S Q=Q none S:=by
 apply propext
 exact ⟨λhx1_=>by obtain ⟨v,S',h,q⟩:=hx1_;cases h;exact q,λq=>⟨_,_,rfl,q⟩⟩
theorem zld {e:EM}{Q:Option Int->Sto->Prop}:Wp (zf8 e) l S Q=We e l S λx S1=>∃i,x=.int i/\Q (some i) S1:=by
 apply propext
 constructor
 ·rintro ⟨v,S',h,q⟩
  obtain ⟨⟨x,S1⟩,h1,h⟩:=bnd h
  refine ⟨x,S1,h1,?_⟩
  cases x with
  | int i=>cases h;exact ⟨i,rfl,q⟩
  | _=>cases h
 ·rintro ⟨x,S1,h1,i,rfl,q⟩
  exact ⟨_,S1,by unfold zf8;rw [h1];rfl,q⟩
noncomputable def slA (x:D) (a b:Option Int) (S:Sto):Option (D × Sto):=match x with
 | .tup xs=>some (.tup (cutD xs a b),S)
 | .ref n=>(lstOf S n).bind λxs=>some (.ref S.length,S++[.lst (cutD xs a b)])
 | .str z=>if z.length<=sizeLine then some (.str (Txt.slice z a b),S) else none
 | _=>none
theorem zle {m:EM}{lo hi:OM}:We (zgj m lo hi) l S Q=We m l S λx S1=>Wp lo l S1 λa S2=>Wp hi l S2 λb S3=>Wo (slA x a b S3) Q:=by
 apply propext
 constructor
 ·rintro ⟨v,S',h,q⟩
  obtain ⟨⟨x,S1⟩,h1,h⟩:=bnd h
  obtain ⟨⟨a,S2⟩,h2,h⟩:=bnd h
  obtain ⟨⟨b,S3⟩,h3,h⟩:=bnd h
  exact ⟨x,S1,h1,a,S2,h2,b,S3,h3,v,S',h,q⟩
 ·rintro ⟨x,S1,h1,a,S2,h2,b,S3,h3,v,S',h,q⟩
  refine ⟨v,S',?_,q⟩
  unfold zgj;rw [h1];show (lo l S1).bind _=_;rw [h2];show (hi l S2).bind _=_;rw [h3];exact h
theorem zlf {xs:List D}{a b:Option Int}:Wo (slA (.tup xs) a b S) Q=Q (.tup (cutD xs a b)) S:=za1
end
section
variable {it:ItM}{im:IM}{g:GM}{b:SM}
theorem zue (xs:List D) (P:Nat->Lo->Sto->Prop) (O:D->Sto->Prop) (hit:∀i l S,P i l S->it i S=some xs[i]?)
  (step:∀(i:Nat) x l S,xs[i]? = some x->P i l S->Wg (g x l S) λl1 S1=>Ws b l1 S1 λf l2 S2=>((f=.nx\/f=.ct)/\P (i+1) l2 S2)\/∃d,f=.rt d/\O d S2) :
  ∀(n i:Nat) (l:Lo) (S:Sto),n+i=xs.length->P i l S->Wr (zd7 it g b (n+1) i l S) λf l' S'=>(f=.nx/\P xs.length l' S')\/∃d,f=.rt d/\O d S'
 | 0,i,l,S,hn,h=>by
  have hi:i=xs.length:=by omega
  have e0:=hit i l S h
  rw [List.getElem?_eq_none_iff.mpr (by omega)] at e0
  refine ⟨.nx,l,S,?_,.inl ⟨rfl,by rw [<-hi];exact h⟩⟩
  unfold zd7;rw [e0];rfl
 | n+1,i,l,S,hn,h=>by
  have hi:i<xs.length:=by omega
  have e0:=hit i l S h
  rw [qge hi] at e0
  obtain ⟨l1,S1,e1,f,l2,S2,e2,q⟩:=step i _ l S (qge hi) h
  rcases q with ⟨hf,h1⟩|⟨d,rfl,hd⟩
  ·obtain ⟨f',l',S',e3,q1⟩:=zue xs P O hit step n (i+1) l2 S2 (by omega) h1
   refine ⟨f',l',S',?_,q1⟩
   unfold zd7;rw [e0];show (g _ l S).bind _=_;rw [e1];show (b l1 S1).bind _=_;rw [e2]
   rcases hf with rfl|rfl <;> exact e3
  ·refine ⟨_,l2,S2,?_,.inr ⟨d,rfl,hd⟩⟩
   unfold zd7;rw [e0];show (g _ l S).bind _=_;rw [e1];show (b l1 S1).bind _=_;rw [e2];rfl
theorem zuf (xs:List D) (P:Nat->Lo->Sto->Prop) (O:D->Sto->Prop) {l:Lo}{S S1:Sto}{QS:Fl->Lo->Sto->Prop}(him:im l S=some (it,xs.length+1,S1)) (h0:P 0 l S1) (hit:∀i l S,P i l S->it i S=some xs[i]?)
  (step:∀(i:Nat) x l S,xs[i]? = some x->P i l S->Wg (g x l S) λl1 S1=>Ws b l1 S1 λf l2 S2=>((f=.nx\/f=.ct)/\P (i+1) l2 S2)\/∃d,f=.rt d/\O d S2)
  (fin:∀l' S',P xs.length l' S'->QS .nx l' S') (out:∀d l' S',O d S'->QS (.rt d) l' S'):Ws (zix im g b) l S QS:=by
 obtain ⟨f,l',S',e,q⟩:=zue (it:=it) (g:=g) (b:=b) xs P O hit step xs.length 0 l S1 rfl h0
 refine ⟨f,l',S',by unfold zix;rw [him];exact e,?_⟩
 rcases q with ⟨rfl,h⟩|⟨d,rfl,h⟩
 ·exact fin l' S' h
 ·exact out d l' S' h
theorem ygr {e:EM}(xs:List D) (P:Nat->Lo->Sto->Prop) (O:D->Sto->Prop) {l:Lo}{S S1:Sto}{QS:Fl->Lo->Sto->Prop}(he:e l S=some (.tup xs,S1)) (h0:P 0 l S1)
  (step:∀(i:Nat) x l S,xs[i]? = some x->P i l S->Wg (g x l S) λl1 S1=>Ws b l1 S1 λf l2 S2=>((f=.nx\/f=.ct)/\P (i+1) l2 S2)\/∃d,f=.rt d/\O d S2)
  (fin:∀l' S',P xs.length l' S'->QS .nx l' S') (out:∀d l' S',O d S'->QS (.rt d) l' S'):Ws (ziq e g b) l S QS:=by
 rw [ya6]
 refine ⟨_,_,he,?_⟩
 refine (zoc P O xs 0 l S1 h0 ?_).mono ?_
 ·intro i x l S hx hp
  rw [Nat.zero_add] at hp ⊢
  exact step i x l S hx hp
 ·rintro f l' S' (⟨rfl,hp⟩|⟨d,rfl,hd⟩)
  ·rw [Nat.zero_add] at hp;exact fin l' S' hp
  ·exact out d l' S' hd
end
theorem zoe (B:Nat):∀ts:List Str,(∀t∈ts,t.length<=B)->(ts.map (·.length)).sum<=B*ts.length
 | [],_=>Nat.zero_le _
 | t :: ts,h=>by
  have h1:=h t List.mem_cons_self
  have h2:=zoe B ts λx hx=>h x (List.mem_cons_of_mem _ hx)
  simp only [List.map_cons,List.sum_cons,List.length_cons]
  rw [Nat.mul_add];omega
theorem zug (xs:List PyData):PyData.shownAll xs=xs.map PyData.shown:=by
 induction xs with
 | nil=>rfl
 | cons x xs ih=>unfold PyData.shownAll;rw [ih];rfl
theorem ygs (B:Nat) (xs:List PyData) (h:∀x∈xs,x.shown.length<=B):(PyData.list xs).shown.length<=B*xs.length+2*xs.length+3:=by
 show (listText (PyData.shownAll xs)).length<=_
 rw [zug]
 have h1:=listText_len_le (xs.map PyData.shown)
 have h2:=zoe B (xs.map PyData.shown) λt ht=>by
  obtain ⟨p,hp,rfl⟩:=List.mem_map.mp ht
  exact h p hp
 simp only [qlm] at h1 h2
 omega
theorem zof (B:Nat) (xs:List PyData) (h:∀x∈xs,x.shown.length<=B):(PyData.tuple xs).shown.length<=B*xs.length+2*xs.length+3:=by
 show (tupleText (PyData.shownAll xs)).length<=_
 rw [zug]
 have h1:=tupleText_len_le (xs.map PyData.shown)
 have h2:=zoe B (xs.map PyData.shown) λt ht=>by
  obtain ⟨p,hp,rfl⟩:=List.mem_map.mp ht
  exact h p hp
 simp only [qlm] at h1 h2
 omega
def Sh (S:Sto) (k B:Nat) (d:D):Prop:=∃p:PyData,p.shown.length<=B/\∀S',Gr S S'->zaw S' k d=some p
theorem Sh.le {S:Sto}{k B B':Nat}{d:D}(h:Sh S k B d) (hb:B<=B'):Sh S k B' d:=let ⟨p,h1,h2⟩:=h;⟨p,Nat.le_trans h1 hb,h2⟩
theorem zuh {S:Sto}{k B:Nat}:∀(xs:List D),(∀x∈xs,Sh S k B x)->∃ps:List PyData,ps.length=xs.length/\(∀p∈ps,p.shown.length<=B)/\∀S',Gr S S'->pyAll S' k xs=some ps
 | [],_=>⟨[],rfl,(λp hp=>by cases hp),λex _=>by unfold pyAll;rfl⟩
 | x :: xs,h=>by
  obtain ⟨p,h1,h2⟩:=h x List.mem_cons_self
  obtain ⟨ps,h3,h4,h5⟩:=zuh xs λy hy=>h y (List.mem_cons_of_mem _ hy)
  refine ⟨p :: ps,by simp [h3],λq hq=>?_,λex g=>?_⟩
  ·rcases List.mem_cons.mp hq with rfl|hq
   ·exact h1
   ·exact h4 q hq
  ·unfold pyAll;rw [h2 ex g,h5 ex g];rfl
theorem zh0 {S:Sto}{k B n:Nat}{xs:List D}(h:∀x∈xs,Sh S k B x) (hn:xs.length<=n):Sh S (k+1) (B*n+2*n+3) (.tup xs):=by
 obtain ⟨ps,h1,h2,h3⟩:=zuh xs h
 refine ⟨.tuple ps,?_,λex g=>?_⟩
 ·have:=zof B ps h2
  rw [h1] at this
  have h4:B*xs.length<=B*n:=Nat.mul_le_mul_left _ hn
  omega
 ·unfold zaw;rw [h3 ex g];rfl
theorem zog {n:Nat}(h:n<1000000):((n:Nat):Int).natAbs.log2<1920:=by
 by_cases hz:n=0
 ·subst hz;decide
 ·have h1:((n:Nat):Int).natAbs=n:=by omega
  rw [h1]
  have h2:n.log2<20:=(Nat.log2_lt hz).mpr (Nat.lt_of_lt_of_le h (by decide))
  omega
theorem zoh {S:Sto}{k n:Nat}(h:n<1000000):Sh S (k+1) 10 (.int n):=by
 refine ⟨.int n,?_,λex _=>by unfold zaw;rw [if_pos (zog h)]⟩
 show (PySem.Str.ofString (toString (n:Int))).length<=10
 exact PySem.W.KT.len_num (by omega) (by omega)
theorem ygt {S:Sto}{k:Nat}:Sh S (k+1) 10 .non:=⟨.none,by decide +kernel,λex _=>by unfold zaw;rfl⟩
section
variable {l:Lo}{S:Sto}{Q:D->Sto->Prop}{QG:Lo->Sto->Prop}{a b c:EM}
theorem ygu {x y:D}:Wo (zgm x y S) Q = ∃v,dRd S x y=some (some v)/\Q v S:=by
 unfold zgm
 rw [zd4]
 apply propext
 constructor
 ·rintro ⟨o,h,q⟩
  rw [zd4] at q
  obtain ⟨v,rfl,q⟩:=q
  rw [za1] at q
  exact ⟨v,h,q⟩
 ·rintro ⟨v,h,q⟩
  exact ⟨_,h,by rw [zd4];exact ⟨v,rfl,by rw [za1];exact q⟩⟩
theorem zlg {o i:EM}{v:D}:Wg (zi4 o i v l S) QG=We o l S λx S1=>We i l S1 λy S2=>∃S',zgn x y v S2=some S'/\QG l S':=by
 apply propext
 constructor
 ·rintro ⟨l',S',h,q⟩
  obtain ⟨⟨x,S1⟩,h1,h⟩:=bnd h
  obtain ⟨⟨y,S2⟩,h2,h⟩:=bnd h
  obtain ⟨S3,h3,h⟩:=bnd h
  cases h
  exact ⟨x,S1,h1,y,S2,h2,_,h3,q⟩
 ·rintro ⟨x,S1,h1,y,S2,h2,S3,h3,q⟩
  refine ⟨l,S3,?_,q⟩
  unfold zi4;rw [h1];show (i l S1).bind _=_;rw [h2];show (zgn x y v S2).bind _=_;rw [h3];rfl
end
theorem zdi {m n:SM}{l l':Lo}{S S':Sto}{QS:Fl->Lo->Sto->Prop}(h1:Ws m l S λf l1 S1=>f=.nx/\l1=l'/\S1=S') (h2:Ws n l' S' QS):Ws (zaj m n) l S QS:=by
 rw [zcw]
 obtain ⟨f,l1,S1,e,rfl,rfl,rfl⟩:=h1
 exact ⟨_,_,_,e,h2⟩
theorem zlh {m n:SM}{l:Lo}{S:Sto}{QS:Fl->Lo->Sto->Prop}(R:Lo->Sto->Prop) (O:D->Sto->Prop) (h1:Ws m l S λf l1 S1=>(f=.nx/\R l1 S1)\/∃d,f=.rt d/\O d S1) (h2:∀l1 S1,R l1 S1->Ws n l1 S1 QS) (h3:∀d l1 S1,O d S1->QS (.rt d) l1 S1):Ws (zaj m n) l S QS:=by
 rw [zcw]
 obtain ⟨f,l1,S1,e,q⟩:=h1
 rcases q with ⟨rfl,r⟩|⟨d,rfl,o⟩
 ·exact ⟨_,_,_,e,h2 l1 S1 r⟩
 ·exact ⟨_,_,_,e,h3 d l1 S1 o⟩
theorem Gr.len {A B:Sto}(h:Gr A B):A.length<=B.length:=by obtain ⟨x,rfl⟩:=h;rw [qla];omega
theorem Gr.set {A B:Sto}{r:Nat}(h:Gr A B) (hr:A.length<=r) (o:Ob):Gr A (B.set r o):=by
 obtain ⟨x,rfl⟩:=h
 exact ⟨x.set (r-A.length) o,by rw [List.set_append_right _ _ hr]⟩
theorem zli {S:Sto}{n:Nat}{o o':Ob}(h:S[n]? = some o):(S++[o'])[n]? = some o:=by
 rw [List.getElem?_append_left (qme h).1];exact h
theorem zh1 {S:Sto}{n m:Nat}{o o':Ob}(h:S[m]? = some o) (hn:n≠m):(S.set n o')[m]? = some o:=by rw [List.getElem?_set_ne hn];exact h
theorem zoi {S:Sto}{n:Nat}{xs:List D}{x:D}{Q:D->Sto->Prop}(h:S[n]? = some (.lst xs)) (hz:xs.length<sizeLine):Wo (zd2 (.ref n) [x] S) Q=Q .non (S.set n (.lst (xs++[x]))):=by
 rw [ziv,h]
 apply propext
 constructor
 ·rintro ⟨ys,e,_,q⟩;cases e;exact q
 ·exact λq=>⟨xs,rfl,hz,q⟩
end L3
section
namespace G
open PySem PySem.Spec PyProof.Rows L2 L3
noncomputable abbrev bd:List Stmt:=PySem.Challenge.pw_opencells_k43_what_nets_are_asked.main.body
noncomputable def zui:SM:=zaj (sIf (zcb (zck (tE (eUn (zcl "tuple") (zaa 0)))) (tE (eOp dNe (zaf zbl (zab (zaa 0) (zae))) (zaa 1)))) (za4 (eC (.bl false))) (zbg)) (zaj (ziq (zaa 0) (zal 3) (sIf (zcb (zck (tE (eUn (zcl "int") (zaa 3)))) (zcb (tE (eUn (zcl "bool") (zaa 3))) (zcb (tE (eOp dLt (zaa 3) (eC (.int 0)))) (tE (eOp dGe (zaa 3) (eOp zcp (eC (.int 1)) (zaa 2))))))) (za4 (eC (.bl false))) (zbg))) (za4 (eOp dEq (zaf zbl (zab (zco (zd3 (zaa 0)) [none,some 0] (zal 0) (tE (eOp dGt (zgr zhw (zaa 1) (zab (zaa 0) zae)) (eC (.int 1)))) (zaa 0)) (zae))) (eC (.int 0)))))
noncomputable def zji:FM:=zbq 4 zui
noncomputable def zuj:SM:=za4 (eOp zrz (eOp zry (zaa 0) (zaa 1)) (eC (.int 1)))
noncomputable def zgz:FM:=zbq 2 zuj
noncomputable def zuk:SM:=zaj (zaq (zaf zi8 (zab (zaa 0) (zae))) (zal 2)) (zaj (zaq (zco (zd3 (zaa 2)) [none,some 0,some 1] (zal 0) (tE (eOp dEq (zaf zgz (zab (eOp zgm (zaa 1) (zaa 0)) (zab (zaa 2) (zae)))) (eC (.int 1)))) (zaa 0)) (zal 3)) (zaj (zaq (zco (zd3 (zaa 2)) [none,some 0,some 1] (zal 0) (tE (eOp dEq (zaf zgz (zab (eOp zgm (zaa 1) (zaa 0)) (zab (zaa 2) (zae)))) (eC (.int 0)))) (zaa 0)) (zal 4)) (za4 (zaf zbs (zab (zaf zd1 (zab (zaa 3) (zae))) (zab (zaf zd1 (zab (zaa 4) (zae))) (zae)))))))
noncomputable def zft:FM:=zbq 5 zuk
noncomputable def zul:SM:=zaj (zaq (zaa 0) (zdn 2 (zb7 (zal 1) (zb7 (zal 2) (zdm))))) (zaj (sIf (tE (eOp dGt (zaf zbl (zab (zaa 2) (zae))) (eC (.int 8)))) (zkc) (zbg)) (za4 (zaf zbs (zab (zaf zin (zab (eC (.int 1)) (zab (eUn zk4 (eOp zf7 (zaf zbl (zab (zaa 2) (zae))) (eC (.int 1)))) (zae)))) (zab (eUn zk4 (eOp zf7 (zaa 1) (eC (.int 1)))) (zae))))))
noncomputable def zee:FM:=zbq 3 zul
noncomputable def zoj:ZM:=zi1 (zaq (zaa 0) (zdn 2 (zb7 (zal 1) (zb7 (zal 2) (zdm))))) (zIf (tE (eOp dGt (zaf zbl (zab (zaa 2) (zae))) (eC (.int 8)))) (λ_ S=>some ("TooMany",S)) (zkx))
noncomputable def zc4:ZF:=zdh 3 zoj
noncomputable def zjj:SM:=za4 (zfi (eUn (zcl "int") (zaa 0)) (zfi (zj6 (eUn (zcl "bool") (zaa 0))) (zha dLe dLt (eC (.int 0)) (zaa 0) (zaa 1))))
noncomputable def zc5:FM:=zbq 2 zjj
noncomputable def zok:SM:=zaj (sIf (zcb (zck (tE (eUn (zcl "tuple") (zaa 0)))) (tE (eOp dNe (zaf zbl (zab (zaa 0) (zae))) (zaa 1)))) (za4 (eC (.bl false))) (zbg)) (za4 (zfi (zaf zho (zab (zco (zd3 (zaa 0)) [none,some 2] (zal 0) (ze4) (zaf zc5 (zab (zaa 0) (zab (zaa 1) (zae))))) (zae))) (eOp dEq (zaf zgt (zab (zaf zgs (zab (zaa 0) (zae))) zae)) (zaa 1))))
noncomputable def zfu:FM:=zbq 3 zok
noncomputable def zol:SM:=za4 (zaf zfu (zab (zaa 1) (zab (zaf zbl (zab (eOp za3 (zaa 0) (eC (.int 1))) (zae))) (zab (eOp zcp (eC (.int 1)) (eOp za3 (zaf zee (zab (zaa 0) (zae))) (eC (.int 0)))) (zae)))))
noncomputable def zef:FM:=zbq 2 zol
noncomputable def zom:ZM:=zgk (zaa 1) (zgk (zaf zbl (zab (eOp za3 (zaa 0) (eC (.int 1))) (zae))) (zgk (eC (.int 1)) (zd9 zc4 (zab (zaa 0) (zae)))))
noncomputable def zdw:ZF:=zdh 2 zom
noncomputable def zum:SM:=sIf (zck (tE (zaf zef (zab (zaa 0) (zab (zaa 1) (zae)))))) (zkc) (zbg)
noncomputable def zg0:FM:=zbq 2 zum
noncomputable def zon:ZM:=zOr (zd9 zdw (zab (zaa 0) (zab (zaa 1) (zae)))) (zIf (zck (tE (zaf zef (zab (zaa 0) (zab (zaa 1) (zae)))))) (λ_ S=>some ("NoWords",S)) (zkx))
noncomputable def zdx:ZF:=zdh 2 zon
noncomputable def zun:SM:=zaj (zdl (zaf zg0 (zab (zaa 0) (zab (zaa 1) (zae))))) (zaj (zaq (eOp za3 (zaf zee (zab (zaa 0) (zae))) (eC (.int 0))) (zal 2)) (zaj (zaq (zhp) (zal 3)) (zaj (zaq (zhp) (zal 4)) (zaj (zix (zk3 (zab (zaa 1) (zab (eOp za3 (zaa 0) (eC (.int 1))) (zae)))) (zdn 2 (zb7 (zal 5) (zb7 (zal 6) (zdm)))) (zix (zkt (zab (zaa 6) (zae))) (zdn 2 (zb7 (zal 7) (zb7 (zdn 2 (zb7 (zal 8) (zb7 (zal 9) (zdm)))) (zdm)))) (zaj (zaq (eOp zbe (zaa 5) (eOp zcp (zaa 7) (zaa 2))) (zal 10)) (zaj (sIf (tE (eOp zfk (zaa 8) (eC .non))) (zaq (eOp za3 (zaa 1) (zaa 8)) (zi4 (zaa 3) (zaa 10))) (zbg)) (sIf (tE (eOp zfk (zaa 9) (eC .non))) (zaq (zaa 9) (zi4 (zaa 4) (zaa 10))) (zbg)))))) (za4 (eOp zbe (zco (zga (zby (zab (zaa 2) (zae)))) [none,some 3] (zal 0) (ze4) (zaf zft (zab (zaa 1) (zab (zaa 0) (zae))))) (zco (zga (zby (zab (eC (.int 3)) (zae)))) [none,some 4] (zal 0) (ze4) (zaf zft (zab (zaa 1) (zab (zaa 0) (zae)))))))))))
noncomputable def zjk:FM:=zbq 11 zun
noncomputable def zuo:ZM:=zOr (zd9 zdx (zab (zaa 0) (zab (zaa 1) (zae)))) (zi1 (zdl (zaf zg0 (zab (zaa 0) (zab (zaa 1) (zae))))) (zd9 zc4 (zab (zaa 0) (zae))))
noncomputable def zg1:ZF:=zdh 11 zuo
noncomputable def zup:SM:=za4 (zaf zbs (zab (eOp za3 (zaf zb4 (zab (eC (.int 1)) (zab (eC (.int 1)) (zab (eC (.int 2)) (zab (eC (.int 2)) (zab (eC (.int 3)) (zab (eC (.int 3)) (zab (eC (.int 3)) (zab (eC (.int 3)) (zae)))))))))) (eOp zf7 (zaf zbl (zab (eOp za3 (zaa 0) (eC (.int 1))) (zae))) (eC (.int 1)))) (zab (eOp za3 (zaf zb4 (zab (eC (.int 0)) (zab (eC (.int 1)) (zab (eC (.int 2)) (zab (eC (.int 2)) (zae)))))) (eOp zf7 (eOp za3 (zaa 0) (eC (.int 0))) (eC (.int 1)))) (zae))))
noncomputable def zg2:FM:=zbq 1 zup
noncomputable def zuq:SM:=zaj (zaq (zaf zg2 (zab (zaa 0) (zae))) (zdn 2 (zb7 (zal 2) (zb7 (zal 3) (zdm))))) (zaj (zaq (zaf zb4 (zae)) (zal 4)) (zaj (zem (zby (zab (eOp zbe (zaa 2) (eC (.int 3))) (zae))) (zal 5) (zaj (zaq (zaf zb4 (zab (zaf zb4 (zae)) (zab (zaf zb4 (zae)) (zae)))) (zal 6)) (zaj (zem (zby (zab (eOp zcp (eC (.int 1)) (eOp zbe (zaa 2) (zaa 3))) (zae))) (zal 7) (zaj (zaq (eOp zb6 (zaa 7) (eOp zcp (eC (.int 1)) (zaa 2))) (zal 8)) (zaj (zaq (eOp ze0 (zaa 7) (eOp zcp (eC (.int 1)) (zaa 2))) (zal 9)) (sIf (zf1 (tE (eOp (dIn false) (zaa 8) (zaa 1))) (tE (eOp dLt (zaa 9) (eOp za3 (zaa 0) (eC (.int 0)))))) (zaj (zaq (eOp za3 (eOp za3 (eOp za3 (zaa 0) (eC (.int 1))) (zgr zi7 (zaa 1) (zab (zaa 8) zae))) (zaa 9)) (zdn 2 (zb7 (zal 10) (zb7 (zal 11) (zdm))))) (zaj (zaq (eOp zf7 (zaa 5) (zaa 2)) (zal 12)) (zaj (sIf (tE (eOp dLt (zaa 5) (zaa 2))) (zaj (zaq (zaa 5) (zal 12)) (zaj (zaq (eC .non) (zal 11)) (sIf (tE (eOp zfk (zaa 10) (eC .non))) (zaq (eOp za3 (zaa 1) (zaa 10)) (zal 11)) (zbg)))) (zbg)) (sIf (tE (eOp zfk (zaa 11) (eC .non))) (zdl (zci zd2 (eOp za3 (zaa 6) (eOp zb6 (eOp ze0 (zaa 11) (eOp zcp (eC (.int 1)) (zaa 12))) (eC (.int 2)))) (zab (zaa 7) zae))) (zbg))))) (zbg))))) (zdl (zci zd2 (zaa 4) (zab (zaf zbs (zab (zaf zd1 (zab (eOp za3 (zaa 6) (eC (.int 1))) (zae))) (zab (zaf zd1 (zab (eOp za3 (zaa 6) (eC (.int 0))) (zae))) (zae)))) zae)))))) (za4 (zaa 4))))
noncomputable def zjl:FM:=zbq 13 zuq
noncomputable def zur:SM:=zaj (zaq (zaf zes (zab (zaf zjl (zab (zaa 0) (zab (zaa 1) (zae)))) (zae))) (zal 2)) (zaj (zaq (zaf zes (zab (zaf zbs (zab (zaa 0) (zab (zaa 1) (zae)))) (zae))) (zal 3)) (zaj (zem (zby (zab (eC (.int 2)) (zae))) (zal 4) (zaj (zaq (zaf zjk (zab (zaa 0) (zab (zaa 1) (zae)))) (zal 5)) (zaj (sIf (zcb (tE (eOp dNe (zaf zes (zab (zaa 5) (zae))) (zaa 2))) (tE (eOp dNe (zaf zes (zab (zaf zbs (zab (zaa 0) (zab (zaa 1) (zae)))) (zae))) (zaa 3)))) (za4 (eC (.bl false))) (zbg)) (zaj (zdl (zci zhf (zaa 5) zae)) (zdl (zci zd2 (zaa 5) (zab (eC .non) zae))))))) (za4 (eC (.bl true)))))
noncomputable def zh2:FM:=zbq 6 zur
noncomputable def zus:SM:=zaj (zaq (zaf zb4 (zab (eUn (zdu [("TooMany",true),("NoWords",false)]) (zaa 0)) (zab (eUn (zdu [("TooMany",false),("NoWords",true)]) (zaa 0)) (zab (eUn (zdu [("TooMany",false),("NoWords",false)]) (zaa 0)) (zae))))) (zal 1)) (zaj (zdl (zci zd2 (zaa 1) (zab (eUn (zdu [("TooMany",false),("NoWords",false)]) (zaa 0)) zae))) (zaj (sIf (zcb (zck (tE (eUn (zdu [("TooMany",true),("NoWords",true)]) (zaa 0)))) (tE (eOp dNe (zci zgx (zaa 1) (zab (eC (.bl true)) zae)) (eC (.int 1))))) (za4 (eC (.str "other"))) (zbg)) (za4 (eOp za3 (zaf zb4 (zab (eC (.str "many")) (zab (eC (.str "words")) (zab (eC (.str "other")) (zab (eC (.str "other")) (zae)))))) (zci zgq (zaa 1) (zab (eC (.bl true)) zae))))))
noncomputable def zjm:FM:=zbq 2 zus
noncomputable def zut:SM:=zaj (zaq (eC .non) (zal 1)) (zaj (zaq (eC .non) (zal 2)) (zaj (zi2 3 (λc=>c == "TooMany" || c == "NoWords") zkc (zhu 0 [(zfs "law" "tables" ⟨193,34,193,40⟩ ⟨193,34,193,71⟩ [("_law_machine_here",⟨193,41,193,58⟩),("_law_thing",⟨193,60,193,70⟩)] [("_law_machine_here",.free),("_law_thing",.free),("tables",.globalImplicit)]),(zfs "law" "tables" ⟨203,32,203,38⟩ ⟨203,32,203,69⟩ [("_law_machine_here",⟨203,39,203,56⟩),("_law_thing",⟨203,58,203,68⟩)] [("_law_machine_here",.free),("_law_thing",.free),("tables",.globalImplicit)])] [("tables",2,zg1)]) (zaq (zaa 3) (zal 1))) (zaj (sIf (tE (eOp dIs (zaa 1) (eC .non))) (za4 (zaf zbs (zab (eC (.str "told")) (zab (zaa 2) (zae))))) (zbg)) (za4 (zaf zbs (zab (eC (.str "refused")) (zab (zaf zjm (zab (zaa 1) (zae))) (zae))))))))
noncomputable def zg3:FM:=zbq 4 zut
noncomputable def zuu:SM:=zaj (sIf (tE (eOp dGt (eOp zcq (zaa 0) (eC (.str "left"))) (eC (.int 0)))) (zaj (zaq (eOp zb6 (eOp zcq (zaa 0) (eC (.str "left"))) (zaa 1)) (zal 2)) (zaj (zaq (eOp ze0 (eOp zcq (zaa 0) (eC (.str "left"))) (zaa 1)) (zhs (zaa 0) (eC (.str "left")))) (za4 (zaa 2)))) (zbg)) (zaj (zaq (eOp zcq (zaa 0) (eC (.str "at"))) (zal 3)) (zaj (zaq (eOp zbe (zaa 3) (eC (.int 1))) (zhs (zaa 0) (eC (.str "at")))) (zaj (zaq (eOp zbe (eOp zdt (eOp zdt (eC (.int 977)) (zaa 3)) (zaa 3)) (eC (.int 31))) (zal 4)) (zaj (sIf (tE (eOp dGt (zaf zbl (zab (eOp zcq (zaa 0) (eC (.str "cells"))) (zae))) (eC (.int 0)))) (zaj (zaq (eOp za3 (eOp zcq (zaa 0) (eC (.str "cells"))) (eOp zb6 (zaa 3) (zaf zbl (zab (eOp zcq (zaa 0) (eC (.str "cells"))) (zae))))) (zal 4)) (sIf (zf1 (tE (eOp dLt (zaa 3) (zaf zbl (zab (eOp zcq (zaa 0) (eC (.str "cells"))) (zae))))) (tE (eOp dGe (zaf zf9 (zab (zaa 4) (zae))) (eOp ze1 (eC (.int 10)) (eC (.int 18)))))) (zaj (zaq (eOp ze0 (zaf zf9 (zab (zaa 4) (zae))) (zaa 1)) (zhs (zaa 0) (eC (.str "left")))) (za4 (eOp zb6 (zaf zf9 (zab (zaa 4) (zae))) (zaa 1)))) (zbg))) (zbg)) (zaj (zaq (eOp za3 (zaf zbs (zab (eC (.int 2147483647)) (zab (eC (.int 2147483629)) (zab (eC (.int 2147483587)) (zab (eC (.int 2147483579)) (zab (eC (.int 2147483563)) (zab (eC (.int 2147483549)) (zab (eC (.int 2147483543)) (zae))))))))) (eOp zb6 (zaa 3) (eC (.int 7)))) (zal 5)) (zaj (zaq (eOp zb6 (eOp ze1 (eOp zbe (eOp zbe (eOp zb6 (zaa 4) (eC (.int 2147483497))) (eOp zdt (eC (.int 69621)) (zaa 3))) (eC (.int 7))) (eC (.int 3))) (zaa 5)) (zal 6)) (zaj (zaq (eOp zb6 (eOp ze1 (eOp zbe (eOp zdt (zaa 6) (eOp zbe (zaa 3) (eC (.int 3)))) (eC (.int 11))) (eC (.int 5))) (eC (.int 2147483489))) (zal 6)) (za4 (eOp zb6 (eOp ze0 (zaa 6) (eC (.int 13))) (zaa 1))))))))))
noncomputable def zb0:FM:=zbq 7 zuu
noncomputable def zuv:SM:=zaj (zaq (zaf zb0 (zab (zaa 0) (zab (eC (.int 15)) (zae)))) (zal 3)) (zaj (zaq (zaf zb0 (zab (zaa 0) (zab (zaf zbl (zab (zaa 1) (zae))) (zae)))) (zal 4)) (zaj (zaq (eOp za3 (zaa 1) (zaf zb0 (zab (zaa 0) (zab (zaf zbl (zab (zaa 1) (zae))) (zae))))) (zal 5)) (zaj (zaq (eOp za3 (zaf zb4 (zab (eC .non) (zab (eC (.bl true)) (zab (eC (.str "")) (zab (eC (.int 0)) (zab (zhp) (zab (zaf zb4 (zae)) (zab (eC (.str "01")) (zab (zaf zbs (zab (zaf zbs (zab (eC (.int 0)) (zae))) (zab (zaf zbs (zab (eC (.int 1)) (zae))) (zae)))) (zab (zaf zbs (zab (eC .non) (zae))) (zab (zaf zbs (zab (eC (.str "0")) (zae))) (zae)))))))))))) (zaf zb0 (zab (zaa 0) (zab (eC (.int 10)) (zae))))) (zal 6)) (zaj (sIf (tE (eOp dEq (zaa 3) (eC (.int 0)))) (za4 (zaf zim (zab (zaa 1) (zae)))) (zbg)) (zaj (sIf (tE (eOp dEq (zaa 3) (eC (.int 1)))) (za4 (eOp zbe (zgj (zaa 1) (zhe) (zf8 (zaa 4))) (zgj (zaa 1) (zf8 (eOp zbe (zaa 4) (eC (.int 1)))) (zhe)))) (zbg)) (zaj (sIf (tE (eOp dEq (zaa 3) (eC (.int 2)))) (za4 (eOp zbe (zaa 1) (zaf zbs (zab (zaa 5) (zae))))) (zbg)) (zaj (sIf (tE (eOp dEq (zaa 3) (eC (.int 3)))) (za4 (zaa 6)) (zbg)) (zaj (zaq (eOp za3 (zaa 1) (zaa 4)) (zal 7)) (zaj (zaq (zaf zb4 (zab (zaa 5) (zab (eOp zcp (eC (.int 1)) (zaa 2)) (zab (eUn zne (eC (.int 1))) (zab (eOp dEq (zaa 7) (eC (.int 1))) (zab (eOp dEq (zaa 7) (eC (.int 1))) (zab (zaf zhq (zab (zaa 7) (zae))) (zab (zaf zbs (zab (zaa 7) (zae))) (zab (eOp zbe (zaa 7) (eOp ze1 (eC (.int 10)) (eC (.int 30)))) (zae)))))))))) (zal 8)) (zaj (zaq (eOp zbe (zaa 8) (zaf zb4 (zab (zaf zb4 (zab (zaa 7) (zae))) (zab (zhp) (zab (zgy 7 0) (zae)))))) (zal 8)) (za4 (eOp zbe (eOp zbe (zgj (zaa 1) (zhe) (zf8 (zaa 4))) (zaf zbs (zab (eOp za3 (zaa 8) (eOp zf7 (zaa 3) (eC (.int 4)))) (zae)))) (zgj (zaa 1) (zf8 (eOp zbe (zaa 4) (eC (.int 1)))) (zhe))))))))))))))
noncomputable def zjn:FM:=zbq 9 zuv
noncomputable def zuw:SM:=zaj (zaq (znd (zby (zab (eOp zcp (eC (.int 1)) (zaa 2)) (zae)))) (zal 3)) (za4 (zaf zd1 (zab (zco (zga (zby (zab (zaa 1) (zae)))) [none,some 3,some 0] (zal 0) (ze4) (zci zgg (zaa 1) (zab (zaf zb0 (zab (zaa 2) (zab (zaf zbl (zab (zaa 1) (zae))) (zae)))) zae))) (zae))))
noncomputable def zjo:FM:=zbq 4 zuw
noncomputable def zux:SM:=zaj (zaq (eOp za3 (zaf zb4 (zab (eC (.int 0)) (zab (eC (.int 1)) (zab (eC (.int 4)) (zab (eC (.int 7)) (zae)))))) (zaf zb0 (zab (zaa 0) (zab (eC (.int 4)) (zae))))) (zal 3)) (zaj (zaq (eOp za3 (zaf zb4 (zab (eC (.int 2)) (zab (eC (.int 3)) (zab (eC (.int 8)) (zab (eC (.int 8)) (zae)))))) (zaf zb0 (zab (zaa 0) (zab (eC (.int 4)) (zae))))) (zal 4)) (zaj (zaq (zaf zb4 (zae)) (zal 5)) (zaj (zem (zby (zab (zaa 1) (zae))) (zal 6) (zaj (zaq (zaf zb4 (zae)) (zal 7)) (zaj (zem (zby (zab (zaa 2) (zae))) (zal 8) (zaj (zaq (zaf zb0 (zab (zaa 0) (zab (zaa 1) (zae)))) (zal 9)) (zaj (zaq (zaf zb0 (zab (zaa 0) (zab (zaa 4) (zae)))) (zal 10)) (zaj (sIf (tE (eOp dLt (zaf zb0 (zab (zaa 0) (zab (eC (.int 8)) (zae)))) (zaa 3))) (zaq (eC .non) (zal 9)) (zbg)) (zaj (sIf (tE (eOp dLt (zaf zb0 (zab (zaa 0) (zab (eC (.int 8)) (zae)))) (zaa 3))) (zaq (eC .non) (zal 10)) (zbg)) (zdl (zci zd2 (zaa 7) (zab (zaf zbs (zab (zaa 9) (zab (zaa 10) (zae)))) zae)))))))) (zdl (zci zd2 (zaa 5) (zab (zaf zd1 (zab (zaa 7) (zae))) zae)))))) (za4 (zaf zbs (zab (zaa 2) (zab (zaf zd1 (zab (zaa 5) (zae))) (zae))))))))
noncomputable def zjp:FM:=zbq 11 zux
noncomputable def zuy:SM:=za4 (znp "cells" 0 "at" 0 "left" 0)
noncomputable def zjq:FM:=zbq 1 zuy
noncomputable def zuz:SM:=zaj (zaq (zaf zjq (zab (zaa 0) (zae))) (zal 1)) (zaj (zaq (eOp dEq (zaf zb0 (zab (zaa 1) (zab (eC (.int 8)) (zae)))) (eC (.int 5))) (zal 2)) (zaj (zaq (eOp za3 (zaf zb4 (zab (eOp zbe (eC (.int 1)) (zaf zb0 (zab (zaa 1) (zab (eC (.int 8)) (zae))))) (zab (eOp zbe (eC (.int 9)) (zaf zb0 (zab (zaa 1) (zab (eC (.int 16)) (zae))))) (zae)))) (zaf zi0 (zab (zaa 2) (zae)))) (zal 3)) (zaj (zaq (zaf zjp (zab (zaa 1) (zab (zaa 3) (zab (eOp zbe (eC (.int 1)) (zaf zb0 (zab (zaa 1) (zab (eC (.int 4)) (zae))))) (zae))))) (zal 4)) (zaj (sIf (tE (zaa 2)) (zaj (zaq (zaf zb4 (zab (zhx (zab (zaa 3) (zae))) (zab (zaf zbs (zab (eC (.int 0)) (zab (eC (.int 0)) (zae)))) (zab (eC .non) (zab (zaf zb4 (zae)) (zae)))))) (zal 5)) (zaj (zaq (eOp za3 (zaa 5) (zaf zb0 (zab (zaa 1) (zab (eC (.int 4)) (zae))))) (zal 6)) (za4 (eOp zhk (zhv 1 "law" (zfs "law" "tables" ⟨193,34,193,40⟩ ⟨193,34,193,71⟩ [("_law_machine_here",⟨193,41,193,58⟩),("_law_thing",⟨193,60,193,70⟩)] [("_law_machine_here",.free),("_law_thing",.free),("tables",.globalImplicit)]) [("_law_thing",6),("_law_machine_here",4)] zg3) (zaf zbs (zab (eC (.str "refused")) (zab (eC (.str "many")) (zae)))))))) (zbg)) (zaj (zaq (zaf zg2 (zab (zaa 4) (zae))) (zdn 2 (zb7 (zal 7) (zb7 (zal 8) (zdm))))) (zaj (zem (zby (zab (eC (.int 3)) (zae))) (zal 9) (zaj (zaq (zaf zjo (zab (zaa 1) (zab (zaa 3) (zab (zaa 7) (zae))))) (zal 10)) (zaj (zaq (zaf zjn (zab (zaa 1) (zab (zaa 10) (zab (zaa 7) (zae))))) (zal 6)) (zaj (sIf (zck (tE (zaf zh2 (zab (zaa 4) (zab (zaa 10) (zae)))))) (za4 (eC (.bl false))) (zbg)) (sIf (tE (zaf zji (zab (zaa 6) (zab (zaa 3) (zab (zaa 7) (zae)))))) (sIf (zck (tE (zaf zh2 (zab (zaa 4) (zab (zaa 6) (zae)))))) (za4 (eC (.bl false))) (zbg)) (sIf (tE (eOp zhl (zhv 1 "law" (zfs "law" "tables" ⟨203,32,203,38⟩ ⟨203,32,203,69⟩ [("_law_machine_here",⟨203,39,203,56⟩),("_law_thing",⟨203,58,203,68⟩)] [("_law_machine_here",.free),("_law_thing",.free),("tables",.globalImplicit)]) [("_law_thing",6),("_law_machine_here",4)] zg3) (zaf zbs (zab (eC (.str "refused")) (zab (eC (.str "words")) (zae)))))) (za4 (eC (.bl false))) (zbg))))))) (za4 (eC (.bl true)))))))))
noncomputable def zfv:FM:=zbq 11 zuz
theorem bl0 {C:List PySem.Value->Prop}(h:C []):∀us:List PySem.Value,us.length=0->C us:=by
 intro us hl
 rw [List.eq_nil_of_length_eq_zero hl];exact h
theorem blS {n:Nat}{C:List PySem.Value->Prop}(h:∀a (us:List PySem.Value),us.length=n->C (a :: us)):∀us:List PySem.Value,us.length=n+1->C us:=by
 intro us hl
 cases us with
 | nil=>cases hl
 | cons a us=>exact h a us (Nat.succ.inj hl)
theorem bl1 {C:List PySem.Value->Prop}(h:∀a0,C [a0]):∀us:List PySem.Value,us.length=1->C us:=blS λa0=>bl0 (C:=λus=>C (a0 :: us)) (h a0)
theorem bl2 {C:List PySem.Value->Prop}(h:∀a0 a1,C [a0,a1]):∀us:List PySem.Value,us.length=2->C us:=blS λa0=>blS λa1=>bl0 (C:=λus=>C (a0 :: a1 :: us)) (h a0 a1)
theorem bl3 {C:List PySem.Value->Prop}(h:∀a0 a1 a2,C [a0,a1,a2]):∀us:List PySem.Value,us.length=3->C us:=blS λa0=>blS λa1=>blS λa2=>bl0 (C:=λus=>C (a0 :: a1 :: a2 :: us)) (h a0 a1 a2)
inductive FI (K:QFg) (x:Str) (st:Stmt):Prop
 | mk {f:Addr} {oc kV dc pm cd ct:Value} {od an:Option Addr} {sl:Array (Option Value)} (a:PySem.W.nsIn K mainGlobals x=some (some (.ref f))) (l:K.lookup f=some ⟨oc,od,.func (PySem.W.fnOf x x (zfw st) (zc9 st) (zay st) .none kV dc pm an cd ct),sl⟩) (c:PySem.W.codeIn K cd x=true) (k:PySem.W.keepIn K (.ref f)=true)
inductive FJ (K:QFg) (mg:Str->Option Value) (x:Str) (st:Stmt):Prop
 | mk {f:Addr} {fd:FuncData} (F:Fun K x x st f fd) (m:mg x=some (.ref f)) (n:Fnc K mg x)
theorem FI.ok {K:QFg}{x:Str}{st:Stmt}{h:Heap}{mg:Str->Option Value}(i:FI K x st) (X:K.In h) (G:h.Ns mainGlobals mg):FJ K mg x st:=by
 obtain ⟨a,l,c,k⟩:=i
 exact ⟨zzj l c k,PySem.W.mg_of X G a,_,_,a,l,PySem.W.mg_of X G a⟩
section
variable {P:Program}{w:World}{K:QFg}{mg:Str->Option Value}{base:Heap}{CA:Str->Addr}
theorem zcj {x:Str}{st:Stmt}{N ps:List Str}{n k:Nat}{b:SM}(F:FJ K mg x st) (S:FnScope N ps (zay st)) (hn:ps.length=n)
  (hb:∀us:List Value,us.length=ps.length->∀(kV doc pm:Value) (an:Option Addr) (cdv ct:Value),bindArgs (PySem.W.fnOf x x (zfw st) (zc9 st) (zay st) .none kV doc pm an cdv ct) ⟨us,[]⟩=pure (ps.zip us))
  (hbody:∀(f:Addr) (cdv:Value),PySem.W.codeIn K cdv x=true->∀(A:Around) (outer:List Env) (s:Shared) (H:Hp) (E:XK),Room k (A.deeper (envOfC x (zay st) s.heap.objs.size f cdv)) ->
   zct (zbn CX0 P w K mg base N x (zay st) f cdv A outer s H E).nox (zc9 st) b):Has P w K mg base x (k+1) n (zbq N.length b):=by
 obtain ⟨F,m,_⟩:=F
 exact ya3 F m S hn (F.binds λ_ _ _ _ _ _ us hl=>hb us hl _ _ _ _ _ _) (hbody _)
theorem zlj {x:Str}{st:Stmt}{N ps:List Str}{n k:Nat}{r:ZM}(F:FJ K mg x st) (S:FnScope N ps (zay st)) (hn:ps.length=n)
  (hb:∀us:List Value,us.length=ps.length->∀(kV doc pm:Value) (an:Option Addr) (cdv ct:Value),bindArgs (PySem.W.fnOf x x (zfw st) (zc9 st) (zay st) .none kV doc pm an cdv ct) ⟨us,[]⟩=pure (ps.zip us))
  (hbody:∀(f:Addr) (cdv:Value),PySem.W.codeIn K cdv x=true->∀(A:Around) (outer:List Env) (s:Shared) (H:Hp) (E:XK),Room k (A.deeper (envOfC x (zay st) s.heap.objs.size f cdv)) ->
   zd8 (zbn (CX1 P w) P w K mg base N x (zay st) f cdv A outer s H E) E CA (zc9 st) r):zb2 P w K mg base CA x (k+1) n (zdh N.length r):=by
 obtain ⟨F,m,_⟩:=F
 exact ydg F m S hn (F.binds λ_ _ _ _ _ _ us hl=>hb us hl _ _ _ _ _ _) (hbody _)
theorem ygv:FnScope ["_law_thing","_law_many","_law_b","_law_word"] ["_law_thing","_law_many","_law_b"] (zay (top bd 34)):=⟨rfl,rfl,rfl,by decide +kernel,rfl,by decide +kernel,by decide +kernel⟩
theorem ygw:List.Nodup (["_law_word","_law_thing"]:List Str):=by decide +kernel
noncomputable abbrev ygx:List Str:=["_law_thing","_law_many","_law_b","_law_word"]
theorem h_m_law_are_words (F:FJ K mg "_law_are_words" (top bd 34)) (z_len:mg "len" = none) (z_isinstance:mg "isinstance" = none) (z_int:mg "int" = none) (z_bool:mg "bool" = none) (z_tuple:mg "tuple" = none):Has P w K mg base "_law_are_words" 1 3 zji:=by
 have sc:=ygv
 refine zcj (k:=0) F sc rfl (bl3 λ_ _ _=>λ_ _ _ _ _ _=>rfl) λf cdv hcd A outer s H E hr=>?_
 exact zao (zbo (zf3 (zf2 (zfj (zd0 (zhh (U:="tuple") rfl z_isinstance rfl z_tuple zkh (by decide) (zac 0)))) (zid (zik (zc2 rfl z_len (zad (zac 0) (zag))) (zac 1))))) (zau (zbd (zdk))) (zbr)) (zao (yap PassesOwn.never rfl (zac 0) (zbk 3 sc.nd) (zau (zbo (zf3 (zf2 (zfj (zd0 (zhh (U:="int") rfl z_isinstance rfl z_int zm2 (by decide) (zac 3)))) (zf2 (zd0 (zhh (U:="bool") rfl z_isinstance rfl z_bool zrh (by decide) (zac 3))) (zf2 (zhc (zac 3) (zai)) (zid (zq5 (zac 3) (ze7 (zai) (zac 2)))))))) (zau (zbd (zdk))) (zbr)))) (zau (zbd (zij (zc2 rfl z_len (zad (zi5 (N':=["_law_word","_law_thing"]) (ixs:=[none,some 0]) rfl (zgp (scO:=zay (top bd 34)) (NO:=ygx) rfl rfl (by decide +kernel)) (zkf (zac 0)) (λ_ _ _ _ _=>zbk 0 ygw) (λ_ _ _ _ _=>zm0 (zii (yfu (zac 1) (zac 0)) (zai))) (λ_ _ _ _ _=>zac 0)) (zag))) (zai)))))
theorem ygy:FnScope ["number","k"] ["number","k"] (zay (top bd 18)):=⟨rfl,rfl,rfl,by decide +kernel,rfl,by decide +kernel,by decide +kernel⟩
theorem h_m_bit_of (F:FJ K mg "bit_of" (top bd 18)):Has P w K mg base "bit_of" 1 2 zgz:=by
 have sc:=ygy
 refine zcj (k:=0) F sc rfl (bl2 λ_ _=>λ_ _ _ _ _ _=>rfl) λf cdv hcd A outer s H E hr=>?_
 exact zau (zbd (ycm (ycl (zac 0) (zac 1)) (zai)))
theorem ygz:FnScope ["numbers","bit","points","on","off"] ["numbers","bit"] (zay (top bd 26)):=⟨rfl,rfl,rfl,by decide +kernel,rfl,by decide +kernel,by decide +kernel⟩
theorem zu0:List.Nodup (["point","numbers","bit"]:List Str):=by decide +kernel
noncomputable abbrev zu1:List Str:=["numbers","bit","points","on","off"]
theorem h_m_table_of (F:FJ K mg "table_of" (top bd 26)) (z_tuple:mg "tuple" = none) (z_sorted:mg "sorted" = none) (h_m_bit_of:Has P w K mg base "bit_of" 1 2 zgz):Has P w K mg base "table_of" 2 2 zft:=by
 have sc:=ygz
 refine zcj (k:=1) F sc rfl (bl2 λ_ _=>λ_ _ _ _ _ _=>rfl) λf cdv hcd A outer s H E hr=>?_
 exact zao (za2 2 sc.nd (ye5 rfl rfl z_sorted (zad (zac 0) (zag)))) (zao (zsx 3 sc.nd (N':=["point","numbers","bit"]) (ixs:=[none,some 0,some 1]) rfl (zgp (scO:=zay (top bd 26)) (NO:=zu1) rfl rfl (by decide +kernel)) (zkf (zac 2)) (λ_ _ _ _ _=>zbk 0 zu0) (λ_ _ _ _ _=>zm0 (zhd (zba h_m_bit_of hr (by decide) rfl (zad (zst hr (zac 1) (zac 0)) (zad (zac 2) (zag))) (zap (zap za6))) (zai))) (λ_ _ _ _ _=>zac 0)) (zao (zsx 4 sc.nd (N':=["point","numbers","bit"]) (ixs:=[none,some 0,some 1]) rfl (zgp (scO:=zay (top bd 26)) (NO:=zu1) rfl rfl (by decide +kernel)) (zkf (zac 2)) (λ_ _ _ _ _=>zbk 0 zu0) (λ_ _ _ _ _=>zm0 (zhd (zba h_m_bit_of hr (by decide) rfl (zad (zst hr (zac 1) (zac 0)) (zad (zac 2) (zag))) (zap (zap za6))) (zai))) (λ_ _ _ _ _=>zac 0)) (zau (zbd (zb5 (zad (zgb rfl z_tuple (zad (zac 3) (zag))) (zad (zgb rfl z_tuple (zad (zac 4) (zag))) (zag))))))))
theorem zu2:FnScope ["machine","asks","rooms"] ["machine"] (zay (top bd 22)):=⟨rfl,rfl,rfl,by decide +kernel,rfl,by decide +kernel,by decide +kernel⟩
theorem h_m_bits_of (F:FJ K mg "bits_of" (top bd 22)) (z_max:mg "max" = none) (z_len:mg "len" = none) (c_MOST_WITH_WORDS:∃t,mg "MOST_WITH_WORDS" = some (.int 8 t)) (q_TooMany:mg "TooMany" = some (.ref (CA "TooMany"))) (x_TooMany:PySem.W.excIn K (CA "TooMany") zcr "ValueError.__new__" = true):Has P w K mg base "bits_of" 1 1 zee:=by
 obtain ⟨_,c_MOST_WITH_WORDS⟩:=c_MOST_WITH_WORDS
 have sc:=zu2
 refine zcj (k:=0) F sc rfl (bl1 λ_=>λ_ _ _ _ _ _=>rfl) λf cdv hcd A outer s H E hr=>?_
 exact zao (zio (zac 0) (zfm rfl (zcv (zbk 1 sc.nd) (zcv (zbk 2 sc.nd) (zfl))))) (zao (zbo (zii (zc2 rfl z_len (zad (zac 2) (zag))) (zmq rfl c_MOST_WITH_WORDS)) (zau (zmv)) (zbr)) (zau (zbd (zb5 (zad (ya2 rfl rfl z_max (zad (zai) (zad (zs6 (zhb (zc2 rfl z_len (zad (zac 2) (zag))) (zai))) (zag)))) (zad (zs6 (zhb (zac 1) (zai))) (zag)))))))
theorem hz_bits_of (F:FJ K mg "bits_of" (top bd 22)) (z_max:mg "max" = none) (z_len:mg "len" = none) (c_MOST_WITH_WORDS:∃t,mg "MOST_WITH_WORDS" = some (.int 8 t)) (q_TooMany:mg "TooMany" = some (.ref (CA "TooMany"))) (x_TooMany:PySem.W.excIn K (CA "TooMany") zcr "ValueError.__new__" = true):zb2 P w K mg base CA "bits_of" 1 1 zc4:=by
 obtain ⟨_,c_MOST_WITH_WORDS⟩:=c_MOST_WITH_WORDS
 have sc:=zu2
 refine zlj (k:=0) F sc rfl (bl1 λ_=>λ_ _ _ _ _ _=>rfl) λf cdv hcd A outer s H E hr=>?_
 exact zsb (zio (zac 0) (zfm rfl (zcv (zbk 1 sc.nd) (zcv (zbk 2 sc.nd) (zfl))))) (zgl (zsc (zii (zc2 rfl z_len (zad (zac 2) (zag))) (zmq rfl c_MOST_WITH_WORDS)) (zgl (zsd rfl q_TooMany x_TooMany)) (zr9)))
theorem yg0:FnScope ["thing","count"] ["thing","count"] (zay (top bd 15)):=⟨rfl,rfl,rfl,by decide +kernel,rfl,by decide +kernel,by decide +kernel⟩
theorem h_m_is_below (F:FJ K mg "is_below" (top bd 15)) (z_isinstance:mg "isinstance" = none) (z_int:mg "int" = none) (z_bool:mg "bool" = none):Has P w K mg base "is_below" 1 2 zc5:=by
 have sc:=yg0
 refine zcj (k:=0) F sc rfl (bl2 λ_ _=>λ_ _ _ _ _ _=>rfl) λf cdv hcd A outer s H E hr=>?_
 exact zau (zbd (zmr (zhh (U:="int") rfl z_isinstance rfl z_int zm2 (by decide) (zac 0)) (zmr (zz0 (zhh (U:="bool") rfl z_isinstance rfl z_bool zrh (by decide) (zac 0))) (zq3 (zzx zx1 zpq (zf6 λ_ _ _ _=>.bl _) (zf6 λ_ _ _ _=>.bl _) (zai) (zac 0) (zac 1))))))
theorem yg1:FnScope ["thing","many","count"] ["thing","many","count"] (zay (top bd 16)):=⟨rfl,rfl,rfl,by decide +kernel,rfl,by decide +kernel,by decide +kernel⟩
theorem yg2:List.Nodup (["number","count"]:List Str):=by decide +kernel
noncomputable abbrev yg3:List Str:=["thing","many","count"]
theorem h_m_are_unlike_below (F:FJ K mg "are_unlike_below" (top bd 16)) (z_all:mg "all" = none) (z_len:mg "len" = none) (z_set:mg "set" = none) (z_isinstance:mg "isinstance" = none) (z_tuple:mg "tuple" = none) (h_m_is_below:Has P w K mg base "is_below" 1 2 zc5):Has P w K mg base "are_unlike_below" 2 3 zfu:=by
 have sc:=yg1
 refine zcj (k:=1) F sc rfl (bl3 λ_ _ _=>λ_ _ _ _ _ _=>rfl) λf cdv hcd A outer s H E hr=>?_
 exact zao (zbo (zf3 (zf2 (zfj (zd0 (zhh (U:="tuple") rfl z_isinstance rfl z_tuple zkh (by decide) (zac 0)))) (zid (zik (zc2 rfl z_len (zad (zac 0) (zag))) (zac 1))))) (zau (zbd (zdk))) (zbr)) (zau (zbd (zmr (yb3 rfl rfl z_all (zad (zi5 (N':=["number","count"]) (ixs:=[none,some 2]) rfl (zgp (scO:=zay (top bd 16)) (NO:=yg3) rfl rfl (by decide +kernel)) (zkf (zac 0)) (λ_ _ _ _ _=>zbk 0 yg2) (λ_ _ _ _ _=>zkg) (λ_ _ _ _ _=>zba h_m_is_below hr (by decide) rfl (zad (zac 0) (zad (zac 1) (zag))) (zap (zap za6)))) (zag))) (zq3 (zij (ye1 rfl z_len (zad (ye0 hr rfl z_set (zad (zac 0) (zag))) zag)) (zac 1))))))
theorem zu3:FnScope ["machine","thing"] ["machine","thing"] (zay (top bd 23)):=⟨rfl,rfl,rfl,by decide +kernel,rfl,by decide +kernel,by decide +kernel⟩
theorem h_m_is_words (F:FJ K mg "is_words" (top bd 23)) (z_len:mg "len" = none) (h_m_are_unlike_below:Has P w K mg base "are_unlike_below" 2 3 zfu) (h_m_bits_of:Has P w K mg base "bits_of" 1 1 zee) (hz_bits_of:zb2 P w K mg base CA "bits_of" 1 1 zc4):Has P w K mg base "is_words" 3 2 zef:=by
 have sc:=zu3
 refine zcj (k:=2) F sc rfl (bl2 λ_ _=>λ_ _ _ _ _ _=>rfl) λf cdv hcd A outer s H E hr=>?_
 exact zau (zbd (zba h_m_are_unlike_below hr (by decide) rfl (zad (zac 1) (zad (zc2 rfl z_len (zad (zbm (zac 0) (zai)) (zag))) (zad (ze7 (zai) (zbm (zba h_m_bits_of hr (by decide) rfl (zad (zac 0) (zag)) (zap za6)) (zai))) (zag)))) (zap (zap (zap za6)))))
theorem hz_is_words (F:FJ K mg "is_words" (top bd 23)) (z_len:mg "len" = none) (h_m_are_unlike_below:Has P w K mg base "are_unlike_below" 2 3 zfu) (h_m_bits_of:Has P w K mg base "bits_of" 1 1 zee) (hz_bits_of:zb2 P w K mg base CA "bits_of" 1 1 zc4):zb2 P w K mg base CA "is_words" 3 2 zdw:=by
 have sc:=zu3
 refine zlj (k:=2) F sc rfl (bl2 λ_ _=>λ_ _ _ _ _ _=>rfl) λf cdv hcd A outer s H E hr=>?_
 exact zgl (yda (yfq h_m_are_unlike_below hr (by decide) rfl (zsa (zac 1) (zsa (zc2 rfl z_len (zad (zbm (zac 0) (zai)) (zag))) (yc8 (yfr (zai) (zts (zky hz_bits_of zkw hr (by decide) rfl (zad (zac 0) (zag)) (zap za6)) (zai))))))))
theorem zu4:FnScope ["machine","thing"] ["machine","thing"] (zay (top bd 24)):=⟨rfl,rfl,rfl,by decide +kernel,rfl,by decide +kernel,by decide +kernel⟩
theorem h_m_refuse_no_words (F:FJ K mg "refuse_no_words" (top bd 24)) (h_m_is_words:Has P w K mg base "is_words" 3 2 zef) (hz_is_words:zb2 P w K mg base CA "is_words" 3 2 zdw) (q_NoWords:mg "NoWords" = some (.ref (CA "NoWords"))) (x_NoWords:PySem.W.excIn K (CA "NoWords") zcr "ValueError.__new__" = true):Has P w K mg base "refuse_no_words" 4 2 zg0:=by
 have sc:=zu4
 refine zcj (k:=3) F sc rfl (bl2 λ_ _=>λ_ _ _ _ _ _=>rfl) λf cdv hcd A outer s H E hr=>?_
 exact zau (zbo (zfj (zd0 (zba h_m_is_words hr (by decide) rfl (zad (zac 0) (zad (zac 1) (zag))) (zap (zap za6))))) (zau (zmv)) (zbr))
theorem hz_refuse_no_words (F:FJ K mg "refuse_no_words" (top bd 24)) (h_m_is_words:Has P w K mg base "is_words" 3 2 zef) (hz_is_words:zb2 P w K mg base CA "is_words" 3 2 zdw) (q_NoWords:mg "NoWords" = some (.ref (CA "NoWords"))) (x_NoWords:PySem.W.excIn K (CA "NoWords") zcr "ValueError.__new__" = true):zb2 P w K mg base CA "refuse_no_words" 4 2 zdx:=by
 have sc:=zu4
 refine zlj (k:=3) F sc rfl (bl2 λ_ _=>λ_ _ _ _ _ _=>rfl) λf cdv hcd A outer s H E hr=>?_
 exact zgl (ygl (ygk (ygj (ygi (zky hz_is_words zkw hr (by decide) rfl (zad (zac 0) (zad (zac 1) (zag))) (zap (zap za6)))))) (zsc (zfj (zd0 (zba h_m_is_words hr (by decide) rfl (zad (zac 0) (zad (zac 1) (zag))) (zap (zap za6))))) (zgl (zsd rfl q_NoWords x_NoWords)) (zr9)))
theorem zu5:FnScope ["machine","words","b","come_to","said","word","room","ask","goes","says","point"] ["machine","words"] (zay (top bd 25)):=⟨rfl,rfl,rfl,by decide +kernel,rfl,by decide +kernel,by decide +kernel⟩
theorem yg4:List.Nodup (["bit","come_to"]:List Str):=by decide +kernel
theorem yg5:List.Nodup (["bit","said"]:List Str):=by decide +kernel
noncomputable abbrev zu6:List Str:=["machine","words","b","come_to","said","word","room","ask","goes","says","point"]
theorem h_m_tables (F:FJ K mg "tables" (top bd 25)) (z_range:mg "range" = none) (z_enumerate:mg "enumerate" = none) (z_zip:mg "zip" = none) (c_ANSWER_BITS:∃t,mg "ANSWER_BITS" = some (.int 3 t)) (h_m_table_of:Has P w K mg base "table_of" 2 2 zft) (h_m_bits_of:Has P w K mg base "bits_of" 1 1 zee) (h_m_refuse_no_words:Has P w K mg base "refuse_no_words" 4 2 zg0) (hz_refuse_no_words:zb2 P w K mg base CA "refuse_no_words" 4 2 zdx) (hz_bits_of:zb2 P w K mg base CA "bits_of" 1 1 zc4):Has P w K mg base "tables" 5 2 zjk:=by
 obtain ⟨_,c_ANSWER_BITS⟩:=c_ANSWER_BITS
 have sc:=zu5
 refine zcj (k:=4) F sc rfl (bl2 λ_ _=>λ_ _ _ _ _ _=>rfl) λf cdv hcd A outer s H E hr=>?_
 exact zao (ze2 (zba h_m_refuse_no_words hr (by decide) rfl (zad (zac 0) (zad (zac 1) (zag))) (zap (zap za6)))) (zao (za2 2 sc.nd (zbm (zba h_m_bits_of hr (by decide) rfl (zad (zac 0) (zag)) (zap za6)) (zai))) (zao (za2 3 sc.nd (zkm)) (zao (za2 4 sc.nd (zkm)) (zao (zr5 PassesOwn.never rfl (yej rfl z_zip (zad (zac 1) (zad (zbm (zac 0) (zai)) (zag)))) (zfm rfl (zcv (zbk 5 sc.nd) (zcv (zbk 6 sc.nd) (zfl)))) (zau (zr5 PassesOwn.never rfl (ycx rfl z_enumerate (zad (zac 6) (zag))) (zfm rfl (zcv (zbk 7 sc.nd) (zcv (zfm rfl (zcv (zbk 8 sc.nd) (zcv (zbk 9 sc.nd) (zfl)))) (zfl)))) (zao (za2 10 sc.nd (zcd (zac 5) (ze7 (zac 7) (zac 2)))) (zao (zbo (zj8 (zac 8) (zda)) (zau (zsv hr (zac 3) (zac 10) (zbm (zac 1) (zac 8)))) (zbr)) (zau (zbo (zj8 (zac 9) (zda)) (zau (zsv hr (zac 4) (zac 10) (zac 9))) (zbr)))))))) (zau (zbd (zcd (zi5 (N':=["bit","come_to"]) (ixs:=[none,some 3]) rfl (zgp (scO:=zay (top bd 25)) (NO:=zu6) rfl rfl (by decide +kernel)) (zmz rfl z_range (zad (zac 2) (zag))) (λ_ _ _ _ _=>zbk 0 yg4) (λ_ _ _ _ _=>zkg) (λ_ _ _ _ _=>zba h_m_table_of hr (by decide) rfl (zad (zac 1) (zad (zac 0) (zag))) (zap (zap za6)))) (zi5 (N':=["bit","said"]) (ixs:=[none,some 4]) rfl (zgp (scO:=zay (top bd 25)) (NO:=zu6) rfl rfl (by decide +kernel)) (zmz rfl z_range (zad (zmq rfl c_ANSWER_BITS) (zag))) (λ_ _ _ _ _=>zbk 0 yg5) (λ_ _ _ _ _=>zkg) (λ_ _ _ _ _=>zba h_m_table_of hr (by decide) rfl (zad (zac 1) (zad (zac 0) (zag))) (zap (zap za6)))))))))))
theorem hz_tables (F:FJ K mg "tables" (top bd 25)) (z_range:mg "range" = none) (z_enumerate:mg "enumerate" = none) (z_zip:mg "zip" = none) (c_ANSWER_BITS:∃t,mg "ANSWER_BITS" = some (.int 3 t)) (h_m_table_of:Has P w K mg base "table_of" 2 2 zft) (h_m_bits_of:Has P w K mg base "bits_of" 1 1 zee) (h_m_refuse_no_words:Has P w K mg base "refuse_no_words" 4 2 zg0) (hz_refuse_no_words:zb2 P w K mg base CA "refuse_no_words" 4 2 zdx) (hz_bits_of:zb2 P w K mg base CA "bits_of" 1 1 zc4):zb2 P w K mg base CA "tables" 5 2 zg1:=by
 obtain ⟨_,c_ANSWER_BITS⟩:=c_ANSWER_BITS
 have sc:=zu5
 refine zlj (k:=4) F sc rfl (bl2 λ_ _=>λ_ _ _ _ _ _=>rfl) λf cdv hcd A outer s H E hr=>?_
 exact yc7 (zgl (ydb (zky hz_refuse_no_words zkw hr (by decide) rfl (zad (zac 0) (zad (zac 1) (zag))) (zap (zap za6))))) (zsb (ze2 (zba h_m_refuse_no_words hr (by decide) rfl (zad (zac 0) (zad (zac 1) (zag))) (zap (zap za6)))) (zgl (yc9 (zts (zky hz_bits_of zkw hr (by decide) rfl (zad (zac 0) (zag)) (zap za6)) (zai)))))
theorem yg6:FnScope ["_law_machine_here"] ["_law_machine_here"] (zay (top bd 31)):=⟨rfl,rfl,rfl,by decide +kernel,rfl,by decide +kernel,by decide +kernel⟩
theorem h_m_law_bits (F:FJ K mg "_law_bits" (top bd 31)) (z_len:mg "len" = none):Has P w K mg base "_law_bits" 1 1 zg2:=by
 have sc:=yg6
 refine zcj (k:=0) F sc rfl (bl1 λ_=>λ_ _ _ _ _ _=>rfl) λf cdv hcd A outer s H E hr=>?_
 refine zau (zbd ?_)
 with_reducible exact zb5 (zad (zbm (zce (zad (by with_unfolding_all exact zai) (zad (by with_unfolding_all exact zai) (zad (by with_unfolding_all exact zai) (zad (by with_unfolding_all exact zai) (zad (by with_unfolding_all exact zai) (zad (by with_unfolding_all exact zai) (zad (by with_unfolding_all exact zai) (zad (by with_unfolding_all exact zai) (zag) (by with_unfolding_all rfl)) (by with_unfolding_all rfl)) (by with_unfolding_all rfl)) (by with_unfolding_all rfl)) (by with_unfolding_all rfl)) (by with_unfolding_all rfl)) (by with_unfolding_all rfl)) (by with_unfolding_all rfl))) (by with_unfolding_all exact zhb (zc2 rfl z_len (zad (zbm (zac 0) (zai)) (zag))) (zai)) (by with_unfolding_all (intro _ _;rfl))) (zad (zbm (zce (zad (by with_unfolding_all exact zai) (zad (by with_unfolding_all exact zai) (zad (by with_unfolding_all exact zai) (zad (by with_unfolding_all exact zai) (zag) (by with_unfolding_all rfl)) (by with_unfolding_all rfl)) (by with_unfolding_all rfl)) (by with_unfolding_all rfl))) (by with_unfolding_all exact zhb (zbm (zac 0) (zai)) (zai)) (by with_unfolding_all (intro _ _;rfl))) zag (by with_unfolding_all rfl)) (by with_unfolding_all rfl))
theorem yg7:FnScope ["_law_machine_here","_law_words_here","_law_b","_law_c","_law_found","_law_j","_law_both","_law_point","_law_word","_law_ask","_law_goes","_law_number","_law_place"] ["_law_machine_here","_law_words_here"] (zay (top bd 37)):=⟨rfl,rfl,rfl,by decide +kernel,rfl,by decide +kernel,by decide +kernel⟩
theorem h_m_law_tables (F:FJ K mg "_law_tables" (top bd 37)) (z_tuple:mg "tuple" = none) (z_range:mg "range" = none) (h_m_law_bits:Has P w K mg base "_law_bits" 1 1 zg2):Has P w K mg base "_law_tables" 2 2 zjl:=by
 have sc:=yg7
 refine zcj (k:=1) F sc rfl (bl2 λ_ _=>λ_ _ _ _ _ _=>rfl) λf cdv hcd A outer s H E hr=>?_
 exact zao (zio (zba h_m_law_bits hr (by decide) rfl (zad (zac 0) (zag)) (zap za6)) (zfm rfl (zcv (zbk 2 sc.nd) (zcv (zbk 3 sc.nd) (zfl))))) (zao (za2 4 sc.nd (zce (zag))) (zao (zhi PassesOwn.never rfl rfl z_range (zad (zcd (zac 2) (zai)) (zag)) (zbk 5 sc.nd) (zao (za2 6 sc.nd (zce (zad (zce (zag)) (zad (zce (zag)) (zag))))) (zao (zhi PassesOwn.never rfl rfl z_range (zad (ze7 (zai) (zcd (zac 2) (zac 3))) (zag)) (zbk 7 sc.nd) (zao (za2 8 sc.nd (zel (zac 7) (ze7 (zai) (zac 2)))) (zao (za2 9 sc.nd (zih (zac 7) (ze7 (zai) (zac 2)))) (zau (zbo (zf3 (zq2 (ybr (zac 8) (zac 1)) (zq1 (zhc (zac 9) (zbm (zac 0) (zai)))))) (zao (zio (zbm (zbm (zbm (zac 0) (zai)) (yeq (zac 1) (zac 8))) (zac 9)) (zfm rfl (zcv (zbk 10 sc.nd) (zcv (zbk 11 sc.nd) (zfl))))) (zao (za2 12 sc.nd (zhb (zac 5) (zac 2))) (zao (zbo (zhc (zac 5) (zac 2)) (zao (za2 12 sc.nd (zac 5)) (zao (za2 11 sc.nd (zda)) (zau (zbo (zj8 (zac 10) (zda)) (zau (za2 11 sc.nd (zbm (zac 1) (zac 10)))) (zbr))))) (zbr)) (zau (zbo (zj8 (zac 11) (zda)) (zau (ze2 (zhg (zbm (zac 6) (zel (zih (zac 11) (ze7 (zai) (zac 12))) (zai))) (zac 7)))) (zbr)))))) (zbr)))))) (zau (ze2 (zhg (zac 4) (zb5 (zad (zgb rfl z_tuple (zad (zbm (zac 6) (zai)) (zag))) (zad (zgb rfl z_tuple (zad (zbm (zac 6) (zai)) (zag))) (zag)))))))))) (zau (zbd (zac 4)))))
theorem yg8:FnScope ["_law_machine_here","_law_words_here","_law_due","_law_kept","_law_again","_law_found"] ["_law_machine_here","_law_words_here"] (zay (top bd 38)):=⟨rfl,rfl,rfl,by decide +kernel,rfl,by decide +kernel,by decide +kernel⟩
theorem h_m_law_right (F:FJ K mg "_law_right" (top bd 38)) (z_repr:mg "repr" = none) (z_range:mg "range" = none) (h_m_tables:Has P w K mg base "tables" 5 2 zjk) (h_m_law_tables:Has P w K mg base "_law_tables" 2 2 zjl):Has P w K mg base "_law_right" 6 2 zh2:=by
 have sc:=yg8
 refine zcj (k:=5) F sc rfl (bl2 λ_ _=>λ_ _ _ _ _ _=>rfl) λf cdv hcd A outer s H E hr=>?_
 exact zao (za2 2 sc.nd (zk9 hr rfl z_repr (zad (zba h_m_law_tables hr (by decide) rfl (zad (zac 0) (zad (zac 1) (zag))) (zap (zap za6))) (zag)))) (zao (za2 3 sc.nd (zk9 hr rfl z_repr (zad (zb5 (zad (zac 0) (zad (zac 1) (zag)))) (zag)))) (zao (zhi PassesOwn.never rfl rfl z_range (zad (zai) (zag)) (zbk 4 sc.nd) (zao (za2 5 sc.nd (zba h_m_tables hr (by decide) rfl (zad (zac 0) (zad (zac 1) (zag))) (zap (zap za6)))) (zao (zbo (zf3 (zf2 (zik (zk9 hr rfl z_repr (zad (zac 5) (zag))) (zac 2)) (zid (zik (zk9 hr rfl z_repr (zad (zb5 (zad (zac 0) (zad (zac 1) (zag)))) (zag))) (zac 3))))) (zau (zbd (zdk))) (zbr)) (zao (ze2 (yak (zac 5))) (zau (ze2 (zhg (zac 5) (zda)))))))) (zau (zbd (zdk)))))
theorem yg9:FnScope ["_law_caught","_law_marks"] ["_law_caught"] (zay (top bd 35)):=⟨rfl,rfl,rfl,by decide +kernel,rfl,by decide +kernel,by decide +kernel⟩
theorem h_m_law_class (F:FJ K mg "_law_class" (top bd 35)) (z_isinstance:mg "isinstance" = none) (z_ValueError:mg "ValueError" = none) (q_Unreached:mg "Unreached" = some (.ref (CA "Unreached"))) (q_Clash:mg "Clash" = some (.ref (CA "Clash"))) (q_NotOpen:mg "NotOpen" = some (.ref (CA "NotOpen"))) (q_NoBack:mg "NoBack" = some (.ref (CA "NoBack"))) (q_NoText:mg "NoText" = some (.ref (CA "NoText"))) (q_NoName:mg "NoName" = some (.ref (CA "NoName"))) (q_NoLine:mg "NoLine" = some (.ref (CA "NoLine"))) (q_NotClosed:mg "NotClosed" = some (.ref (CA "NotClosed"))) (q_Unlike:mg "Unlike" = some (.ref (CA "Unlike"))) (q_NotFull:mg "NotFull" = some (.ref (CA "NotFull"))) (q_NoWords:mg "NoWords" = some (.ref (CA "NoWords"))) (q_TooMany:mg "TooMany" = some (.ref (CA "TooMany"))) (n_TooMany:PySem.W.nsIn K mainGlobals "TooMany" = some (some (.ref (CA "TooMany")))) (n_NoWords:PySem.W.nsIn K mainGlobals "NoWords" = some (some (.ref (CA "NoWords")))) (e_TooMany:ExcQ K (CA "TooMany")) (e_NoWords:ExcQ K (CA "NoWords")) (i_0:PySem.W.kitOne K (.ref (CA "NoWords")) (.type "ValueError")=some true) (i_1:PySem.W.kitOne K (.ref (CA "TooMany")) (.type "ValueError")=some true) (i_2:PySem.W.kitAny K (.ref (CA "NoWords")) [.ref (CA "Unreached"),.ref (CA "Clash"),.ref (CA "NotOpen"),.ref (CA "NoBack"),.ref (CA "NoText"),.ref (CA "NoName"),.ref (CA "NoLine")]=some false) (i_3:PySem.W.kitAny K (.ref (CA "TooMany")) [.ref (CA "Unreached"),.ref (CA "Clash"),.ref (CA "NotOpen"),.ref (CA "NoBack"),.ref (CA "NoText"),.ref (CA "NoName"),.ref (CA "NoLine")]=some false) (i_4:PySem.W.kitAny K (.ref (CA "NoWords")) [.ref (CA "NotClosed"),.ref (CA "Unlike"),.ref (CA "NotFull")]=some false) (i_5:PySem.W.kitAny K (.ref (CA "TooMany")) [.ref (CA "NotClosed"),.ref (CA "Unlike"),.ref (CA "NotFull")]=some false) (i_6:PySem.W.kitOne K (.ref (CA "NoWords")) (.ref (CA "NoWords"))=some true) (i_7:PySem.W.kitOne K (.ref (CA "TooMany")) (.ref (CA "NoWords"))=some false) (i_8:PySem.W.kitOne K (.ref (CA "NoWords")) (.ref (CA "TooMany"))=some false) (i_9:PySem.W.kitOne K (.ref (CA "TooMany")) (.ref (CA "TooMany"))=some true):Has P w K mg base "_law_class" 1 1 zjm:=by
 have sc:=yg9
 refine zcj (k:=0) F sc rfl (bl1 λ_=>λ_ _ _ _ _ _=>rfl) λf cdv hcd A outer s H E hr=>?_
 exact zao (za2 1 sc.nd (zce (zad (zsn rfl z_isinstance (zac 0) rfl q_TooMany (zeq (R:=λC b=>ExcQ _ C/\PySem.W.kitOne _ (.ref C) _=some b) n_TooMany ⟨e_TooMany,i_9⟩ (zeq (R:=λC b=>ExcQ _ C/\PySem.W.kitOne _ (.ref C) _=some b) n_NoWords ⟨e_NoWords,i_8⟩ zja))) (zad (zsn rfl z_isinstance (zac 0) rfl q_NoWords (zeq (R:=λC b=>ExcQ _ C/\PySem.W.kitOne _ (.ref C) _=some b) n_TooMany ⟨e_TooMany,i_7⟩ (zeq (R:=λC b=>ExcQ _ C/\PySem.W.kitOne _ (.ref C) _=some b) n_NoWords ⟨e_NoWords,i_6⟩ zja))) (zad (zsm rfl z_isinstance (zac 0) (zeo rfl q_NotClosed (zeo rfl q_Unlike (zeo rfl q_NotFull (zsj)))) (by simp only [List.length_cons,List.length_nil];decide) (zeq (R:=λC b=>ExcQ _ C/\PySem.W.kitAny _ (.ref C) _=some b) n_TooMany ⟨e_TooMany,i_5⟩ (zeq (R:=λC b=>ExcQ _ C/\PySem.W.kitAny _ (.ref C) _=some b) n_NoWords ⟨e_NoWords,i_4⟩ zja))) (zag)))))) (zao (ze2 (zhg (zac 1) (zsm rfl z_isinstance (zac 0) (zeo rfl q_Unreached (zeo rfl q_Clash (zeo rfl q_NotOpen (zeo rfl q_NoBack (zeo rfl q_NoText (zeo rfl q_NoName (zeo rfl q_NoLine (zsj)))))))) (by simp only [List.length_cons,List.length_nil];decide) (zeq (R:=λC b=>ExcQ _ C/\PySem.W.kitAny _ (.ref C) _=some b) n_TooMany ⟨e_TooMany,i_3⟩ (zeq (R:=λC b=>ExcQ _ C/\PySem.W.kitAny _ (.ref C) _=some b) n_NoWords ⟨e_NoWords,i_2⟩ zja))))) (zao (zbo (zf3 (zf2 (zfj (zd0 (ydq (U:="ValueError") rfl z_isinstance (zac 0) rfl z_ValueError (by decide +kernel) (zeq (R:=λC b=>ExcQ _ C/\PySem.W.kitOne _ (.ref C) _=some b) n_TooMany ⟨e_TooMany,i_1⟩ (zeq (R:=λC b=>ExcQ _ C/\PySem.W.kitOne _ (.ref C) _=some b) n_NoWords ⟨e_NoWords,i_0⟩ zja))))) (zid (zik (yfx hr (zac 1) (zdk)) (zai))))) (zau (zbd (zbv))) (zbr)) (zau (zbd (zbm (zce (zad (zbv) (zad (zbv) (zad (zbv) (zad (zbv) (zag)))))) (yd7 hr (zac 1) (zdk)))))))
theorem yha:FnScope ["_law_asked","_law_caught","_law_found","e"] ["_law_asked"] (zay (top bd 36)):=⟨rfl,rfl,rfl,by decide +kernel,rfl,by decide +kernel,by decide +kernel⟩
theorem h_m_law_heard (F:FJ K mg "_law_heard" (top bd 36)) (h_m_law_class:Has P w K mg base "_law_class" 1 1 zjm) (hz_tables:zb2 P w K mg base CA "tables" 5 2 zg1) (q_CellError:mg "CellError" = some (.ref (CA "CellError"))) (x_CellError:PySem.W.excIn K (CA "CellError") zcr "ValueError.__new__" = true) (x_TooMany:PySem.W.excIn K (CA "TooMany") zcr "ValueError.__new__" = true) (x_NoWords:PySem.W.excIn K (CA "NoWords") zcr "ValueError.__new__" = true) (n_TooMany:PySem.W.nsIn K mainGlobals "TooMany" = some (some (.ref (CA "TooMany")))) (n_NoWords:PySem.W.nsIn K mainGlobals "NoWords" = some (some (.ref (CA "NoWords")))) (s_TooMany_CellError:(Value.ref (CA "TooMany") :: zea K (CA "TooMany")).contains (.ref (CA "CellError"))=true) (s_NoWords_CellError:(Value.ref (CA "NoWords") :: zea K (CA "NoWords")).contains (.ref (CA "CellError"))=true):Has P w K mg base "_law_heard" 7 1 zg3:=by
 have sc:=yha
 refine zcj (k:=6) F sc rfl (bl1 λ_=>λ_ _ _ _ _ _=>rfl) λf cdv hcd A outer s H E hr=>?_
 exact zao (za2 1 sc.nd (zda)) (zao (za2 2 sc.nd (zda)) (zao (ye6 (CA:=CA) 3 sc.nd (λ_ _ h=>h) rfl rfl rfl q_CellError x_CellError (yf1 ⟨n_TooMany,x_TooMany,s_TooMany_CellError⟩ (ydr ⟨n_NoWords,x_NoWords,s_NoWords_CellError⟩)) (λ_=>zau (za2 1 sc.nd (zac 3))) (λ_=>yfm 0 (λ_ _ h=>h) hr (ztx (ztq (by decide +kernel) rfl rfl (by decide +kernel)) (ztx (ztq (by decide +kernel) rfl rfl (by decide +kernel)) yf2)) (yf4 hz_tables (by decide) yf3)) (zau zmv)) (zao (zbo (zz4 (zac 1) (zda)) (zau (zbd (zb5 (zad (zbv) (zad (zac 2) (zag)))))) (zbr)) (zau (zbd (zb5 (zad (zbv) (zad (zba h_m_law_class hr (by decide) rfl (zad (zac 1) (zag)) (zap za6)) (zag)))))))))
theorem yhb:FnScope ["_law_pen_here","_law_many","_law_digit","_law_at","_law_cell","_law_prime","_law_number"] ["_law_pen_here","_law_many"] (zay (top bd 29)):=⟨rfl,rfl,rfl,by decide +kernel,rfl,by decide +kernel,by decide +kernel⟩
theorem h_m_law_take (F:FJ K mg "_law_take" (top bd 29)) (z_len:mg "len" = none) (z_abs:mg "abs" = none):Has P w K mg base "_law_take" 1 2 zb0:=by
 have sc:=yhb
 refine zcj (k:=0) F sc rfl (bl2 λ_ _=>λ_ _ _ _ _ _=>rfl) λf cdv hcd A outer s H E hr=>?_
 exact zao (zbo (zii (zfq hr (zac 0) (zbv)) (zai)) (zao (za2 2 sc.nd (zel (zfq hr (zac 0) (zbv)) (zac 1))) (zao (zno hr (zac 0) (zbv) (zih (zfq hr (zac 0) (zbv)) (zac 1))) (zau (zbd (zac 2))))) (zbr)) (zao (za2 3 sc.nd (zfq hr (zac 0) (zbv))) (zao (zno hr (zac 0) (zbv) (zcd (zac 3) (zai))) (zao (za2 4 sc.nd (zcd (zkj (zkj (zai) (zac 3)) (zac 3)) (zai))) (zao (zbo (zii (zc2 rfl z_len (zad (zfq hr (zac 0) (zbv)) (zag))) (zai)) (zao (za2 4 sc.nd (zbm (zfq hr (zac 0) (zbv)) (zel (zac 3) (zc2 rfl z_len (zad (zfq hr (zac 0) (zbv)) (zag)))))) (zau (zbo (zf3 (zq2 (zhc (zac 3) (zc2 rfl z_len (zad (zfq hr (zac 0) (zbv)) (zag)))) (zq1 (zq5 (zm3 rfl z_abs (zad (zac 4) (zag))) (zj7 (zai) (zai)))))) (zao (zno hr (zac 0) (zbv) (zih (zm3 rfl z_abs (zad (zac 4) (zag))) (zac 1))) (zau (zbd (zel (zm3 rfl z_abs (zad (zac 4) (zag))) (zac 1))))) (zbr)))) (zbr)) (zao (za2 5 sc.nd (zbm (zb5 (zad (zai) (zad (zai) (zad (zai) (zad (zai) (zad (zai) (zad (zai) (zad (zai) (zag))))))))) (zel (zac 3) (zai)))) (zao (za2 6 sc.nd (zel (zj7 (zcd (zcd (zel (zac 4) (zai)) (zkj (zai) (zac 3))) (zai)) (zai)) (zac 5))) (zao (za2 6 sc.nd (zel (zj7 (zcd (zkj (zac 6) (zcd (zac 3) (zai))) (zai)) (zai)) (zai))) (zau (zbd (zel (zih (zac 6) (zai)) (zac 1)))))))))))
theorem yhc:FnScope ["_law_pen_here","_law_words_here","_law_b","_law_way","_law_at","_law_other","_law_odd","_law_number","_law_some"] ["_law_pen_here","_law_words_here","_law_b"] (zay (top bd 33)):=⟨rfl,rfl,rfl,by decide +kernel,rfl,by decide +kernel,by decide +kernel⟩
theorem h_m_law_spoilt (F:FJ K mg "_law_spoilt" (top bd 33)) (z_str:mg "str" = none) (z_list:mg "list" = none) (z_len:mg "len" = none) (h_m_law_take:Has P w K mg base "_law_take" 1 2 zb0):Has P w K mg base "_law_spoilt" 2 3 zjn:=by
 have sc:=yhc
 refine zcj (k:=1) F sc rfl (bl3 λ_ _ _=>λ_ _ _ _ _ _=>rfl) λf cdv hcd A outer s H E hr=>?_
 exact zao (za2 3 sc.nd (zba h_m_law_take hr (by decide) rfl (zad (zac 0) (zad (zai) (zag))) (zap (zap za6)))) (zao (za2 4 sc.nd (zba h_m_law_take hr (by decide) rfl (zad (zac 0) (zad (zc2 rfl z_len (zad (zac 1) (zag))) (zag))) (zap (zap za6)))) (zao (za2 5 sc.nd (zbm (zac 1) (zba h_m_law_take hr (by decide) rfl (zad (zac 0) (zad (zc2 rfl z_len (zad (zac 1) (zag))) (zag))) (zap (zap za6))))) (by with_reducible exact zao (za2 6 (by with_unfolding_all exact sc.nd) (zbm (zce (zad (by with_unfolding_all exact zda) (zad (by with_unfolding_all exact zdk) (zad (by with_unfolding_all exact zbv) (zad (by with_unfolding_all exact zai) (zad (by with_unfolding_all exact zkm) (zad (by with_unfolding_all exact zce (zag)) (zad (by with_unfolding_all exact zbv) (zad (by with_unfolding_all exact zb5 (zad (zb5 (zad (zai) (zag))) (zad (zb5 (zad (zai) (zag))) (zag)))) (zad (by with_unfolding_all exact zb5 (zad (zda) (zag))) (zad (by with_unfolding_all exact zb5 (zad (zbv) (zag))) (zag) (by with_unfolding_all rfl)) (by with_unfolding_all rfl)) (by with_unfolding_all rfl)) (by with_unfolding_all rfl)) (by with_unfolding_all rfl)) (by with_unfolding_all rfl)) (by with_unfolding_all rfl)) (by with_unfolding_all rfl)) (by with_unfolding_all rfl)) (by with_unfolding_all rfl))) (by with_unfolding_all exact zba h_m_law_take hr (by decide) rfl (zad (zac 0) (zad (zai) (zag))) (zap (zap za6))) (by with_unfolding_all (intro _ _;rfl))) (by with_unfolding_all rfl) (by with_unfolding_all first|exact Or.inl rfl|exact Or.inr rfl) (by with_unfolding_all rfl) (by with_unfolding_all first|exact .inl rfl|exact .inr rfl|assumption)) (by with_unfolding_all exact zao (zbo (zhd (zac 3) (zai)) (zau (zbd (ya1 rfl z_list (zad (zac 1) (zag))))) (zbr)) (zao (zbo (zhd (zac 3) (zai)) (zau (zbd (zcd (zku (zac 1) (zj9) (zka (zac 4))) (zku (zac 1) (zka (zcd (zac 4) (zai))) (zj9))))) (zbr)) (zao (zbo (zhd (zac 3) (zai)) (zau (zbd (zcd (zac 1) (zb5 (zad (zac 5) (zag)))))) (zbr)) (zao (zbo (zhd (zac 3) (zai)) (zau (zbd (zac 6))) (zbr)) (zao (za2 7 sc.nd (zbm (zac 1) (zac 4))) (by with_reducible exact zao (za2 8 (by with_unfolding_all exact sc.nd) (zce (zad (by with_unfolding_all exact zac 5) (zad (by with_unfolding_all exact ze7 (zai) (zac 2)) (zad (by with_unfolding_all exact yb4 (zai)) (zad (by with_unfolding_all exact zij (zac 7) (zai)) (zad (by with_unfolding_all exact zij (zac 7) (zai)) (zad (by with_unfolding_all exact ycr rfl z_str (zad (zac 7) (zag))) (zad (by with_unfolding_all exact zb5 (zad (zac 7) (zag))) (zad (by with_unfolding_all exact zcd (zac 7) (zj7 (zai) (zai))) (zag) (by with_unfolding_all rfl)) (by with_unfolding_all rfl)) (by with_unfolding_all rfl)) (by with_unfolding_all rfl)) (by with_unfolding_all rfl)) (by with_unfolding_all rfl)) (by with_unfolding_all rfl)) (by with_unfolding_all rfl))) (by with_unfolding_all rfl) (by with_unfolding_all first|exact Or.inl rfl|exact Or.inr rfl) (by with_unfolding_all rfl) (by with_unfolding_all first|exact .inl rfl|exact .inr rfl|assumption)) (by with_unfolding_all exact zao (za2 8 sc.nd (zcd (zac 8) (zce (zad (zce (zad (zac 7) (zag))) (zad (zkm) (zad (yf0 7) (zag))))))) (zau (zbd (zcd (zcd (zku (zac 1) (zj9) (zka (zac 4))) (zb5 (zad (zbm (zac 8) (zhb (zac 3) (zai))) (zag)))) (zku (zac 1) (zka (zcd (zac 4) (zai))) (zj9)))))))))))))))
theorem yhd:FnScope ["_law_pen_here","_law_many","_law_b","_law_left"] ["_law_pen_here","_law_many","_law_b"] (zay (top bd 32)):=⟨rfl,rfl,rfl,by decide +kernel,rfl,by decide +kernel,by decide +kernel⟩
theorem yhe:List.Nodup (["_law_room","_law_left","_law_pen_here"]:List Str):=by decide +kernel
noncomputable abbrev yhf:List Str:=["_law_pen_here","_law_many","_law_b","_law_left"]
theorem h_m_law_words (F:FJ K mg "_law_words" (top bd 32)) (z_tuple:mg "tuple" = none) (z_range:mg "range" = none) (z_len:mg "len" = none) (z_list:mg "list" = none) (h_m_law_take:Has P w K mg base "_law_take" 1 2 zb0):Has P w K mg base "_law_words" 2 3 zjo:=by
 have sc:=yhd
 refine zcj (k:=1) F sc rfl (bl3 λ_ _ _=>λ_ _ _ _ _ _=>rfl) λf cdv hcd A outer s H E hr=>?_
 exact zao (za2 3 sc.nd (ybw rfl rfl z_list rfl z_range (zad (ze7 (zai) (zac 2)) (zag)))) (zau (zbd (zgb rfl z_tuple (zad (zi5 (N':=["_law_room","_law_left","_law_pen_here"]) (ixs:=[none,some 3,some 0]) rfl (zgp (scO:=zay (top bd 32)) (NO:=yhf) rfl rfl (by decide +kernel)) (zmz rfl z_range (zad (zac 1) (zag))) (λ_ _ _ _ _=>zbk 0 yhe) (λ_ _ _ _ _=>zkg) (λ_ _ _ _ _=>ybt (zac 1) (zba h_m_law_take hr (by decide) rfl (zad (zac 2) (zad (zc2 rfl z_len (zad (zac 1) (zag))) (zag))) (zap (zap za6))))) (zag)))))
theorem yhg:FnScope ["_law_pen_here","_law_rooms","_law_asks","_law_share","_law_most","_law_found","_law_room","_law_cells","_law_ask","_law_goes","_law_answer"] ["_law_pen_here","_law_rooms","_law_asks"] (zay (top bd 30)):=⟨rfl,rfl,rfl,by decide +kernel,rfl,by decide +kernel,by decide +kernel⟩
theorem h_m_law_machine (F:FJ K mg "_law_machine" (top bd 30)) (z_tuple:mg "tuple" = none) (z_range:mg "range" = none) (h_m_law_take:Has P w K mg base "_law_take" 1 2 zb0):Has P w K mg base "_law_machine" 2 3 zjp:=by
 have sc:=yhg
 refine zcj (k:=1) F sc rfl (bl3 λ_ _ _=>λ_ _ _ _ _ _=>rfl) λf cdv hcd A outer s H E hr=>?_
 exact zao (za2 3 sc.nd (zbm (zce (zad (zai) (zad (zai) (zad (zai) (zad (zai) (zag)))))) (zba h_m_law_take hr (by decide) rfl (zad (zac 0) (zad (zai) (zag))) (zap (zap za6))))) (zao (za2 4 sc.nd (zbm (zce (zad (zai) (zad (zai) (zad (zai) (zad (zai) (zag)))))) (zba h_m_law_take hr (by decide) rfl (zad (zac 0) (zad (zai) (zag))) (zap (zap za6))))) (zao (za2 5 sc.nd (zce (zag))) (zao (zhi PassesOwn.never rfl rfl z_range (zad (zac 1) (zag)) (zbk 6 sc.nd) (zao (za2 7 sc.nd (zce (zag))) (zao (zhi PassesOwn.never rfl rfl z_range (zad (zac 2) (zag)) (zbk 8 sc.nd) (zao (za2 9 sc.nd (zba h_m_law_take hr (by decide) rfl (zad (zac 0) (zad (zac 1) (zag))) (zap (zap za6)))) (zao (za2 10 sc.nd (zba h_m_law_take hr (by decide) rfl (zad (zac 0) (zad (zac 4) (zag))) (zap (zap za6)))) (zao (zbo (zhc (zba h_m_law_take hr (by decide) rfl (zad (zac 0) (zad (zai) (zag))) (zap (zap za6))) (zac 3)) (zau (za2 9 sc.nd (zda))) (zbr)) (zao (zbo (zhc (zba h_m_law_take hr (by decide) rfl (zad (zac 0) (zad (zai) (zag))) (zap (zap za6))) (zac 3)) (zau (za2 10 sc.nd (zda))) (zbr)) (zau (ze2 (zhg (zac 7) (zb5 (zad (zac 9) (zad (zac 10) (zag)))))))))))) (zau (ze2 (zhg (zac 5) (zgb rfl z_tuple (zad (zac 7) (zag))))))))) (zau (zbd (zb5 (zad (zac 2) (zad (zgb rfl z_tuple (zad (zac 5) (zag))) (zag)))))))))
theorem yhh:FnScope ["_law_script"] ["_law_script"] (zay (top bd 28)):=⟨rfl,rfl,rfl,by decide +kernel,rfl,by decide +kernel,by decide +kernel⟩
theorem h_m_law_pen (F:FJ K mg "_law_pen" (top bd 28)):Has P w K mg base "_law_pen" 1 1 zjq:=by
 have sc:=yhh
 refine zcj (k:=0) F sc rfl (bl1 λ_=>λ_ _ _ _ _ _=>rfl) λf cdv hcd A outer s H E hr=>?_
 exact zau (zbd (yct 0 (by decide +kernel) (by decide +kernel) (by decide +kernel)))
theorem yhi:FnScope ["_law_script","_law_pen_here","_law_is_great","_law_many","_law_machine_here","_law_things","_law_thing","_law_b","_law_c","_law_turn","_law_words_here"] ["_law_script"] (zay (top bd 39)):=⟨rfl,rfl,rfl,by decide +kernel,rfl,by decide +kernel,by decide +kernel⟩
theorem yhj {f:Addr}{fd:FuncData}(F:Fun K "law" "law" (top bd 39) f fd) (hm:mg "law" = some (.ref f)) (nf:Fnc K mg "law") (z_range:mg "range" = none) (z_tuple:mg "tuple" = none) (z_int:mg "int" = none) (h_m_law_are_words:Has P w K mg base "_law_are_words" 1 3 zji) (h_m_law_right:Has P w K mg base "_law_right" 6 2 zh2) (h_m_law_heard:Has P w K mg base "_law_heard" 7 1 zg3) (h_m_law_spoilt:Has P w K mg base "_law_spoilt" 2 3 zjn) (h_m_law_words:Has P w K mg base "_law_words" 2 3 zjo) (h_m_law_bits:Has P w K mg base "_law_bits" 1 1 zg2) (h_m_law_take:Has P w K mg base "_law_take" 1 2 zb0) (h_m_law_machine:Has P w K mg base "_law_machine" 2 3 zjp) (h_m_law_pen:Has P w K mg base "_law_pen" 1 1 zjq) {c T:Addr} (t_law:PySem.W.tabIn K "law" = some (c,T)):FnOk P w K mg base CX0 8 f fd ["_law_script"] (sp3 K 1 zfv):=by
 have sc:=yhi
 refine ygm (k:=7) F hm nf t_law sc rfl λhcd A outer s H E hr=>?_
 refine zao (za2 1 sc.nd (zba h_m_law_pen hr (by decide) rfl (zad (zac 0) (zag)) (zap za6))) ?_
 refine zao (za2 2 sc.nd (zij (zba h_m_law_take hr (by decide) rfl (zad (zac 1) (zad (zai) (zag))) (zap (zap za6))) (zai))) ?_
 refine zao (za2 3 sc.nd (zbm (zce (zad (zcd (zai) (zba h_m_law_take hr (by decide) rfl (zad (zac 1) (zad (zai) (zag))) (zap (zap za6)))) (zad (zcd (zai) (zba h_m_law_take hr (by decide) rfl (zad (zac 1) (zad (zai) (zag))) (zap (zap za6)))) (zag)))) (yc1 rfl z_int (zad (zac 2) (zag))))) ?_
 refine zao (za2 4 sc.nd (zba h_m_law_machine hr (by decide) rfl (zad (zac 1) (zad (zac 3) (zad (zcd (zai) (zba h_m_law_take hr (by decide) rfl (zad (zac 1) (zad (zai) (zag))) (zap (zap za6)))) (zag)))) (zap (zap (zap za6))))) ?_
 refine zao (zbo (zd0 (zac 2)) (zao (za2 5 sc.nd (zce (zad (yge rfl rfl z_tuple rfl z_range (zad (zac 3) (zag))) (zad (zb5 (zad (zai) (zad (zai) (zag)))) (zad (zda) (zad (zce (zag)) (zag))))))) (zao (za2 6 sc.nd (zbm (zac 5) (zba h_m_law_take hr (by decide) rfl (zad (zac 1) (zad (zai) (zag))) (zap (zap za6))))) (zau (zbd (ybm hr (ztr 1 t_law h_m_law_heard hr (by decide) (λ_=>rfl) (.cons rfl rfl rfl (.cons rfl rfl rfl (.nil))) rfl rfl rfl rfl) (zb5 (zad (zbv) (zad (zbv) (zag))))))))) (zbr)) ?_
 refine zao (zio (zba h_m_law_bits hr (by decide) rfl (zad (zac 4) (zag)) (zap za6)) (zfm rfl (zcv (zbk 7 sc.nd) (zcv (zbk 8 sc.nd) (zfl))))) ?_
 refine zao (zhi PassesOwn.never rfl rfl z_range (zad (zai) (zag)) (zbk 9 sc.nd) ?_) ?_
 ·refine zao (za2 10 sc.nd (zba h_m_law_words hr (by decide) rfl (zad (zac 1) (zad (zac 3) (zad (zac 7) (zag)))) (zap (zap (zap za6))))) ?_
  refine zao (za2 6 sc.nd (zba h_m_law_spoilt hr (by decide) rfl (zad (zac 1) (zad (zac 10) (zad (zac 7) (zag)))) (zap (zap (zap za6))))) ?_
  refine zao (zbo (zfj (zd0 (zba h_m_law_right hr (by decide) rfl (zad (zac 4) (zad (zac 10) (zag))) (zap (zap za6))))) (zau (zbd (zdk))) (zbr)) ?_
  exact zau (zbo (zd0 (zba h_m_law_are_words hr (by decide) rfl (zad (zac 6) (zad (zac 3) (zad (zac 7) (zag)))) (zap (zap (zap za6))))) (zau (zbo (zfj (zd0 (zba h_m_law_right hr (by decide) rfl (zad (zac 4) (zad (zac 6) (zag))) (zap (zap za6))))) (zau (zbd (zdk))) (zbr))) (zau (zbo (ybn hr (ztr 1 t_law h_m_law_heard hr (by decide) (λ_=>rfl) (.cons rfl rfl rfl (.cons rfl rfl rfl (.nil))) rfl rfl rfl rfl) (zb5 (zad (zbv) (zad (zbv) (zag))))) (zau (zbd (zdk))) (zbr))))
 exact zau (zbd (zdk))
end
theorem all_mk {l:PySem.W.OpenLaw}{w:World}{K:QFg}{h:Heap}{mg:Str->Option Value}{fa:Addr}(X:K.In h) (G:h.Ns mainGlobals mg) (hfa:mg "law" = some (.ref fa)) {g_TooMany g_NoWords g_Unreached g_Clash g_NotOpen g_NoBack g_NoText g_NoName g_NoLine g_NotClosed g_Unlike g_NotFull g_CellError:Addr}
  (a0:FI K "_law_are_words" (top bd 34))
  (a1:FI K "bit_of" (top bd 18))
  (a2:FI K "table_of" (top bd 26))
  (a3:FI K "bits_of" (top bd 22))
  (a4:FI K "is_below" (top bd 15))
  (a5:FI K "are_unlike_below" (top bd 16))
  (a6:FI K "is_words" (top bd 23))
  (a7:FI K "refuse_no_words" (top bd 24))
  (a8:FI K "tables" (top bd 25))
  (a9:FI K "_law_bits" (top bd 31))
  (a10:FI K "_law_tables" (top bd 37))
  (a11:FI K "_law_right" (top bd 38))
  (a12:FI K "_law_class" (top bd 35))
  (a13:FI K "_law_heard" (top bd 36))
  (a14:FI K "_law_take" (top bd 29))
  (a15:FI K "_law_spoilt" (top bd 33))
  (a16:FI K "_law_words" (top bd 32))
  (a17:FI K "_law_machine" (top bd 30))
  (a18:FI K "_law_pen" (top bd 28))
  (a19:FI K "law" (top bd 39))
  (z_len:PySem.W.nsIn K mainGlobals "len" = some none)
  (z_isinstance:PySem.W.nsIn K mainGlobals "isinstance" = some none)
  (z_int:PySem.W.nsIn K mainGlobals "int" = some none)
  (z_bool:PySem.W.nsIn K mainGlobals "bool" = some none)
  (z_tuple:PySem.W.nsIn K mainGlobals "tuple" = some none)
  (z_sorted:PySem.W.nsIn K mainGlobals "sorted" = some none)
  (z_max:PySem.W.nsIn K mainGlobals "max" = some none)
  (z_all:PySem.W.nsIn K mainGlobals "all" = some none)
  (z_set:PySem.W.nsIn K mainGlobals "set" = some none)
  (z_range:PySem.W.nsIn K mainGlobals "range" = some none)
  (z_enumerate:PySem.W.nsIn K mainGlobals "enumerate" = some none)
  (z_zip:PySem.W.nsIn K mainGlobals "zip" = some none)
  (z_repr:PySem.W.nsIn K mainGlobals "repr" = some none)
  (z_ValueError:PySem.W.nsIn K mainGlobals "ValueError" = some none)
  (z_abs:PySem.W.nsIn K mainGlobals "abs" = some none)
  (z_str:PySem.W.nsIn K mainGlobals "str" = some none)
  (z_list:PySem.W.nsIn K mainGlobals "list" = some none)
  {t_MOST_WITH_WORDS:Tok} (c_MOST_WITH_WORDS:PySem.W.nsIn K mainGlobals "MOST_WITH_WORDS" = some (some (.int 8 t_MOST_WITH_WORDS)))
  {t_ANSWER_BITS:Tok} (c_ANSWER_BITS:PySem.W.nsIn K mainGlobals "ANSWER_BITS" = some (some (.int 3 t_ANSWER_BITS)))
  (a_TooMany:PySem.W.nsIn K mainGlobals "TooMany" = some (some (.ref g_TooMany)))
  (a_NoWords:PySem.W.nsIn K mainGlobals "NoWords" = some (some (.ref g_NoWords)))
  (a_Unreached:PySem.W.nsIn K mainGlobals "Unreached" = some (some (.ref g_Unreached)))
  (a_Clash:PySem.W.nsIn K mainGlobals "Clash" = some (some (.ref g_Clash)))
  (a_NotOpen:PySem.W.nsIn K mainGlobals "NotOpen" = some (some (.ref g_NotOpen)))
  (a_NoBack:PySem.W.nsIn K mainGlobals "NoBack" = some (some (.ref g_NoBack)))
  (a_NoText:PySem.W.nsIn K mainGlobals "NoText" = some (some (.ref g_NoText)))
  (a_NoName:PySem.W.nsIn K mainGlobals "NoName" = some (some (.ref g_NoName)))
  (a_NoLine:PySem.W.nsIn K mainGlobals "NoLine" = some (some (.ref g_NoLine)))
  (a_NotClosed:PySem.W.nsIn K mainGlobals "NotClosed" = some (some (.ref g_NotClosed)))
  (a_Unlike:PySem.W.nsIn K mainGlobals "Unlike" = some (some (.ref g_Unlike)))
  (a_NotFull:PySem.W.nsIn K mainGlobals "NotFull" = some (some (.ref g_NotFull)))
  (a_CellError:PySem.W.nsIn K mainGlobals "CellError" = some (some (.ref g_CellError)))
  (x_TooMany:PySem.W.excIn K g_TooMany zcr "ValueError.__new__" = true)
  (x_NoWords:PySem.W.excIn K g_NoWords zcr "ValueError.__new__" = true)
  (x_CellError:PySem.W.excIn K g_CellError zcr "ValueError.__new__" = true)
  (s_TooMany_CellError:(Value.ref g_TooMany :: zea K g_TooMany).contains (.ref g_CellError)=true)
  (s_NoWords_CellError:(Value.ref g_NoWords :: zea K g_NoWords).contains (.ref g_CellError)=true)
  (o_TooMany:PySem.W.mroIn K g_TooMany (.type "object")=some true) (d_TooMany:PySem.W.findIn K (.ref g_TooMany) "__class__" = some (some (.builtin "object.__class__"))) (ga_TooMany:PySem.W.findIn K (.ref g_TooMany) "__getattribute__" = some (some (.builtin "BaseException.__getattribute__"))) (gr_TooMany:PySem.W.findIn K (.ref g_TooMany) "__getattr__" = some none) (is_TooMany:(PySem.W.clsIn K g_TooMany).isSome=true)
  (o_NoWords:PySem.W.mroIn K g_NoWords (.type "object")=some true) (d_NoWords:PySem.W.findIn K (.ref g_NoWords) "__class__" = some (some (.builtin "object.__class__"))) (ga_NoWords:PySem.W.findIn K (.ref g_NoWords) "__getattribute__" = some (some (.builtin "BaseException.__getattribute__"))) (gr_NoWords:PySem.W.findIn K (.ref g_NoWords) "__getattr__" = some none) (is_NoWords:(PySem.W.clsIn K g_NoWords).isSome=true)
  (i_0:PySem.W.kitOne K (.ref g_NoWords) (.type "ValueError")=some true)
  (i_1:PySem.W.kitOne K (.ref g_TooMany) (.type "ValueError")=some true)
  (i_2:PySem.W.kitAny K (.ref g_NoWords) [.ref g_Unreached,.ref g_Clash,.ref g_NotOpen,.ref g_NoBack,.ref g_NoText,.ref g_NoName,.ref g_NoLine]=some false)
  (i_3:PySem.W.kitAny K (.ref g_TooMany) [.ref g_Unreached,.ref g_Clash,.ref g_NotOpen,.ref g_NoBack,.ref g_NoText,.ref g_NoName,.ref g_NoLine]=some false)
  (i_4:PySem.W.kitAny K (.ref g_NoWords) [.ref g_NotClosed,.ref g_Unlike,.ref g_NotFull]=some false)
  (i_5:PySem.W.kitAny K (.ref g_TooMany) [.ref g_NotClosed,.ref g_Unlike,.ref g_NotFull]=some false)
  (i_6:PySem.W.kitOne K (.ref g_NoWords) (.ref g_NoWords)=some true)
  (i_7:PySem.W.kitOne K (.ref g_TooMany) (.ref g_NoWords)=some false)
  (i_8:PySem.W.kitOne K (.ref g_NoWords) (.ref g_TooMany)=some false)
  (i_9:PySem.W.kitOne K (.ref g_TooMany) (.ref g_TooMany)=some true)
  (tb_law:∃T,FT K "law" T) :
  ∃fd:FuncData,(∀(s:Shared) (v:Value),BindsTo s fd ⟨[v],[]⟩ [("_law_script",v)])/\∀base:Heap,K.In base->base.Ns mainGlobals mg->FnOk l.prog w K mg base CX0 8 fa fd ["_law_script"] (sp3 K 1 zfv):=by
 have y_len:=PySem.W.mg_none_of X G z_len
 have y_isinstance:=PySem.W.mg_none_of X G z_isinstance
 have y_int:=PySem.W.mg_none_of X G z_int
 have y_bool:=PySem.W.mg_none_of X G z_bool
 have y_tuple:=PySem.W.mg_none_of X G z_tuple
 have y_sorted:=PySem.W.mg_none_of X G z_sorted
 have y_max:=PySem.W.mg_none_of X G z_max
 have y_all:=PySem.W.mg_none_of X G z_all
 have y_set:=PySem.W.mg_none_of X G z_set
 have y_range:=PySem.W.mg_none_of X G z_range
 have y_enumerate:=PySem.W.mg_none_of X G z_enumerate
 have y_zip:=PySem.W.mg_none_of X G z_zip
 have y_repr:=PySem.W.mg_none_of X G z_repr
 have y_ValueError:=PySem.W.mg_none_of X G z_ValueError
 have y_abs:=PySem.W.mg_none_of X G z_abs
 have y_str:=PySem.W.mg_none_of X G z_str
 have y_list:=PySem.W.mg_none_of X G z_list
 have y_MOST_WITH_WORDS:∃t,mg "MOST_WITH_WORDS" = some (.int 8 t):=⟨_,PySem.W.mg_of X G c_MOST_WITH_WORDS⟩
 have y_ANSWER_BITS:∃t,mg "ANSWER_BITS" = some (.int 3 t):=⟨_,PySem.W.mg_of X G c_ANSWER_BITS⟩
 obtain ⟨CA,ca_TooMany,ca_NoWords,ca_Unreached,ca_Clash,ca_NotOpen,ca_NoBack,ca_NoText,ca_NoName,ca_NoLine,ca_NotClosed,ca_Unlike,ca_NotFull,ca_CellError⟩:∃CA:Str->Addr,CA "TooMany" = g_TooMany/\CA "NoWords" = g_NoWords/\CA "Unreached" = g_Unreached/\CA "Clash" = g_Clash/\CA "NotOpen" = g_NotOpen/\CA "NoBack" = g_NoBack/\CA "NoText" = g_NoText/\CA "NoName" = g_NoName/\CA "NoLine" = g_NoLine/\CA "NotClosed" = g_NotClosed/\CA "Unlike" = g_Unlike/\CA "NotFull" = g_NotFull/\CA "CellError" = g_CellError:=⟨λy=>if y = "TooMany" then g_TooMany else if y = "NoWords" then g_NoWords else if y = "Unreached" then g_Unreached else if y = "Clash" then g_Clash else if y = "NotOpen" then g_NotOpen else if y = "NoBack" then g_NoBack else if y = "NoText" then g_NoText else if y = "NoName" then g_NoName else if y = "NoLine" then g_NoLine else if y = "NotClosed" then g_NotClosed else if y = "Unlike" then g_Unlike else if y = "NotFull" then g_NotFull else if y = "CellError" then g_CellError else 0,by dsimp only;rw [if_pos rfl],by dsimp only;rw [if_neg (by decide +kernel),if_pos rfl],by dsimp only;rw [if_neg (by decide +kernel),if_neg (by decide +kernel),if_pos rfl],by dsimp only;(repeat rw [if_neg (by decide +kernel)]);rw [if_pos rfl],by dsimp only;(repeat rw [if_neg (by decide +kernel)]);rw [if_pos rfl],by dsimp only;(repeat rw [if_neg (by decide +kernel)]);rw [if_pos rfl],by dsimp only;(repeat rw [if_neg (by decide +kernel)]);rw [if_pos rfl],by dsimp only;(repeat rw [if_neg (by decide +kernel)]);rw [if_pos rfl],by dsimp only;(repeat rw [if_neg (by decide +kernel)]);rw [if_pos rfl],by dsimp only;(repeat rw [if_neg (by decide +kernel)]);rw [if_pos rfl],by dsimp only;(repeat rw [if_neg (by decide +kernel)]);rw [if_pos rfl],by dsimp only;(repeat rw [if_neg (by decide +kernel)]);rw [if_pos rfl],by dsimp only;(repeat rw [if_neg (by decide +kernel)]);rw [if_pos rfl]⟩
 subst ca_TooMany
 subst ca_NoWords
 subst ca_Unreached
 subst ca_Clash
 subst ca_NotOpen
 subst ca_NoBack
 subst ca_NoText
 subst ca_NoName
 subst ca_NoLine
 subst ca_NotClosed
 subst ca_Unlike
 subst ca_NotFull
 subst ca_CellError
 have q_TooMany:=PySem.W.mg_of X G a_TooMany
 have q_NoWords:=PySem.W.mg_of X G a_NoWords
 have q_Unreached:=PySem.W.mg_of X G a_Unreached
 have q_Clash:=PySem.W.mg_of X G a_Clash
 have q_NotOpen:=PySem.W.mg_of X G a_NotOpen
 have q_NoBack:=PySem.W.mg_of X G a_NoBack
 have q_NoText:=PySem.W.mg_of X G a_NoText
 have q_NoName:=PySem.W.mg_of X G a_NoName
 have q_NoLine:=PySem.W.mg_of X G a_NoLine
 have q_NotClosed:=PySem.W.mg_of X G a_NotClosed
 have q_Unlike:=PySem.W.mg_of X G a_Unlike
 have q_NotFull:=PySem.W.mg_of X G a_NotFull
 have q_CellError:=PySem.W.mg_of X G a_CellError
 have n_TooMany:=a_TooMany
 have n_NoWords:=a_NoWords
 have n_Unreached:=a_Unreached
 have n_Clash:=a_Clash
 have n_NotOpen:=a_NotOpen
 have n_NoBack:=a_NoBack
 have n_NoText:=a_NoText
 have n_NoName:=a_NoName
 have n_NoLine:=a_NoLine
 have n_NotClosed:=a_NotClosed
 have n_Unlike:=a_Unlike
 have n_NotFull:=a_NotFull
 have n_CellError:=a_CellError
 have e_TooMany:ExcQ K (CA "TooMany"):=⟨x_TooMany,o_TooMany,d_TooMany,ga_TooMany,gr_TooMany,is_TooMany⟩
 have e_NoWords:ExcQ K (CA "NoWords"):=⟨x_NoWords,o_NoWords,d_NoWords,ga_NoWords,gr_NoWords,is_NoWords⟩
 obtain ⟨_,_,t_law,_⟩:=tb_law
 have F0:=a0.ok X G
 have F1:=a1.ok X G
 have F2:=a2.ok X G
 have F3:=a3.ok X G
 have F4:=a4.ok X G
 have F5:=a5.ok X G
 have F6:=a6.ok X G
 have F7:=a7.ok X G
 have F8:=a8.ok X G
 have F9:=a9.ok X G
 have F10:=a10.ok X G
 have F11:=a11.ok X G
 have F12:=a12.ok X G
 have F13:=a13.ok X G
 have F14:=a14.ok X G
 have F15:=a15.ok X G
 have F16:=a16.ok X G
 have F17:=a17.ok X G
 have F18:=a18.ok X G
 have F19:=a19.ok X G
 obtain @⟨fL,fdL,FL,mL,nL⟩:=F19
 have e:=hfa.symm.trans mL
 cases e
 refine ⟨fdL,λs v=>by obtain ⟨_,_,_,_,_,_,_,_,_,rfl,_⟩:=FL.ex;exact .of_eq rfl,λbase _ _=>?_⟩
 have t:∀{x k n m},Has l.prog w K mg base x k n m->Has l.prog w K mg base x k n m:=id
 have tz:∀{x k n m},zb2 l.prog w K mg base CA x k n m->zb2 l.prog w K mg base CA x k n m:=id
 have g0:=t (h_m_law_are_words F0 y_len y_isinstance y_int y_bool y_tuple)
 have g1:=t (h_m_bit_of F1 )
 have g2:=t (h_m_table_of F2 y_tuple y_sorted g1)
 have g3:=t (h_m_bits_of F3 y_max y_len y_MOST_WITH_WORDS q_TooMany x_TooMany)
 have gz3:=tz (hz_bits_of F3 y_max y_len y_MOST_WITH_WORDS q_TooMany x_TooMany)
 have g4:=t (h_m_is_below F4 y_isinstance y_int y_bool)
 have g5:=t (h_m_are_unlike_below F5 y_all y_len y_set y_isinstance y_tuple g4)
 have g6:=t (h_m_is_words F6 y_len g5 g3 gz3)
 have gz6:=tz (hz_is_words F6 y_len g5 g3 gz3)
 have g7:=t (h_m_refuse_no_words F7 g6 gz6 q_NoWords x_NoWords)
 have gz7:=tz (hz_refuse_no_words F7 g6 gz6 q_NoWords x_NoWords)
 have g8:=t (h_m_tables F8 y_range y_enumerate y_zip y_ANSWER_BITS g2 g3 g7 gz7 gz3)
 have gz8:=tz (hz_tables F8 y_range y_enumerate y_zip y_ANSWER_BITS g2 g3 g7 gz7 gz3)
 have g9:=t (h_m_law_bits F9 y_len)
 have g10:=t (h_m_law_tables F10 y_tuple y_range g9)
 have g11:=t (h_m_law_right F11 y_repr y_range g8 g10)
 have g12:=t (h_m_law_class F12 y_isinstance y_ValueError q_Unreached q_Clash q_NotOpen q_NoBack q_NoText q_NoName q_NoLine q_NotClosed q_Unlike q_NotFull q_NoWords q_TooMany n_TooMany n_NoWords e_TooMany e_NoWords i_0 i_1 i_2 i_3 i_4 i_5 i_6 i_7 i_8 i_9)
 have g13:=t (h_m_law_heard F13 g12 gz8 q_CellError x_CellError x_TooMany x_NoWords n_TooMany n_NoWords s_TooMany_CellError s_NoWords_CellError)
 have g14:=t (h_m_law_take F14 y_len y_abs)
 have g15:=t (h_m_law_spoilt F15 y_str y_list y_len g14)
 have g16:=t (h_m_law_words F16 y_tuple y_range y_len y_list g14)
 have g17:=t (h_m_law_machine F17 y_tuple y_range g14)
 have g18:=t (h_m_law_pen F18 )
 exact yhj FL mL nL y_range y_tuple y_int g0 g11 g13 g15 g16 g9 g14 g17 g18 t_law
theorem walk {l:PySem.W.OpenLaw}{q:Program}{loose:List Str}{XP:(Str->Option Value)->Heap->Prop}{YP:World->Heap->Prop}{d:DefRec}{K:Params->QFg}{T0:Addr}(hn:l.most=some 63) (hdf:d.params.defaults=[])
  (hY:∀(w:World) (h:Heap),YP w h->(K w.params).In h/\∀t∈([T0]:List Addr),h.get? t=some (PySem.W.tabObj #[]))
  (hN:∀w:World,PySem.W.noTabs (K w.params)=true) (hD:([T0]:List Addr).Nodup)
  (hT0:∀w:World,FT (K w.params) "law" T0)
  (F:∀(w:World) (mg:Str->Option Value) (fa:Addr) (h:Heap),(K w.params).In h->h.Ns mainGlobals mg->mg d.name=some (.ref fa) ->
   ∃fd:FuncData,(∀(s:Shared) (u:Value),BindsTo s fd ⟨[u],[]⟩ [("_law_script",u)])/\∀base:Heap,(K w.params).In base->base.Ns mainGlobals mg->FnOk l.prog w (K w.params) mg base CX0 8 fa fd ["_law_script"] (sp3 (K w.params) 1 zfv))
  (hlaw:∀ns:List Int,ns.length<=63->∃S',zfv [.ref 0] (.flst (ns.map D.int) :: zgv ["law"])=some (.bl true,S')) :
  PySem.W.WalkO q loose XP YP l.row.toRowW d [] (λf vs=>PySem.call f vs) :=
 yfd (n:=63) (k:=8) (x:="_law_script") (CX:=λ_=>CX0) (sp:=λw=>sp3 (K w.params) 1 zfv) (ts:=[T0]) hn (by decide) hdf ⟨rfl,by decide,by decide,rfl⟩ hY (λw t ht=>by
  simp only [List.mem_cons,List.not_mem_nil,or_false] at ht
  subst ht;obtain ⟨c,_,h⟩:=hT0 w;exact ⟨c,h⟩) hN F (λw _ a ns hl hO hS=>yfe (gs:=["law"]) hD (λi g t h1 h2=>by
  cases i with
  | zero=>cases h1;cases h2;exact hT0 w
  | succ i =>
  cases h1) rfl hO hS (hlaw ns hl)) λ_ _ _ _ _ z=>z
end G
end
theorem qg0 {α:Type}{a:α}{l:List α}:(a :: l)[0]? = some a:=rfl
theorem qg1 {α:Type}{a:α}{i:Nat}{l:List α}:(a :: l)[i+1]? = l[i]?:=rfl
theorem qs0 {α:Type}{a b:α}{l:List α}:(a :: l).set 0 b=b :: l:=rfl
theorem qs1 {α:Type}{a b:α}{n:Nat}{l:List α}:(a :: l).set (n+1) b=a :: l.set n b:=rfl
theorem qlt {α:Type}{l:List α}{i:Nat}{a:α}(h:l[i]? = some a):i<l.length:=(List.getElem?_eq_some_iff.mp h).1
namespace M
open PySem L3 G PyProof.Rows
local macro_rules
 | `(term| nofun)=>`(by first|rfl|trivial)
local macro_rules
 | `(term| ‹$x›)=>`(some (.int ($x : Int)))
local macro_rules
 | `(term| ~~~$x)=>`(some (.ref $x))
local macro_rules
 | `(tactic| dsimp! only [$xs,*])=>`(tactic| simp only [$xs,*,List.map_cons,List.map_nil,List.length_cons,List.length_nil,Nat.reduceAdd,Nat.reduceSub,List.replicate,List.cons_append,List.nil_append])
noncomputable def pen (a r:Int):List (L2.Key × D):=[(Sum.inr "cells",.ref 0),(Sum.inr "at",.int a),(Sum.inr "left",.int r)]
noncomputable def St (ns:List Int) (a r:Int) (rest:Sto):Sto:=.flst (ns.map .int) :: .tab "law" :: .dct (pen a r) :: rest
section
variable {ns:List Int}{a r x:Int}{rest:Sto}{o:Ob}{k:Nat}{Q:D->Sto->Prop}
theorem zlk:lstOf (St ns a r rest) 0=some (ns.map .int):=rfl
theorem zu7:(St ns a r rest).length=rest.length+3:=rfl
theorem zu8:Wo (zcq (.ref 2) (.str "left") (St ns a r rest)) Q=Q (.int r) (St ns a r rest):=by
 have:zcq (.ref 2) (.str "left") (St ns a r rest)=some (.int r,St ns a r rest):=by with_unfolding_all rfl
 rw [this];exact za1
theorem yhk:Wo (zcq (.ref 2) (.str "at") (St ns a r rest)) Q=Q (.int a) (St ns a r rest):=by
 have:zcq (.ref 2) (.str "at") (St ns a r rest)=some (.int a,St ns a r rest):=by with_unfolding_all rfl
 rw [this];exact za1
theorem zll:Wo (zcq (.ref 2) (.str "cells") (St ns a r rest)) Q=Q (.ref 0) (St ns a r rest):=by
 have:zcq (.ref 2) (.str "cells") (St ns a r rest)=some (.ref 0,St ns a r rest):=by with_unfolding_all rfl
 rw [this];exact za1
theorem zlm:ziz (.ref 2) (.str "left") (.int x) (St ns a r rest)=some (St ns a x rest):=by with_unfolding_all rfl
theorem yhl:ziz (.ref 2) (.str "at") (.int x) (St ns a r rest)=some (St ns x r rest):=by with_unfolding_all rfl
end
noncomputable abbrev zu9:List D:=[.int 2147483647,.int 2147483629,.int 2147483587,.int 2147483579,.int 2147483563,.int 2147483549,.int 2147483543]
theorem yhm (i:Int) (h0:0<=i) (h1:i<7):∃p,L2.atI zu9 i=some (.int p)/\0<p/\p<2147483648:=by
 have:i=0\/i=1\/i=2\/i=3\/i=4\/i=5\/i=6:=by omega
 rcases this with rfl|rfl|rfl|rfl|rfl|rfl|rfl <;> exact ⟨_,rfl,by decide,by decide⟩
local macro_rules
 | `(tactic| simp! only [$xs,*])=>`(tactic| simp only [zbz,zcw,zbj,zbb,zax,zc0,zak,zav,za7,zbt,zen,zcc,zaz,zgc,zgd,zge,zt7,zat,zdq,zas,zar,zis,zdr,zc1,zhj,zm4,zd5,zit,zeu,zjh,zle,zlc,zld,zlf,zod,zt5,zm5,zm6,zjd,zdv,zm7,zm8,zet,zla,zri,zdc,zds,ziu,ze5,zhy,zrj,zfp,zlb,zje,zjf,zjg,List.map_cons,List.map_nil,List.length_cons,List.length_nil,Nat.reduceAdd,Nat.reduceSub,List.replicate,List.cons_append,List.nil_append,qg0,qg1,qs0,qs1,zam,zcg,za9,zt2,zt3,zt4,zt0,zt1,zed,decide_eq_true_eq,zlg,$xs,*])
theorem yhn (at' p m c:Int) (ha:0<=at') (hb:at' < 1000000000) (pa:0<p) (pb:p<2147483648) (hm:0<m) (hm2:m<1073741824) (l0:Lo) (S:Sto) (ns:List Int) (r:Int) (x2:Option D)
  (hp:L2.atI zu9 (at' % 7)=some (.int p)) :
  Ws (zaj (zaq (eOp za3 (zaf zbs (zab (eC (.int 2147483647)) (zab (eC (.int 2147483629)) (zab (eC (.int 2147483587)) (zab (eC (.int 2147483579)) (zab (eC (.int 2147483563)) (zab (eC (.int 2147483549)) (zab (eC (.int 2147483543)) (zae))))))))) (eOp zb6 (zaa 3) (eC (.int 7)))) (zal 5)) (zaj (zaq (eOp zb6 (eOp ze1 (eOp zbe (eOp zbe (eOp zb6 (zaa 4) (eC (.int 2147483497))) (eOp zdt (eC (.int 69621)) (zaa 3))) (eC (.int 7))) (eC (.int 3))) (zaa 5)) (zal 6)) (zaj (zaq (eOp zb6 (eOp ze1 (eOp zbe (eOp zdt (zaa 6) (eOp zbe (zaa 3) (eC (.int 3)))) (eC (.int 11))) (eC (.int 5))) (eC (.int 2147483489))) (zal 6)) (za4 (eOp zb6 (eOp ze0 (zaa 6) (eC (.int 13))) (zaa 1))))))
   [~~~2,some (.int m),x2,some (.int at'),some (.int c),none,none] S λf _ S'=>∃d,f=.rt (.int d)/\0<=d/\d<m/\S' = S:=by
 have q1:0<=c % 2147483497:=Int.emod_nonneg _ (by omega)
 have q2:c % 2147483497<2147483497:=Int.emod_lt_of_pos _ (by omega)
 refine za0 (λl S'=>l=[~~~2,some (.int m),x2,some (.int at'),some (.int c),some (.int p),none]/\S' = S) ?_ ?_
 ·have sz:7<=sizeLine:=by decide
  have f7:(0:Int)<7:=by decide
  simp! only [f7,sz,hp,true_and,and_self]
 rintro l S' ⟨rfl,rfl⟩
 refine za0 (λl S1=>∃n,l=[~~~2,some (.int m),x2,some (.int at'),some (.int c),some (.int p),some (.int n)]/\0<=n/\n<p/\S1=S') ?_ ?_
 ·have f0:(0:Int)<2147483497:=by decide
  have f1:(-2 ^ 64:Int)<69621/\(69621:Int)<2 ^ 64:=by decide
  have f2:(0:Int)<=3/\(3:Int)<=1000000/\(c % 2147483497+69621*at' + 7).natAbs<2 ^ 64:=⟨by decide,by decide,by omega⟩
  simp! only [f0,f1,f2,pa,true_and,and_self,true_or]
  exact ⟨_,rfl,Int.emod_nonneg _ (by omega),Int.emod_lt_of_pos _ pa,by first|rfl|trivial⟩
 rintro l S1 ⟨n,rfl,n0,n1,rfl⟩
 refine za0 (λl S2=>∃k,l=[~~~2,some (.int m),x2,some (.int at'),some (.int c),some (.int p),some (.int k)]/\S2=S1) ?_ ?_
 ·have f0:(0:Int)<2147483489:=by decide
  have f1:(-2 ^ 64:Int)<n/\n<2 ^ 64:=by omega
  have hmul:n*(at' + 3)<=2147483648*1000000003:=Int.mul_le_mul (by omega) (by omega) (by omega) (by omega)
  have hpos:0<=n*(at' + 3):=Int.mul_nonneg n0 (by omega)
  have f2:(0:Int)<=5/\(5:Int)<=1000000/\(n*(at' + 3)+11).natAbs<2 ^ 64:=⟨by decide,by decide,by omega⟩
  simp! only [f0,f1,f2,true_and,and_self,true_or]
  exact ⟨_,rfl,by first|rfl|trivial⟩
 rintro l S2 ⟨k,rfl,rfl⟩
 have f6:(0:Int)<13/\(13:Int)<1073741824:=by decide
 simp! only [f6,hm,true_and,and_self]
 exact ⟨_,rfl,Int.emod_nonneg _ (by omega),Int.emod_lt_of_pos _ hm,by first|rfl|trivial⟩
theorem yho (ns:List Int) (at' r m:Int) (rest:Sto) (ha:0<=at') (hb:at' < 1000000000) (hr:0<=r) (hm:0<m) (hm2:m<1073741824) :
  Wo (zb0 [.ref 2,.int m] (St ns at' r rest)) λv S=>∃d at2 r2,v=.int d/\0<=d/\d<m/\S=St ns at2 r2 rest/\0<=at2/\at2<=at' + 1/\0<=r2:=by
 obtain ⟨p,hp,pa,pb⟩:=yhm (at' % 7) (by omega) (by omega)
 unfold zb0 zuu
 dsimp! only [zbz]
 rw [zcw]
 by_cases hr0:0<r
 ·simp! only [zu8,zlm,hr0,hm,hm2,if_true,true_and,and_self]
  exact ⟨_,at',r / m,rfl,Int.emod_nonneg _ (by omega),Int.emod_lt_of_pos _ hm,rfl,ha,by omega,Int.ediv_nonneg hr (by omega)⟩
 have r0:r=0:=by omega
 subst r0
 simp only [zbj,zbb,zax,zak,zav,zu8,zd5,zam,za9,qg0,hr0,decide_false,qbf,if_false,zcc]
 refine za0 (λl S=>l=[~~~2,some (.int m),none,some (.int at'),none,none,none]/\S=St ns at' 0 rest) (by simp! only [yhk,and_self]) ?_
 rintro l S ⟨rfl,rfl⟩
 refine za0 (λl S=>l=[~~~2,some (.int m),none,some (.int at'),none,none,none]/\S=St ns (at' + 1) 0 rest) (by simp! only [yhl,and_self]) ?_
 rintro l S ⟨rfl,rfl⟩
 refine za0 (λl S=>∃c,l=[~~~2,some (.int m),none,some (.int at'),some (.int c),none,none]/\S=St ns (at' + 1) 0 rest) ?_ ?_
 ·have f1:(-2 ^ 64:Int)<977/\(977:Int)<2 ^ 64:=by decide
  have f2:(-2 ^ 64:Int)<at'/\at' < 2 ^ 64:=by omega
  simp! only [f1,f2,true_and,and_self,true_or,or_true]
  exact ⟨_,rfl,by first|rfl|trivial⟩
 rintro l S ⟨c,rfl,rfl⟩
 rw [zcw]
 have fin:∀c',Ws (zaj (zaq (eOp za3 (zaf zbs (zab (eC (.int 2147483647)) (zab (eC (.int 2147483629)) (zab (eC (.int 2147483587)) (zab (eC (.int 2147483579)) (zab (eC (.int 2147483563)) (zab (eC (.int 2147483549)) (zab (eC (.int 2147483543)) (zae))))))))) (eOp zb6 (zaa 3) (eC (.int 7)))) (zal 5)) (zaj (zaq (eOp zb6 (eOp ze1 (eOp zbe (eOp zbe (eOp zb6 (zaa 4) (eC (.int 2147483497))) (eOp zdt (eC (.int 69621)) (zaa 3))) (eC (.int 7))) (eC (.int 3))) (zaa 5)) (zal 6)) (zaj (zaq (eOp zb6 (eOp ze1 (eOp zbe (eOp zdt (zaa 6) (eOp zbe (zaa 3) (eC (.int 3)))) (eC (.int 11))) (eC (.int 5))) (eC (.int 2147483489))) (zal 6)) (za4 (eOp zb6 (eOp ze0 (zaa 6) (eC (.int 13))) (zaa 1))))))
   [~~~2,some (.int m),none,some (.int at'),some (.int c'),none,none] (St ns (at' + 1) 0 rest) λf x S'=>match f with
    | .rt d=>∃d1 at2 r2,d=.int d1/\0<=d1/\d1<m/\S' = St ns at2 r2 rest/\0<=at2/\at2<=at' + 1/\0<=r2
    | .nx=>∃d1 at2 r2,D.non=.int d1/\0<=d1/\d1<m/\S' = St ns at2 r2 rest/\0<=at2/\at2<=at' + 1/\0<=r2
    | _=>False:=λc'=>(yhn at' p m c' ha hb pa pb hm hm2 [] _ ns 0 none hp).mono (by
  rintro f l S ⟨d,rfl,d0,d1,rfl⟩
  exact ⟨d,at' + 1,0,rfl,d0,d1,rfl,by omega,by omega,by omega⟩)
 refine Wr.mono (Q:=λf l1 S1=>(f=.nx/\∃c',l1=[~~~2,some (.int m),none,some (.int at'),some (.int c'),none,none]/\S1=St ns (at' + 1) 0 rest)\/∃d1 at2 r2,f=.rt (.int d1)/\0<=d1/\d1<m/\S1=St ns at2 r2 rest/\0<=at2/\at2<=at' + 1/\0<=r2) ?_ ?_
 ·by_cases hl:0<(ns.length:Int)
  ·obtain ⟨x,h1,h2⟩:=zjc (ns.map D.int) (at' % (ns.length:Int)) (Int.emod_nonneg _ (by omega)) (by rw [qlm];exact Int.emod_lt_of_pos _ hl)
   obtain ⟨c2,_,rfl⟩:=List.mem_map.mp h2
   have f5:(0:Int)<=18/\(18:Int)<=1000000/\Int.natAbs 10<2 ^ 64:=by decide
   by_cases hbig:at' < (ns.length:Int)
   ·by_cases hc:10 ^ Int.toNat 18<=(if c2<0 then -c2 else c2)
    ·simp! only [zll,zlk,zlm,hl,h1,hbig,hc,qlm,hm,hm2,if_true,if_false,true_and,and_self,f5]
     exact .inr ⟨_,at' + 1,_,rfl,Int.emod_nonneg _ (by omega),Int.emod_lt_of_pos _ hm,rfl,by omega,by omega,Int.ediv_nonneg (by split <;> omega) (by omega)⟩
    ·simp! only [zll,zlk,zlm,hl,h1,hbig,hc,qlm,hm,hm2,if_true,if_false,true_and,and_self,f5]
     exact .inl ⟨_,rfl,nofun⟩
   ·simp! only [zll,zlk,zlm,hl,h1,hbig,qlm,hm,hm2,if_true,if_false,true_and,and_self,f5,decide_false,qbf]
    exact .inl ⟨_,rfl,nofun⟩
  ·simp! only [zll,zlk,hl,qlm,if_true,if_false,true_and,and_self,decide_false,qbf]
   exact .inl ⟨_,rfl,nofun⟩
 ·rintro f l S (⟨rfl,c',rfl,rfl⟩|⟨d1,at2,r2,rfl,d0,d1,rfl,q1,q2,q3⟩)
  ·exact fin c'
  ·exact ⟨_,at2,r2,rfl,d0,d1,rfl,q1,q2,q3⟩
def Pn (ns:List Int) (k:Int) (S:Sto):Prop:=∃at2 r2 rest,S=St ns at2 r2 rest/\0<=at2/\at2<=k/\0<=r2
def Fr (S S':Sto):Prop:=∀(n:Nat) (o:Ob),n≠2->S[n]? = some o->S'[n]? = some o
theorem Fr.trans {A B C:Sto}(h:Fr A B) (g:Fr B C):Fr A C:=λn o hn e=>g n o hn (h n o hn e)
theorem Fr.lst {A B:Sto}{n:Nat}{xs:List D}(h:Fr A B) (hn:n≠2) (e:lstOf A n=some xs):lstOf B n=some xs:=by
 unfold lstOf at e ⊢
 cases q:A[n]? with
 | none=>rw [q] at e;cases e
 | some o=>rw [h n o hn q];rw [q] at e;exact e
theorem zcx (ns:List Int) (S:Sto) (k m:Int) (h:Pn ns k S) (hk:k<1000000000) (hm:0<m) (hm2:m<1073741824) :
  Wo (zb0 [.ref 2,.int m] S) λv S'=>(∃d:Nat,v=.int d/\(d:Int)<m)/\Pn ns (k+1) S'/\Fr S S':=by
 obtain ⟨a,r,rest,rfl,h1,h2,h3⟩:=h
 refine (yho ns a r m rest h1 (by omega) h3 hm hm2).mono ?_
 rintro v S' ⟨d,a2,r2,rfl,q1,q2,rfl,q3,q4,q5⟩
 refine ⟨⟨d.toNat,by rw [Int.toNat_of_nonneg q1],by omega⟩,⟨a2,r2,rest,rfl,q3,by omega,q5⟩,λn o hn e=>?_⟩
 match n,hn with
 | 0,_=>exact e
 | 1,_=>exact e
 | n+3,_=>exact e
theorem Pn.mono {ns:List Int}{k k':Int}{S:Sto}(h:Pn ns k S) (hk:k<=k'):Pn ns k' S:=by
 obtain ⟨a,r,ex,e,h1,h2,h3⟩:=h
 exact ⟨a,r,ex,e,h1,by omega,h3⟩
theorem Pn.gr {ns:List Int}{k:Int}{S S':Sto}(h:Pn ns k S) (g:Gr S S'):Pn ns k S':=by
 obtain ⟨a,r,rest,rfl,h1,h2,h3⟩:=h
 obtain ⟨ex',rfl⟩:=g
 exact ⟨a,r,rest++ex',rfl,h1,h2,h3⟩
theorem Pn.push {ns:List Int}{k:Int}{S:Sto}(h:Pn ns k S) (o:Ob):Pn ns k (S++[o]):=h.gr ⟨[o],rfl⟩
theorem Pn.len {ns:List Int}{k:Int}{S:Sto}(h:Pn ns k S):S.length≠2:=by
 obtain ⟨a,r,rest,rfl,h1,h2,h3⟩:=h
 rw [zu7];omega
theorem Pn.kept {ns:List Int}{k:Int}{S S':Sto}{xs:List D}(h:Pn ns k S) (f:Fr (S++[.lst xs]) S'):lstOf S' S.length=some xs:=f.lst h.len zed
theorem yhp (ns:List Int):Wo (zjq [.ref 0] (.flst (ns.map D.int) :: zgv ["law"])) λv S=>v=.ref 2/\Pn ns 0 S:=by
 unfold zjq zuy
 simp only [zbz,List.map_cons,List.map_nil,List.length_cons,List.length_nil,Nat.reduceAdd,Nat.reduceSub,List.replicate,List.cons_append,List.nil_append,zbt]
 exact ⟨_,_,rfl,rfl,0,0,[],rfl,by decide,by decide,by decide⟩
open PyProof.Rows
noncomputable def bt (p k:Nat):Nat:=p / 2 ^ k % 2
theorem yhq (p k:Nat):bt p k<2:=Nat.mod_lt _ (by decide)
theorem zva (p k:Nat):((bt p k:Nat):Int)=(p:Int) / 2 ^ k % 2:=by unfold bt;push_cast;rfl
theorem yhr (p k:Nat):bt p k=0\/bt p k=1:=by have:=yhq p k;omega
theorem zvb {e:EM}{l:Lo}{S S1:Sto}{v:Nat}(h:e l S=some (.int (v:Int),S1)) (hv:v<=1000000):eOp zcp (eC (.int 1)) e l S=some (.int ((2 ^ v:Nat):Int),S1):=by
 unfold eOp eC;simp only [Option.bind_some];rw [h];simp only [Option.bind_some]
 unfold zcp oI
 have:decide ((0:Int)<=v/\(v:Int)<=1000000/\Int.natAbs 1<2 ^ 64)=true:=decide_eq_true ⟨by omega,by omega,by decide⟩
 simp only [this,if_true,Int.one_mul,Int.toNat_natCast]
 push_cast;rfl
theorem as1 {e:EM}{l:Lo}{S S1:Sto}{x:D}(h:e l S=some (x,S1)):zab e zae l S=some ([x],S1):=by
 unfold zab;rw [h];rfl
theorem zg4 {v:Nat}{S:Sto}{Q:D->Sto->Prop}(hv:v<=1000000):Wo (zcp (.int 1) (.int v) S) Q=Q (.int ((2 ^ v:Nat):Int)) S:=by
 have:decide ((0:Int)<=v/\(v:Int)<=1000000/\Int.natAbs 1<2 ^ 64)=true:=decide_eq_true ⟨by omega,by omega,by decide⟩
 unfold zcp
 rw [zit]
 simp only [this,true_and,Int.one_mul,Int.toNat_natCast]
 push_cast;rfl
noncomputable def zah (ps:List Nat):List D:=ps.map λ(p:Nat)=>D.int (p:Int)
theorem yhs {ps:List Nat}{i:Nat}{x:D}(h:(zah ps)[i]? = some x):∃p:Nat,x=.int p/\ps[i]? = some p:=by
 unfold zah at h;rw [qgm] at h
 cases e:ps[i]? with
 | none=>rw [e] at h;cases h
 | some z=>rw [e] at h;cases h;exact ⟨z,rfl,rfl⟩
theorem zjr {ps:List Nat}{x:D}(h:x∈zah ps):∃p∈ps,x=.int (p:Nat):=by
 obtain ⟨z,hz,rfl⟩:=List.mem_map.mp h;exact ⟨z,hz,rfl⟩
theorem zc6 (ps:List Nat):(zah ps).length=ps.length:=by simp [zah]
theorem yht {p k:Nat}{S:Sto}{Q:D->Sto->Prop}(hk:k<=20):Wo (ze0 (.int p) (.int ((2 ^ k:Nat):Int)) S) (λx S1=>Wo (zb6 x (.int 2) S1) Q)=Q (.int (bt p k)) S:=by
 have h1:(2:Nat) ^ k<=2 ^ 20:=Nat.pow_le_pow_right (by decide) hk
 have h2:(0:Nat)<2 ^ k:=Nat.pow_pos (by decide)
 have h3:(0:Int)<((2 ^ k:Nat):Int)/\((2 ^ k:Nat):Int)<1073741824:=by omega
 have h4:(0:Int)<2:=by decide
 simp only [zit,decide_eq_true_eq,h3,h4,true_and,and_self,zva]
 push_cast;rfl
theorem Pn.set {ns:List Int}{k:Int}{S:Sto}{n:Nat}{o:Ob}(h:Pn ns k S) (hn:3<=n):Pn ns k (S.set n o):=by
 obtain ⟨a,r,rest,rfl,h1,h2,h3⟩:=h
 obtain ⟨m,rfl⟩:∃m,n=m+3:=⟨n-3,by omega⟩
 exact ⟨a,r,rest.set m o,rfl,h1,h2,h3⟩
theorem Pn.two {ns:List Int}{k:Int}{S:Sto}(h:Pn ns k S):3<=S.length:=by
 obtain ⟨a,r,rest,rfl,h1,h2,h3⟩:=h
 rw [zu7];omega
theorem zev {S:Sto}{n:Nat}{o o':Ob}(h:S[n]? = some o'):(S.set n o)[n]? = some o:=List.getElem?_set_self (qme h).1
theorem zoo (ps:List Nat) (p:Nat):zah ps++[.int p]=zah (ps++[p]):=by unfold zah;rw [List.map_append];rfl
theorem zb9 {S:Sto}{n:Nat}{xs:List D}(h:S[n]? = some (.lst xs)):lstOf S n=some xs:=by unfold lstOf;rw [h]
abbrev Cl:=Option Nat × Option Nat
noncomputable def oD:Option Nat->D
 | none=>.non
 | some n=>.int (n:Int)
noncomputable def cD (c:Cl):D:=.tup [oD c.1,oD c.2]
noncomputable def rD (cs:List Cl):D:=.tup (cs.map cD)
noncomputable def mD (asks:Nat) (rs:List (List Cl)):D:=.tup [.int (asks:Int),.tup (rs.map rD)]
structure OkC (m:Nat) (c:Cl):Prop where
 go:∀g,c.1=some g->g<m
 sa:∀s,c.2=some s->s<8
structure OkR (asks:Nat) (rs:List (List Cl)):Prop where
 a1:1<=asks
 a4:asks<=4
 r1:1<=rs.length
 r24:rs.length<=24
 len:∀cs∈rs,cs.length=asks
 ok:∀cs∈rs,∀c∈cs,OkC rs.length c
structure OkM (asks:Nat) (rs:List (List Cl)):Prop where
 a1:1<=asks
 a4:asks<=4
 r1:1<=rs.length
 r8:rs.length<=8
 len:∀cs∈rs,cs.length=asks
 ok:∀cs∈rs,∀c∈cs,OkC rs.length c
theorem yhu (i:Nat) (hi:(i:Int)<4):∃m:Nat,L2.atI [D.int 0,.int 1,.int 4,.int 7] (i:Int)=some (.int m):=by
 have:i=0\/i=1\/i=2\/i=3:=by omega
 rcases this with rfl|rfl|rfl|rfl
 ·exact ⟨0,rfl⟩
 ·exact ⟨1,rfl⟩
 ·exact ⟨4,rfl⟩
 ·exact ⟨7,rfl⟩
theorem yhv (i:Nat) (hi:(i:Int)<4):∃m:Nat,L2.atI [D.int 2,.int 3,.int 8,.int 8] (i:Int)=some (.int m)/\1<=m/\m<=8:=by
 have:i=0\/i=1\/i=2\/i=3:=by omega
 rcases this with rfl|rfl|rfl|rfl
 ·exact ⟨2,rfl,by decide,by decide⟩
 ·exact ⟨3,rfl,by decide,by decide⟩
 ·exact ⟨8,rfl,by decide,by decide⟩
 ·exact ⟨8,rfl,by decide,by decide⟩
theorem OkR.m {asks:Nat}{rs:List (List Cl)}(h:OkR asks rs) (h8:rs.length<=8):OkM asks rs:=⟨h.a1,h.a4,h.r1,h8,h.len,h.ok⟩
theorem yhw (ns:List Int) (S:Sto) (k:Int) (rooms asks:Nat) (h:Pn ns k S) (hk:k<1000) (hr1:1<=rooms) (hr24:rooms<=24) (ha1:1<=asks) (ha4:asks<=4):Wo (zjp [.ref 2,.int rooms,.int asks] S) λv S'=>∃rs,v=mD asks rs/\OkR asks rs/\rs.length=rooms/\Pn ns (k+400) S':=by
 have sz0:0<=sizeLine:=by decide
 have sz2:2<=sizeLine:=by decide
 have sz4:4<=sizeLine:=by decide
 have big:1000<=sizeLine:=by decide
 unfold zjp zux
 dsimp! only [zbz]
 refine za0 (λl S'=>Pn ns (k+1) S'/\∃share:Nat,l=[~~~2,some (.int rooms),some (.int asks),some (.int share),none,none,none,none,none,none,none]) ?_ ?_
 ·simp only [za7,zax,zat,zas,zar,zak,zav,qg0,qg1,zam,zds,List.length_cons,List.length_nil,Nat.reduceAdd,sz4,true_and]
  refine (zcx ns _ _ 4 (h.push _) (by omega) (by decide) (by decide)).mono ?_
  rintro x S2 ⟨⟨d,rfl,hd⟩,p,f⟩
  obtain ⟨m,hm⟩:=yhu d hd
  have hl:=h.kept f
  simp only [zdv,hl,zcg,hm,zaz,qs0,qs1]
  first|exact ⟨nofun,p,m,rfl⟩|exact ⟨p,m,rfl⟩
 rintro l S1 ⟨p1,share,rfl⟩
 refine za0 (λl S'=>Pn ns (k+2) S'/\∃most:Nat,1<=most/\most<=8/\l=[~~~2,some (.int rooms),some (.int asks),some (.int share),some (.int most),none,none,none,none,none,none]) ?_ ?_
 ·simp only [za7,zax,zat,zas,zar,zak,zav,qg0,qg1,zam,zds,List.length_cons,List.length_nil,Nat.reduceAdd,sz4,true_and]
  refine (zcx ns _ _ 4 (p1.push _) (by omega) (by decide) (by decide)).mono ?_
  rintro x S2 ⟨⟨d,rfl,hd⟩,p,f⟩
  obtain ⟨m,hm,hm1,hm2⟩:=yhv d hd
  have hl:=p1.kept f
  simp only [zdv,hl,zcg,hm,zaz,qs0,qs1]
  first|exact ⟨nofun,p.mono (by omega),m,hm1,hm2,rfl⟩|exact ⟨p.mono (by omega),m,hm1,hm2,rfl⟩
 rintro l S2 ⟨p2,most,mo1,mo8,rfl⟩
 refine za0 (λl S'=>Pn ns (k+2) S'/\∃r,3<=r/\S'[r]? = some (.lst [])/\l=[~~~2,some (.int rooms),some (.int asks),some (.int share),some (.int most),~~~r,none,none,none,none,none]) ?_ ?_
 ·simp! only [sz0,true_and]
  first|exact ⟨nofun,p2.push _,_,p2.two,za5 _ _,rfl⟩|exact ⟨p2.push _,_,p2.two,za5 _ _,rfl⟩
 rintro l S3 ⟨p3,r,hr,h3,rfl⟩
 rw [zcw]
 refine zhz (n:=rooms) (λi l S'=>Pn ns (k+2+16*i) S'/\∃rs:List (List Cl),rs.length=i/\(∀cs∈rs,cs.length=asks/\∀c∈cs,OkC rooms c)/\S'[r]? = some (.lst (rs.map rD))/\∃y6 y7 y8 y9 y10,l=[~~~2,some (.int rooms),some (.int asks),some (.int share),some (.int most),~~~r,y6,y7,y8,y9,y10]) (λ_ _=>False) (as1 rfl) (by omega) ⟨by simpa using p3,[],rfl,(λcs z=>by cases z),h3,_,_,_,_,_,rfl⟩ ?_ ?_ (λd l S h=>h.elim)
 ·rintro i l S4 hi ⟨p4,rs,hl4,ok4,h4,y6,y7,y8,y9,y10,rfl⟩
  simp only [zaz,qs0,qs1]
  have hrl:=(qme h4).1
  refine za0 (λl S'=>Pn ns (k+2+16*i) S'/\∃q,r<q/\S'[q]? = some (.lst [])/\S'[r]? = some (.lst (rs.map rD))/\l=[~~~2,some (.int rooms),some (.int asks),some (.int share),some (.int most),~~~r,some (.int i),~~~q,y8,y9,y10]) ?_ ?_
  ·simp! only [sz0,true_and]
   first|exact ⟨nofun,p4.push _,_,hrl,za5 _ _,Gr.get ⟨_,rfl⟩ h4,rfl⟩|exact ⟨p4.push _,_,hrl,za5 _ _,Gr.get ⟨_,rfl⟩ h4,rfl⟩
  rintro l S5 ⟨p5,q,hq,h5,h5r,rfl⟩
  rw [zcw]
  refine zhz (n:=asks) (λj l S'=>Pn ns (k+2+16*i+4*j) S'/\∃cs:List Cl,cs.length=j/\(∀c∈cs,OkC rooms c)/\S'[q]? = some (.lst (cs.map cD))/\S'[r]? = some (.lst (rs.map rD))/\∃y8 y9 y10,l=[~~~2,some (.int rooms),some (.int asks),some (.int share),some (.int most),~~~r,some (.int i),~~~q,y8,y9,y10]) (λ_ _=>False) (as1 rfl) (by omega) ⟨by simpa using p5,[],rfl,(λcs z=>by cases z),h5,h5r,_,_,_,rfl⟩ ?_ ?_ (λd l S h=>h.elim)
  ·rintro j l S6 hj ⟨p6,cs,hl6,ok6,h6,h6r,y8,y9,y10,rfl⟩
   simp only [zaz,qs0,qs1]
   refine za0 (λl S'=>Pn ns (k+2+16*i+4*j+1) S'/\Fr S6 S'/\∃g:Nat,g<rooms/\l=[~~~2,some (.int rooms),some (.int asks),some (.int share),some (.int most),~~~r,some (.int i),~~~q,some (.int j),some (.int g),y10]) ?_ ?_
   ·simp only [za7,zat,zas,zar,zak,qg0,qg1,zam]
    refine (zcx ns _ _ (rooms:Int) p6 (by omega) (by omega) (by omega)).mono ?_
    rintro u S7 ⟨⟨g,rfl,hg⟩,p7,f7⟩
    simp only [zaz,qs0,qs1]
    first|exact ⟨nofun,p7,f7,g,by omega,rfl⟩|exact ⟨p7,f7,g,by omega,rfl⟩
   rintro l S7 ⟨p7,f7,g,hg,rfl⟩
   refine za0 (λl S'=>Pn ns (k+2+16*i+4*j+2) S'/\Fr S6 S'/\∃s:Nat,s<8/\l=[~~~2,some (.int rooms),some (.int asks),some (.int share),some (.int most),~~~r,some (.int i),~~~q,some (.int j),some (.int g),some (.int s)]) ?_ ?_
   ·simp only [za7,zat,zas,zar,zak,qg0,qg1,zam]
    refine (zcx ns _ _ (most:Int) p7 (by omega) (by omega) (by omega)).mono ?_
    rintro u S8 ⟨⟨s,rfl,hs⟩,p8,f8⟩
    simp only [zaz,qs0,qs1]
    first|exact ⟨nofun,p8.mono (by omega),f7.trans f8,s,by omega,rfl⟩|exact ⟨p8.mono (by omega),f7.trans f8,s,by omega,rfl⟩
   rintro l S8 ⟨p8,f8,s,hs,rfl⟩
   refine za0 (λl S'=>Pn ns (k+2+16*i+4*j+3) S'/\Fr S6 S'/\∃o:Option Nat,(∀g,o=some g->g<rooms)/\l=[~~~2,some (.int rooms),some (.int asks),some (.int share),some (.int most),~~~r,some (.int i),~~~q,some (.int j),some (oD o),some (.int s)]) ?_ ?_
   ·simp only [zbj,zbb,zax,zat,zas,zar,zak,zav,qg0,qg1,zam]
    refine (zcx ns _ _ 8 p8 (by omega) (by decide) (by decide)).mono ?_
    rintro u S9 ⟨⟨d,rfl,hd⟩,p9,f9⟩
    simp only [zd5,za9]
    cases decide ((d:Int)<(share:Int)) with
    | true =>
     simp only [if_true,za7,zav,zaz,qs0,qs1]
     first|exact ⟨nofun,p9.mono (by omega),f8.trans f9,none,(λg z=>by cases z),rfl⟩|exact ⟨p9.mono (by omega),f8.trans f9,none,(λg z=>by cases z),rfl⟩
    | false =>
     simp only [qbf,if_false,zcc]
     first|exact ⟨nofun,p9.mono (by omega),f8.trans f9,some g,(λg' z=>by cases z;exact hg),rfl⟩|exact ⟨p9.mono (by omega),f8.trans f9,some g,(λg' z=>by cases z;exact hg),rfl⟩
   rintro l S9 ⟨p9,f9,o,ho,rfl⟩
   refine za0 (λl S'=>Pn ns (k+2+16*i+4*j+4) S'/\Fr S6 S'/\∃o2:Option Nat,(∀g,o2=some g->g<8)/\l=[~~~2,some (.int rooms),some (.int asks),some (.int share),some (.int most),~~~r,some (.int i),~~~q,some (.int j),some (oD o),some (oD o2)]) ?_ ?_
   ·simp only [zbj,zbb,zax,zat,zas,zar,zak,zav,qg0,qg1,zam]
    refine (zcx ns _ _ 8 p9 (by omega) (by decide) (by decide)).mono ?_
    rintro u S10 ⟨⟨d,rfl,hd⟩,p10,f10⟩
    simp only [zd5,za9]
    cases decide ((d:Int)<(share:Int)) with
    | true =>
     simp only [if_true,za7,zav,zaz,qs0,qs1]
     first|exact ⟨nofun,p10.mono (by omega),f9.trans f10,none,(λg z=>by cases z),rfl⟩|exact ⟨p10.mono (by omega),f9.trans f10,none,(λg z=>by cases z),rfl⟩
    | false =>
     simp only [qbf,if_false,zcc]
     first|exact ⟨nofun,p10.mono (by omega),f9.trans f10,some s,(λg' z=>by cases z;exact hs),rfl⟩|exact ⟨p10.mono (by omega),f9.trans f10,some s,(λg' z=>by cases z;exact hs),rfl⟩
   rintro l S10 ⟨p10,f10,o2,ho2,rfl⟩
   have q10:=f10 q _ (by omega) h6
   have r10:=f10 r _ (by omega) h6r
   simp only [zen,zdq,zat,zak,zas,zar,qg0,qg1,zam,zdc,List.length_cons,List.length_nil,Nat.reduceAdd,sz2,true_and,ziv]
   refine ⟨⟨_,show zcu (.ref q) S10=some _ from zb9 q10⟩,_,q10,by rw [qlm];omega,.inl ⟨(by first|exact .inl rfl|exact .inl trivial|trivial),(p10.set (by omega)).mono (by push_cast;omega),cs++[(o,o2)],by simp [hl6],λc hc=>?_,?_,?_,_,_,_,rfl⟩⟩
   ·rcases List.mem_append.mp hc with z|z
    ·exact ok6 c z
    ·rw [List.mem_singleton.mp z];exact ⟨ho,ho2⟩
   ·rw [zev q10,List.map_append];rfl
   ·rw [List.getElem?_set_ne (by omega)];exact r10
  ·rintro l S6 ⟨p6,cs,hl6,ok6,h6,h6r,y8,y9,y10,rfl⟩
   simp only [zen,zdq,zat,zak,zas,zar,qg0,qg1,zam,zcg,ziu,zb9 h6,ziv]
   refine ⟨⟨_,show zcu (.ref r) S6=some _ from zb9 h6r⟩,_,h6r,by rw [qlm];omega,.inl ⟨(by first|exact .inl rfl|exact .inl trivial|trivial),(p6.set hr).mono (by push_cast;omega),rs++[cs],by simp [hl4],λc hc=>?_,?_,_,_,_,_,_,rfl⟩⟩
   ·rcases List.mem_append.mp hc with z|z
    ·exact ok4 c z
    ·rw [List.mem_singleton.mp z];exact ⟨hl6,ok6⟩
   ·rw [zev h6r,List.map_append];rfl
 ·rintro l S4 ⟨p4,rs,hl4,ok4,h4,y6,y7,y8,y9,y10,rfl⟩
  simp! only [zb9 h4,sz2,true_and]
  subst hl4
  exact ⟨rs,nofun,⟨ha1,ha4,hr1,hr24,λcs hc=>(ok4 cs hc).1,λcs hc=>(ok4 cs hc).2⟩,nofun,p4.mono (by omega)⟩
theorem zvc {f g:D->D->Sto->Option (D × Sto)}{a b c:EM}{l:Lo}{S:Sto}{Q:D->Sto->Prop}:We (zha f g a b c) l S Q=We a l S λx S1=>We b l S1 λy S2=>Wo (f x y S2) λr S3=>∃k,r=.bl k/\if k=true then We c l S3 λz S4=>Wo (g y z S4) Q else Q (.bl false) S3:=by
 apply propext
 constructor
 ·rintro ⟨v,S',h,q⟩
  obtain ⟨⟨x,S1⟩,h1,h⟩:=bnd h
  obtain ⟨⟨y,S2⟩,h2,h⟩:=bnd h
  obtain ⟨⟨r,S3⟩,h3,h⟩:=bnd h
  refine ⟨x,S1,h1,y,S2,h2,r,S3,h3,?_⟩
  cases r with
  | bl k =>
   cases k with
   | true =>
    obtain ⟨⟨z,S4⟩,h4,h⟩:=bnd h
    exact ⟨true,rfl,z,S4,h4,v,S',h,q⟩
   | false=>cases h;exact ⟨false,rfl,q⟩
  | _=>cases h
 ·rintro ⟨x,S1,h1,y,S2,h2,r,S3,h3,k,rfl,h⟩
  cases k with
  | true =>
   obtain ⟨z,S4,h4,v,S',h,q⟩:=h
   refine ⟨v,S',?_,q⟩
   unfold zha;rw [h1];show (b l S1).bind _=_;rw [h2];show (f x y S2).bind _=_;rw [h3];show (c l S3).bind _=_;rw [h4];exact h
  | false =>
   refine ⟨_,_,?_,h⟩
   unfold zha;rw [h1];show (b l S1).bind _=_;rw [h2];show (f x y S2).bind _=_;rw [h3];rfl
theorem zop:isI "int" "bool" = false:=by decide
theorem zln {U:String}{x:D}{S:Sto}{Q:D->Sto->Prop}:Wo (zcl U x S) Q = ∃T,tyD S x=some T/\Q (.bl (isI T U)) S:=by
 show Wo ((tyD S x).bind λT=>some (.bl (isI T U),S)) Q=_
 rw [zd4];simp only [za1]
noncomputable def zbw (n:Int):D->Bool
 | .int i=>decide (0<=i) && decide (i<n)
 | _=>false
theorem yhx {S:Sto}{d:D}{T:String}(n:Int) (h:tyD S d=some T):zc5 [d,.int n] S=some (.bl (zbw n d),S):=by
 have key:∀{U:String},T=U->isI U "int" = false->zbw n d=false->zc5 [d,.int n] S=some (.bl (zbw n d),S):=λ{U} e1 e2 e3=>by
  subst e1
  have:Wo (zc5 [d,.int n] S) λv S'=>v=.bl false/\S' = S:=by
   unfold zc5 zjj
   simp only [zbz,List.map_cons,List.map_nil,List.length_cons,List.length_nil,Nat.reduceAdd,Nat.reduceSub,List.replicate,List.cons_append,List.nil_append,zbt,zhj,zc0,zak,qg0,zam,zln,h]
   refine ⟨_,rfl,?_⟩
   simp only [e2,za9,qbf,if_false]
   all_goals first|trivial|exact ⟨nofun,nofun⟩
  obtain ⟨v,S',e,rfl,rfl⟩:=this
  rw [e3];exact e
 cases d with
 | non=>cases h;exact key rfl (by decide) rfl
 | str z=>cases h;exact key rfl (by decide) rfl
 | tup xs=>cases h;exact key rfl (by decide) rfl
 | fn a=>cases h
 | ref k =>
  unfold tyD at h
  dsimp only at h
  split at h
  ·cases h;exact key rfl (by decide) rfl
  ·cases h;exact key rfl (by decide) rfl
  ·cases h
 | bl b =>
  cases h
  have e1:isI "bool" "int" = true:=by decide
  have:Wo (zc5 [.bl b,.int n] S) λv S'=>v=.bl false/\S' = S:=by
   unfold zc5 zjj
   simp only [zbz,List.map_cons,List.map_nil,List.length_cons,List.length_nil,Nat.reduceAdd,Nat.reduceSub,List.replicate,List.cons_append,List.nil_append,zbt,zhj,zc0,zm4,zak,qg0,zam,zlb,zjg,e1,za9,if_true,Bool.not_true,qbf,if_false]
   all_goals first|trivial|exact ⟨nofun,nofun⟩
  obtain ⟨v,S',e,rfl,rfl⟩:=this
  exact e
 | int i =>
  have:Wo (zc5 [.int i,.int n] S) λv S'=>v=.bl (decide (0<=i) && decide (i<n))/\S' = S:=by
   unfold zc5 zjj
   simp! only [zje,zjg,zop,zvc,if_true,Bool.not_false]
   by_cases h0:0<=i
   ·simp only [h0,decide_true,if_true,Bool.true_and,zbz,zcw,zbj,zbb,zax,zc0,zak,zav,za7,zbt,zen,zcc,zaz,zgc,zgd,zge,zt7,zat,zdq,zas,zar,zis,zdr,zc1,zhj,zm4,zd5,zit,zeu,zjh,zle,zlc,zld,zlf,zod,zt5,zm5,zm6,zjd,zdv,zm7,zm8,zet,zla,zri,zdc,zds,ziu,ze5,zhy,zrj,zfp,zlb,zje,zjf,zjg,List.map_cons,List.map_nil,List.length_cons,List.length_nil,Nat.reduceAdd,Nat.reduceSub,List.replicate,List.cons_append,List.nil_append,qg0,qg1,qs0,qs1,zam,zcg,za9,zt2,zt3,zt4,zt0,zt1,zed,decide_eq_true_eq,zlg]
    all_goals first|trivial|exact ⟨nofun,nofun⟩
   ·simp only [h0,decide_false,qbf,if_false,Bool.false_and]
    all_goals first|trivial|exact ⟨nofun,nofun⟩
  obtain ⟨v,S',e,rfl,rfl⟩:=this
  exact e
def Ty (S:Sto) (d:D):Prop:=∃T,tyD S d=some T
theorem Ty.gr {S S':Sto}{d:D}(h:Ty S d) (g:Gr S S'):Ty S' d:=by
 obtain ⟨T,h⟩:=h
 cases d with
 | ref k =>
  unfold tyD at h
  dsimp only at h
  split at h
  ·rename_i e;exact ⟨_,by unfold tyD;dsimp only;rw [g.get e]⟩
  ·rename_i e;exact ⟨_,by unfold tyD;dsimp only;rw [g.get e]⟩
  ·cases h
 | fn a=>cases h
 | non=>exact ⟨_,rfl⟩
 | bl b=>exact ⟨_,rfl⟩
 | int i=>exact ⟨_,rfl⟩
 | str z=>exact ⟨_,rfl⟩
 | tup xs=>exact ⟨_,rfl⟩
noncomputable def zb1 (n B:Nat):D->Bool
 | .tup ds=>decide (ds.length=n) && (ds.all (zbw B) && decide ((ds.map zbh).Nodup))
 | _=>false
theorem zg5 (n B:Nat) (ds:List D):zb1 n B (.tup ds)=(decide (ds.length=n) && (ds.all (zbw B) && decide ((ds.map zbh).Nodup))):=rfl
def Tys (S:Sto):D->Prop
 | .tup ds=>∀d∈ds,Ty S d
 | d=>Ty S d
theorem zoq {n:Int}:∀{ds:List D},ds.all (zbw n)=true->zde ds=some (ds.map zbh)
 | [],_=>rfl
 | d :: ds,h=>by
  rw [List.all_cons,Bool.and_eq_true] at h
  have ih:=zoq h.2
  cases d with
  | int i =>
   have e:D.int i :: ds=(i :: ds.map zbh).map D.int:=by
    rw [List.map_cons]
    congr 1
    have:=h.2
    rw [List.all_eq_true] at this
    rw [List.map_map]
    conv=>lhs;rw [<-List.map_id ds]
    apply List.map_congr_left
    intro x hx
    have:=this x hx
    cases x with
    | int j=>rfl
    | _=>cases this
   rw [e,zsq]
   rw [<-e];rfl
  | _=>cases h.1
theorem yhy (ns:List Int):(dis ns ns.length).length<=ns.length:=by
 have key:∀(l acc:List Int),(l.foldl step_dedup acc).length<=acc.length+l.length:=by
  intro l
  induction l with
  | nil=>intro acc;simp
  | cons x l ih =>
   intro acc
   rw [List.foldl_cons]
   refine Nat.le_trans (ih _) ?_
   unfold step_dedup
   split <;> simp <;> omega
 have e:dis ns ns.length=ns.foldl step_dedup []:=by
  unfold dis firstMet
  congr 1
  apply List.ext_getElem?
  intro i
  rw [qgm]
  by_cases hi:i<ns.length
  ·rw [List.getElem?_range hi,qge hi];simp [hi]
  ·rw [List.getElem?_eq_none (by simpa using hi),List.getElem?_eq_none (by simpa using hi)];rfl
 rw [e]
 simpa using key ns []
theorem yhz {S:Sto}{x:D}{n B:Nat}(h:Tys S x) (hz:∀ds,x=.tup ds->ds.length<=100):Wo (zfu [x,.int (n:Int),.int (B:Int)] S) λv S'=>v=.bl (zb1 n B x)/\Gr S S':=by
 have big:1000<=sizeLine:=by decide
 have sb:scanBound=4096:=rfl
 have tt:isI "tuple" "tuple" = true:=by decide
 unfold zfu zok
 dsimp! only [zbz]
 have no:∀{T:String},tyD S x=some T->isI T "tuple" = false->zb1 n B x=false->Ws (zaj (sIf (zcb (zck (tE (eUn (zcl "tuple") (zaa 0)))) (tE (eOp dNe (zaf zbl (zab (zaa 0) zae)) (zaa 1)))) (za4 (eC (.bl false))) zbg) (za4 (zfi (zaf zho (zab (zco (zd3 (zaa 0)) [none,some 2] (zal 0) ze4 (zaf zc5 (zab (zaa 0) (zab (zaa 1) zae)))) zae)) (eOp dEq (zaf zgt (zab (zaf zgs (zab (zaa 0) zae)) zae)) (zaa 1))))) [some x,‹n›,‹B›] S λf _ S1=>match f with | .rt d=>d=.bl (zb1 n B x)/\Gr S S1 | .nx=>D.non=.bl (zb1 n B x)/\Gr S S1|_=>False:=λ{T} h1 h2 h3=>by
  simp only [zcw,zbj,zdr,zc1,zbb,zc0,zak,qg0,zam,zln,h1]
  refine ⟨_,rfl,?_⟩
  simp only [h2,za9,Bool.not_false,if_true,zbt,zav,h3]
  first|exact ⟨nofun,Gr.refl _⟩|exact Gr.refl _
 cases x with
 | non=>exact no rfl (by decide) rfl
 | bl b=>exact no rfl (by decide) rfl
 | int i=>exact no rfl (by decide) rfl
 | str z=>exact no rfl (by decide) rfl
 | fn a=>obtain ⟨T,e⟩:=h;cases e
 | ref k =>
  obtain ⟨T,e⟩:=h
  have e0:=e
  unfold tyD at e
  dsimp only at e
  split at e
  ·cases e;exact no e0 (by decide) rfl
  ·cases e;exact no e0 (by decide) rfl
  ·cases e
 | tup ds =>
  have hz:=hz ds rfl
  have h:∀d∈ds,Ty S d:=h
  refine zcw ▸ ?_
  simp only [zbj,zdr,zc1,zbb,zc0,zax,zat,zas,zar,zak,qg0,qg1,zam,zjf,tt,za9,Bool.not_true,qbf,if_false,zet,zhy]
  by_cases hl:ds.length=n
  ·have hl':(ds.length:Int)=(n:Int):=by omega
   simp only [hl',decide_true,Bool.not_true,qbf,if_false,zcc,zbt,zhj,zat,zas,zar]
   refine zoa ds (λd=>.bl (zbw (B:Int) d)) (Gr S) (λl=>∃y0,l=[y0,‹B›]) (zob rfl) (Gr.refl _) ⟨_,rfl⟩ (λi S _=>rfl) (by omega) ?_ ?_
   ·rintro x l S2 hx ⟨y0,rfl⟩ g2
    simp only [zaz,qs0]
    refine ⟨g2,⟨_,rfl⟩,?_⟩
    simp only [zat,zas,zar,zak,qg0,qg1,zam]
    obtain ⟨T,hT⟩:=(h x hx).gr g2
    rw [yhx (B:Int) hT,za1]
    exact ⟨rfl,g2⟩
   ·intro S2 g2
    have ea:(ds.map λd=>D.bl (zbw (B:Int) d)).all zgh=true:=by rw [List.all_map];exact List.all_eq_true.mpr λ_ _=>rfl
    have eb:(ds.map λd=>D.bl (zbw (B:Int) d)).all isT=ds.all (zbw (B:Int)):=by
     rw [List.all_map]
     apply congrArg (λf=>ds.all f)
     funext d
     show isT (.bl (zbw (B:Int) d))=_
     cases zbw (B:Int) d <;> rfl
    simp only [zt6,zed,zcg,ea,eb,true_and,za9]
    have g3:=g2.push (.lst (ds.map λd=>D.bl (zbw (B:Int) d)))
    revert g3
    generalize S2++[Ob.lst (ds.map λd=>D.bl (zbw (B:Int) d))]=S3
    intro g3
    cases hb:ds.all (zbw (B:Int)) with
    | false =>
     have e:zb1 n B (.tup ds)=false:=by rw [zg5,hb];simp
     simp only [qbf,if_false,e]
     first|exact ⟨nofun,g3⟩|exact g3
    | true =>
     simp only [if_true,zax,zat,zas,zar,zak,qg0,qg1,zam]
     have hi:=zoq hb
     have hln:(ds.map zbh).length=n:=by rw [qlm];exact hl
     have hdl:(dis (ds.map zbh) (ds.map zbh).length).length<=n:=by
      have:=yhy (ds.map zbh)
      omega
     have es:zgs [.tup ds] S3=some (.ref S3.length,S3++[.iset (λk=>(dis (ds.map zbh) (ds.map zbh).length).any (· == k)) (dis (ds.map zbh) (ds.map zbh).length).length]):=by
      show (zde ds).bind _=_
      rw [hi]
      simp only [Option.bind_some]
      rw [if_pos (by omega)]
     rw [es,za1]
     have el:∀f:Int->Bool,zgt [.ref S3.length] (S3++[.iset f (dis (ds.map zbh) (ds.map zbh).length).length])=some (.int ((dis (ds.map zbh) (ds.map zbh).length).length:Int),S3++[.iset f (dis (ds.map zbh) (ds.map zbh).length).length]):=λf=>by
      show (match (S3++[Ob.iset f (dis (ds.map zbh) (ds.map zbh).length).length])[S3.length]? with|some (.iset _ k)=>if k<scanBound then some (D.int k,_) else none|_=>none)=_
      rw [za5]
      show (if _<scanBound then _ else _)=_
      rw [if_pos (by omega)]
     rw [el,za1]
     have e:zb1 n B (.tup ds)=decide (((dis (ds.map zbh) (ds.map zbh).length).length:Int)=(n:Int)):=by
      rw [zg5,hb,hl,decide_eq_true rfl,Bool.true_and,Bool.true_and]
      have d:=zte (ds.map zbh)
      rw [hln] at d ⊢
      rw [decide_eq_decide]
      rw [<-d]
      omega
     simp only [ze5,e]
     first|exact ⟨nofun,g3.push _⟩|exact g3.push _
  ·have hl':¬(ds.length:Int)=(n:Int):=by omega
   have e:zb1 n B (.tup ds)=false:=by rw [zg5];simp [hl]
   simp only [hl',decide_false,Bool.not_false,if_true,zbt,zav,e]
   first|exact ⟨nofun,Gr.refl _⟩|exact Gr.refl _
theorem yh0 {p k:Nat}{S:Sto}{Q:D->Sto->Prop}:Wo (zgz [.int p,.int k] S) Q=Q (.int (bt p k)) S:=by
 have h:(0:Int)<=k:=by omega
 unfold zgz zuj
 simp! only [h,true_and,Int.toNat_natCast,PyProof.Rows.bitAnd_m1,zva]
abbrev Ls:=List (Nat × Nat)
noncomputable def kvD (L:Ls):List (L2.Key × D):=L.map λp=>(Sum.inl (p.1:Int),.int (p.2:Int))
theorem yh1 (L:Ls) (p:Nat):zdd (kvD L) (Sum.inl (p:Int))=(L.find? λq=>decide (q.1=p)).map λq=>D.int (q.2:Int):=by
 unfold zdd kvD
 induction L with
 | nil=>rfl
 | cons q L ih =>
  rw [List.map_cons,List.find?_cons,List.find?_cons]
  by_cases e:q.1=p
  ·subst e;simp
  ·have e1:decide ((Sum.inl (q.1:Int):L2.Key)=Sum.inl (p:Int))=false:=decide_eq_false λz=>e (by have:=Sum.inl.inj z;omega)
   rw [e1,decide_eq_false e]
   exact ih
noncomputable def zjs (L:Ls) (p v:Nat):Ls:=if (L.any λq=>decide (q.1=p))=true then L.map (λq=>if q.1=p then (q.1,v) else q) else L++[(p,v)]
theorem yh2 (L:Ls) (p v:Nat):ze9 (kvD L) (Sum.inl (p:Int)) (.int (v:Int))=kvD (zjs L p v):=by
 unfold ze9 zjs
 have e0:∀q:Nat × Nat,decide ((Sum.inl (q.1:Int):L2.Key)=Sum.inl (p:Int))=decide (q.1=p):=λq=>by
  by_cases e:q.1=p
  ·rw [e];simp
  ·rw [decide_eq_false e];exact decide_eq_false λz=>e (by have:=Sum.inl.inj z;omega)
 have e1:((kvD L).any λkv=>decide (kv.1=Sum.inl (p:Int)))=L.any λq=>decide (q.1=p):=by
  unfold kvD
  rw [List.any_map]
  congr 1;funext q;exact e0 q
 rw [e1]
 by_cases h:(L.any λq=>decide (q.1=p))=true
 ·rw [if_pos h,if_pos h]
  unfold kvD
  rw [List.map_map,List.map_map]
  refine List.map_congr_left λq _=>?_
  by_cases e:q.1=p
  ·simp [e]
  ·have:¬((Sum.inl (q.1:Int):L2.Key)=Sum.inl (p:Int)):=λz=>e (by have:=Sum.inl.inj z;omega)
   simp only [Function.comp,this,if_false,e]
 ·rw [if_neg h,if_neg h]
  unfold kvD
  rw [List.map_append];rfl
noncomputable def ks (L:Ls):List Nat:=(zeb (L.map λq=>(q.1:Int))).map Int.toNat
theorem yh3 (L:Ls):(zeb (L.map λq=>(q.1:Int))).map D.int=zah (ks L):=by
 unfold ks zah
 rw [List.map_map]
 refine List.map_congr_left λi hi=>?_
 obtain ⟨q,_,rfl⟩:=List.mem_map.mp ((zfr _).mem_iff.mp hi)
 simp
theorem zvd (L:Ls) (p:Nat):p∈ks L↔p∈L.map (·.1):=by
 unfold ks
 rw [List.mem_map]
 constructor
 ·rintro ⟨i,hi,rfl⟩
  obtain ⟨q,hq,rfl⟩:=List.mem_map.mp ((zfr _).mem_iff.mp hi)
  exact List.mem_map.mpr ⟨q,hq,by simp⟩
 ·intro h
  obtain ⟨q,hq,rfl⟩:=List.mem_map.mp h
  exact ⟨(q.1:Int),(zfr _).mem_iff.mpr (List.mem_map.mpr ⟨q,hq,rfl⟩),by simp⟩
theorem yh4 (L:Ls):(ks L).length=L.length:=by
 unfold ks
 rw [qlm,(zfr _).length_eq,qlm]
noncomputable def val (L:Ls) (p:Nat):Nat:=((L.find? λq=>decide (q.1=p)).map (·.2)).getD 0
theorem yh5 {L:Ls}{p:Nat}(h:p∈L.map (·.1)):zdd (kvD L) (Sum.inl (p:Int))=some (.int (val L p:Nat)):=by
 rw [yh1]
 unfold val
 cases e:L.find? λq=>decide (q.1=p) with
 | some q=>rfl
 | none =>
  obtain ⟨q,hq,rfl⟩:=List.mem_map.mp h
  have:=List.find?_eq_none.mp e q hq
  simp at this
theorem zve {L:Ls}{p:Nat}(h:p∈L.map (·.1)):(p,val L p)∈L:=by
 unfold val
 cases e:L.find? λq=>decide (q.1=p) with
 | some q =>
  have h1:=List.mem_of_find?_eq_some e
  have h2:=List.find?_some e
  simp at h2
  subst h2
  exact h1
 | none =>
  obtain ⟨q,hq,rfl⟩:=List.mem_map.mp h
  have:=List.find?_eq_none.mp e q hq
  simp at this
noncomputable def onL (L:Ls) (k x:Nat):List Nat:=(ks L).filter λp=>decide (bt (val L p) k=x)
theorem yh6 (L:Ls):zgu ((kvD L).map (·.1))=some (L.map λq=>(q.1:Int)):=by
 have:(kvD L).map (·.1)=(L.map λq=>(q.1:Int)).map Sum.inl:=by
  unfold kvD;rw [List.map_map,List.map_map];rfl
 rw [this]
 exact zth _
noncomputable def zor (L:Ls) (k x:Nat):D->Option D
 | .int p=>if bt (val L p.toNat) k=x then some (.int p) else none
 | _=>none
theorem yh7 (L:Ls) (k x:Nat):(zah (ks L)).filterMap (zor L k x)=zah (onL L k x):=by
 unfold onL
 generalize ks L=ps
 induction ps with
 | nil=>rfl
 | cons p ps ih =>
  unfold zah at ih ⊢
  rw [List.map_cons,List.filterMap_cons]
  simp only [zor,Int.toNat_natCast]
  by_cases e:bt (val L p) k=x
  ·rw [if_pos e];simp only [List.filter_cons,e,decide_true,if_true,List.map_cons];rw [ih]
  ·rw [if_neg e];simp only [List.filter_cons,e,decide_false,qbf,if_false];exact ih
theorem yh8 {S:Sto}{n p:Nat}{L:Ls}(h:S[n]? = some (.dct (kvD L))) (hp:p∈L.map (·.1)):dRd S (.ref n) (.int (p:Int))=some (some (.int (val L p:Nat))):=by
 unfold dRd
 dsimp only
 rw [h]
 show (some (zdd (kvD L) (Sum.inl (p:Int))))=_
 rw [yh5 hp]
theorem yh9 (n:Nat) (L:Ls) (S:Sto) (k:Nat) (h:S[n]? = some (.dct (kvD L))) (hl:L.length<64) (hk:k<=20):Wo (zft [.ref n,.int k] S) λd S'=>d=.tup [.tup (zah (onL L k 1)),.tup (zah (onL L k 0))]/\Gr S S':=by
 have sz2:2<=sizeLine:=by decide
 have big:1000<=sizeLine:=by decide
 unfold zft zuk
 dsimp! only [zbz]
 refine za0 (λl S'=>S' = S++[.lst (zah (ks L))]/\l=[~~~n,some (.int k),some (.ref S.length),none,none]) ?_ ?_
 ·simp only [za7,zat,zas,zar,zak,qg0,qg1,zam]
  have e:zi8 [.ref n] S=some (.ref S.length,S++[.lst (zah (ks L))]):=by
   show (dctR S n).bind _=_
   have:dctR S n=some (kvD L):=by unfold dctR;rw [h]
   rw [this]
   simp only [Option.bind_some]
   rw [yh6]
   simp only [Option.bind_some,qlm]
   rw [if_pos hl,yh3]
  rw [e,za1]
  simp only [zaz,qs0,qs1,and_self]
 rintro l S1 ⟨rfl,rfl⟩
 have g1:Gr S (S++[.lst (zah (ks L))]):=⟨_,rfl⟩
 have pick:∀(x:Nat) (l:Lo) (S1:Sto) (Q:D->Sto->Prop),Gr (S++[.lst (zah (ks L))]) S1->zcf [none,some 0,some 1] l=[none,~~~n,some (.int k)]->zaa 2 l S1=some (.ref S.length,S1)->(∀S',Gr S1 S'->Q (.ref S'.length) (S'++[.lst (zah (onL L k x))])) ->
   We (zco (zd3 (zaa 2)) [none,some 0,some 1] (zal 0) (tE (eOp dEq (zaf zgz (zab (eOp zgm (zaa 1) (zaa 0)) (zab (zaa 2) (zae)))) (eC (.int (x:Int))))) (zaa 0)) l S1 Q:=λx l S1 Q gs hsrc hv fin=>by
  have hs1:lstOf S1 S.length=some (zah (ks L)):=gs.lst zed
  have hn1:S1[n]? = some (.dct (kvD L)):=gs.get (g1.get h)
  refine zt8 (zah (ks L)) (zor L k x) (Gr S1) (λl=>∃y0,l=[y0,~~~n,some (.int k)]) (ygp hv hs1) (Gr.refl _) ⟨_,hsrc⟩ (λi S' g=>ygq (g.lst hs1)) (by rw [zc6,yh4];omega) ?_ ?_
  ·rintro y l S2 hy ⟨y0,rfl⟩ g2
   obtain ⟨p,hp,rfl⟩:=zjr hy
   simp only [zaz,qs0]
   refine ⟨⟨_,rfl⟩,?_⟩
   simp only [zbb,zax,zat,zas,zar,zak,zav,qg0,qg1,zam,ygu,yh8 (g2.get hn1) ((zvd L p).mp hp),Option.some.injEq,exists_eq_left',yh0,ze5,za9]
   refine ⟨g2,λe=>?_,λe=>?_⟩
   ·have e:¬((bt (val L p) k:Nat):Int)=(x:Int):=of_decide_eq_false e
    show (if bt (val L ((p:Int).toNat)) k=x then some (D.int p) else none)=none
    rw [Int.toNat_natCast,if_neg (by omega)]
   ·have e:((bt (val L p) k:Nat):Int)=(x:Int):=of_decide_eq_true e
    refine ⟨?_,g2⟩
    show (if bt (val L ((p:Int).toNat)) k=x then some (D.int p) else none)=some (.int p)
    rw [Int.toNat_natCast,if_pos (by omega)]
  ·intro S2 g2
   rw [yh7]
   exact fin S2 g2
 refine za0 (λl S'=>Gr (S++[.lst (zah (ks L))]) S'/\∃a,S'[a]? = some (.lst (zah (onL L k 1)))/\l=[~~~n,some (.int k),some (.ref S.length),~~~a,none]) ?_ ?_
 ·rw [za7]
  refine pick 1 _ _ _ (Gr.refl _) rfl rfl λS' g=>?_
  simp only [zaz,qs0,qs1]
  first|exact ⟨nofun,g.push _,_,za5 _ _,rfl⟩|exact ⟨g.push _,_,za5 _ _,rfl⟩
 rintro l S2 ⟨g2,a,ha,rfl⟩
 refine za0 (λl S'=>Gr S2 S'/\∃c,S'[c]? = some (.lst (zah (onL L k 0)))/\l=[~~~n,some (.int k),some (.ref S.length),~~~a,~~~c]) ?_ ?_
 ·rw [za7]
  refine pick 0 _ _ _ g2 rfl rfl λS' g=>?_
  simp only [zaz,qs0,qs1]
  first|exact ⟨nofun,g.push _,_,za5 _ _,rfl⟩|exact ⟨g.push _,_,za5 _ _,rfl⟩
 rintro l S3 ⟨g3,c,hc,rfl⟩
 simp! only [zb9 hc,zb9 (g3.get ha),sz2,true_and]
 first|exact ⟨nofun,(g1.trans g2).trans g3⟩|exact (g1.trans g2).trans g3
noncomputable def bOf:Nat->Nat
 | 0=>1
 | 1=>1
 | 2=>1
 | 3=>2
 | 4=>2
 | _=>3
noncomputable def cOf:Nat->Nat
 | 0=>0
 | 1=>0
 | 2=>1
 | _=>2
theorem zew {r:Nat}(h:r<=8):r<=2 ^ bOf r/\1<=bOf r/\bOf r<=3:=by
 have:r=0\/r=1\/r=2\/r=3\/r=4\/r=5\/r=6\/r=7\/r=8:=by omega
 rcases this with rfl|rfl|rfl|rfl|rfl|rfl|rfl|rfl|rfl <;> decide
theorem zos {a:Nat}(h:a<=4):a<=2 ^ cOf a/\cOf a<=2:=by
 have:a=0\/a=1\/a=2\/a=3\/a=4:=by omega
 rcases this with rfl|rfl|rfl|rfl|rfl <;> decide
theorem yia {r:Nat}(h1:1<=r) (h8:r<=8):(if (Builtin.Int.intBits ((r:Int)-1):Int) > 1 then (Builtin.Int.intBits ((r:Int)-1):Int) else 1)=(bOf r:Nat):=by
 have:r=1\/r=2\/r=3\/r=4\/r=5\/r=6\/r=7\/r=8:=by omega
 rcases this with rfl|rfl|rfl|rfl|rfl|rfl|rfl|rfl <;> decide +kernel
theorem yib {a:Nat}(h1:1<=a) (h4:a<=4):(Builtin.Int.intBits ((a:Int)-1):Int)=(cOf a:Nat):=by
 have:a=1\/a=2\/a=3\/a=4:=by omega
 rcases this with rfl|rfl|rfl|rfl <;> decide +kernel
theorem yic {i:Int}{S:Sto}{Q:D->Sto->Prop}:Wo (zk4 (.int i) S) Q=Q (.int (Builtin.Int.intBits i)) S:=za1
theorem yid {i j:Int}{S:Sto}{Q:D->Sto->Prop}:Wo (zin [.int i,.int j] S) Q=Q (.int (if j > i then j else i)) S:=za1
noncomputable def bcD (asks:Nat) (rs:List (List Cl)):D:=.tup [.int (bOf rs.length:Nat),.int (cOf asks:Nat)]
theorem yie {asks:Nat}{rs:List (List Cl)}(h:OkM asks rs) (S:Sto):zee [mD asks rs] S=some (bcD asks rs,S):=by
 have sz2:2<=sizeLine:=by decide
 have h8:=h.r8
 have ng:¬((8:Int)<(rs.length:Int)):=by omega
 have:Wo (zee [mD asks rs] S) λv S'=>v=bcD asks rs/\S' = S:=by
  unfold zee zul mD bcD
  dsimp! only [zbz]
  refine za0 (λl S'=>S' = S/\l=[some (.tup [.int asks,.tup (rs.map rD)]),some (.int asks),some (.tup (rs.map rD))]) (by simp! only [true_and,and_self]) ?_
  rintro l S1 ⟨rfl,rfl⟩
  refine za0 (λl S'=>S' = S1/\l=[some (.tup [.int asks,.tup (rs.map rD)]),some (.int asks),some (.tup (rs.map rD))]) ?_ ?_
  ·simp! only [qlm,ng,decide_false,qbf,if_false,and_self]
  rintro l S2 ⟨rfl,rfl⟩
  simp! only [yic,yid,qlm,sz2,true_and,yia h.r1 h.r8,yib h.a1 h.a4]
  all_goals first|exact ⟨nofun,nofun⟩|trivial
 obtain ⟨v,S',e,rfl,rfl⟩:=this
 exact e
theorem yif {d n:Nat}(h:d<n) (S:Sto):zc5 [.int (d:Int),.int (n:Int)] S=some (.bl true,S):=by
 have:Wo (zc5 [.int (d:Int),.int (n:Int)] S) λv S'=>v=.bl true/\S' = S:=by
  unfold zc5 zjj
  have h0:(0:Int)<=(d:Int):=by omega
  have h1:(d:Int)<(n:Int):=by omega
  simp! only [zje,zjg,zop,zvc,h0,h1,decide_true,if_true,Bool.not_false]
  all_goals first|trivial|exact ⟨nofun,nofun⟩
 obtain ⟨v,S',e,rfl,rfl⟩:=this
 exact e
theorem zvf (ps:List Nat):zde (zah ps)=some (ps.map λ(p:Nat)=>(p:Int)):=by
 have:zah ps=(ps.map λ(p:Nat)=>(p:Int)).map D.int:=by unfold zah;rw [List.map_map];rfl
 rw [this];exact zsq _
structure OkW (r:Nat) (ws:List Nat):Prop where
 len:ws.length=r
 nd:ws.Nodup
 lt:∀w∈ws,w<2 ^ bOf r
theorem yig {r:Nat}{ws:List Nat}(h:OkW r ws) (hr:r<=8) (S:Sto):Wo (zfu [.tup (zah ws),.int (r:Int),.int ((2 ^ bOf r:Nat):Int)] S) λv S'=>v=.bl true/\Gr S S':=by
 have big:1000<=sizeLine:=by decide
 have hlen:=h.len
 have sb:scanBound=4096:=rfl
 unfold zfu zok
 dsimp! only [zbz]
 have e1:isI "tuple" "tuple" = true:=by decide
 have el:((zah ws).length:Int)=(r:Int):=by rw [zc6,hlen]
 refine za0 (λl S'=>S' = S/\l=[some (.tup (zah ws)),‹r›,some (.int ((2 ^ bOf r:Nat):Int))]) ?_ ?_
 ·simp! only [tyD,e1,zc6,hlen,decide_true,Bool.not_true,qbf,if_false,and_self]
 rintro l S1 ⟨rfl,rfl⟩
 simp only [zbt,zhj,zat,zas,zar]
 refine zoa (zah ws) (λ_=>.bl true) (Gr S1) (λl=>∃y0,l=[y0,some (.int ((2 ^ bOf r:Nat):Int))]) (zob rfl) (Gr.refl _) ⟨_,rfl⟩ (λi S _=>rfl) (by rw [zc6];omega) ?_ ?_
 ·rintro x l S2 hx ⟨y0,rfl⟩ g2
  obtain ⟨w,hw,rfl⟩:=zjr hx
  simp only [zaz,qs0]
  refine ⟨g2,⟨_,rfl⟩,?_⟩
  simp only [zat,zas,zar,zak,qg0,qg1,zam]
  rw [yif (h.lt w hw),za1]
  exact ⟨rfl,g2⟩
 ·intro S2 g2
  have ea:((zah ws).map λ_=>D.bl true).all zgh=true:=by rw [List.all_map];exact List.all_eq_true.mpr λ_ _=>rfl
  have eb:((zah ws).map λ_=>D.bl true).all isT=true:=by rw [List.all_map];exact List.all_eq_true.mpr λ_ _=>rfl
  simp only [zt6,zed,zcg,ea,eb,true_and,za9,if_true,zax,zat,zas,zar,zak,qg0,qg1,zam]
  have g3:=g2.push (.lst ((zah ws).map λ_=>D.bl true))
  revert g3
  generalize S2++[Ob.lst ((zah ws).map λ_=>D.bl true)]=S3
  intro g3
  have nd:(ws.map λ(p:Nat)=>(p:Int)).Nodup:=List.pairwise_map.mpr (h.nd.imp λh e=>h (by omega))
  have hd:=(zte _).mpr nd
  rw [qlm,hlen] at hd
  have es:zgs [.tup (zah ws)] S3=some (.ref S3.length,S3++[.iset (λk=>(dis (ws.map λ(p:Nat)=>(p:Int)) r).any (· == k)) r]):=by
   show (zde (zah ws)).bind _=_
   rw [zvf]
   simp only [Option.bind_some,qlm,hlen,hd]
   rw [if_pos (by omega)]
  rw [es,za1]
  have el:zgt [.ref S3.length] (S3++[.iset (λk=>(dis (ws.map λ(p:Nat)=>(p:Int)) r).any (· == k)) r])=some (.int (r:Int),S3++[.iset (λk=>(dis (ws.map λ(p:Nat)=>(p:Int)) r).any (· == k)) r]):=by
   show (match (S3++[Ob.iset (λk=>(dis (ws.map λ(p:Nat)=>(p:Int)) r).any (· == k)) r])[S3.length]? with|some (.iset _ k)=>if k<scanBound then some (D.int k,_) else none|_=>none)=_
   rw [za5]
   show (if r<scanBound then _ else _)=_
   rw [if_pos (by omega)]
  rw [el,za1]
  simp only [ze5,decide_true]
  first|exact ⟨nofun,g3.push _⟩|exact ⟨g3.push _⟩
theorem zot {asks:Nat}{rs:List (List Cl)}(h:OkM asks rs) {S:Sto}{Q:D->Sto->Prop}:Wo (zee [mD asks rs] S) Q=Q (bcD asks rs) S:=by rw [yie h,za1]
theorem zlo {asks:Nat}{rs:List (List Cl)}{S:Sto}{Q:D->Sto->Prop}:Wo (za3 (mD asks rs) (.int 1) S) Q=Q (.tup (rs.map rD)) S:=za1
theorem zou {asks:Nat}{rs:List (List Cl)}{S:Sto}{Q:D->Sto->Prop}:Wo (za3 (mD asks rs) (.int 0) S) Q=Q (.int (asks:Int)) S:=za1
theorem zov {asks:Nat}{rs:List (List Cl)}{S:Sto}{Q:D->Sto->Prop}:Wo (za3 (bcD asks rs) (.int 0) S) Q=Q (.int (bOf rs.length:Nat)) S:=za1
theorem yih {asks:Nat}{rs:List (List Cl)}{ws:List Nat}(h:OkM asks rs) (hw:OkW rs.length ws) (S:Sto):Wo (zg0 [mD asks rs,.tup (zah ws)] S) λv S'=>Gr S S':=by
 have hb:=(zew h.r8).2.2
 unfold zg0 zum
 simp only [zbz,List.map_cons,List.map_nil,List.length_cons,List.length_nil,Nat.reduceAdd,Nat.reduceSub,List.replicate,List.cons_append,List.nil_append,zbj,zc1,zbb,zat,zas,zar,zak,qg0,qg1,zam]
 have:Wo (zef [mD asks rs,.tup (zah ws)] S) λv S'=>v=.bl true/\Gr S S':=by
  unfold zef zol
  simp only [zbz,List.map_cons,List.map_nil,List.length_cons,List.length_nil,Nat.reduceAdd,Nat.reduceSub,List.replicate,List.cons_append,List.nil_append,zbt,zat,zax,zas,zar,zak,zav,qg0,qg1,zam]
  simp only [zlo,zet,qlm,zot h,zov,zg4 (show bOf rs.length<=1000000 by omega)]
  exact yig hw h.r8 S
 refine this.mono ?_
 rintro v S' ⟨rfl,g⟩
 simp only [za9,Bool.not_true,qbf,if_false,zcc]
 exact g
theorem yii {r:Nat}(h1:1<=r) (h8:r<=8):L2.atI [D.int 1,.int 1,.int 2,.int 2,.int 3,.int 3,.int 3,.int 3] ((r:Int)-1)=some (.int (bOf r:Nat)):=by
 have:r=1\/r=2\/r=3\/r=4\/r=5\/r=6\/r=7\/r=8:=by omega
 rcases this with rfl|rfl|rfl|rfl|rfl|rfl|rfl|rfl <;> rfl
theorem yij {a:Nat}(h1:1<=a) (h4:a<=4):L2.atI [D.int 0,.int 1,.int 2,.int 2] ((a:Int)-1)=some (.int (cOf a:Nat)):=by
 have:a=1\/a=2\/a=3\/a=4:=by omega
 rcases this with rfl|rfl|rfl|rfl <;> rfl
theorem zvg {asks:Nat}{rs:List (List Cl)}(h:OkM asks rs) (S:Sto):Wo (zg2 [mD asks rs] S) λv S'=>v=bcD asks rs/\Gr S S':=by
 have sz2:2<=sizeLine:=by decide
 have sz4:4<=sizeLine:=by decide
 have sz8:8<=sizeLine:=by decide
 unfold zg2 zup bcD
 simp only [zbz,List.map_cons,List.map_nil,List.length_cons,List.length_nil,Nat.reduceAdd,Nat.reduceSub,List.replicate,List.cons_append,List.nil_append,zbt,zat,zax,zas,zar,zak,zav,qg0,qg1,zam,zds,List.length_cons,List.length_nil,Nat.reduceAdd,sz8,sz4,true_and,zlo,zou,zet,qlm,zd5,zdv,zed,zcg,yii h.r1 h.r8,yij h.a1 h.a4,zdc,sz2]
 first|exact ⟨nofun,Gr.push (Gr.push (Gr.refl _) _) _⟩|exact Gr.push (Gr.push (Gr.refl _) _) _
theorem yik {n:Nat}{i:Int}{S:Sto}{xs:List D}(h:S[n]? = some (.lst xs)) (h0:0<=i) (h1:i<xs.length) (h2:xs.length<1000000):∃y,xs[i.toNat]? = some y/\∀Q:D->Sto->Prop,Wo (zgg (.ref n) [.int i] S) Q=Q y (S.set n (.lst (xs.eraseIdx i.toNat))):=by
 have hl:i.toNat<xs.length:=by omega
 refine ⟨xs[i.toNat],qge hl,λQ=>?_⟩
 have e:PySem.seqIndex? i xs.length=some i.toNat:=by
  unfold PySem.seqIndex?
  first
   | (simp;omega)
   | (rw [if_pos (by omega)];try rw [if_pos (by omega)])
 have:zgg (.ref n) [.int i] S=some (xs[i.toNat],S.set n (.lst (xs.eraseIdx i.toNat))):=by
  unfold zgg
  dsimp only
  rw [h]
  dsimp only
  rw [e]
  show ((xs[i.toNat]?).bind _)=_
  rw [qge hl]
  show (if _ then _ else _)=_
  rw [if_pos (by omega)]
 rw [this];exact za1
theorem yil (n:Nat):zbp 0 n=zah (List.range n):=by
 unfold zbp zah
 apply List.map_congr_left
 intro i _
 show D.int (0+(i:Int))=D.int (i:Int)
 rw [Int.zero_add]
theorem zvh:∀(l:List Nat) (i:Nat) (h:i<l.length),(l[i] :: l.eraseIdx i).Perm l
 | [],i,h=>absurd h (Nat.not_lt_zero _)
 | x :: l,0,_=>.refl _
 | x :: l,i+1,h=>by
  have ih:=zvh l i (by simpa using h)
  show (l[i]'(by simpa using h) :: x :: l.eraseIdx i).Perm (x :: l)
  exact (List.Perm.swap ..).trans (ih.cons x)
theorem zvi {α β:Type}(f:α->β):∀(l:List α) (i:Nat),(l.map f).eraseIdx i=(l.eraseIdx i).map f
 | [],_=>rfl
 | x :: l,0=>rfl
 | x :: l,i+1=>by
  show f x :: (l.map f).eraseIdx i=f x :: (l.eraseIdx i).map f
  rw [zvi f l i]
theorem yim {e:EM}{l:Lo}{S S1:Sto}{q:Nat}(h:e l S=some (.int (q:Int),S1)) (hq:q<1000):zby (zab e zae) l S=some ((0,q),S1):=by
 have:=zt9 (as1 h) ⟨by omega,by omega⟩
 rw [Int.toNat_natCast] at this
 exact this
theorem yin (ns:List Int) (S:Sto) (k:Int) (many:Nat) (hp:Pn ns k S) (hk:k<100000) (h8:many<=8):Wo (zjo [.ref 2,.int (many:Int),.int (bOf many:Nat)] S) λd S'=>∃ws,d=.tup (zah ws)/\OkW many ws/\Pn ns (k+8) S':=by
 have big:1000<=sizeLine:=by decide
 obtain ⟨hb1,hb2,hb3⟩:=zew h8
 have hp8:2 ^ bOf many<=2 ^ 3:=Nat.pow_le_pow_right (by decide) hb3
 have hr:zby (zab (eOp zcp (eC (.int 1)) (zaa 2)) zae) [~~~2,‹many›,some (.int (bOf many:Nat)),none] S=some ((0,2 ^ bOf many),S):=yim (zvb (v:=bOf many) (S1:=S) rfl (by omega)) (by omega)
 have hn2:=hp.two
 unfold zjo zuw
 dsimp! only [zbz]
 refine zdi (l':=[~~~2,‹many›,some (.int (bOf many:Nat)),some (.ref S.length)]) (S':=S++[.lst (zah (List.range (2 ^ bOf many)))]) ?_ ?_
 ·rw [za7]
  refine ⟨.ref S.length,S++[.lst (zbp 0 (2 ^ bOf many))],?_,?_⟩
  ·unfold znd
   rw [hr]
   show (if 2 ^ bOf many<=sizeLine then _ else _)=_
   rw [if_pos (by omega)]
  ·rw [yil]
   simp only [zaz,qs0,qs1]
   first|exact ⟨nofun,nofun,nofun⟩|exact ⟨nofun,nofun⟩
 rw [zbt,zat,zas]
 refine zn9 (zbp 0 many) (λi acc l S'=>∃(os left:List Nat) (x0:Option D),acc=zah os/\os.length=i/\(os++left).Perm (List.range (2 ^ bOf many))/\S'[S.length]? = some (.lst (zah left))/\Pn ns (k+i) S'/\l=[x0,some (.ref S.length),~~~2]) (zua (n:=many) (as1 rfl) (by omega)) ⟨[],List.range (2 ^ bOf many),none,rfl,rfl,.refl _,za5 _ _,by simpa using hp.push _,rfl⟩ (λ_ _ _ _ _=>rfl) ?_ ?_
 ·rintro i x acc l S1 hx ⟨os,left,x0,rfl,hl,pm,hs1,p1,rfl⟩
  have hi:=(zrk hx).1
  have hll:os.length+left.length=2 ^ bOf many:=by
   have:=pm.length_eq
   rw [qla,List.length_range] at this;exact this
  simp only [zaz,qs0]
  refine ⟨true,S1,rfl,?_⟩
  dsimp only
  rw [if_pos rfl,zdq]
  simp only [zak,qg0,qg1,zam]
  refine ⟨⟨_,show zcu (.ref S.length) S1=some _ from zb9 hs1⟩,?_⟩
  simp only [zas,zar,zat,zak,qg0,qg1,zam,zla,zb9 hs1,zcg,zc6]
  refine (zcx ns _ _ (left.length:Int) p1 (by omega) (by omega) (by omega)).mono ?_
  rintro v S2 ⟨⟨d,rfl,hd⟩,p2,f2⟩
  have hs2:=f2 _ _ (by omega) hs1
  have hdl:d<left.length:=by omega
  obtain ⟨y,hy,hq⟩:=yik (i:=(d:Int)) hs2 (by omega) (by rw [zc6];omega) (by rw [zc6];omega)
  rw [hq]
  have hy2:(zah left)[d]? = some (.int (left[d]:Nat)):=by unfold zah;rw [qgm,qge hdl];rfl
  rw [Int.toNat_natCast,hy2] at hy
  cases hy
  refine ⟨os++[left[d]],left.eraseIdx d,_,by rw [zoo],by simp [hl],?_,?_,(p2.set hn2).mono (by push_cast;omega),rfl⟩
  ·rw [List.append_assoc]
   refine List.Perm.trans (List.Perm.append_left os ?_) pm
   exact zvh left d hdl
  ·rw [zev hs2,Int.toNat_natCast]
   unfold zah
   rw [zvi]
 ·rintro acc l' S1 ⟨os,left,x0,rfl,hl,pm,hs1,p1,rfl⟩
  rw [zki] at hl p1
  refine ⟨by rw [zc6];omega,?_⟩
  simp only [zar,ziu,zed,zcg]
  have nd:(os++left).Nodup:=pm.nodup_iff.mpr List.nodup_range
  exact ⟨os,rfl,⟨hl,(List.nodup_append.mp nd).1,λw hw=>List.mem_range.mp (pm.mem_iff.mp (List.mem_append_left _ hw))⟩,(p1.push _).mono (by omega)⟩
theorem yio {asks:Nat}{rs:List (List Cl)}(h:OkM asks rs) {S:Sto}{d:D}(ht:Tys S d) (hz:∀ds,d=.tup ds->ds.length<=100):Wo (zef [mD asks rs,d] S) λv S'=>v=.bl (zb1 rs.length (2 ^ bOf rs.length) d)/\Gr S S':=by
 have hb:=(zew h.r8).2.2
 unfold zef zol
 simp only [zbz,List.map_cons,List.map_nil,List.length_cons,List.length_nil,Nat.reduceAdd,Nat.reduceSub,List.replicate,List.cons_append,List.nil_append,zbt,zat,zax,zas,zar,zak,zav,qg0,qg1,zam]
 simp only [zlo,zet,qlm,zot h,zov,zg4 (show bOf rs.length<=1000000 by omega)]
 exact yhz ht hz
theorem yip {asks:Nat}{rs:List (List Cl)}(h9:9<=rs.length) (S:Sto):zc4 [mD asks rs] S=some (("TooMany":Str),S):=by
 have ng:decide ((8:Int)<(rs.length:Int))=true:=by rw [decide_eq_true_eq];omega
 unfold zc4 zoj zdh
 simp only [List.map_cons,List.map_nil,List.length_cons,List.length_nil,List.replicate,Nat.reduceAdd,Nat.reduceSub,List.cons_append,List.nil_append]
 have e1:zaq (zaa 0) (zdn 2 (zb7 (zal 1) (zb7 (zal 2) zdm))) [some (mD asks rs),none,none] S=some (.nx,[some (mD asks rs),some (.int asks),some (.tup (rs.map rD))],S):=rfl
 have e2:tE (eOp dGt (zaf zbl (zab (zaa 2) zae)) (eC (.int 8))) [some (mD asks rs),some (.int asks),some (.tup (rs.map rD))] S=some (true,S):=by
  have:Wt (tE (eOp dGt (zaf zbl (zab (zaa 2) zae)) (eC (.int 8)))) [some (mD asks rs),some (.int asks),some (.tup (rs.map rD))] S λb S'=>b=true/\S' = S:=by
   simp! only [qlm,ng]
   all_goals first|trivial|exact ⟨nofun,nofun⟩
  obtain ⟨v,S',e,rfl,rfl⟩:=this
  exact e
 unfold zi1
 rw [e1]
 dsimp only [Option.bind_some]
 unfold zIf
 rw [e2]
 dsimp only [Option.bind_some]
 rw [if_pos rfl]
theorem yiq {asks:Nat}{rs:List (List Cl)}(h9:9<=rs.length) (d:D) (S:Sto):zdw [mD asks rs,d] S=some (("TooMany":Str),S):=by
 unfold zdw zom zdh
 simp only [List.map_cons,List.map_nil,List.length_cons,List.length_nil,List.replicate,Nat.reduceAdd,Nat.reduceSub,List.cons_append,List.nil_append]
 have e1:zaa 1 [some (mD asks rs),some d] S=some (d,S):=rfl
 have e2:zaf zbl (zab (eOp za3 (zaa 0) (eC (.int 1))) zae) [some (mD asks rs),some d] S=some (.int ((rs.map rD).length:Nat),S):=rfl
 have e3:eC (.int 1) [some (mD asks rs),some d] S=some (.int 1,S):=rfl
 have e4:zd9 zc4 (zab (zaa 0) zae) [some (mD asks rs),some d] S=some (("TooMany":Str),S):=by
  show zc4 [mD asks rs] S=_
  exact yip h9 S
 unfold zgk
 rw [e1];dsimp only [Option.bind_some]
 rw [e2];dsimp only [Option.bind_some]
 rw [e3];dsimp only [Option.bind_some]
 exact e4
noncomputable def zl (xs ys:List D):List D:=List.zipWith (λx y=>D.tup [x,y]) xs ys
theorem zvj (xs ys:List D):(zl xs ys).length=min xs.length ys.length:=by simp [zl]
theorem zvk (xs ys:List D) (i:Nat):(zl xs ys)[i]? = (xs[i]?).bind λx=>(ys[i]?).map λy=>D.tup [x,y]:=by
 unfold zl
 rw [List.getElem?_zipWith]
 cases xs[i]? <;> cases ys[i]? <;> rfl
theorem yir {i1 i2:ItM}{i:Nat}{S:Sto}{xs ys:List D}(h1:i1 i S=some xs[i]?) (h2:i2 i S=some ys[i]?):itZ i1 i2 i S=some (zl xs ys)[i]?:=by
 unfold itZ
 rw [h1,zvk]
 cases hx:xs[i]? with
 | none=>rfl
 | some x =>
  show (i2 i S).bind _=_
  rw [h2]
  cases hy:ys[i]? <;> rfl
theorem yis {as:AM}{l:Lo}{S S1:Sto}{xs ys:List D}(h:as l S=some ([.tup xs,.tup ys],S1)):zk3 as l S=some (itZ (itX xs) (itX ys),(zl xs ys).length+1,S1):=by
 unfold zk3
 rw [h]
 show some _=_
 rw [zvj]
def zeg (b:Nat) (ws:List Nat) (rs:List (List Cl)) (dn:Nat->Nat->Prop) (p v:Nat):Prop :=
 ∃i a w cs c g,dn i a/\ws[i]? = some w/\rs[i]? = some cs/\cs[a]? = some c/\p=w+a*2 ^ b/\c.1=some g/\ws[g]? = some v
def zfc (b:Nat) (ws:List Nat) (rs:List (List Cl)) (dn:Nat->Nat->Prop) (p v:Nat):Prop :=
 ∃i a w cs c,dn i a/\ws[i]? = some w/\rs[i]? = some cs/\cs[a]? = some c/\p=w+a*2 ^ b/\c.2=some v
def zc7:Nat->Nat->Prop:=λ_ _=>True
def Dn (i0 a0:Nat):Nat->Nat->Prop:=λi a=>i<i0\/(i=i0/\a<a0)
structure DictR (R E:Nat->Nat->Prop) (L:Ls):Prop where
 nd:(L.map (·.1)).Nodup
 sound:∀q∈L,R q.1 q.2
 full:∀p v,E p v->p∈L.map (·.1)
theorem DictR.put {R E E':Nat->Nat->Prop}{L:Ls}{p v:Nat}(h:DictR R E L) (hR:R p v) (hE:∀p' v',E' p' v'->E p' v'\/p' = p):DictR R E' (zjs L p v):=by
 unfold zjs
 by_cases e:(L.any λq=>decide (q.1=p))=true
 ·rw [if_pos e]
  have ek:(L.map λq=>if q.1=p then (q.1,v) else q).map (·.1)=L.map (·.1):=by
   rw [List.map_map]
   refine List.map_congr_left λq _=>?_
   by_cases z:q.1=p <;> simp [z]
  obtain ⟨q0,hq0,e0⟩:=List.any_eq_true.mp e
  have e0:q0.1=p:=of_decide_eq_true e0
  refine ⟨by rw [ek];exact h.nd,λq hq=>?_,λp' v' he=>?_⟩
  ·obtain ⟨q1,hq1,rfl⟩:=List.mem_map.mp hq
   by_cases z:q1.1=p
   ·rw [if_pos z];subst z;exact hR
   ·rw [if_neg z];exact h.sound q1 hq1
  ·rw [ek]
   rcases hE p' v' he with z|z
   ·exact h.full p' v' z
   ·rw [z,<-e0];exact List.mem_map.mpr ⟨q0,hq0,rfl⟩
 ·rw [if_neg e]
  have ne:∀q∈L,q.1≠p:=λq hq z=>e (List.any_eq_true.mpr ⟨q,hq,decide_eq_true z⟩)
  refine ⟨?_,λq hq=>?_,λp' v' he=>?_⟩
  ·rw [List.map_append,List.nodup_append]
   refine ⟨h.nd,by simp,λa ha b hb=>?_⟩
   obtain ⟨q,hq,rfl⟩:=List.mem_map.mp ha
   have:b=p:=by simpa using hb
   rw [this];exact ne q hq
  ·rcases List.mem_append.mp hq with z|z
   ·exact h.sound q z
   ·rw [List.mem_singleton.mp z];exact hR
  ·rw [List.map_append]
   rcases hE p' v' he with z|z
   ·exact List.mem_append_left _ (h.full p' v' z)
   ·rw [z];exact List.mem_append_right _ (by simp)
theorem DictR.weak {R E E':Nat->Nat->Prop}{L:Ls}(h:DictR R E L) (hE:∀p v,E' p v->E p v):DictR R E' L:=⟨h.nd,h.sound,λp v z=>h.full p v (hE p v z)⟩
theorem zvl:∀(ps R:List Nat),ps.Nodup->(∀p∈ps,p∈R)->ps.length<=R.length
 | [],R,_,_=>Nat.zero_le _
 | p :: ps,R,nd,h=>by
  obtain ⟨R1,R2,rfl⟩:=List.append_of_mem (h p List.mem_cons_self)
  have nd2:=List.nodup_cons.mp nd
  have:=zvl ps (R1++R2) nd2.2 λq hq=>by
   have:=h q (List.mem_cons_of_mem _ hq)
   rcases List.mem_append.mp this with z|z
   ·exact List.mem_append.mpr (.inl z)
   ·rcases List.mem_cons.mp z with rfl|z
    ·exact absurd hq nd2.1
    ·exact List.mem_append.mpr (.inr z)
  rw [qla] at this
  rw [List.length_cons,qla,List.length_cons]
  omega
theorem zvm {asks:Nat}{rs:List (List Cl)}{ws:List Nat}(h:OkM asks rs) (hw:OkW rs.length ws) {i a w:Nat}{cs:List Cl}{c:Cl}(h1:ws[i]? = some w) (h2:rs[i]? = some cs) (h3:cs[a]? = some c):w+a*2 ^ bOf rs.length<2 ^ (bOf rs.length+cOf asks):=by
 have l1:=hw.lt w (qmg h1)
 have l2:=(qme h3).1
 rw [h.len cs (qmg h2)] at l2
 have l3:=(zos h.a4).1
 have:(a+1)*2 ^ bOf rs.length<=2 ^ cOf asks*2 ^ bOf rs.length:=Nat.mul_le_mul (by omega) (qlr _)
 rw [Nat.pow_add,Nat.mul_comm (2 ^ bOf rs.length) (2 ^ cOf asks)]
 rw [Nat.add_mul,Nat.one_mul] at this
 omega
theorem zow {asks:Nat}{rs:List (List Cl)}(h:OkM asks rs):2 ^ (bOf rs.length+cOf asks)<=32:=by
 have h1:=(zew h.r8).2.2
 have h2:=(zos h.a4).2
 exact Nat.le_trans (Nat.pow_le_pow_right (by decide) (show bOf rs.length+cOf asks<=5 by omega)) (by decide)
theorem zlp {R E:Nat->Nat->Prop}{L:Ls}{m:Nat}(h:DictR R E L) (hm:∀p v,R p v->p<m):L.length<=m:=by
 have:=zvl (L.map (·.1)) (List.range m) h.nd λp hp=>by
  obtain ⟨q,hq,rfl⟩:=List.mem_map.mp hp
  exact List.mem_range.mpr (hm _ _ (h.sound q hq))
 simpa using this
theorem zvn {S:Sto}{n p v:Nat}{L:Ls}(h:S[n]? = some (.dct (kvD L))) (hl:L.length<64):zgn (.ref n) (.int (p:Int)) (.int (v:Int)) S=some (S.set n (.dct (kvD (zjs L p v)))):=by
 have big:1000<=sizeLine:=by decide
 have e:(kvD L).length=L.length:=by unfold kvD;rw [qlm]
 unfold zgn
 dsimp only
 rw [h]
 show (if (kvD L).length<sizeLine then some (S.set n (.dct (ze9 (kvD L) (Sum.inl (p:Int)) (.int (v:Int))))) else none)=_
 rw [if_pos (by omega),yh2]
noncomputable def zcy (t:List Nat × List Nat):D:=.tup [.tup (zah t.1),.tup (zah t.2)]
noncomputable def zfd (b:Nat) (L3 L4:Ls):List (List Nat × List Nat):=((List.range b).map λk=>(onL L3 k 1,onL L3 k 0))++((List.range 3).map λk=>(onL L4 k 1,onL L4 k 0))
theorem zlq (b:Nat) (L3 L4:Ls):(zfd b L3 L4).length=b+3:=by simp [zfd]
theorem zlr {l:Lo}{S:Sto}{Q:D->Sto->Prop}:We zhp l S Q=Q (.ref S.length) (S++[.dct []]):=propext ⟨λhx2_=>by obtain ⟨v,S',e,q⟩:=hx2_;cases e;exact q,λq=>⟨_,_,rfl,q⟩⟩
structure Two (b:Nat) (ws:List Nat) (rs:List (List Cl)) (S0:Sto) (n3 n4 i a:Nat) (S:Sto):Prop where
 gr:Gr S0 S
 d3:∃L,S[n3]? = some (.dct (kvD L))/\DictR (zeg b ws rs zc7) (zeg b ws rs (Dn i a)) L
 d4:∃L,S[n4]? = some (.dct (kvD L))/\DictR (zfc b ws rs zc7) (zfc b ws rs (Dn i a)) L
theorem zox {asks:Nat}{rs:List (List Cl)}{ws:List Nat}(h:OkM asks rs) (hw:OkW rs.length ws) {dn:Nat->Nat->Prop}{p v:Nat}(z:zeg (bOf rs.length) ws rs dn p v):p<2 ^ (bOf rs.length+cOf asks):=by
 obtain ⟨i,a,w,cs,c,g,_,h1,h2,h3,rfl,_,_⟩:=z
 exact zvm h hw h1 h2 h3
theorem zoy {asks:Nat}{rs:List (List Cl)}{ws:List Nat}(h:OkM asks rs) (hw:OkW rs.length ws) {dn:Nat->Nat->Prop}{p v:Nat}(z:zfc (bOf rs.length) ws rs dn p v):p<2 ^ (bOf rs.length+cOf asks):=by
 obtain ⟨i,a,w,cs,c,_,h1,h2,h3,rfl,_⟩:=z
 exact zvm h hw h1 h2 h3
theorem yit {asks:Nat}{rs:List (List Cl)}{ws:List Nat}(h:OkM asks rs) (hw:OkW rs.length ws) (S:Sto):Wo (zjk [mD asks rs,.tup (zah ws)] S) λd S'=>∃n L3 L4,d=.ref n/\S'[n]? = some (.lst ((zfd (bOf rs.length) L3 L4).map zcy))/\DictR (zeg (bOf rs.length) ws rs zc7) (zeg (bOf rs.length) ws rs zc7) L3/\DictR (zfc (bOf rs.length) ws rs zc7) (zfc (bOf rs.length) ws rs zc7) L4/\Gr S S'/\S.length<=n:=by
 have big:1000<=sizeLine:=by decide
 obtain ⟨hb1,hb2,hb3⟩:=zew h.r8
 have h32:=zow h
 generalize hb:bOf rs.length=b at *
 unfold zjk zun
 dsimp! only [zbz]
 refine za0 (λl S'=>Gr S S'/\l=[some (mD asks rs),some (.tup (zah ws)),none,none,none,none,none,none,none,none,none]) ?_ ?_
 ·simp only [zen,zat,zas,zar,zak,qg0,qg1,zam]
  refine (yih h hw S).mono ?_
  intro v S1 g
  first|exact ⟨nofun,g,nofun⟩|exact ⟨g,nofun⟩
 rintro l S1 ⟨g1,rfl⟩
 refine za0 (λl S'=>S' = S1/\l=[some (mD asks rs),some (.tup (zah ws)),‹b›,none,none,none,none,none,none,none,none]) ?_ ?_
 ·simp only [za7,zax,zat,zas,zar,zak,zav,qg0,qg1,zam,zot h,zov,hb,zaz,qs0,qs1,and_self]
 rintro l S2 ⟨rfl,rfl⟩
 refine za0 (λl S'=>S' = S2++[.dct []]/\l=[some (mD asks rs),some (.tup (zah ws)),‹b›,some (.ref S2.length),none,none,none,none,none,none,none]) (by simp only [za7,zlr,zaz,qs0,qs1,and_self]) ?_
 rintro l S3 ⟨rfl,rfl⟩
 refine za0 (λl S'=>S' = S2++[.dct []]++[.dct []]/\l=[some (mD asks rs),some (.tup (zah ws)),‹b›,some (.ref S2.length),~~~(S2.length+1),none,none,none,none,none,none]) (by simp only [za7,zlr,zaz,qs0,qs1,qla,List.length_singleton,and_self]) ?_
 rintro l S3 ⟨rfl,rfl⟩
 have t0:Two b ws rs S2 S2.length (S2.length+1) 0 0 (S2++[.dct []]++[.dct []]):=by
  refine ⟨(Gr.push ⟨_,rfl⟩ _),⟨[],zli (za5 _ _),List.nodup_nil,(λq hq=>by cases hq),λp v z=>?_⟩,⟨[],?_,List.nodup_nil,(λq hq=>by cases hq),λp v z=>?_⟩⟩
  ·obtain ⟨i,a,_,_,_,_,z|z,_⟩:=z
   ·omega
   ·omega
  ·have:=za5 (S2++[Ob.dct []]) (Ob.dct [])
   rw [qla,List.length_singleton] at this
   exact this
  ·obtain ⟨i,a,_,_,_,z|z,_⟩:=z
   ·omega
   ·omega
 rw [zcw]
 refine zuf (zl (zah ws) (rs.map rD)) (λi l S'=>Two b ws rs S2 S2.length (S2.length+1) i 0 S'/\∃y5 y6 y7 y8 y9 y10,l=[some (mD asks rs),some (.tup (zah ws)),‹b›,some (.ref S2.length),~~~(S2.length+1),y5,y6,y7,y8,y9,y10]) (λ_ _=>False) (it:=itZ (itX (zah ws)) (itX (rs.map rD))) (yis rfl) ⟨t0,_,_,_,_,_,_,rfl⟩ (λi l S _=>yir rfl rfl) ?_ ?_ (λd l S h=>h.elim)
 ·rintro i x l S4 hx ⟨t4,y5,y6,y7,y8,y9,y10,rfl⟩
  rw [zvk] at hx
  obtain ⟨xw,hxw,hx⟩:=bnd hx
  obtain ⟨xr,hxr,hx⟩:=Option.map_eq_some_iff.mp hx
  subst hx
  obtain ⟨w,rfl,hwi⟩:=yhs hxw
  rw [qgm] at hxr
  obtain ⟨cs,hcs,rfl⟩:=Option.map_eq_some_iff.mp hxr
  have hcl:=h.len cs (qmg hcs)
  have hok:=h.ok cs (qmg hcs)
  simp only [zgc,zge,zaz,zgd,List.length_cons,List.length_nil,Nat.reduceAdd,qs0,qs1,true_and]
  refine zuf (enl (cs.map cD)) (λa l S'=>Two b ws rs S2 S2.length (S2.length+1) i a S'/\∃y7 y8 y9 y10,l=[some (mD asks rs),some (.tup (zah ws)),‹b›,some (.ref S2.length),~~~(S2.length+1),‹w›,some (rD cs),y7,y8,y9,y10]) (λ_ _=>False) (it:=itN (itX (cs.map cD))) (ygo rfl) ⟨t4,_,_,_,_,rfl⟩ (λi l S _=>ygn) ?_ ?_ (λd l S h=>h.elim)
  ·rintro a x l S5 hx ⟨t5,y7,y8,y9,y10,rfl⟩
   rw [zuc] at hx
   obtain ⟨xc,hxc,rfl⟩:=Option.map_eq_some_iff.mp hx
   rw [qgm] at hxc
   obtain ⟨c,hc,rfl⟩:=Option.map_eq_some_iff.mp hxc
   have hokc:=hok c (qmg hc)
   have ha:a<asks:=by have:=(qme hc).1;omega
   have ha4:=h.a4
   have c1:(0:Int)<=(b:Int)/\(b:Int)<=1000000/\((a:Nat):Int).natAbs<2 ^ 64:=⟨by omega,by omega,by omega⟩
   simp only [cD,zgc,zge,zaz,zgd,List.length_cons,List.length_nil,Nat.reduceAdd,qs0,qs1,true_and]
   refine za0 (λl S'=>S' = S5/\l=[some (mD asks rs),some (.tup (zah ws)),‹b›,some (.ref S2.length),~~~(S2.length+1),‹w›,some (rD cs),some (.int a),some (oD c.1),some (oD c.2),some (.int ((w+a*2 ^ b:Nat):Int))]) ?_ ?_
   ·simp only [za7,zax,zak,qg0,qg1,zam,zit,decide_eq_true_eq,c1,true_and,and_self,zeu,zaz,qs0,qs1,Int.toNat_natCast]
    push_cast
    first|exact ⟨nofun,nofun⟩|trivial
   rintro l S6 ⟨rfl,rfl⟩
   obtain ⟨g5,⟨L3,q3,r3⟩,⟨L4,q4,r4⟩⟩:=t5
   have f3:L3.length<=32:=Nat.le_trans (zlp r3 λp v z=>by subst hb;exact zox h hw z) h32
   have f4:L4.length<=32:=Nat.le_trans (zlp r4 λp v z=>by subst hb;exact zoy h hw z) h32
   refine za0 (λl S'=>(Gr S2 S'/\(∃L,S'[S2.length]? = some (.dct (kvD L))/\DictR (zeg b ws rs zc7) (zeg b ws rs (Dn i (a+1))) L)/\S'[S2.length+1]? = some (.dct (kvD L4)))/\l=[some (mD asks rs),some (.tup (zah ws)),‹b›,some (.ref S2.length),~~~(S2.length+1),‹w›,some (rD cs),some (.int a),some (oD c.1),some (oD c.2),some (.int ((w+a*2 ^ b:Nat):Int))]) ?_ ?_
   ·cases hc1:c.1 with
    | none =>
     simp only [zbj,zbb,zax,zak,zav,qg0,qg1,zam,zfp,oD,zdb,Bool.not_true,za9,qbf,if_false,zcc]
     refine ⟨nofun,⟨g5,⟨L3,q3,r3.weak ?_⟩,q4⟩,nofun⟩
     rintro p v ⟨i',a',w',cs',c',g',dn,e1,e2,e3,e4,e5,e6⟩
     refine ⟨i',a',w',cs',c',g',?_,e1,e2,e3,e4,e5,e6⟩
     rcases dn with z|⟨z1,z2⟩
     ·exact .inl z
     ·subst z1
      rw [hcs] at e2;cases e2
      by_cases hz:a' = a
      ·subst hz;rw [hc] at e3;cases e3;rw [hc1] at e5;cases e5
      ·exact .inr ⟨rfl,by omega⟩
    | some g =>
     have hg:=hokc.go g hc1
     obtain ⟨v,hv⟩:∃v,ws[g]? = some v:=⟨_,qge (by rw [hw.len];exact hg)⟩
     have hat:L2.atI (zah ws) (g:Int)=some (.int (v:Int)):=atI_get (by unfold zah;rw [qgm,hv];rfl)
     simp only [zbj,zbb,zax,zak,zav,qg0,qg1,zam,zfp,oD,zdb,Bool.not_false,za9,if_true,za7,zjd,hat,zcg,zlg,zvn q3 (show L3.length<64 by omega),Option.some.injEq,exists_eq_left']
     refine ⟨nofun,⟨g5.set (qlr _) _,⟨_,zev q3,r3.put ⟨i,a,w,cs,c,g,trivial,hwi,hcs,hc,rfl,hc1,hv⟩ ?_⟩,zh1 q4 (by omega)⟩,nofun⟩
     rintro p v ⟨i',a',w',cs',c',g',dn,e1,e2,e3,e4,e5,e6⟩
     rcases dn with z|⟨z1,z2⟩
     ·exact .inl ⟨i',a',w',cs',c',g',.inl z,e1,e2,e3,e4,e5,e6⟩
     ·subst z1
      by_cases hz:a' = a
      ·subst hz;rw [hwi] at e1;cases e1;exact .inr e4
      ·exact .inl ⟨i',a',w',cs',c',g',.inr ⟨rfl,by omega⟩,e1,e2,e3,e4,e5,e6⟩
   rintro l S7 ⟨⟨g7,d7,q7⟩,rfl⟩
   cases hc2:c.2 with
   | none =>
    simp only [zbj,zbb,zax,zak,zav,qg0,qg1,zam,zfp,oD,zdb,Bool.not_true,za9,qbf,if_false,zcc]
    refine .inl ⟨(by first|exact .inl rfl|exact .inl trivial|trivial),⟨g7,d7,⟨L4,q7,r4.weak ?_⟩⟩,_,_,_,_,rfl⟩
    rintro p v ⟨i',a',w',cs',c',dn,e1,e2,e3,e4,e5⟩
    refine ⟨i',a',w',cs',c',?_,e1,e2,e3,e4,e5⟩
    rcases dn with z|⟨z1,z2⟩
    ·exact .inl z
    ·subst z1
     rw [hcs] at e2;cases e2
     by_cases hz:a' = a
     ·subst hz;rw [hc] at e3;cases e3;rw [hc2] at e5;cases e5
     ·exact .inr ⟨rfl,by omega⟩
   | some v =>
    simp only [zbj,zbb,zax,zak,zav,qg0,qg1,zam,zfp,oD,zdb,Bool.not_false,za9,if_true,za7,zlg,zvn q7 (show L4.length<64 by omega),Option.some.injEq,exists_eq_left']
    obtain ⟨L,d7a,d7b⟩:=d7
    refine .inl ⟨(by first|exact .inl rfl|exact .inl trivial|trivial),⟨g7.set (by omega) _,⟨L,zh1 d7a (by omega),d7b⟩,⟨_,zev q7,r4.put ⟨i,a,w,cs,c,trivial,hwi,hcs,hc,rfl,hc2⟩ ?_⟩⟩,_,_,_,_,rfl⟩
    rintro p v ⟨i',a',w',cs',c',dn,e1,e2,e3,e4,e5⟩
    rcases dn with z|⟨z1,z2⟩
    ·exact .inl ⟨i',a',w',cs',c',.inl z,e1,e2,e3,e4,e5⟩
    ·subst z1
     by_cases hz:a' = a
     ·subst hz;rw [hwi] at e1;cases e1;exact .inr e4
     ·exact .inl ⟨i',a',w',cs',c',.inr ⟨rfl,by omega⟩,e1,e2,e3,e4,e5⟩
  ·rintro l S5 ⟨⟨g5,⟨L3,q3,r3⟩,⟨L4,q4,r4⟩⟩,y7,y8,y9,y10,rfl⟩
   rw [zub,qlm] at r3 r4
   refine .inl ⟨(by first|exact .inl rfl|exact .inl trivial|trivial),⟨g5,⟨L3,q3,r3.weak ?_⟩,⟨L4,q4,r4.weak ?_⟩⟩,_,_,_,_,_,_,rfl⟩
   ·rintro p v ⟨i',a',w',cs',c',g',dn,e1,e2,e3,e4,e5,e6⟩
    refine ⟨i',a',w',cs',c',g',?_,e1,e2,e3,e4,e5,e6⟩
    rcases dn with z|⟨z1,z2⟩
    ·by_cases hz:i' = i
     ·subst hz;rw [hcs] at e2;cases e2;exact .inr ⟨rfl,(qme e3).1⟩
     ·exact .inl (by omega)
    ·omega
   ·rintro p v ⟨i',a',w',cs',c',dn,e1,e2,e3,e4,e5⟩
    refine ⟨i',a',w',cs',c',?_,e1,e2,e3,e4,e5⟩
    rcases dn with z|⟨z1,z2⟩
    ·by_cases hz:i' = i
     ·subst hz;rw [hcs] at e2;cases e2;exact .inr ⟨rfl,(qme e3).1⟩
     ·exact .inl (by omega)
    ·omega
 ·rintro l S4 ⟨⟨g4,⟨L3,q3,r3⟩,⟨L4,q4,r4⟩⟩,y5,y6,y7,y8,y9,y10,rfl⟩
  have hlen:(zl (zah ws) (rs.map rD)).length=rs.length:=by rw [zvj,zc6,qlm,hw.len];omega
  rw [hlen] at r3 r4
  have r3':=r3.weak (E':=zeg b ws rs zc7) (by
   rintro p v ⟨i',a',w',cs',c',g',dn,e1,e2,e3,e4,e5,e6⟩
   exact ⟨i',a',w',cs',c',g',.inl (qme e2).1,e1,e2,e3,e4,e5,e6⟩)
  have r4':=r4.weak (E':=zfc b ws rs zc7) (by
   rintro p v ⟨i',a',w',cs',c',dn,e1,e2,e3,e4,e5⟩
   exact ⟨i',a',w',cs',c',.inl (qme e2).1,e1,e2,e3,e4,e5⟩)
  have f3:L3.length<=32:=Nat.le_trans (zlp r3 λp v z=>by subst hb;exact zox h hw z) h32
  have f4:L4.length<=32:=Nat.le_trans (zlp r4 λp v z=>by subst hb;exact zoy h hw z) h32
  have comp:∀(j n:Nat) (L:Ls) (as:AM) (m:Nat) (l:Lo) (S5:Sto) (Q:D->Sto->Prop),Gr S4 S5->S4[n]? = some (.dct (kvD L))->L.length<64->m<=3->zcf [none,some j] l=[none,~~~n]->as l S5=some ([.int (m:Int)],S5)->(∀S',Gr S5 S'->Q (.ref S'.length) (S'++[.lst (((List.range m).map λk=>(onL L k 1,onL L k 0)).map zcy)])) ->
    We (zco (zga (zby as)) [none,some j] (zal 0) ze4 (zaf zft (zab (zaa 1) (zab (zaa 0) (zae))))) l S5 Q:=λj n L as m l S5 Q gs hn hl hm hsrc has fin=>by
   refine zoa (zbp 0 m) (λx=>match x with | .int k=>zcy (onL L k.toNat 1,onL L k.toNat 0)|_=>.non) (Gr S5) (λl=>∃y0,l=[y0,~~~n]) (zua has (by omega)) (Gr.refl _) ⟨_,hsrc⟩ (λi S _=>rfl) (by rw [zki];omega) ?_ ?_
   ·rintro x l S6 hx ⟨y0,rfl⟩ g6
    obtain ⟨i,hi,rfl⟩:=List.mem_map.mp hx
    have hi:=List.mem_range.mp hi
    simp only [zaz,qs0,Int.zero_add]
    refine ⟨g6,⟨_,rfl⟩,?_⟩
    simp only [zat,zas,zar,zak,qg0,qg1,zam,Int.toNat_natCast]
    refine (yh9 n L S6 i (g6.get (gs.get hn)) hl (by omega)).mono ?_
    rintro d S7 ⟨rfl,g7⟩
    exact ⟨rfl,g6.trans g7⟩
   ·intro S6 g6
    have e:((zbp 0 m).map λx=>match x with | .int k=>zcy (onL L k.toNat 1,onL L k.toNat 0)|_=>.non)=((List.range m).map λk=>(onL L k 1,onL L k 0)).map zcy:=by
     unfold zbp;rw [List.map_map,List.map_map];refine List.map_congr_left λk _=>?_;simp
    rw [e]
    exact fin S6 g6
  rw [zbt,zax]
  refine comp 3 S2.length L3 _ b _ S4 _ (Gr.refl _) q3 (by omega) hb3 rfl (as1 rfl) λS5 g5=>?_
  refine comp 4 (S2.length+1) L4 _ 3 _ _ _ (g5.push _) q4 (by omega) (by decide) rfl (as1 rfl) λS6 g6=>?_
  rw [zud (Gr.get (g6.push _) (za5 _ _)) (za5 _ _)]
  refine ⟨by simp only [qlm,List.length_range];omega,_,L3,L4,rfl,?_,r3',r4',(g1.trans (g4.trans ((g5.push _).trans ((g6.push _).push _)))),(g1.trans (g4.trans ((g5.push _).trans (g6.push _)))).len⟩
  rw [za5]
  unfold zfd
  rw [List.map_append]
noncomputable def cl (rs:List (List Cl)) (r a:Nat):Cl:=((rs[r]?).bind λcs=>cs[a]?).getD (none,none)
theorem zoz {asks:Nat}{rs:List (List Cl)}(h:OkM asks rs) {r a:Nat}(hr:r<rs.length) (ha:a<asks):∃cs,rs[r]? = some cs/\cs[a]? = some (cl rs r a):=by
 have h1:rs[r]? = some rs[r]:=qge hr
 have hla:a<rs[r].length:=by rw [h.len _ (List.getElem_mem hr)];exact ha
 have h2:rs[r][a]? = some rs[r][a]:=qge hla
 refine ⟨_,h1,?_⟩
 unfold cl
 rw [h1]
 show _=some ((rs[r][a]?).getD (none,none))
 rw [h2];rfl
theorem yiu {asks:Nat}{rs:List (List Cl)}(h:OkM asks rs) {r a g:Nat}(hr:r<rs.length) (ha:a<asks) (e:(cl rs r a).1=some g):g<rs.length:=by
 obtain ⟨cs,h1,h2⟩:=zoz h hr ha
 exact (h.ok cs (qmg h1) _ (qmg h2)).go g e
theorem zvo (w:Nat):∀ws:List Nat,((zah ws).any λy=>zhm y (.int (w:Int)))=decide (w∈ws)
 | []=>by simp [zah]
 | x :: ws=>by
  have ih:=zvo w ws
  unfold zah at ih ⊢
  rw [List.map_cons,List.any_cons,ih]
  have e:zhm (.int (x:Int)) (.int (w:Int))=decide (x=w):=by
   show decide ((x:Int)=(w:Int))=_
   exact decide_eq_decide.mpr (by omega)
  rw [e]
  by_cases h:x=w
  ·subst h;simp
  ·simp [h,Ne.symm h]
theorem zo0 {w:Nat}{ws:List Nat}{S:Sto}{Q:D->Sto->Prop}:Wo (dIn false (.int (w:Int)) (.tup (zah ws)) S) Q=Q (.bl (decide (w∈ws))) S:=by
 have hf:(zah ws).all zgf=true:=List.all_eq_true.mpr λx hx=>by obtain ⟨p,_,rfl⟩:=zjr hx;rfl
 have:dIn false (.int (w:Int)) (.tup (zah ws)) S=some (.bl (decide (w∈ws)),S):=by
  show zna false (.int (w:Int)) (.tup (zah ws)) S=_
  show (if zgf (.int (w:Int))=true/\(zah ws).all zgf=true then _ else _)=_
  rw [if_pos ⟨rfl,hf⟩,zvo];rfl
 rw [this];exact za1
theorem yiv {ws:List Nat}{i w:Nat}(nd:ws.Nodup) (h:ws[i]? = some w):(ws.map λ(p:Nat)=>(p:Int)).idxOf? (w:Int)=some i:=by
 obtain ⟨hi,e⟩:=qme h
 unfold List.idxOf?
 rw [List.findIdx?_eq_some_iff_getElem]
 refine ⟨by simpa using hi,by simp [e],λj hj=>?_⟩
 have hj':j<ws.length:=by omega
 simp only [List.getElem_map,beq_iff_eq,Bool.not_eq_true]
 intro z
 have:ws[j]=ws[i]:=by rw [e];omega
 have:=(List.getElem_inj nd).mp this
 omega
theorem yiw {l:Lo}{S:Sto}{Q:D->Sto->Prop}{a b i w:Nat}{ws:List Nat}(h1:l[a]? = some (some (.tup (zah ws)))) (h2:l[b]? = some (some (.int (w:Int)))) (nd:ws.Nodup) (hi:ws[i]? = some w) (q:Q (.int (i:Int)) S):We (zgr zi7 (zaa a) (zab (zaa b) zae)) l S Q:=by
 refine ⟨.int (i:Int),S,?_,q⟩
 have e1:zaa a l S=some (.tup (zah ws),S):=by unfold zaa;rw [h1]
 have e2:zaa b l S=some (.int (w:Int),S):=by unfold zaa;rw [h2]
 unfold zgr
 rw [e1]
 show (zab (zaa b) zae l S).bind _=_
 rw [as1 e2]
 show (zde (zah ws)).bind _=_
 rw [zvf]
 show ((ws.map λ(p:Nat)=>(p:Int)).idxOf? (w:Int)).bind _=_
 rw [yiv nd hi];rfl
noncomputable def zch (b:Nat) (ws:List Nat) (rs:List (List Cl)) (asks j p:Nat):Option Nat :=
 (ws.idxOf? (p % 2 ^ b)).bind λi=>if p / 2 ^ b<asks then (if j<b then ((cl rs i (p / 2 ^ b)).1.bind λg=>ws[g]?) else (cl rs i (p / 2 ^ b)).2) else none
noncomputable def plc (b j:Nat):Nat:=if j<b then j else j-b
structure TabP (N:Nat->Option Nat) (pl n:Nat) (on off:List Nat):Prop where
 on_:∀p,p∈on↔p<n/\∃v,N p=some v/\bt v pl=1
 off_:∀p,p∈off↔p<n/\∃v,N p=some v/\bt v pl=0
 l1:on.length<=n
 l0:off.length<=n
 s1:on.Pairwise (· < ·)
 s0:off.Pairwise (· < ·)
theorem TabP.skip {N:Nat->Option Nat}{pl n:Nat}{on off:List Nat}(h:TabP N pl n on off) (e:N n=none):TabP N pl (n+1) on off:=by
 refine ⟨λp=>?_,λp=>?_,by have:=h.l1;omega,by have:=h.l0;omega,h.s1,h.s0⟩
 ·rw [h.on_]
  refine ⟨λz=>⟨by omega,z.2⟩,λz=>⟨?_,z.2⟩⟩
  obtain ⟨z1,v,z2,_⟩:=z
  by_cases hp:p=n
  ·subst hp;rw [e] at z2;cases z2
  ·omega
 ·rw [h.off_]
  refine ⟨λz=>⟨by omega,z.2⟩,λz=>⟨?_,z.2⟩⟩
  obtain ⟨z1,v,z2,_⟩:=z
  by_cases hp:p=n
  ·subst hp;rw [e] at z2;cases z2
  ·omega
theorem TabP.put1 {N:Nat->Option Nat}{pl n v:Nat}{on off:List Nat}(h:TabP N pl n on off) (e:N n=some v) (hb:bt v pl=1):TabP N pl (n+1) (on++[n]) off:=by
 refine ⟨λp=>?_,λp=>?_,by have:=h.l1;simp;omega,by have:=h.l0;omega,List.pairwise_append.mpr ⟨h.s1,List.pairwise_singleton ..,λa ha b hb=>by rw [List.mem_singleton.mp hb];exact ((h.on_ a).mp ha).1⟩,h.s0⟩
 ·rw [List.mem_append,h.on_,List.mem_singleton]
  constructor
  ·rintro (z|rfl)
   ·exact ⟨by omega,z.2⟩
   ·exact ⟨by omega,v,e,hb⟩
  ·rintro ⟨z1,z2⟩
   by_cases hp:p=n
   ·exact .inr hp
   ·exact .inl ⟨by omega,z2⟩
 ·rw [h.off_]
  refine ⟨λz=>⟨by omega,z.2⟩,λz=>⟨?_,z.2⟩⟩
  obtain ⟨z1,v',z2,z3⟩:=z
  by_cases hp:p=n
  ·subst hp;rw [e] at z2;cases z2;omega
  ·omega
theorem TabP.put0 {N:Nat->Option Nat}{pl n v:Nat}{on off:List Nat}(h:TabP N pl n on off) (e:N n=some v) (hb:bt v pl=0):TabP N pl (n+1) on (off++[n]):=by
 refine ⟨λp=>?_,λp=>?_,by have:=h.l1;omega,by have:=h.l0;simp;omega,h.s1,List.pairwise_append.mpr ⟨h.s0,List.pairwise_singleton ..,λa ha b hb=>by rw [List.mem_singleton.mp hb];exact ((h.off_ a).mp ha).1⟩⟩
 ·rw [h.on_]
  refine ⟨λz=>⟨by omega,z.2⟩,λz=>⟨?_,z.2⟩⟩
  obtain ⟨z1,v',z2,z3⟩:=z
  by_cases hp:p=n
  ·subst hp;rw [e] at z2;cases z2;omega
  ·omega
 ·rw [List.mem_append,h.off_,List.mem_singleton]
  constructor
  ·rintro (z|rfl)
   ·exact ⟨by omega,z.2⟩
   ·exact ⟨by omega,v,e,hb⟩
  ·rintro ⟨z1,z2⟩
   by_cases hp:p=n
   ·exact .inr hp
   ·exact .inl ⟨by omega,z2⟩
theorem TabP.nil {N:Nat->Option Nat}{pl:Nat}:TabP N pl 0 [] []:=⟨λp=>by simp,λp=>by simp,qlr _,qlr _,.nil,.nil⟩
theorem zo1 {ws:List Nat}{i w:Nat}(nd:ws.Nodup) (h:ws[i]? = some w):ws.idxOf? w=some i:=by
 obtain ⟨hi,e⟩:=qme h
 unfold List.idxOf?
 rw [List.findIdx?_eq_some_iff_getElem]
 refine ⟨hi,by simp [e],λj hj=>?_⟩
 simp only [beq_iff_eq,Bool.not_eq_true]
 intro z
 have:=(List.getElem_inj (h₀:=by omega) (h₁:=hi) nd).mp (z.trans e.symm)
 omega
theorem yix {ws:List Nat}{w:Nat}(h:w ∉ ws):ws.idxOf? w=none:=by
 unfold List.idxOf?
 rw [List.findIdx?_eq_none_iff]
 intro x hx
 simp only [beq_eq_false_iff_ne,ne_eq]
 intro z
 subst z
 exact h hx
theorem yiy {asks:Nat}{rs:List (List Cl)}{ws:List Nat}(h:OkM asks rs) (hw:OkW rs.length ws) (S:Sto):Wo (zjl [mD asks rs,.tup (zah ws)] S) λd S'=>∃n,∃ts:List (List Nat × List Nat),d=.ref n/\S'[n]? = some (.lst (ts.map zcy))/\ts.length=bOf rs.length+3/\(∀(j:Nat) t,ts[j]? = some t->TabP (zch (bOf rs.length) ws rs asks j) (plc (bOf rs.length) j) (2 ^ (bOf rs.length+cOf asks)) t.1 t.2)/\S.length<=n/\Gr S S':=by
 have sz0:0<=sizeLine:=by decide
 have sz2:2<=sizeLine:=by decide
 have big:1000<=sizeLine:=by decide
 obtain ⟨hb1,hb2,hb3⟩:=zew h.r8
 have hc2:=(zos h.a4).2
 have h32:=zow h
 have hlt:=hw.lt
 have hnd:=hw.nd
 have hwl:=hw.len
 unfold zjl zuq
 dsimp! only [zbz]
 refine za0 (λl S'=>Gr S S'/\l=[some (mD asks rs),some (.tup (zah ws)),some (.int (bOf rs.length:Nat)),some (.int (cOf asks:Nat)),none,none,none,none,none,none,none,none,none]) ?_ ?_
 ·simp only [za7,zat,zas,zar,zak,qg0,qg1,zam]
  refine (zvg h S).mono ?_
  rintro v S1 ⟨rfl,g⟩
  simp only [bcD,zgc,zge,zaz,zgd,List.length_cons,List.length_nil,Nat.reduceAdd,qs0,qs1,true_and]
  first|exact ⟨nofun,g,nofun⟩|exact ⟨g,nofun⟩
 generalize hb:bOf rs.length=b at *
 generalize hcc:cOf asks=c at *
 rintro l S1 ⟨g1,rfl⟩
 refine za0 (λl S'=>S' = S1++[.lst []]/\l=[some (mD asks rs),some (.tup (zah ws)),‹b›,‹c›,some (.ref S1.length),none,none,none,none,none,none,none,none]) (by simp! only [sz0,true_and,and_self]) ?_
 rintro l S2 ⟨rfl,rfl⟩
 rw [zcw]
 refine zhz (n:=b+3) (λj l S'=>Gr S1 S'/\∃ts:List (List Nat × List Nat),ts.length=j/\(∀(j':Nat) t,ts[j']? = some t->TabP (zch b ws rs asks j') (plc b j') (2 ^ (b+c)) t.1 t.2)/\S'[S1.length]? = some (.lst (ts.map zcy))/\∃y5 y6 y7 y8 y9 y10 y11 y12,l=[some (mD asks rs),some (.tup (zah ws)),‹b›,‹c›,some (.ref S1.length),y5,y6,y7,y8,y9,y10,y11,y12]) (λ_ _=>False) (S1:=S1++[.lst []]) ?_ (by omega) ⟨⟨_,rfl⟩,[],rfl,(λj t z=>by cases z),za5 _ _,_,_,_,_,_,_,_,_,rfl⟩ ?_ ?_ (λd l S h=>h.elim)
 ·refine as1 ?_
  have:We (eOp zbe (zaa 2) (eC (.int 3))) [some (mD asks rs),some (.tup (zah ws)),‹b›,‹c›,some (.ref S1.length),none,none,none,none,none,none,none,none] (S1++[.lst []]) λv S'=>v=.int ((b+3:Nat):Int)/\S' = S1++[.lst []]:=by
   simp only [zax,zak,zav,qg0,qg1,zam,zeu]
   exact ⟨by push_cast;rfl,nofun⟩
  obtain ⟨v,S',e,rfl,rfl⟩:=this
  exact e
 ·rintro j l S3 hj ⟨g3,ts,hl3,ok3,q3,y5,y6,y7,y8,y9,y10,y11,y12,rfl⟩
  simp only [zaz,qs0,qs1]
  have hS1:S1.length<S3.length:=(qme q3).1
  refine za0 (λl S'=>S' = S3++[.lst []]++[.lst []]++[.lst [.ref S3.length,.ref (S3.length+1)]]/\l=[some (mD asks rs),some (.tup (zah ws)),‹b›,‹c›,some (.ref S1.length),‹j›,~~~(S3.length+2),y7,y8,y9,y10,y11,y12]) ?_ ?_
  ·simp only [za7,zat,zas,zar,zds,List.length_cons,List.length_nil,qla,Nat.reduceAdd,sz0,sz2,true_and,zaz,qs0,qs1,and_self]
  rintro l S4 ⟨rfl,rfl⟩
  rw [zcw]
  have z0:(S3++[Ob.lst []]++[.lst []]++[.lst [.ref S3.length,.ref (S3.length+1)]])[S3.length]? = some (.lst (zah [])):=zli (zli (za5 _ _))
  have z1:(S3++[Ob.lst []]++[.lst []]++[.lst [.ref S3.length,.ref (S3.length+1)]])[S3.length+1]? = some (.lst (zah [])):=by
   have:=za5 (S3++[Ob.lst []]) (Ob.lst [])
   rw [qla,List.length_singleton] at this
   exact zli this
  have z2:(S3++[Ob.lst []]++[.lst []]++[.lst [.ref S3.length,.ref (S3.length+1)]])[S3.length+2]? = some (.lst [.ref S3.length,.ref (S3.length+1)]):=by
   have:=za5 (S3++[Ob.lst []]++[.lst []]) (Ob.lst [.ref S3.length,.ref (S3.length+1)])
   rw [qla,qla,List.length_singleton] at this
   exact this
  refine zhz (n:=2 ^ (b+c)) (λp l S'=>Gr S3 S'/\∃on off:List Nat,TabP (zch b ws rs asks j) (plc b j) p on off/\S'[S3.length]? = some (.lst (zah off))/\S'[S3.length+1]? = some (.lst (zah on))/\S'[S3.length+2]? = some (.lst [.ref S3.length,.ref (S3.length+1)])/\∃y7 y8 y9 y10 y11 y12,l=[some (mD asks rs),some (.tup (zah ws)),‹b›,‹c›,some (.ref S1.length),‹j›,~~~(S3.length+2),y7,y8,y9,y10,y11,y12]) (λ_ _=>False) (S1:=S3++[.lst []]++[.lst []]++[.lst [.ref S3.length,.ref (S3.length+1)]]) ?_ (by omega) ⟨Gr.push (Gr.push (Gr.push (Gr.refl _) _) _) _,[],[],TabP.nil,z0,z1,z2,_,_,_,_,_,_,rfl⟩ ?_ ?_ (λd l S h=>h.elim)
  ·refine as1 (zvb (v:=b+c) ?_ (by omega))
   have:∀S0:Sto,We (eOp zbe (zaa 2) (zaa 3)) [some (mD asks rs),some (.tup (zah ws)),‹b›,‹c›,some (.ref S1.length),‹j›,~~~(S3.length+2),y7,y8,y9,y10,y11,y12] S0 λv S'=>v=.int ((b+c:Nat):Int)/\S' = S0:=λS0=>by
    simp only [zax,zak,qg0,qg1,zam,zeu]
    exact ⟨by push_cast;rfl,nofun⟩
   obtain ⟨v,S',e,rfl,rfl⟩:=this _
   exact e
  ·rintro p l S5 hp ⟨g5,on,off,tp,qf,qn,qb,y7,y8,y9,y10,y11,y12,rfl⟩
   simp only [zaz,qs0,qs1]
   have pow0:(0:Int)<((2 ^ b:Nat):Int):=by have:0<2 ^ b:=Nat.pow_pos (by decide);omega
   have powL:((2 ^ b:Nat):Int)<1073741824:=by have:2 ^ b<=2 ^ 3:=Nat.pow_le_pow_right (by decide) hb3;omega
   refine za0 (λl S'=>S' = S5/\l=[some (mD asks rs),some (.tup (zah ws)),‹b›,‹c›,some (.ref S1.length),‹j›,~~~(S3.length+2),‹p›,some (.int ((p % 2 ^ b:Nat):Int)),y9,y10,y11,y12]) ?_ ?_
   ·simp only [za7,zax,zak,zav,qg0,qg1,zam,zg4 (show b<=1000000 by omega)]
    simp! only [pow0,powL,true_and,and_self]
    all_goals first|exact ⟨nofun,nofun,nofun⟩|(push_cast;rfl)|rfl
   rintro l S6 ⟨rfl,rfl⟩
   refine za0 (λl S'=>S' = S6/\l=[some (mD asks rs),some (.tup (zah ws)),‹b›,‹c›,some (.ref S1.length),‹j›,~~~(S3.length+2),‹p›,some (.int ((p % 2 ^ b:Nat):Int)),some (.int ((p / 2 ^ b:Nat):Int)),y10,y11,y12]) ?_ ?_
   ·simp only [za7,zax,zak,zav,qg0,qg1,zam,zg4 (show b<=1000000 by omega)]
    simp! only [pow0,powL,true_and,and_self]
    all_goals first|exact ⟨nofun,nofun,nofun⟩|(push_cast;rfl)|rfl
   rintro l S7 ⟨rfl,rfl⟩
   have skip:zch b ws rs asks j p=none->((Fl.nx=.nx\/Fl.nx=.ct)/\Gr S3 S7/\∃on off:List Nat,TabP (zch b ws rs asks j) (plc b j) (p+1) on off/\S7[S3.length]? = some (.lst (zah off))/\S7[S3.length+1]? = some (.lst (zah on))/\S7[S3.length+2]? = some (.lst [.ref S3.length,.ref (S3.length+1)])):=λe=>⟨.inl rfl,g5,on,off,tp.skip e,qf,qn,qb⟩
   by_cases hin:p % 2 ^ b∈ws
   ·obtain ⟨i,hi⟩:=List.getElem?_of_mem hin
    have hir:i<rs.length:=by rw [<-hwl];exact (qme hi).1
    by_cases ha:p / 2 ^ b<asks
    ·obtain ⟨cs,c1,c2⟩:=zoz h hir ha
     have ha':((p / 2 ^ b:Nat):Int)<(asks:Int):=by omega
     have at1:L2.atI (rs.map rD) (i:Int)=some (.tup (cs.map cD)):=atI_get (by rw [qgm,c1];rfl)
     have at2:L2.atI (cs.map cD) ((p / 2 ^ b:Nat):Int)=some (.tup [oD (cl rs i (p / 2 ^ b)).1,oD (cl rs i (p / 2 ^ b)).2]):=atI_get (by rw [qgm,c2];rfl)
     have hN:zch b ws rs asks j p=if j<b then ((cl rs i (p / 2 ^ b)).1.bind λg=>ws[g]?) else (cl rs i (p / 2 ^ b)).2:=by
      unfold zch
      rw [zo1 hnd hi]
      show (if p / 2 ^ b<asks then _ else _)=_
      rw [if_pos ha]
     have hgo:=λg=>yiu h (g:=g) hir ha
     rw [zbj]
     simp only [zis,zbb,zax,zak,zav,qg0,qg1,zam,zo0,hin,decide_true,za9,if_true,zou,zd5,ha']
     generalize cl rs i (p / 2 ^ b)=cc at *
     refine za0 (λl S'=>S' = S7/\l=[some (mD asks rs),some (.tup (zah ws)),‹b›,‹c›,some (.ref S1.length),‹j›,~~~(S3.length+2),‹p›,some (.int ((p % 2 ^ b:Nat):Int)),some (.int ((p / 2 ^ b:Nat):Int)),some (oD cc.1),some (oD cc.2),y12]) ?_ ?_
     ·simp only [za7,zax,zak,zav,qg0,qg1,zam,zlo]
      refine yiw (i:=i) rfl rfl hnd hi ?_
      simp only [zjd,at1,at2,zcg,zgc,zge,zaz,zgd,List.length_cons,List.length_nil,Nat.reduceAdd,qs0,qs1,true_and,and_self]
     rintro l S8 ⟨rfl,rfl⟩
     refine za0 (λl S'=>S' = S8/\l=[some (mD asks rs),some (.tup (zah ws)),‹b›,‹c›,some (.ref S1.length),‹j›,~~~(S3.length+2),‹p›,some (.int ((p % 2 ^ b:Nat):Int)),some (.int ((p / 2 ^ b:Nat):Int)),some (oD cc.1),some (oD cc.2),some (.int ((j:Int)-(b:Int)))]) (by simp! only [and_self]) ?_
     rintro l S9 ⟨rfl,rfl⟩
     refine za0 (λl S'=>S' = S9/\l=[some (mD asks rs),some (.tup (zah ws)),‹b›,‹c›,some (.ref S1.length),‹j›,~~~(S3.length+2),‹p›,some (.int ((p % 2 ^ b:Nat):Int)),some (.int ((p / 2 ^ b:Nat):Int)),some (oD cc.1),some (oD (zch b ws rs asks j p)),some (.int ((plc b j:Nat):Int))]) ?_ ?_
     ·rw [hN]
      unfold plc
      by_cases hjb:j<b
      ·have hjb':(j:Int)<(b:Int):=by omega
       rw [if_pos hjb,if_pos hjb]
       cases hg:cc.1 with
       | none =>
        simp! only [hjb',decide_true,if_true,oD,zdb,Bool.not_true,qbf,if_false,Option.bind_none]
        all_goals first|exact ⟨nofun,nofun,nofun⟩|trivial
       | some g =>
        obtain ⟨v,hv⟩:∃v,ws[g]? = some v:=⟨_,qge (by rw [hwl];exact hgo g hg)⟩
        have atg:L2.atI (zah ws) (g:Int)=some (.int (v:Int)):=atI_get (by unfold zah;rw [qgm,hv];rfl)
        simp! only [hjb',decide_true,if_true,oD,zdb,Bool.not_false,Option.bind_some,hv,atg]
        all_goals first|exact ⟨nofun,nofun,nofun⟩|trivial
      ·have hjb':¬((j:Int)<(b:Int)):=by omega
       have e0:((j-b:Nat):Int)=(j:Int)-(b:Int):=by omega
       rw [if_neg hjb,if_neg hjb,e0]
       simp! only [hjb',decide_false,qbf,if_false]
       all_goals first|exact ⟨nofun,nofun,nofun⟩|trivial
     rintro l S10 ⟨rfl,rfl⟩
     have hpl:plc b j<=20:=by unfold plc;split <;> omega
     cases hNv:zch b ws rs asks j p with
     | none =>
      simp only [zbj,zbb,zax,zak,zav,qg0,qg1,zam,zfp,oD,zdb,Bool.not_true,za9,qbf,if_false,zcc]
      obtain ⟨k0,k1,on',off',k2,k3,k4,k5⟩:=skip hNv
      exact .inl ⟨(by first|exact .inl rfl|exact .inl trivial|trivial),k1,on',off',k2,k3,k4,k5,_,_,_,_,_,_,rfl⟩
     | some v =>
      simp only [zbj,zbb,zax,zak,zav,qg0,qg1,zam,zfp,oD,zdb,Bool.not_false,za9,if_true,zen]
      rw [zdq]
      simp only [zax,zak,zav,qg0,qg1,zam,zg4 (show plc b j<=1000000 by omega),yht hpl,zdv,zb9 qb,zcg]
      rcases yhr v (plc b j) with hbt|hbt
      ·have ab0:L2.atI [D.ref S3.length,.ref (S3.length+1)] ((0:Nat):Int)=some (.ref S3.length):=rfl
       simp only [hbt,ab0,zcg]
       refine ⟨⟨_,show zcu (.ref S3.length) S10=some _ from zb9 qf⟩,?_⟩
       simp only [zas,zar,zak,qg0,qg1,zam]
       have:=tp.l0
       rw [zoi qf (by rw [zc6];omega),zoo]
       exact .inl ⟨(by first|exact .inl rfl|exact .inl trivial|trivial),g5.set (qlr _) _,on,off++[p],tp.put0 hNv hbt,zev qf,zh1 qn (by omega),zh1 qb (by omega),_,_,_,_,_,_,rfl⟩
      ·have ab1:L2.atI [D.ref S3.length,.ref (S3.length+1)] ((1:Nat):Int)=some (.ref (S3.length+1)):=rfl
       simp only [hbt,ab1,zcg]
       refine ⟨⟨_,show zcu (.ref (S3.length+1)) S10=some _ from zb9 qn⟩,?_⟩
       simp only [zas,zar,zak,qg0,qg1,zam]
       have:=tp.l1
       rw [zoi qn (by rw [zc6];omega),zoo]
       exact .inl ⟨(by first|exact .inl rfl|exact .inl trivial|trivial),g5.set (by omega) _,on++[p],off,tp.put1 hNv hbt,zh1 qf (by omega),zev qn,zh1 qb (by omega),_,_,_,_,_,_,rfl⟩
    ·have ha':¬(((p / 2 ^ b:Nat):Int)<(asks:Int)):=by omega
     rw [zbj]
     simp only [zis,zbb,zax,zak,zav,qg0,qg1,zam,zo0,hin,decide_true,za9,if_true,zou,zd5,ha',decide_false,qbf,if_false,zcc]
     obtain ⟨k0,k1,on',off',k2,k3,k4,k5⟩:=skip (by unfold zch;rw [zo1 hnd hi];show (if p / 2 ^ b<asks then _ else _)=_;rw [if_neg ha])
     exact .inl ⟨(by first|exact .inl rfl|exact .inl trivial|trivial),k1,on',off',k2,k3,k4,k5,_,_,_,_,_,_,rfl⟩
   ·rw [zbj]
    simp only [zis,zbb,zax,zak,zav,qg0,qg1,zam,zo0,hin,decide_false,za9,qbf,if_false,zcc]
    obtain ⟨k0,k1,on',off',k2,k3,k4,k5⟩:=skip (by unfold zch;rw [yix hin];rfl)
    exact .inl ⟨(by first|exact .inl rfl|exact .inl trivial|trivial),k1,on',off',k2,k3,k4,k5,_,_,_,_,_,_,rfl⟩
  ·rintro l S5 ⟨g5,on,off,tp,qf,qn,qb,y7,y8,y9,y10,y11,y12,rfl⟩
   have q5:=g5.get q3
   have ab1:L2.atI [D.ref S3.length,.ref (S3.length+1)] 1=some (.ref (S3.length+1)):=rfl
   have ab0:L2.atI [D.ref S3.length,.ref (S3.length+1)] 0=some (.ref S3.length):=rfl
   simp only [zen,zdq,zat,zax,zak,zav,zas,zar,qg0,qg1,zam,zdv,zb9 qb,zcg,ab1,ab0,ziu,zb9 qn,zb9 qf,zdc,List.length_cons,List.length_nil,Nat.reduceAdd,sz2,true_and]
   refine ⟨⟨_,show zcu (.ref S1.length) S5=some _ from zb9 q5⟩,?_⟩
   rw [zoi q5 (by rw [qlm];omega)]
   refine .inl ⟨(by first|exact .inl rfl|exact .inl trivial|trivial),(g3.trans g5).set (qlr _) _,ts++[(on,off)],by simp [hl3],λj' t e=>?_,?_,_,_,_,_,_,_,_,_,rfl⟩
   ·by_cases hj':j' < ts.length
    ·rw [List.getElem?_append_left hj'] at e;exact ok3 j' t e
    ·have hl':=(qme e).1
     rw [qla,List.length_singleton] at hl'
     have:j' = ts.length:=by omega
     subst this
     rw [List.getElem?_append_right (qlr _),Nat.sub_self] at e
     cases e
     rw [hl3];exact tp
   ·rw [zev q5,List.map_append];rfl
 ·rintro l S3 ⟨g3,ts,hl3,ok3,q3,y5,y6,y7,y8,y9,y10,y11,y12,rfl⟩
  simp only [zbt,zak,qg0,qg1,zam]
  exact ⟨_,ts,rfl,q3,hl3,ok3,g1.len,g1.trans g3⟩
section
variable {asks:Nat}{rs:List (List Cl)}{ws:List Nat}
theorem yiz {i w:Nat}(h:ws.idxOf? w=some i):ws[i]? = some w:=by
 unfold List.idxOf? at h
 rw [List.findIdx?_eq_some_iff_getElem] at h
 obtain ⟨h1,h2,_⟩:=h
 rw [qge h1]
 have:ws[i]=w:=by simpa using h2
 rw [this]
theorem zvp (h:OkM asks rs) (hw:OkW rs.length ws) (p:Nat) {i w a:Nat}{cs:List Cl}{c:Cl}(h1:ws[i]? = some w) (h2:rs[i]? = some cs) (h3:cs[a]? = some c) (e:p=w+a*2 ^ bOf rs.length) (j:Nat) :
  zch (bOf rs.length) ws rs asks j p=if j<bOf rs.length then (c.1.bind λg=>ws[g]?) else c.2:=by
 have hl:=hw.lt w (qmg h1)
 have p0:0<2 ^ bOf rs.length:=Nat.pow_pos (by decide)
 have e1:p % 2 ^ bOf rs.length=w:=by rw [e,Nat.add_mul_mod_self_right,Nat.mod_eq_of_lt hl]
 have e3:p / 2 ^ bOf rs.length=a:=by rw [e,Nat.add_mul_div_right _ _ p0,Nat.div_eq_of_lt hl,Nat.zero_add]
 have ha:a<asks:=by rw [<-h.len cs (qmg h2)];exact (qme h3).1
 have ec:cl rs i a=c:=by unfold cl;rw [h2];show (cs[a]?).getD _=c;rw [h3];rfl
 unfold zch
 rw [e1,e3,zo1 hw.nd h1]
 show (if a<asks then _ else _)=_
 rw [if_pos ha,ec]
theorem zvq (h:OkM asks rs) (hw:OkW rs.length ws) {j p v:Nat}(e:zch (bOf rs.length) ws rs asks j p=some v):∃(i w a:Nat) (cs:List Cl) (c:Cl),ws[i]? = some w/\rs[i]? = some cs/\cs[a]? = some c/\p=w+a*2 ^ bOf rs.length/\(if j<bOf rs.length then (c.1.bind λg=>ws[g]?) else c.2)=some v:=by
 unfold zch at e
 obtain ⟨i,h1,e⟩:=bnd e
 by_cases ha:p / 2 ^ bOf rs.length<asks
 ·rw [if_pos ha] at e
  have h2:=yiz h1
  have hi:i<rs.length:=by rw [<-hw.len];exact (qme h2).1
  obtain ⟨cs,c1,c2⟩:=zoz h hi ha
  refine ⟨i,_,_,cs,_,h2,c1,c2,?_,e⟩
  rw [Nat.mul_comm];exact (Nat.mod_add_div _ _).symm
 ·rw [if_neg ha] at e;cases e
theorem yi0 (h:OkM asks rs) (hw:OkW rs.length ws) {j:Nat}(hj:j<bOf rs.length) (p v:Nat):zch (bOf rs.length) ws rs asks j p=some v↔zeg (bOf rs.length) ws rs zc7 p v:=by
 constructor
 ·intro e
  obtain ⟨i,w,a,cs,c,h1,h2,h3,h4,h5⟩:=zvq h hw e
  rw [if_pos hj] at h5
  obtain ⟨g,h6,h7⟩:=bnd h5
  exact ⟨i,a,w,cs,c,g,trivial,h1,h2,h3,h4,h6,h7⟩
 ·rintro ⟨i,a,w,cs,c,g,_,h1,h2,h3,h4,h6,h7⟩
  rw [zvp h hw p h1 h2 h3 h4,if_pos hj,h6];exact h7
theorem yi1 (h:OkM asks rs) (hw:OkW rs.length ws) {j:Nat}(hj:¬j<bOf rs.length) (p v:Nat):zch (bOf rs.length) ws rs asks j p=some v↔zfc (bOf rs.length) ws rs zc7 p v:=by
 constructor
 ·intro e
  obtain ⟨i,w,a,cs,c,h1,h2,h3,h4,h5⟩:=zvq h hw e
  rw [if_neg hj] at h5
  exact ⟨i,a,w,cs,c,trivial,h1,h2,h3,h4,h5⟩
 ·rintro ⟨i,a,w,cs,c,_,h1,h2,h3,h4,h6⟩
  rw [zvp h hw p h1 h2 h3 h4,if_neg hj,h6]
theorem yi2 {L:Ls}(nd:(L.map (·.1)).Nodup):(ks L).Pairwise (· < ·):=by
 have h1:=ztf (L.map λq=>(q.1:Int))
 have h2:(zeb (L.map λq=>(q.1:Int))).Nodup:=by
  refine (zfr _).nodup_iff.mpr ?_
  have e:(L.map λq=>(q.1:Int))=(L.map (·.1)).map λ(n:Nat)=>(n:Int):=by rw [List.map_map];rfl
  rw [e]
  exact List.pairwise_map.mpr (nd.imp λh z=>h (by omega))
 have h3:(zeb (L.map λq=>(q.1:Int))).Pairwise (· < ·):=(h1.and h2).imp λ{a b} h=>by have:=h.1;have:=h.2;omega
 have h4:∀a∈zeb (L.map λq=>(q.1:Int)),0<=a:=λa ha=>by
  obtain ⟨q,_,rfl⟩:=List.mem_map.mp ((zfr _).mem_iff.mp ha)
  omega
 unfold ks
 rw [List.pairwise_map]
 exact h3.imp_of_mem λ{a b} ha hb h=>by have:=h4 a ha;have:=h4 b hb;omega
theorem zvr {a b:List Nat}(ha:a.Pairwise (· < ·)) (hb:b.Pairwise (· < ·)) (h:∀p,p∈a↔p∈b):a=b:=by
 have na:a.Nodup:=ha.imp λh=>by omega
 have nb:b.Nodup:=hb.imp λh=>by omega
 exact List.Perm.eq_of_pairwise (le:=λx y=>x<=y) (λ_ _ _ _ h1 h2=>by omega) (ha.imp λh=>by omega) (hb.imp λh=>by omega) ((List.perm_ext_iff_of_nodup na nb).mpr h)
theorem zvs {R:Nat->Nat->Prop}{L:Ls}(h:DictR R R L) (fn:∀p v w,R p v->R p w->v=w) (k x p:Nat):p∈onL L k x↔∃v,R p v/\bt v k=x:=by
 unfold onL
 rw [List.mem_filter,zvd,decide_eq_true_eq]
 constructor
 ·rintro ⟨h1,h2⟩
  exact ⟨_,h.sound _ (zve h1),h2⟩
 ·rintro ⟨v,h1,h2⟩
  have hm:=h.full p v h1
  refine ⟨hm,?_⟩
  have e:val L p=v:=fn p _ v (h.sound _ (zve hm)) h1
  rw [e];exact h2
theorem zvt {R:Nat->Nat->Prop}{L:Ls}(h:DictR R R L) (k x:Nat):(onL L k x).Pairwise (· < ·):=(yi2 h.nd).filter _
theorem yi3 (h:OkM asks rs) (hw:OkW rs.length ws) {L3 L4:Ls}{ts:List (List Nat × List Nat)}(h3:DictR (zeg (bOf rs.length) ws rs zc7) (zeg (bOf rs.length) ws rs zc7) L3) (h4:DictR (zfc (bOf rs.length) ws rs zc7) (zfc (bOf rs.length) ws rs zc7) L4)
  (hl:ts.length=bOf rs.length+3) (ht:∀(j:Nat) t,ts[j]? = some t->TabP (zch (bOf rs.length) ws rs asks j) (plc (bOf rs.length) j) (2 ^ (bOf rs.length+cOf asks)) t.1 t.2):zfd (bOf rs.length) L3 L4=ts:=by
 apply List.ext_getElem
 ·rw [zlq,hl]
 intro j hj1 hj2
 have tp:=ht j _ (qge hj2)
 rw [zlq] at hj1
 have fin:∀(R:Nat->Nat->Prop) (L:Ls),DictR R R L->(∀p v,zch (bOf rs.length) ws rs asks j p=some v↔R p v)->(∀p v,R p v->p<2 ^ (bOf rs.length+cOf asks))->(onL L (plc (bOf rs.length) j) 1,onL L (plc (bOf rs.length) j) 0)=ts[j]:=λR L hd hn hp=>by
  have fn:∀p v w,R p v->R p w->v=w:=λp v w a b=>by
   have a:=(hn p v).mpr a
   have b:=(hn p w).mpr b
   rw [a] at b;cases b;rfl
  refine Prod.ext (zvr (zvt hd _ _) tp.s1 λp=>?_) (zvr (zvt hd _ _) tp.s0 λp=>?_)
  ·rw [zvs hd fn,tp.on_]
   constructor
   ·rintro ⟨v,a,b⟩;exact ⟨hp p v a,v,(hn p v).mpr a,b⟩
   ·rintro ⟨_,v,a,b⟩;exact ⟨v,(hn p v).mp a,b⟩
  ·rw [zvs hd fn,tp.off_]
   constructor
   ·rintro ⟨v,a,b⟩;exact ⟨hp p v a,v,(hn p v).mpr a,b⟩
   ·rintro ⟨_,v,a,b⟩;exact ⟨v,(hn p v).mp a,b⟩
 by_cases hj:j<bOf rs.length
 ·have e:(zfd (bOf rs.length) L3 L4)[j]'(by rw [zlq];exact hj1)=(onL L3 j 1,onL L3 j 0):=by
   unfold zfd
   rw [List.getElem_append_left (by simpa using hj)]
   simp
  rw [e]
  have:=fin _ L3 h3 (yi0 h hw hj) (λp v z=>zox h hw z)
  unfold plc at this
  rw [if_pos hj] at this
  exact this
 ·have e:(zfd (bOf rs.length) L3 L4)[j]'(by rw [zlq];exact hj1)=(onL L4 (j-bOf rs.length) 1,onL L4 (j-bOf rs.length) 0):=by
   unfold zfd
   rw [List.getElem_append_right (by simpa using hj)]
   simp
  rw [e]
  have:=fin _ L4 h4 (yi1 h hw hj) (λp v z=>zoy h hw z)
  unfold plc at this
  rw [if_neg hj] at this
  exact this
end
theorem zvu {t:TM}{m n:SM}{l:Lo}{S:Sto}{Q:Fl->Lo->Sto->Prop}(R:Bool->Sto->Prop) (h:Wt t l S R) (h1:∀S1,R true S1->Ws m l S1 Q) (h2:∀S1,R false S1->Ws n l S1 Q):Ws (sIf t m n) l S Q:=by
 rw [zbj]
 obtain ⟨k,S1,e,r⟩:=h
 refine ⟨k,S1,e,?_⟩
 cases k with
 | true=>exact h1 S1 r
 | false=>exact h2 S1 r
theorem yi4 {S:Sto}{x:D}{o:Nat}{l:Lo}(ho:o<=100) (h:Ty S x) (h3:l[3]? = some (some x)) (h2:l[2]? = some (some (.int (o:Nat)))) :
  Wt (zcb (zck (tE (eUn (zcl "int") (zaa 3)))) (zcb (tE (eUn (zcl "bool") (zaa 3))) (zcb (tE (eOp dLt (zaa 3) (eC (.int 0)))) (tE (eOp dGe (zaa 3) (eOp zcp (eC (.int 1)) (zaa 2))))))) l S λb S'=>b = !(zbw ((2 ^ o:Nat):Int) x)/\S' = S:=by
 obtain ⟨T,h⟩:=h
 have key:∀{U:String},T=U->isI U "int" = false->zbw ((2 ^ o:Nat):Int) x=false->Wt (zcb (zck (tE (eUn (zcl "int") (zaa 3)))) (zcb (tE (eUn (zcl "bool") (zaa 3))) (zcb (tE (eOp dLt (zaa 3) (eC (.int 0)))) (tE (eOp dGe (zaa 3) (eOp zcp (eC (.int 1)) (zaa 2))))))) l S λb S'=>b = !(zbw ((2 ^ o:Nat):Int) x)/\S' = S:=λ{U} e1 e2 e3=>by
  subst e1
  rw [e3]
  simp only [zdr,zc1,zbb,zc0,zak,h3,zam,zln,h]
  refine ⟨_,rfl,?_⟩
  simp only [e2,za9,Bool.not_false,if_true]
  all_goals first|trivial|exact ⟨nofun,nofun⟩
 cases x with
 | non=>cases h;exact key rfl (by decide) rfl
 | str z=>cases h;exact key rfl (by decide) rfl
 | tup xs=>cases h;exact key rfl (by decide) rfl
 | fn a=>cases h
 | ref k =>
  unfold tyD at h
  dsimp only at h
  split at h
  ·cases h;exact key rfl (by decide) rfl
  ·cases h;exact key rfl (by decide) rfl
  ·cases h
 | bl b =>
  have e1:isI "bool" "int" = true:=by decide
  have e2:isI "bool" "bool" = true:=by decide
  simp only [zdr,zc1,zbb,zc0,zak,h3,zam,zlb,e1,e2,za9,Bool.not_true,qbf,if_false,if_true]
  all_goals first|trivial|exact ⟨nofun,nofun⟩
 | int i =>
  have e1:isI "int" "int" = true:=by decide
  show Wt _ l S λb S'=>b = !(decide (0<=i) && decide (i<((2 ^ o:Nat):Int)))/\S' = S
  simp only [zdr,zc1,zbb,zc0,zax,zav,zak,h3,h2,zam,zje,e1,zop,za9,Bool.not_true,qbf,if_false,zd5,zg4 (show o<=1000000 by omega)]
  by_cases h0:0<=i
  ·have h0':¬i<0:=by omega
   by_cases hb:i<((2 ^ o:Nat):Int)
   ·have hb':¬((2 ^ o:Nat):Int)<=i:=by omega
    simp only [h0,h0',hb,hb',decide_true,decide_false,qbf,if_false,Bool.true_and,Bool.not_true,za9]
    all_goals first|trivial|exact ⟨nofun,nofun⟩|exact ⟨_,rfl,nofun,nofun⟩
   ·have hb':((2 ^ o:Nat):Int)<=i:=by omega
    simp only [h0,h0',hb,hb',decide_true,decide_false,qbf,if_false,Bool.true_and,Bool.not_false,za9]
    all_goals first|trivial|exact ⟨nofun,nofun⟩|exact ⟨_,rfl,nofun,nofun⟩
  ·have h0':i<0:=by omega
   simp only [h0,h0',decide_true,decide_false,if_true,Bool.false_and,Bool.not_false,za9]
   all_goals first|trivial|exact ⟨nofun,nofun⟩
theorem yi5 {f:D->List D->Sto->Option (D × Sto)}{o:EM}{as:AM}{l:Lo}{S:Sto}{xs:List D}{S1:Sto}{Q:D->Sto->Prop}(h:o l S=some (.tup xs,S1)):We (zgr f o as) l S Q=Wa as l S1 λys S2=>Wo (f (.tup xs) ys S2) Q:=by
 show Wo (((o l S).bind λp=>(zta p.1).bind λ_=>(as l p.2).bind λq=>f p.1 q.1 q.2)) Q=_
 rw [h]
 show Wo ((as l S1).bind λq=>f (.tup xs) q.1 q.2) Q=_
 rw [zd4]
 apply propext
 constructor
 ·rintro ⟨⟨ys,S2⟩,e,q⟩;exact ⟨ys,S2,e,q⟩
 ·rintro ⟨ys,S2,e,q⟩;exact ⟨⟨ys,S2⟩,e,q⟩
theorem zo2 {B:Int}:∀{ds:List D},ds.all (zbw B)=true->ds=(ds.map zbh).map D.int
 | [],_=>rfl
 | d :: ds,h=>by
  rw [List.all_cons,Bool.and_eq_true] at h
  rw [List.map_cons,List.map_cons,<-zo2 h.2]
  cases d with
  | int i=>rfl
  | _=>cases h.1
noncomputable def twF (ns:List Int):D->Option D
 | .int i=>if 1<ns.count i then some (.int i) else none
 | _=>none
theorem yi6 {ns:List Int}:((ns.map D.int).filterMap (twF ns)=[])↔ns.Nodup:=by
 rw [List.filterMap_eq_nil_iff,List.nodup_iff_count]
 constructor
 ·intro h i
  by_cases hi:i∈ns
  ·have:=h (.int i) (List.mem_map.mpr ⟨i,hi,rfl⟩)
   unfold twF at this
   split at this
   ·rename_i heq
    cases heq
    split at this
    ·cases this
    ·omega
   ·rename_i heq;exact absurd rfl (heq i)
  ·rw [List.count_eq_zero_of_not_mem hi];exact Nat.zero_le _
 ·intro h x hx
  obtain ⟨i,_,rfl⟩:=List.mem_map.mp hx
  have:=h i
  show (if 1<ns.count i then some (D.int i) else none)=none
  rw [if_neg (by omega)]
theorem yi7 {S:Sto}{x:D}{n o:Nat}(ho:o<=100) (h:Tys S x) (hz:∀ds,x=.tup ds->ds.length<=100):Wo (zji [x,.int (n:Int),.int (o:Nat)] S) λv S'=>v=.bl (zb1 n (2 ^ o) x)/\Gr S S':=by
 have big:1000<=sizeLine:=by decide
 have tt:isI "tuple" "tuple" = true:=by decide
 unfold zji zui
 dsimp! only [zbz]
 have no:∀{T:String},tyD S x=some T->isI T "tuple" = false->zb1 n (2 ^ o) x=false->Ws (sIf (zcb (zck (tE (eUn (zcl "tuple") (zaa 0)))) (tE (eOp dNe (zaf zbl (zab (zaa 0) zae)) (zaa 1)))) (za4 (eC (.bl false))) zbg) [some x,‹n›,some (.int (o:Nat)),none] S λf _ S1=>f=.rt (.bl (zb1 n (2 ^ o) x))/\S1=S:=λ{T} h1 h2 h3=>by
  simp only [zbj,zdr,zc1,zbb,zc0,zak,qg0,zam,zln,h1]
  refine ⟨_,rfl,?_⟩
  simp only [h2,za9,Bool.not_false,if_true,zbt,zav,h3]
  all_goals first|trivial|exact ⟨nofun,nofun⟩
 have fin:∀{T:String},tyD S x=some T->isI T "tuple" = false->zb1 n (2 ^ o) x=false->∀b:SM,Ws (zaj (sIf (zcb (zck (tE (eUn (zcl "tuple") (zaa 0)))) (tE (eOp dNe (zaf zbl (zab (zaa 0) zae)) (zaa 1)))) (za4 (eC (.bl false))) zbg) b) [some x,‹n›,some (.int (o:Nat)),none] S λf _ S1=>match f with | .rt d=>d=.bl (zb1 n (2 ^ o) x)/\Gr S S1 | .nx=>D.non=.bl (zb1 n (2 ^ o) x)/\Gr S S1|_=>False:=λ{T} h1 h2 h3 b=>by
  refine zlh (λ_ _=>False) (λv S'=>v=.bl (zb1 n (2 ^ o) x)/\Gr S S') ?_ (λ_ _ z=>z.elim) (λd _ _ o=>o)
  refine (no h1 h2 h3).mono ?_
  rintro f l S1 ⟨rfl,rfl⟩
  exact .inr ⟨_,rfl,rfl,Gr.refl _⟩
 cases x with
 | non=>exact fin rfl (by decide) rfl _
 | bl b=>exact fin rfl (by decide) rfl _
 | int i=>exact fin rfl (by decide) rfl _
 | str z=>exact fin rfl (by decide) rfl _
 | fn a=>obtain ⟨T,e⟩:=h;cases e
 | ref k =>
  obtain ⟨T,e⟩:=h
  have e0:=e
  unfold tyD at e
  dsimp only at e
  split at e
  ·cases e;exact fin e0 (by decide) rfl _
  ·cases e;exact fin e0 (by decide) rfl _
  ·cases e
 | tup ds =>
  clear no fin
  have hz:=hz ds rfl
  have h:∀d∈ds,Ty S d:=h
  refine zlh (λl S'=>S' = S/\ds.length=n/\l=[some (.tup ds),‹n›,some (.int (o:Nat)),none]) (λv S'=>v=.bl (zb1 n (2 ^ o) (.tup ds))/\Gr S S') ?_ ?_ (λd _ _ o=>o)
  ·by_cases hl:ds.length=n
   ·have hl':(ds.length:Int)=(n:Int):=by omega
    simp only [zbj,zdr,zc1,zbb,zc0,zax,zat,zas,zar,zak,qg0,qg1,zam,zjf,tt,za9,Bool.not_true,qbf,if_false,zet,zhy,hl',decide_true,zcc]
    exact .inl ⟨nofun,nofun,hl,nofun⟩
   ·have hl':¬(ds.length:Int)=(n:Int):=by omega
    have e:zb1 n (2 ^ o) (.tup ds)=false:=by rw [zg5];simp [hl]
    simp only [zbj,zdr,zc1,zbb,zc0,zax,zat,zas,zar,zak,qg0,qg1,zam,zjf,tt,za9,Bool.not_true,qbf,if_false,zet,zhy,hl',decide_false,Bool.not_false,if_true,zbt,zav]
    exact .inr ⟨_,rfl,by rw [e],Gr.refl _⟩
  rintro l S1 ⟨rfl,hl,rfl⟩
  refine zlh (λl S'=>S' = S1/\ds.all (zbw ((2 ^ o:Nat):Int))=true/\∃y,l=[some (.tup ds),‹n›,some (.int (o:Nat)),y]) (λv S'=>v=.bl (zb1 n (2 ^ o) (.tup ds))/\Gr S1 S') ?_ ?_ (λd _ _ o=>o)
  ·refine ygr ds (λi l S'=>S' = S1/\(ds.take i).all (zbw ((2 ^ o:Nat):Int))=true/\∃y,l=[some (.tup ds),‹n›,some (.int (o:Nat)),y]) (λv S'=>v=.bl (zb1 n (2 ^ o) (.tup ds))/\Gr S1 S') (S1:=S1) rfl ⟨rfl,rfl,_,rfl⟩ ?_ ?_ (λd l' S' q=>.inr ⟨d,rfl,q⟩)
   ·rintro i x l S2 hx ⟨rfl,ha,y,rfl⟩
    simp only [zaz,qs0,qs1]
    refine zvu _ (yi4 (o:=o) ho (h x (qmg hx)) rfl rfl) ?_ ?_
    ·rintro S3 ⟨hb,rfl⟩
     have hb:zbw ((2 ^ o:Nat):Int) x=false:=by simpa using hb.symm
     have e:zb1 n (2 ^ o) (.tup ds)=false:=by
      rw [zg5]
      have:ds.all (zbw ((2 ^ o:Nat):Int))=false:=by
       rw [List.all_eq_false]
       exact ⟨x,qmg hx,by rw [hb];decide⟩
      rw [this];simp
     simp only [zbt,zav]
     exact .inr ⟨_,rfl,by rw [e],Gr.refl _⟩
    ·rintro S3 ⟨hb,rfl⟩
     have hb:zbw ((2 ^ o:Nat):Int) x=true:=by simpa using hb.symm
     rw [zcc]
     refine .inl ⟨.inl rfl,rfl,?_,_,rfl⟩
     rw [List.take_succ,hx,List.all_append,ha]
     show (true && (zbw ((2 ^ o:Nat):Int) x && true))=true
     rw [hb];rfl
   ·rintro l S2 ⟨rfl,ha,y,rfl⟩
    rw [List.take_length] at ha
    exact .inl ⟨rfl,rfl,ha,y,rfl⟩
  rintro l S2 ⟨rfl,ha,y,rfl⟩
  have hi:=zoq ha
  have hn:=zo2 ha
  simp only [zbt,zax,zat,zas]
  refine zt8 ds (twF (ds.map zbh)) (λS'=>S' = S2) (λl=>∃y0,l=[y0,some (.tup ds)]) (zob rfl) rfl ⟨_,rfl⟩ (λi S _=>rfl) (by omega) ?_ ?_
  ·rintro x l S3 hx ⟨y0,rfl⟩ rfl
   obtain ⟨i,hi0,rfl⟩:∃i,i∈ds.map zbh/\x=.int i:=by
    rw [hn] at hx
    obtain ⟨i,h1,h2⟩:=List.mem_map.mp hx
    exact ⟨i,h1,h2.symm⟩
   simp only [zaz,qs0]
   refine ⟨⟨_,rfl⟩,?_⟩
   have ec:∀Q':D->Sto->Prop,Wo (zhw (.tup ds) [.int i] S3) Q' = Q' (.int ((ds.map zbh).count i:Nat)) S3:=λQ'=>by
    have:zhw (.tup ds) [.int i] S3=some (.int ((ds.map zbh).count i:Nat),S3):=by
     show ((zde ds).bind λns=>some (D.int (ns.count i),S3))=_
     rw [hi];rfl
    rw [this,za1]
   rw [zbb,zax,yi5 (xs:=ds) (S1:=S3) rfl]
   simp only [zas,zar,zak,zav,qg0,qg1,zam,ec,zd5,za9]
   refine ⟨nofun,λhb=>?_,λhb=>?_⟩
   ·show (if 1<(ds.map zbh).count i then some (D.int i) else none)=none
    rw [if_neg]
    intro z
    rw [decide_eq_false_iff_not] at hb
    omega
   ·have:1<(ds.map zbh).count i:=by
     rw [decide_eq_true_eq] at hb
     omega
    refine ⟨?_,nofun⟩
    show (if 1<(ds.map zbh).count i then some (D.int i) else none)=_
    rw [if_pos this]
  ·rintro S3 rfl
   simp only [zar,zla,zed,zcg,zav,ze5]
   refine ⟨?_,(Gr.refl _).push _⟩
   rw [zg5,ha,decide_eq_true hl,Bool.true_and,Bool.true_and]
   congr 1
   rw [decide_eq_decide,<-yi6,<-hn]
   constructor
   ·intro z
    exact List.eq_nil_of_length_eq_zero (by omega)
   ·intro z
    rw [z];rfl
def Atm (y:D):Prop:=∃T,∀S,tyD S y=some T
def smI (y:D):Prop:=∃w:Nat,w<1000/\y=.int (w:Int)
inductive Odd (S:Sto):D->Prop
 | lst (n:Nat) (xs:List D) (hn:S[n]? = some (.lst xs)) (h3:3<=n) (h:∀x∈xs,smI x) (hl:xs.length<=12):Odd S (.ref n)
 | dct (n:Nat) (kvs:List (L2.Key × D)) (hn:S[n]? = some (.dct kvs)) (h3:3<=n) (h:kvs=[]\/∃w:Nat,w<1000/\kvs=[(Sum.inl (w:Int),.int 0)]):Odd S (.ref n)
inductive El (S:Sto) (ds:List D):Prop
 | A (h:∀y∈ds,Atm y)
 | B (x:D) (o:Odd S x) (h:∀y∈ds,smI y\/y=x)
inductive Spo (N:Nat) (S:Sto):D->Prop
 | atm (d:D) (h:Atm d) (hn:∀ds,d≠.tup ds):Spo N S d
 | odd (d:D) (h:Odd S d):Spo N S d
 | tup (ds:List D) (hl:ds.length<=N) (h:El S ds):Spo N S (.tup ds)
 | lst (n:Nat) (ds:List D) (hn:S[n]? = some (.lst ds)) (h3:3<=n) (hl:ds.length<=N) (h:El S ds):Spo N S (.ref n)
theorem Odd.fr {S S':Sto}{d:D}(f:Fr S S') (h:Odd S d):Odd S' d:=by
 cases h with
 | lst n xs hn h3 h hl=>exact .lst n xs (f n _ (by omega) hn) h3 h hl
 | dct n kvs hn h3 h=>exact .dct n kvs (f n _ (by omega) hn) h3 h
theorem El.fr {S S':Sto}{ds:List D}(f:Fr S S') (h:El S ds):El S' ds:=by
 cases h with
 | A h=>exact .A h
 | B x o h=>exact .B x (o.fr f) h
theorem Spo.fr {N:Nat}{S S':Sto}{d:D}(f:Fr S S') (h:Spo N S d):Spo N S' d:=by
 cases h with
 | atm _ h hn=>exact .atm _ h hn
 | odd _ h=>exact .odd _ (h.fr f)
 | tup ds hl h=>exact .tup ds hl (h.fr f)
 | lst n ds hn h3 hl h=>exact .lst n ds (f n _ (by omega) hn) h3 hl (h.fr f)
theorem smI.ty {S:Sto}{y:D}(h:smI y):Ty S y:=by
 obtain ⟨w,hw,rfl⟩:=h
 exact ⟨_,rfl⟩
theorem Odd.ty {S:Sto}{d:D}(h:Odd S d):Ty S d:=by
 cases h with
 | lst n xs hn h3 h hl=>exact ⟨"list",by unfold tyD;dsimp only;rw [hn]⟩
 | dct n kvs hn h3 h=>exact ⟨"dict",by unfold tyD;dsimp only;rw [hn]⟩
theorem Odd.nt {S:Sto}{d:D}(h:Odd S d):∀ds,d≠.tup ds:=λds e=>by subst e;cases h
theorem Atm.tys {S:Sto}{d:D}(h:Atm d) (hn:∀ds,d≠.tup ds):Tys S d:=by
 obtain ⟨T,e⟩:=h
 cases d with
 | tup ds=>exact absurd rfl (hn ds)
 | _=>exact ⟨T,e S⟩
theorem Odd.tys {S:Sto}{d:D}(h:Odd S d):Tys S d:=by
 have t:=h.ty
 cases d with
 | tup ds=>exact absurd rfl (h.nt ds)
 | _=>exact t
theorem El.tys {S:Sto}{ds:List D}(h:El S ds):∀y∈ds,Ty S y:=λy hy=>by
 cases h with
 | A h=>obtain ⟨T,e⟩:=h y hy;exact ⟨T,e S⟩
 | B x o h =>
  rcases h y hy with z|rfl
  ·exact z.ty
  ·exact o.ty
theorem Spo.tys {N:Nat}{S:Sto}{d:D}(h:Spo N S d):Tys S d:=by
 cases h with
 | atm _ h hn=>exact h.tys hn
 | odd _ h=>exact h.tys
 | tup ds hl h=>exact h.tys
 | lst n ds hn h3 hl h=>exact ⟨"list",by unfold tyD;dsimp only;rw [hn]⟩
theorem Spo.sz {N:Nat}{S:Sto}{d:D}(hN:N<=100) (h:Spo N S d):∀ds,d=.tup ds->ds.length<=100:=λds e=>by
 subst e
 cases h with
 | atm _ h hn=>exact absurd rfl (hn ds)
 | odd _ h=>cases h
 | tup _ hl h=>omega
theorem zvv:Atm .non:=⟨_,λ_=>rfl⟩
theorem zo3 (b:Bool):Atm (.bl b):=⟨_,λ_=>rfl⟩
theorem zls (i:Int):Atm (.int i):=⟨_,λ_=>rfl⟩
theorem zlt {w:Nat}(h:w<1000000):Atm (.int (w:Int)):=zls _
theorem smI.a {y:D}(h:smI y):Atm y:=by
 obtain ⟨w,hw,rfl⟩:=h
 exact zls _
theorem zlu (z:Str):Atm (.str z):=⟨_,λ_=>rfl⟩
theorem zo4 (ds:List D):Atm (.tup ds):=⟨_,λ_=>rfl⟩
noncomputable def zlv (i j:Nat):List D:=[.non,.bl true,.str "",.int 0,.ref i,.ref j,.str "01",.tup [.tup [.int 0],.tup [.int 1]],.tup [.non],.tup [.str "0"]]
theorem zvw {S:Sto}{i j:Nat}(hi:S[i]? = some (.dct [])) (hj:S[j]? = some (.lst [])) (i3:3<=i) (j3:3<=j):∀d∈zlv i j,Spo 20 S d:=by
 intro d hd
 unfold zlv at hd
 simp only [List.mem_cons,List.not_mem_nil,or_false] at hd
 rcases hd with rfl|rfl|rfl|rfl|rfl|rfl|rfl|rfl|rfl|rfl
 ·exact .atm _ zvv λ_ e=>by cases e
 ·exact .atm _ (zo3 true) λ_ e=>by cases e
 ·exact .atm _ (zlu _) λ_ e=>by cases e
 ·exact .atm _ (zlt (w:=0) (by omega)) λ_ e=>by cases e
 ·exact .odd _ (.dct i [] hi i3 (.inl rfl))
 ·exact .odd _ (.lst j [] hj j3 (λx hx=>by cases hx) (by decide))
 ·exact .atm _ (zlu _) λ_ e=>by cases e
 ·refine .tup _ (by decide) (.A λy hy=>?_)
  simp only [List.mem_cons,List.not_mem_nil,or_false] at hy
  rcases hy with rfl|rfl
  ·exact zo4 _
  ·exact zo4 _
 ·refine .tup _ (by decide) (.A λy hy=>?_)
  rw [List.mem_singleton.mp hy];exact zvv
 ·refine .tup _ (by decide) (.A λy hy=>?_)
  rw [List.mem_singleton.mp hy];exact zlu _
noncomputable def zjt (x o n i j m:Nat):List D:=[.int (x:Int),.int ((2 ^ o:Nat):Int),.int (-1),.bl (decide ((n:Int)=1)),.bl (decide ((n:Int)=1)),.str (toString (n:Int)),.tup [.int (n:Int)],.int ((n:Int)+10 ^ Int.toNat 30)]++[.ref i,.ref j,.ref m]
theorem yi8 {S:Sto}{x o n i j m:Nat}(hx:x<8) (ho:o<=3) (hn:n<8) (hi:S[i]? = some (.lst [.int (n:Int)])) (hj:S[j]? = some (.dct [])) (hm:S[m]? = some (.dct [(Sum.inl (n:Int),.int 0)])) (i3:3<=i) (j3:3<=j) (m3:3<=m):∀d∈zjt x o n i j m,Atm d\/Odd S d:=by
 intro d hd
 unfold zjt at hd
 simp only [List.mem_append,List.mem_cons,List.not_mem_nil,or_false] at hd
 rcases hd with (rfl|rfl|rfl|rfl|rfl|rfl|rfl|rfl)|(rfl|rfl|rfl)
 ·exact .inl (zlt (by omega))
 ·have:2 ^ o<=2 ^ 3:=Nat.pow_le_pow_right (by decide) ho
  exact .inl (zlt (by omega))
 ·exact .inl (zls _)
 ·exact .inl (zo3 _)
 ·exact .inl (zo3 _)
 ·exact .inl (zlu _)
 ·exact .inl (zo4 _)
 ·exact .inl (zls _)
 ·exact .inr (.lst i _ hi i3 (λy hy=>by rw [List.mem_singleton.mp hy];exact ⟨n,by omega,rfl⟩) (by simp))
 ·exact .inr (.dct j _ hj j3 (.inl rfl))
 ·exact .inr (.dct m _ hm m3 (.inr ⟨n,by omega,rfl⟩))
theorem yi9 {xs:List D}{a b:Option Int}{y:D}(h:y∈L3.cutD xs a b):y∈xs:=by
 unfold L3.cutD at h
 first
  | exact List.mem_of_mem_drop (List.mem_of_mem_take h)
  | exact List.mem_of_mem_take (List.mem_of_mem_drop h)
theorem yja {xs:List D}{a b:Option Int}:(L3.cutD xs a b).length<=xs.length:=by
 unfold L3.cutD
 simp only [List.length_drop,List.length_take]
 omega
theorem yjb {i:Int}{S:Sto}{Q:D->Sto->Prop}:Wo (zne (.int i) S) Q=Q (.int (-i)) S:=za1
theorem yjc {S:Sto}{xs:List D}{Q:D->Sto->Prop}:Wo (zim [.tup xs] S) Q=Q (.ref S.length) (S++[.lst xs]):=za1
theorem yjd {w:Nat}{S:Sto}{Q:D->Sto->Prop}(h:w<1000000):Wo (zhq [.int (w:Int)] S) Q=Q (.str (toString (w:Int))) S:=by
 have:zhq [.int (w:Int)] S=some (.str (toString (w:Int)),S):=by
  show (if _ then _ else _)=_
  rw [if_pos (zog h)]
 rw [this,za1]
theorem yje {l:Lo}{S:Sto}{i:Nat}{k a:Int}{Q:D->Sto->Prop}(h:l[i]? = some (some (.int k))):We (zgy i a) l S Q=Q (.ref S.length) (S++[.dct [(Sum.inl k,.int a)]]):=by
 have:zgy i a l S=some (.ref S.length,S++[.dct [(Sum.inl k,.int a)]]):=by unfold zgy;rw [h]
 show Wo (zgy i a l S) Q=_
 rw [this,za1]
theorem yjf {ws:List Nat}{n:Nat}(h:∀w∈ws,w<n) (hn:n<=1000):∀y∈zah ws,smI y:=λy hy=>by
 obtain ⟨w,hw,rfl⟩:=zjr hy
 exact ⟨w,by have:=h w hw;omega,rfl⟩
theorem yjg {ws:List Nat}{i:Nat}(h:i<ws.length):L2.atI (zah ws) (i:Int)=some (.int (ws[i]:Nat)):=by
 obtain ⟨x,h1,_⟩:=zjc (zah ws) (i:Int) (by omega) (by rw [zc6];omega)
 have h0:=h1
 unfold L2.atI L2.ixN at h1
 rw [if_pos (by omega),if_pos (by rw [zc6];omega)] at h1
 dsimp only [Option.bind_some] at h1
 rw [Int.toNat_natCast] at h1
 rw [h0,<-h1]
 unfold zah
 rw [qgm,qge h];rfl
theorem zvx {ws:List Nat}{i:Nat}{S:Sto}{Q:D->Sto->Prop}(h:i<ws.length):Wo (za3 (.tup (zah ws)) (.int (i:Int)) S) Q=Q (.int (ws[i]:Nat)) S:=by
 rw [zjd,yjg h];exact zcg
theorem zlw {l:Lo}{S:Sto}{w c:Nat}{E:EM}{rest:SM}{Q:Fl->Lo->Sto->Prop}(h3:l[3]? = some (some (.int (w:Int)))) (e:w=c) (h:We E l S λv S'=>Q (.rt v) l S'):Ws (zaj (sIf (tE (eOp dEq (zaa 3) (eC (.int (c:Int))))) (za4 E) zbg) rest) l S Q:=by
 subst e
 simp only [zcw,zbj,zbb,zax,zak,zav,h3,zam,ze5,decide_true,za9,if_true,zbt]
 exact h
theorem zlx {l:Lo}{S:Sto}{w c:Nat}{E:EM}{rest:SM}{Q:Fl->Lo->Sto->Prop}(h3:l[3]? = some (some (.int (w:Int)))) (e:w≠c) (h:Ws rest l S Q):Ws (zaj (sIf (tE (eOp dEq (zaa 3) (eC (.int (c:Int))))) (za4 E) zbg) rest) l S Q:=by
 have e':¬(w:Int)=(c:Int):=by omega
 simp only [zcw,zbj,zbb,zax,zak,zav,h3,zam,ze5,e',decide_false,za9,qbf,if_false,zcc]
 exact h
section
variable {ns:List Int}{S:Sto}{k:Int}{ws:List Nat}{many:Nat}
theorem yjh (hp:Pn ns k S) (hk:k<100000) (ok:OkW many ws) (h1:1<=many) (h8:many<=8):Wo (zjn [.ref 2,.tup (zah ws),.int (bOf many:Nat)] S) λv S'=>Spo 20 S' v/\Pn ns (k+4) S':=by
 have sz0:0<=sizeLine:=by decide
 have sz1:1<=sizeLine:=by decide
 have sz3:3<=sizeLine:=by decide
 have sz8:8<=sizeLine:=by decide
 have sz10:10<=sizeLine:=by decide
 have sz2:2<=sizeLine:=by decide
 have big:1000000<=sizeLine:=by rw [sizeLine_eq];decide
 have hl:=ok.len
 obtain ⟨hb1,hb2,hb3⟩:=zew h8
 have p8:2 ^ bOf many<=2 ^ 3:=Nat.pow_le_pow_right (by decide) hb3
 have lt8:∀w∈ws,w<8:=λw hw=>by have:=ok.lt w hw;omega
 have sm:=yjf lt8 (by decide)
 have il:(zah ws).length=many:=by rw [zc6,hl]
 unfold zjn zuv
 dsimp! only [zbz]
 refine za0 (λl S'=>Pn ns (k+1) S'/\∃w:Nat,w<15/\l=[~~~2,some (.tup (zah ws)),some (.int (bOf many:Nat)),‹w›,none,none,none,none,none]) ?_ ?_
 ·simp only [za7,zat,zas,zar,zak,zav,qg0,qg1,zam]
  refine (zcx ns _ _ 15 hp (by omega) (by decide) (by decide)).mono ?_
  rintro x S2 ⟨⟨d,rfl,hd⟩,p,f⟩
  simp only [zaz,qs0,qs1]
  first|exact ⟨nofun,p,d,by omega,rfl⟩|exact ⟨p,d,by omega,rfl⟩
 rintro l S1 ⟨p1,w,hw,rfl⟩
 refine za0 (λl S'=>Pn ns (k+2) S'/\∃a:Nat,a<many/\l=[~~~2,some (.tup (zah ws)),some (.int (bOf many:Nat)),‹w›,‹a›,none,none,none,none]) ?_ ?_
 ·simp only [za7,zat,zas,zar,zak,zav,qg0,qg1,zam,zet,il]
  refine (zcx ns _ _ (many:Int) p1 (by omega) (by omega) (by omega)).mono ?_
  rintro x S2 ⟨⟨d,rfl,hd⟩,p,f⟩
  simp only [zaz,qs0,qs1]
  first|exact ⟨nofun,p.mono (by omega),d,by omega,rfl⟩|exact ⟨p.mono (by omega),d,by omega,rfl⟩
 rintro l S2 ⟨p2,a,ha,rfl⟩
 refine za0 (λl S'=>Pn ns (k+3) S'/\∃x:Nat,x<8/\l=[~~~2,some (.tup (zah ws)),some (.int (bOf many:Nat)),‹w›,‹a›,‹x›,none,none,none]) ?_ ?_
 ·simp only [za7,zax,zat,zas,zar,zak,zav,qg0,qg1,zam,zet,il]
  refine (zcx ns _ _ (many:Int) p2 (by omega) (by omega) (by omega)).mono ?_
  rintro x S3 ⟨⟨d,rfl,hd⟩,p,f⟩
  have hdl:d<ws.length:=by omega
  rw [zvx hdl]
  simp only [zaz,qs0,qs1]
  first|exact ⟨nofun,p.mono (by omega),ws[d],lt8 _ (List.getElem_mem hdl),rfl⟩|exact ⟨p.mono (by omega),ws[d],lt8 _ (List.getElem_mem hdl),rfl⟩
 rintro l S3 ⟨p3,x,hx,rfl⟩
 refine za0 (λl S'=>Pn ns (k+4) S'/\∃o:D,Spo 20 S' o/\l=[~~~2,some (.tup (zah ws)),some (.int (bOf many:Nat)),‹w›,‹a›,‹x›,some o,none,none]) ?_ ?_
 ·have l3:=p3.two
  simp only [za7,zax,zat,zas,zar,zak,zav,zlr,qg0,qg1,zam,zds,zdc,List.length_cons,List.length_nil,Nat.reduceAdd,sz0,sz1,sz2,sz10,true_and]
  have g1:(S3++[Ob.dct []]++[Ob.lst []])[S3.length]? = some (.dct []):=by rw [List.getElem?_append_left (by simp),za5]
  have g2:(S3++[Ob.dct []]++[Ob.lst []])[(S3++[Ob.dct []]).length]? = some (.lst []):=za5 _ _
  have pp:=(p3.push (.dct [])).push (.lst [])
  have e3:(S3++[Ob.dct []]).length=S3.length+1:=by simp
  revert g1 g2 pp
  generalize hT:S3++[Ob.dct []]++[Ob.lst []]=T
  rw [e3]
  intro g1 g2 pp
  refine (zcx ns _ _ 10 (pp.push _) (by omega) (by decide) (by decide)).mono ?_
  rintro v S4 ⟨⟨d,rfl,hd⟩,p,f⟩
  have f1:=f S3.length _ (by omega) (Gr.get ⟨_,rfl⟩ g1)
  have f2:=f (S3.length+1) _ (by omega) (Gr.get ⟨_,rfl⟩ g2)
  have hk:=pp.kept f
  obtain ⟨o,o1,o2⟩:=zjc (zlv S3.length (S3.length+1)) (d:Int) (by omega) (by simp [zlv];omega)
  have hq:∀Q':D->Sto->Prop,Q' o S4->Wo (za3 (.ref T.length) (.int (d:Int)) S4) Q':=λQ' q=>by
   rw [zdv]
   refine ⟨_,hk,?_⟩
   exact ⟨o,o1,q⟩
  refine hq _ ?_
  simp only [zaz,qs0,qs1]
  first|exact ⟨nofun,p.mono (by omega),o,zvw f1 f2 (by omega) (by omega) o o2,rfl⟩|exact ⟨p.mono (by omega),o,zvw f1 f2 (by omega) (by omega) o o2,rfl⟩
 rintro l S4 ⟨p4,o,so,rfl⟩
 have l4:=p4.two
 have f1:∀S',Fr S4 S'->Spo 20 S' o:=λS' f=>so.fr f
 by_cases w0:w=0
 ·refine zlw (c:=0) rfl w0 ?_
  simp only [zat,zas,zar,zak,qg0,qg1,zam,yjc]
  exact ⟨.odd _ (.lst _ _ (za5 _ _) l4 sm (by omega)),p4.push _⟩
 refine zlx (c:=0) rfl w0 ?_
 have cutA:∀(a b:Option Int) (y:D),y∈L3.cutD (zah ws) a b->smI y:=λa b y hy=>sm y (yi9 hy)
 have cutL:∀(a b:Option Int),(L3.cutD (zah ws) a b).length<=8:=λa b=>by have:=yja (xs:=zah ws) (a:=a) (b:=b);omega
 by_cases w1:w=1
 ·refine zlw (c:=1) rfl w1 ?_
  simp only [zax,zle,zlc,zld,zak,zav,qg0,qg1,zam,zeu,zlf,zjh]
  have e1:=cutL none (some (a:Int))
  have e2:=cutL (some ((a:Int)+1)) none
  refine ⟨_,rfl,_,rfl,by omega,.tup _ (by rw [qla];omega) (.A λy hy=>?_),p4⟩
  rcases List.mem_append.mp hy with z|z
  ·exact (cutA _ _ y z).a
  ·exact (cutA _ _ y z).a
 refine zlx (c:=1) rfl w1 ?_
 by_cases w2:w=2
 ·refine zlw (c:=2) rfl w2 ?_
  simp only [zax,zat,zas,zar,zak,qg0,qg1,zam,zdc,List.length_cons,List.length_nil,Nat.reduceAdd,sz1,true_and,zjh]
  refine ⟨by omega,.tup _ (by rw [qla,il];simp;omega) (.A λy hy=>?_),p4⟩
  rcases List.mem_append.mp hy with z|z
  ·exact (sm y z).a
  ·rw [List.mem_singleton.mp z];exact zlt (by omega)
 refine zlx (c:=2) rfl w2 ?_
 by_cases w3:w=3
 ·refine zlw (c:=3) rfl w3 ?_
  simp only [zak,qg0,qg1,zam]
  exact ⟨so,p4⟩
 refine zlx (c:=3) rfl w3 ?_
 have hal:a<ws.length:=by omega
 have hn8:ws[a]<8:=lt8 _ (List.getElem_mem hal)
 refine zdi (l':=[~~~2,some (.tup (zah ws)),some (.int (bOf many:Nat)),‹w›,‹a›,‹x›,some o,some (.int (ws[a]:Nat)),none]) (S':=S4) ?_ ?_
 ·simp only [za7,zax,zak,qg0,qg1,zam,zvx hal,zaz,qs0,qs1]
  all_goals first|trivial|exact ⟨nofun,nofun,nofun⟩
 generalize ws[a]=n at hn8
 refine zdi (l':=[~~~2,some (.tup (zah ws)),some (.int (bOf many:Nat)),‹w›,‹a›,‹x›,some o,‹n›,some (.ref S4.length)]) (S':=S4++[.lst [.int (x:Int),.int ((2 ^ bOf many:Nat):Int),.int (-1),.bl (decide ((n:Int)=1)),.bl (decide ((n:Int)=1)),.str (toString (n:Int)),.tup [.int (n:Int)],.int ((n:Int)+10 ^ Int.toNat 30)]]) ?_ ?_
 ·have f5:(0:Int)<=30/\(30:Int)<=1000000/\Int.natAbs 10<2 ^ 64:=by decide
  simp! only [yjb,zg4 (show bOf many<=1000000 by omega),yjd (show n<1000000 by omega),f5,sz1,sz8,true_and,and_self]
  all_goals first|trivial|exact ⟨nofun,nofun,nofun⟩
 have q4:=p4.push (.lst [.int (x:Int),.int ((2 ^ bOf many:Nat):Int),.int (-1),.bl (decide ((n:Int)=1)),.bl (decide ((n:Int)=1)),.str (toString (n:Int)),.tup [.int (n:Int)],.int ((n:Int)+10 ^ Int.toNat 30)])
 have h0:(S4++[Ob.lst [.int (x:Int),.int ((2 ^ bOf many:Nat):Int),.int (-1),.bl (decide ((n:Int)=1)),.bl (decide ((n:Int)=1)),.str (toString (n:Int)),.tup [.int (n:Int)],.int ((n:Int)+10 ^ Int.toNat 30)]])[S4.length]? = some (.lst [.int (x:Int),.int ((2 ^ bOf many:Nat):Int),.int (-1),.bl (decide ((n:Int)=1)),.bl (decide ((n:Int)=1)),.str (toString (n:Int)),.tup [.int (n:Int)],.int ((n:Int)+10 ^ Int.toNat 30)]):=za5 _ _
 revert q4 h0
 generalize S4++[Ob.lst [.int (x:Int),.int ((2 ^ bOf many:Nat):Int),.int (-1),.bl (decide ((n:Int)=1)),.bl (decide ((n:Int)=1)),.str (toString (n:Int)),.tup [.int (n:Int)],.int ((n:Int)+10 ^ Int.toNat 30)]]=S5
 intro q4 h0
 have l5:=q4.two
 refine za0 (λl S'=>Pn ns (k+4) S'/\∃i j m r,3<=i/\3<=j/\3<=m/\S'[i]? = some (.lst [.int (n:Int)])/\S'[j]? = some (.dct [])/\S'[m]? = some (.dct [(Sum.inl (n:Int),.int 0)])/\S'[r]? = some (.lst (zjt x (bOf many) n i j m))/\l=[~~~2,some (.tup (zah ws)),some (.int (bOf many:Nat)),‹w›,‹a›,‹x›,some o,‹n›,~~~r]) ?_ ?_
 ·simp only [za7,zax,zat,zas,zar,zak,zav,zlr,qg0,qg1,zam,zds,List.length_cons,List.length_nil,Nat.reduceAdd,sz1,sz3,true_and]
  rw [yje (k:=(n:Int)) rfl]
  have a1:(S5++[Ob.lst [.int (n:Int)]]++[Ob.dct []]++[Ob.dct [(Sum.inl (n:Int),.int 0)]])[S5.length]? = some (.lst [.int (n:Int)]):=Gr.get ⟨_,rfl⟩ (Gr.get ⟨_,rfl⟩ (za5 S5 _))
  have a2:(S5++[Ob.lst [.int (n:Int)]]++[Ob.dct []]++[Ob.dct [(Sum.inl (n:Int),.int 0)]])[(S5++[Ob.lst [.int (n:Int)]]).length]? = some (.dct []):=Gr.get ⟨_,rfl⟩ (za5 (S5++[Ob.lst [.int (n:Int)]]) _)
  have a3:(S5++[Ob.lst [.int (n:Int)]]++[Ob.dct []]++[Ob.dct [(Sum.inl (n:Int),.int 0)]])[(S5++[Ob.lst [.int (n:Int)]]++[Ob.dct []]).length]? = some (.dct [(Sum.inl (n:Int),.int 0)]):=za5 _ _
  have a0:(S5++[Ob.lst [.int (n:Int)]]++[Ob.dct []]++[Ob.dct [(Sum.inl (n:Int),.int 0)]])[S4.length]? = _:=Gr.get ⟨_,rfl⟩ (Gr.get ⟨_,rfl⟩ (Gr.get ⟨_,rfl⟩ h0))
  have pp:=((q4.push (.lst [.int (n:Int)])).push (.dct [])).push (.dct [(Sum.inl (n:Int),.int 0)])
  have c1:(S5++[Ob.lst [.int (n:Int)]]).length=S5.length+1:=by simp
  have c2:(S5++[Ob.lst [.int (n:Int)]]++[Ob.dct []]).length=S5.length+2:=by simp
  rw [c1] at a2
  rw [c2] at a3
  rw [c1,c2]
  revert a0 a1 a2 a3 pp
  generalize S5++[Ob.lst [.int (n:Int)]]++[Ob.dct []]++[Ob.dct [(Sum.inl (n:Int),.int 0)]]=T
  intro a1 a2 a3 a0 pp
  rw [zud (n:=S4.length) (m:=T.length) (Gr.get ⟨_,rfl⟩ a0) (za5 _ _)]
  simp only [zaz,qs0,qs1]
  refine ⟨by simp;omega,(pp.push _).push _,S5.length,S5.length+1,S5.length+2,_,by omega,by omega,by omega,?_,?_,?_,za5 _ _,rfl⟩
  ·exact Gr.get ⟨_,rfl⟩ (Gr.get ⟨_,rfl⟩ a1)
  ·exact Gr.get ⟨_,rfl⟩ (Gr.get ⟨_,rfl⟩ a2)
  ·exact Gr.get ⟨_,rfl⟩ (Gr.get ⟨_,rfl⟩ a3)
 rintro l S6 ⟨p6,i,j,m,r,i3,j3,m3,b1,b2,b3,b4,rfl⟩
 obtain ⟨y,y1,y2⟩:=zjc (zjt x (bOf many) n i j m) ((w:Int)-4) (by omega) (by simp [zjt];omega)
 have yo:=yi8 hx hb3 hn8 b1 b2 b3 i3 j3 m3 y y2
 simp only [zbt,zax,zat,zas,zar,zle,zlc,zld,zak,zav,qg0,qg1,zam,zeu,zlf,zd5,zdv,zb9 b4,zcg,y1]
 have e1:=cutL none (some (a:Int))
 have e2:=cutL (some ((a:Int)+1)) none
 have spo:∀A B:List D,A.length<=8->B.length<=8->(∀z∈A,smI z)->(∀z∈B,smI z)->Spo 20 S6 (.tup (A++[y]++B)):=λA B hA hB sA sB=>by
  refine .tup _ (by simp;omega) ?_
  have mem:∀z∈A++[y]++B,smI z\/z=y:=λz hz=>by
   simp only [List.mem_append,List.mem_singleton] at hz
   rcases hz with (hz|hz)|hz
   ·exact .inl (sA z hz)
   ·exact .inr hz
   ·exact .inl (sB z hz)
  rcases yo with yo|yo
  ·refine .A λz hz=>?_
   rcases mem z hz with q|rfl
   ·exact q.a
   ·exact yo
  ·exact .B y yo mem
 simp only [zdc,List.length_cons,List.length_nil,Nat.reduceAdd,sz1,true_and,zjh]
 refine ⟨_,rfl,by omega,_,rfl,by rw [qla,List.length_singleton];omega,spo _ _ e1 e2 (cutA _ _) (cutA _ _),p6⟩
end
theorem zju {α:Type}{x:Str}{a:α}{t:List (Str × α)}:((x,a) :: t).lookup x=some a:=by rw [List.lookup_cons];simp
theorem zvy {α:Type}{x y:Str}{a:α}{t:List (Str × α)}(h:(x == y)=false):((y,a) :: t).lookup x=t.lookup x:=by rw [List.lookup_cons,h]
theorem yji {i:Nat}{ok:Str->Bool}{mN mS:SM}{r:ZM}{l:Lo}{S S':Sto}{c:Str}{Q:Fl->Lo->Sto->Prop}(h1:mN l S=none) (h2:r l S=some (c,S')) (hc:ok c=true) (h:Ws mS (l.set i (some (.ref S'.length))) (S'++[.exc c]) λf l2 S2=>f=.nx/\Q .nx (l2.set i none) S2):Ws (zi2 i ok mN r mS) l S Q:=by
 obtain ⟨f,l2,S2,e,rfl,q⟩:=h
 refine ⟨.nx,l2.set i none,S2,?_,q⟩
 unfold zi2
 rw [h1]
 dsimp only
 rw [h2]
 dsimp only
 rw [if_pos hc,e];rfl
theorem zdy {tab:List (Str × Bool)}{n:Nat}{S:Sto}{c:Str}{b:Bool}{Q:D->Sto->Prop}(h:S[n]? = some (.exc c)) (hb:tab.lookup c=some b):Wo (zdu tab (.ref n) S) Q=Q (.bl b) S:=by
 unfold zdu
 simp only [h,hb]
 exact za1
theorem yjj {S:Sto}{a b:Ob}:(S++[a]).set S.length b=S++[b]:=by simp
noncomputable def clN (t:Bool):Str:=if t then "TooMany" else "NoWords"
noncomputable def clW (t:Bool):Str:=if t then "many" else "words"
theorem lk2 (t a b:Bool):([("TooMany",a),("NoWords",b)]:List (Str × Bool)).lookup (clN t)=some (if t then a else b):=by
 cases t with
 | true=>exact zju
 | false=>exact (zvy (by decide +kernel)).trans zju
theorem lkA (t:Bool):([("TooMany",true),("NoWords",false)]:List (Str × Bool)).lookup (clN t)=some t:=by rw [lk2];cases t <;> rfl
theorem lkB (t:Bool):([("TooMany",false),("NoWords",true)]:List (Str × Bool)).lookup (clN t)=some (!t):=by rw [lk2];cases t <;> rfl
theorem lkC (t:Bool):([("TooMany",false),("NoWords",false)]:List (Str × Bool)).lookup (clN t)=some false:=by rw [lk2];cases t <;> rfl
theorem lkD (t:Bool):([("TooMany",true),("NoWords",true)]:List (Str × Bool)).lookup (clN t)=some true:=by rw [lk2];cases t <;> rfl
noncomputable def mks (t:Bool):List D:=[.bl t,.bl (!t),.bl false,.bl false]
theorem zvz (S:Sto) (k:Nat) (t:Bool):pyAll S (k+1) (mks t)=some [.bool t,.bool (!t),.bool false,.bool false]:=by
 unfold mks pyAll pyAll pyAll pyAll pyAll zaw;rfl
theorem yjk {S:Sto}{r:Nat}{t:Bool}{Q:D->Sto->Prop}(h:S[r]? = some (.lst (mks t))):Wo (zgx (.ref r) [.bl true] S) Q=Q (.int 1) S:=by
 have:zgx (.ref r) [.bl true] S=some (.int 1,S):=by
  unfold zgx
  dsimp only
  rw [h]
  dsimp only
  have e:zaw S 60 (.bl true)=some (.bool true):=by unfold zaw;rfl
  rw [e,zvz S 59]
  dsimp only [Option.bind_some]
  rw [if_pos ⟨by simp [PyData.canLay0],by simp [PyData.canLay0,PyData.canLayAll0]⟩]
  cases t <;> rfl
 rw [this,za1]
theorem yjl {S:Sto}{r:Nat}{t:Bool}{Q:D->Sto->Prop}(h:S[r]? = some (.lst (mks t))):Wo (zgq (.ref r) [.bl true] S) Q=Q (.int (if t then 0 else 1)) S:=by
 have:zgq (.ref r) [.bl true] S=some (.int (if t then 0 else 1),S):=by
  unfold zgq
  dsimp only
  rw [h]
  dsimp only
  have e:zaw S 60 (.bl true)=some (.bool true):=by unfold zaw;rfl
  rw [e,zvz S 59]
  dsimp only [Option.bind_some]
  rw [if_pos ⟨by simp [PyData.canLay0],by simp [PyData.canLay0,PyData.canLayAll0]⟩]
  cases t <;> rfl
 rw [this,za1]
theorem yjm {S:Sto}{n:Nat}{t:Bool}(hn:S[n]? = some (.exc (clN t))):Wo (zjm [.ref n] S) λv S'=>v=.str (clW t)/\Gr S S':=by
 have sz3:3<=sizeLine:=by decide
 have sz4:4<=sizeLine:=by decide
 unfold zjm zus
 dsimp! only [zbz]
 refine zdi (l':=[~~~n,some (.ref S.length)]) (S':=S++[.lst [.bl t,.bl (!t),.bl false]]) ?_ ?_
 ·simp only [za7,zat,zas,zar,zc0,zak,qg0,qg1,zam,zdy hn (lkA t),zdy hn (lkB t),zdy hn (lkC t),zdy hn (lkD t),zds,List.length_cons,List.length_nil,Nat.reduceAdd,sz3,true_and,zaz,qs0,qs1]
  all_goals first|trivial|exact ⟨nofun,nofun,nofun⟩
 have hn1:(S++[Ob.lst [.bl t,.bl (!t),.bl false]])[n]? = some (.exc (clN t)):=Gr.get ⟨_,rfl⟩ hn
 have hs:(S++[Ob.lst [.bl t,.bl (!t),.bl false]])[S.length]? = some (.lst [.bl t,.bl (!t),.bl false]):=za5 _ _
 refine zdi (l':=[~~~n,some (.ref S.length)]) (S':=S++[.lst (mks t)]) ?_ ?_
 ·simp only [zen,zdq,zc0,zak,zas,zar,qg0,qg1,zam,zdy hn1 (lkA t),zdy hn1 (lkB t),zdy hn1 (lkC t),zdy hn1 (lkD t),ziv]
  refine ⟨⟨_,show zcu (.ref S.length) _=some _ from zb9 hs⟩,_,hs,by simp;omega,?_⟩
  rw [yjj]
  all_goals first|trivial|exact ⟨nofun,nofun,nofun⟩
 have hn2:(S++[Ob.lst (mks t)])[n]? = some (.exc (clN t)):=Gr.get ⟨_,rfl⟩ hn
 have hs2:(S++[Ob.lst (mks t)])[S.length]? = some (.lst (mks t)):=za5 _ _
 have g2:Gr S (S++[Ob.lst (mks t)]):=⟨_,rfl⟩
 revert hn2 hs2 g2
 generalize S++[Ob.lst (mks t)]=T
 intro hn2 hs2 g2
 have rc:∀m,Gr T m->∃x,zcu (.ref S.length) m=some x:=λm g=>⟨_,show zcu (.ref S.length) _=some _ from zb9 (g.get hs2)⟩
 refine zdi (l':=[~~~n,some (.ref S.length)]) (S':=T) ?_ ?_
 ·simp only [zbj,zdr,zc1,zbb,zax,zc0,zdq,zak,zav,zas,zar,qg0,qg1,zam,zdy hn2 (lkA t),zdy hn2 (lkB t),zdy hn2 (lkC t),zdy hn2 (lkD t),za9,Bool.not_true,qbf,if_false,yjk hs2,zhy,decide_true,zcc]
  refine ⟨rc T (Gr.refl _),?_⟩
  all_goals first|trivial|exact ⟨nofun,nofun,nofun⟩
 simp only [zbt,zax,zat,zdq,zak,zav,zas,zar,qg0,qg1,zam,zds,List.length_cons,List.length_nil,Nat.reduceAdd,sz4,true_and]
 refine ⟨rc _ ⟨_,rfl⟩,?_⟩
 rw [yjl (Gr.get ⟨_,rfl⟩ hs2),zdv]
 refine ⟨_,zed,.str (clW t),by cases t <;> rfl,rfl,g2.push _⟩
noncomputable def GA:LamG:=zfs "law" "tables" ⟨193,34,193,40⟩ ⟨193,34,193,71⟩ [("_law_machine_here",⟨193,41,193,58⟩),("_law_thing",⟨193,60,193,70⟩)] [("_law_machine_here",.free),("_law_thing",.free),("tables",.globalImplicit)]
noncomputable def GB:LamG:=zfs "law" "tables" ⟨203,32,203,38⟩ ⟨203,32,203,69⟩ [("_law_machine_here",⟨203,39,203,56⟩),("_law_thing",⟨203,58,203,68⟩)] [("_law_machine_here",.free),("_law_thing",.free),("tables",.globalImplicit)]
noncomputable def TB:List (Str × Nat × ZF):=[("tables",2,zg1)]
noncomputable def RM (t:Bool):D:=.tup [.str "refused",.str (clW t)]
theorem yjn (t:Bool):(clN t == ("TooMany":Str) || clN t == ("NoWords":Str))=true:=by cases t <;> decide +kernel
theorem yjo {S S0:Sto}{n:Nat}{t:Bool}(g0:Gr S S0) (hz:zhu 0 [GA,GB] TB [~~~n,some .non,some .non,none] S=some (clN t,S0)):Wo (zg3 [.ref n] S) λv S'=>v=RM t/\Gr S S':=by
 have sz2:2<=sizeLine:=by decide
 unfold zg3 zut
 dsimp! only [zbz]
 refine zdi (l':=[~~~n,some .non,none,none]) (S':=S) (by simp! only [zak] <;> first|trivial|exact ⟨nofun,nofun,nofun⟩) ?_
 refine zdi (l':=[~~~n,some .non,some .non,none]) (S':=S) (by simp! only [zak] <;> first|trivial|exact ⟨nofun,nofun,nofun⟩) ?_
 refine zdi (l':=[~~~n,some (.ref S0.length),some .non,none]) (S':=S0++[.exc (clN t)]) ?_ ?_
 ·refine yji rfl hz (yjn t) ?_
  simp only [qs0,qs1,za7,zak,qg0,qg1,zam,zaz]
  all_goals first|trivial|exact ⟨nofun,nofun,nofun,nofun⟩
 have he:(S0++[Ob.exc (clN t)])[S0.length]? = some (.exc (clN t)):=za5 _ _
 have g1:Gr S (S0++[Ob.exc (clN t)]):=g0.push _
 revert he g1
 generalize S0++[Ob.exc (clN t)]=T
 intro he g1
 refine zdi (l':=[~~~n,some (.ref S0.length),some .non,none]) (S':=T) ?_ ?_
 ·simp! only [zak]
  all_goals first|trivial|exact ⟨nofun,nofun,nofun⟩
 simp only [zbt,zat,zas,zar,zak,zav,qg0,qg1,zam]
 refine (yjm he).mono ?_
 rintro v S2 ⟨rfl,g2⟩
 simp only [zdc,List.length_cons,List.length_nil,Nat.reduceAdd,sz2,true_and]
 first|exact ⟨rfl,g1.trans g2⟩|exact g1.trans g2
theorem yjp {asks:Nat}{rs:List (List Cl)}(h8:rs.length<=8) (S:Sto):zc4 [mD asks rs] S=none:=by
 have ng:decide ((8:Int)<(rs.length:Int))=false:=by rw [decide_eq_false_iff_not];omega
 unfold zc4 zoj zdh
 simp only [List.map_cons,List.map_nil,List.length_cons,List.length_nil,List.replicate,Nat.reduceAdd,Nat.reduceSub,List.cons_append,List.nil_append]
 have e1:zaq (zaa 0) (zdn 2 (zb7 (zal 1) (zb7 (zal 2) zdm))) [some (mD asks rs),none,none] S=some (.nx,[some (mD asks rs),some (.int asks),some (.tup (rs.map rD))],S):=rfl
 have e2:tE (eOp dGt (zaf zbl (zab (zaa 2) zae)) (eC (.int 8))) [some (mD asks rs),some (.int asks),some (.tup (rs.map rD))] S=some (false,S):=by
  have:Wt (tE (eOp dGt (zaf zbl (zab (zaa 2) zae)) (eC (.int 8)))) [some (mD asks rs),some (.int asks),some (.tup (rs.map rD))] S λb S'=>b=false/\S' = S:=by
   simp! only [qlm,ng]
   all_goals first|trivial|exact ⟨nofun,nofun⟩
  obtain ⟨v,S',e,rfl,rfl⟩:=this
  exact e
 unfold zi1
 rw [e1]
 dsimp only [Option.bind_some]
 unfold zIf
 rw [e2]
 rfl
theorem yjq {asks:Nat}{rs:List (List Cl)}(h8:rs.length<=8) (d:D) (S:Sto):zdw [mD asks rs,d] S=none:=by
 unfold zdw zom zdh
 simp only [List.map_cons,List.map_nil,List.length_cons,List.length_nil,List.replicate,Nat.reduceAdd,Nat.reduceSub,List.cons_append,List.nil_append]
 have e1:zaa 1 [some (mD asks rs),some d] S=some (d,S):=rfl
 have e2:zaf zbl (zab (eOp za3 (zaa 0) (eC (.int 1))) zae) [some (mD asks rs),some d] S=some (.int ((rs.map rD).length:Nat),S):=rfl
 have e3:eC (.int 1) [some (mD asks rs),some d] S=some (.int 1,S):=rfl
 have e4:zd9 zc4 (zab (zaa 0) zae) [some (mD asks rs),some d] S=none:=by
  show zc4 [mD asks rs] S=_
  exact yjp h8 S
 unfold zgk
 rw [e1];dsimp only [Option.bind_some]
 rw [e2];dsimp only [Option.bind_some]
 rw [e3];dsimp only [Option.bind_some]
 exact e4
theorem yjr {asks:Nat}{rs:List (List Cl)}(h9:9<=rs.length) (d:D) (S:Sto):zdx [mD asks rs,d] S=some (("TooMany":Str),S):=by
 have e:zd9 zdw (zab (zaa 0) (zab (zaa 1) zae)) [some (mD asks rs),some d] S=some (("TooMany":Str),S):=by
  show zdw [mD asks rs,d] S=_
  exact yiq h9 d S
 unfold zdx zon zdh
 simp only [List.map_cons,List.map_nil,List.length_cons,List.length_nil,List.replicate,Nat.reduceAdd,Nat.reduceSub,List.cons_append,List.nil_append]
 unfold zOr
 rw [e]
theorem yjs {asks:Nat}{rs:List (List Cl)}(h:OkM asks rs) {d:D}{S:Sto}(ht:Tys S d) (hz:∀ds,d=.tup ds->ds.length<=100) (hb:zb1 rs.length (2 ^ bOf rs.length) d=false):∃S0,Gr S S0/\zdx [mD asks rs,d] S=some (("NoWords":Str),S0):=by
 obtain ⟨v,S0,e0,rfl,g0⟩:=yio h ht hz
 rw [hb] at e0
 refine ⟨S0,g0,?_⟩
 have e:zd9 zdw (zab (zaa 0) (zab (zaa 1) zae)) [some (mD asks rs),some d] S=none:=by
  show zdw [mD asks rs,d] S=_
  exact yjq h.r8 d S
 have e2:zck (tE (zaf zef (zab (zaa 0) (zab (zaa 1) zae)))) [some (mD asks rs),some d] S=some (true,S0):=by
  have:Wt (zck (tE (zaf zef (zab (zaa 0) (zab (zaa 1) zae))))) [some (mD asks rs),some d] S λb S'=>b=true/\S' = S0:=by
   simp only [zc1,zbb,zat,zas,zar,zak,qg0,qg1,zam]
   refine ⟨_,_,e0,?_⟩
   first|exact ⟨false,rfl,rfl,rfl⟩|exact ⟨_,rfl,rfl,rfl⟩|exact ⟨rfl,rfl⟩
  obtain ⟨v,S',e,rfl,rfl⟩:=this
  exact e
 unfold zdx zon zdh
 simp only [List.map_cons,List.map_nil,List.length_cons,List.length_nil,List.replicate,Nat.reduceAdd,Nat.reduceSub,List.cons_append,List.nil_append]
 unfold zOr
 rw [e]
 dsimp only
 unfold zIf
 rw [e2]
 dsimp only [Option.bind_some]
 rw [if_pos rfl]
theorem yjt {m d:D}{S S0:Sto}{c:Str}(e:zdx [m,d] S=some (c,S0)):zg1 [m,d] S=some (c,S0):=by
 have e1:∀l:Lo,l[0]? = some (some m)->l[1]? = some (some d)->zd9 zdx (zab (zaa 0) (zab (zaa 1) zae)) l S=some (c,S0):=λl h0 h1=>by
  have v0:zaa 0 l S=some (m,S):=by unfold zaa;rw [h0]
  have v1:zaa 1 l S=some (d,S):=by unfold zaa;rw [h1]
  have:zab (zaa 0) (zab (zaa 1) zae) l S=some ([m,d],S):=by
   unfold zab
   rw [v0]
   dsimp only [Option.bind_some]
   rw [v1]
   rfl
  unfold zd9
  rw [this]
  exact e
 unfold zg1 zuo zdh zOr
 rw [e1 _ rfl rfl]
theorem yju {g:LamG}{S S0:Sto}{m d:D}{t:Bool}(hg:g=GA\/g=GB) (x1 x2 x3:Option D) (e:zdx [m,d] (S++[.lam g [("_law_thing",d),("_law_machine_here",m)]])=some (clN t,S0)) :
  zhu 0 [GA,GB] TB [some (.ref S.length),x1,x2,x3] (S++[.lam g [("_law_thing",d),("_law_machine_here",m)]])=some (clN t,S0):=by
 unfold zhu
 dsimp only [qg0]
 rw [za5]
 dsimp only
 rw [if_pos (by rcases hg with rfl|rfl <;> simp)]
 have e1:zk7 g.body=some (("tables":Str),[("_law_machine_here":Str),("_law_thing":Str)]):=by rcases hg with rfl|rfl <;> exact yfp
 have e2:TB.lookup ("tables":Str)=some (2,zg1):=zju
 have e3:zi9 [(("_law_thing":Str),d),(("_law_machine_here":Str),m)] [("_law_machine_here":Str),("_law_thing":Str)]=some [m,d]:=by
  show ((([(("_law_thing":Str),d),(("_law_machine_here":Str),m)]:List (Str × D)).lookup ("_law_machine_here":Str)).bind λa=>((([(("_law_thing":Str),d),(("_law_machine_here":Str),m)]:List (Str × D)).lookup ("_law_thing":Str)).bind λb=>(some []).map (b :: ·)).map (a :: ·))=_
  rw [zvy (by decide +kernel),zju,zju];rfl
 rw [e1];dsimp only [Option.bind_some]
 rw [e2];dsimp only [Option.bind_some]
 rw [e3];dsimp only [Option.bind_some]
 rw [if_pos (show [m,d].length=2 from rfl)]
 exact yjt e
theorem Pn.tab {ns:List Int}{k:Int}{S:Sto}(h:Pn ns k S):S[1]? = some (.tab "law"):=by
 obtain ⟨a,r,rest,rfl,_⟩:=h
 rfl
theorem Pn.kill {ns:List Int}{k:Int}{S S':Sto}(h:Pn ns k S) (g:Gr S S'):Pn ns k (S'.map kill):=by
 obtain ⟨a,r,rest,rfl,h1,h2,h3⟩:=h
 obtain ⟨ex,rfl⟩:=g
 exact ⟨a,r,(rest++ex).map L3.kill,rfl,h1,h2,h3⟩
theorem zv0 {ns:List Int}{k:Int}{g:LamG}{l:Lo}{S S0:Sto}{m d:D}{t:Bool}{Q:D->Sto->Prop}(hp:Pn ns k S) (hg:g=GA\/g=GB) (h6:l[6]? = some (some d)) (h4:l[4]? = some (some m)) (g0:Gr (S++[.lam g [("_law_thing",d),("_law_machine_here",m)]]) S0)
  (e:zdx [m,d] (S++[.lam g [("_law_thing",d),("_law_machine_here",m)]])=some (clN t,S0)) (q:∀S',Pn ns k S'->Q (RM t) S') :
  We (zhv 1 "law" g [("_law_thing",6),("_law_machine_here",4)] zg3) l S Q:=by
 obtain ⟨v,S',e',rfl,g1⟩:=yjo g0 (yju hg _ _ _ e)
 refine ⟨RM t,S'.map kill,?_,q _ (hp.kill (Gr.trans ⟨_,rfl⟩ g1))⟩
 have hc:zfb l [("_law_thing",6),("_law_machine_here",4)]=some [(("_law_thing":Str),d),(("_law_machine_here":Str),m)]:=by
  unfold zfb zfb zfb
  rw [h6,h4];rfl
 unfold zhv
 rw [hp.tab]
 dsimp only
 rw [if_pos rfl,hc]
 dsimp only [Option.bind_some]
 rw [e'];rfl
theorem zv1 (S:Sto) (t:Bool):zaw S 60 (RM t)=some (.tuple [.str "refused",.str (clW t)]):=by
 unfold RM zaw pyAll pyAll pyAll zaw;rfl
theorem zly (t:Bool):(PyData.tuple [.str "refused",.str (clW t)]).canLay0=true:=by cases t <;> decide +kernel
theorem zv2 (t:Bool):(PyData.tuple [.str "refused",.str (clW t)]).eqv (.tuple [.str "refused",.str (clW t)])=true:=by cases t <;> decide +kernel
theorem yjv {S:Sto}{t:Bool}{Q:D->Sto->Prop}:Wo (zhl (RM t) (RM t) S) Q=Q (.bl false) S:=by
 have:zhl (RM t) (RM t) S=some (.bl false,S):=by
  unfold zhl
  rw [zv1]
  dsimp only [Option.bind_some]
  rw [if_pos ⟨zly t,zly t⟩,zv2];rfl
 rw [this,za1]
theorem yjw {S:Sto}{t:Bool}{Q:D->Sto->Prop}:Wo (zhk (RM t) (RM t) S) Q=Q (.bl true) S:=by
 have:zhk (RM t) (RM t) S=some (.bl true,S):=by
  unfold zhk
  rw [zv1]
  dsimp only [Option.bind_some]
  rw [if_pos ⟨zly t,zly t⟩,zv2]
 rw [this,za1]
theorem zv3 {S:Sto}{k:Nat}{o:Option Nat}(h:∀g,o=some g->g<1000):Sh S (k+1) 10 (oD o):=by
 cases o with
 | none=>exact ygt
 | some g=>exact zoh (by have:=h g rfl;omega)
theorem yjx {S:Sto}{k asks:Nat}{rs:List (List Cl)}(h:OkM asks rs):Sh S (k+5) 20000 (mD asks rs):=by
 have h24:rs.length<=24:=by have:=h.r8;omega
 have a4:=h.a4
 refine Sh.le (zh0 (k:=k+4) (B:=3000) (n:=2) (λx hx=>?_) (by simp)) (by decide)
 simp only [List.mem_cons,List.not_mem_nil,or_false] at hx
 rcases hx with rfl|rfl
 ·exact Sh.le (zoh (k:=k+3) (by omega)) (by decide)
 ·refine Sh.le (zh0 (k:=k+3) (B:=119) (n:=24) (λx hx=>?_) (by rw [qlm];omega)) (by decide)
  obtain ⟨cs,hcs,rfl⟩:=List.mem_map.mp hx
  refine Sh.le (zh0 (k:=k+2) (B:=27) (n:=4) (λx hx=>?_) (by rw [qlm,h.len cs hcs];omega)) (by decide)
  obtain ⟨c,hc,rfl⟩:=List.mem_map.mp hx
  have ok:=h.ok cs hcs c hc
  refine Sh.le (zh0 (k:=k+1) (B:=10) (n:=2) (λx hx=>?_) (by simp)) (by decide)
  simp only [List.mem_cons,List.not_mem_nil,or_false] at hx
  rcases hx with rfl|rfl
  ·exact zv3 λg e=>by have:=ok.go g e;omega
  ·exact zv3 λg e=>by have:=ok.sa g e;omega
theorem zv4 {S:Sto}{x:D}{p:PyData}{Q:D->Sto->Prop}(h:zaw S 140 x=some p\/pyT S 140 x=some p) (hz:p.shown.length<=sizeLine):Wo (zes [x] S) Q=Q (.str p.shown) S:=by
 have:Wo (zgi [x] S) λv S'=>v=.str p.shown/\S' = S:=by rw [yb9 h hz];exact ⟨rfl,rfl⟩
 obtain ⟨v,S',e,rfl,rfl⟩:=this
 have:zes [x] S' = some (.str p.shown,S'):=by unfold zes;rw [e]
 rw [this,za1]
theorem zlz:1000000<=sizeLine:=by rw [sizeLine_eq];decide
noncomputable def zeh (ps:List Nat):List PyData:=ps.map λ(p:Nat)=>PyData.int (p:Int)
noncomputable def zg6 (t:List Nat × List Nat):PyData:=.tuple [.tuple (zeh t.1),.tuple (zeh t.2)]
theorem zo5 {S:Sto}{k:Nat}:∀{ps:List Nat},(∀p∈ps,p<1000000)->pyAll S (k+1) (zah ps)=some (zeh ps)
 | [],_=>by unfold zah zeh pyAll;rfl
 | p :: ps,h=>by
  have ih:=zo5 (S:=S) (k:=k) (ps:=ps) λq hq=>h q (List.mem_cons_of_mem _ hq)
  show pyAll S (k+1) (.int (p:Int) :: zah ps)=_
  unfold pyAll
  rw [ih]
  have:zaw S (k+1) (.int (p:Int))=some (.int (p:Int)):=by unfold zaw;rw [if_pos (zog (h p List.mem_cons_self))]
  rw [this];rfl
def SmT (t:List Nat × List Nat):Prop:=(∀p∈t.1,p<32)/\(∀p∈t.2,p<32)/\t.1.length<=32/\t.2.length<=32
theorem yjy {S:Sto}{k:Nat}{t:List Nat × List Nat}(h:SmT t):zaw S (k+3) (zcy t)=some (zg6 t):=by
 have e1:=zo5 (S:=S) (k:=k) (ps:=t.1) λp hp=>by have:=h.1 p hp;omega
 have e2:=zo5 (S:=S) (k:=k) (ps:=t.2) λp hp=>by have:=h.2.1 p hp;omega
 unfold zcy zaw pyAll pyAll pyAll
 have f:∀ps,pyAll S (k+1) (zah ps)=some (zeh ps)->zaw S (k+2) (.tup (zah ps))=some (.tuple (zeh ps)):=λps e=>by
  unfold zaw;rw [e];rfl
 rw [f _ e1,f _ e2];rfl
theorem zv5 {S:Sto}{k:Nat}:∀{ts:List (List Nat × List Nat)},(∀t∈ts,SmT t)->pyAll S (k+3) (ts.map zcy)=some (ts.map zg6)
 | [],_=>by unfold pyAll;rfl
 | t :: ts,h=>by
  have ih:=zv5 (S:=S) (k:=k) (ts:=ts) λq hq=>h q (List.mem_cons_of_mem _ hq)
  show pyAll S (k+3) (zcy t :: ts.map zcy)=_
  unfold pyAll
  rw [ih,yjy (h t List.mem_cons_self)];rfl
noncomputable def zT (ts:List (List Nat × List Nat)):Str:=(PyData.list (ts.map zg6)).shown
theorem zv6 {ps:List Nat}(h:∀p∈ps,p<32) (hl:ps.length<=32):(PyData.tuple (zeh ps)).shown.length<=400:=by
 have:=zof 10 (zeh ps) λq hq=>by
  obtain ⟨p,hp,rfl⟩:=List.mem_map.mp hq
  have:=h p hp
  exact PySem.W.KT.len_num (by omega) (by omega)
 have e:(zeh ps).length=ps.length:=qlm ..
 omega
theorem yjz {t:List Nat × List Nat}(h:SmT t):(zg6 t).shown.length<=1000:=by
 have:=zof 400 [.tuple (zeh t.1),.tuple (zeh t.2)] λq hq=>by
  simp only [List.mem_cons,List.not_mem_nil,or_false] at hq
  rcases hq with rfl|rfl
  ·exact zv6 h.1 h.2.2.1
  ·exact zv6 h.2.1 h.2.2.2
 simp at this
 unfold zg6
 omega
theorem zv7 {S:Sto}{n:Nat}{ts:List (List Nat × List Nat)}{Q:D->Sto->Prop}(hn:S[n]? = some (.lst (ts.map zcy))) (h:∀t∈ts,SmT t) (hl:ts.length<=10):Wo (zes [.ref n] S) Q=Q (.str (zT ts)) S:=by
 have sz:=zlz
 refine zv4 (p:=.list (ts.map zg6)) (.inl ?_) ?_
 ·unfold zaw
  rw [zb9 hn]
  show (pyAll S 139 (ts.map zcy)).bind _=_
  rw [zv5 (k:=136) h];rfl
 ·have:=ygs 1000 (ts.map zg6) λq hq=>by
   obtain ⟨t,ht,rfl⟩:=List.mem_map.mp hq
   exact yjz (h t ht)
  rw [qlm] at this
  have:1000*ts.length<=1000*10:=Nat.mul_le_mul_left _ hl
  omega
section
variable {asks:Nat}{rs:List (List Cl)}{ws:List Nat}
theorem yj0 (h:OkM asks rs) (hw:OkW rs.length ws):∃z:Str,∀(T:Sto) (Q:D->Sto->Prop),Wo (zes [.tup [mD asks rs,.tup (zah ws)]] T) Q=Q (.str z) T:=by
 have sz:=zlz
 have hb:=zew h.r8
 have p8:2 ^ bOf rs.length<=2 ^ 3:=Nat.pow_le_pow_right (by decide) hb.2.2
 have h8:=h.r8
 obtain ⟨p,h1,h2⟩:=zh0 (S:=[]) (k:=139) (B:=20000) (n:=2) (xs:=[mD asks rs,.tup (zah ws)]) (λx hx=>by
  simp only [List.mem_cons,List.not_mem_nil,or_false] at hx
  rcases hx with rfl|rfl
  ·exact yjx (k:=134) h
  ·refine Sh.le (zh0 (k:=138) (B:=10) (n:=8) (λy hy=>?_) (by rw [zc6,hw.len];exact h8)) (by decide)
   obtain ⟨w,hw',rfl⟩:=zjr hy
   exact zoh (by have:=hw.lt w hw';omega)) (by simp)
 exact ⟨p.shown,λT Q=>zv4 (.inl (h2 T ⟨T,rfl⟩)) (by omega)⟩
theorem wo_neS {z:Str}{S:Sto}{Q:D->Sto->Prop}:Wo (dNe (.str z) (.str z) S) Q=Q (.bl false) S:=by
 have:dNe (.str z) (.str z) S=some (.bl false,S):=by
  show ((sEq (.str z) (.str z)).bind λb=>some (D.bl (!b),S))=_
  have:sEq (.str z) (.str z)=some true:=by show some (decide (z=z))=_;simp
  rw [this];rfl
 rw [this,za1]
theorem zv8 (h:OkM asks rs) (hw:OkW rs.length ws) (S:Sto):Wo (zh2 [mD asks rs,.tup (zah ws)] S) λv S'=>v=.bl true/\Gr S S':=by
 have sz2:2<=sizeLine:=by decide
 have big:=zlz
 have b3:=(zew h.r8).2.2
 have p32:=zow h
 obtain ⟨zk,hk⟩:=yj0 h hw
 unfold zh2 zur
 dsimp! only [zbz]
 refine za0 (λl S1=>Gr S S1/\∃ts:List (List Nat × List Nat),ts.length=bOf rs.length+3/\(∀(j:Nat) t,ts[j]? = some t->TabP (zch (bOf rs.length) ws rs asks j) (plc (bOf rs.length) j) (2 ^ (bOf rs.length+cOf asks)) t.1 t.2)/\(∀t∈ts,SmT t)/\l=[some (mD asks rs),some (.tup (zah ws)),some (.str (zT ts)),none,none,none]) ?_ ?_
 ·simp only [za7,zat,zas,zar,zak,qg0,qg1,zam]
  refine (yiy h hw S).mono ?_
  rintro d S1 ⟨n,ts,rfl,hn,hl,ht,_,g1⟩
  have sm:∀t∈ts,SmT t:=λt hm=>by
   obtain ⟨j,hj⟩:=List.getElem?_of_mem hm
   have tp:=ht j t hj
   exact ⟨λp hp=>by have:=((tp.on_ p).mp hp).1;omega,λp hp=>by have:=((tp.off_ p).mp hp).1;omega,by have:=tp.l1;omega,by have:=tp.l0;omega⟩
  rw [zv7 hn sm (by omega)]
  simp only [zaz,qs0,qs1]
  first|exact ⟨nofun,g1,ts,hl,ht,sm,rfl⟩|exact ⟨g1,ts,hl,ht,sm,rfl⟩
 rintro l S1 ⟨g1,ts,hl,ht,sm,rfl⟩
 generalize hM:mD asks rs=dM at hk
 refine zdi (l':=[some dM,some (.tup (zah ws)),some (.str (zT ts)),some (.str zk),none,none]) (S':=S1) ?_ ?_
 ·simp only [za7,zat,zas,zar,zak,qg0,qg1,zam,zdc,List.length_cons,List.length_nil,Nat.reduceAdd,sz2,true_and,hk,zaz,qs0,qs1]
  all_goals first|trivial|exact ⟨nofun,nofun,nofun⟩
 refine za0 (λl S'=>Gr S S'/\∃x4 x5,l=[some dM,some (.tup (zah ws)),some (.str (zT ts)),some (.str zk),x4,x5]) ?_ ?_
 ·refine zhz (n:=2) (λi l S'=>Gr S S'/\∃x4 x5,l=[some dM,some (.tup (zah ws)),some (.str (zT ts)),some (.str zk),x4,x5]) (λ_ _=>False) (as1 rfl) (by omega) ⟨g1,_,_,rfl⟩ ?_ ?_ (λd l S h=>h.elim)
  ·rintro i l S2 hi ⟨g2,x4,x5,rfl⟩
   simp only [zaz,qs0,qs1]
   refine za0 (λl S'=>Gr S S'/\∃n,S.length<=n/\S'[n]? = some (.lst (ts.map zcy))/\l=[some dM,some (.tup (zah ws)),some (.str (zT ts)),some (.str zk),‹i›,~~~n]) ?_ ?_
   ·simp only [za7,zat,zas,zar,zak,qg0,qg1,zam]
    rw [<-hM]
    refine (yit h hw S2).mono ?_
    rintro v S3 ⟨n,L3,L4,rfl,hn,d3,d4,g3,ln⟩
    rw [yi3 h hw d3 d4 hl ht] at hn
    simp only [zaz,qs0,qs1]
    first|exact ⟨nofun,g2.trans g3,n,by have:=g2.len;omega,hn,rfl⟩|exact ⟨g2.trans g3,n,by have:=g2.len;omega,hn,rfl⟩
   rintro l S3 ⟨g3,n,ln,hn,rfl⟩
   refine zdi (l':=[some dM,some (.tup (zah ws)),some (.str (zT ts)),some (.str zk),‹i›,~~~n]) (S':=S3) ?_ ?_
   ·simp only [zbj,zdr,zbb,zax,zat,zas,zar,zak,qg0,qg1,zam,zv7 hn sm (by omega),wo_neS,za9,qbf,if_false,zdc,List.length_cons,List.length_nil,Nat.reduceAdd,sz2,true_and,hk,zcc]
    all_goals first|trivial|exact ⟨nofun,nofun,nofun⟩
   refine za0 (λl S'=>Gr S S'/\(∃xs,xs.length<=10/\S'[n]? = some (.lst xs))/\l=[some dM,some (.tup (zah ws)),some (.str (zT ts)),some (.str zk),‹i›,~~~n]) ?_ ?_
   ·simp only [zen,zdq,zak,zar,qg0,qg1,zam]
    refine ⟨⟨_,show zcu (.ref n) S3=some _ from zb9 hn⟩,?_⟩
    have e:zhf (.ref n) [] S3=some (.non,S3.set n (.lst (ts.map zcy).reverse)):=by
     unfold zhf
     dsimp only
     rw [hn]
    rw [e,za1]
    first|exact ⟨nofun,g3.set ln _,⟨_,by rw [List.length_reverse,qlm];omega,zev hn⟩,nofun⟩|exact ⟨g3.set ln _,⟨_,by rw [List.length_reverse,qlm];omega,zev hn⟩,nofun⟩
   rintro l S4 ⟨g4,⟨xs,hx,h4⟩,rfl⟩
   simp only [zen,zdq,zak,zav,zas,zar,qg0,qg1,zam,ziv]
   refine ⟨⟨_,show zcu (.ref n) S4=some _ from zb9 h4⟩,xs,h4,by omega,?_⟩
   first|exact .inl ⟨(by first|exact .inl rfl|exact .inl trivial|trivial),g4.set ln _,_,_,rfl⟩|exact .inl ⟨.inl rfl,g4.set ln _,_,_,rfl⟩
  ·rintro l S2 ⟨g2,x4,x5,rfl⟩
   first|exact ⟨nofun,g2,_,_,rfl⟩|exact ⟨g2,_,_,rfl⟩
 rintro l S2 ⟨g2,x4,x5,rfl⟩
 simp only [zbt,zav]
 first|exact ⟨rfl,g2⟩|exact g2|exact ⟨nofun,g2⟩
end
theorem yj1 {mA:AM}{l:Lo}{S S1:Sto}{n:Nat}{Q:D->Sto->Prop}(h:mA l S=some ([.int (n:Int)],S1)) (hn:n<=1000):We (zhx mA) l S Q=Q (.tup ((zer n).map D.int)) S1:=by
 have:zhx mA l S=some (.tup ((zer n).map D.int),S1):=by
  unfold zhx
  rw [h]
  show (if _ then _ else _)=_
  rw [if_pos (by omega),Int.toNat_natCast]
 show Wo (zhx mA l S) Q=_
 rw [this,za1]
theorem Tys.gr {S S':Sto}{d:D}(g:Gr S S') (h:Tys S d):Tys S' d:=by
 cases d with
 | tup ds=>exact λx hx=>(show Ty S x from h x hx).gr g
 | _=>exact Ty.gr h g
theorem Fr.gr {A B:Sto}(h:Gr A B):Fr A B:=λ_ _ _ e=>h.get e
theorem yj2 {n B:Nat}{d:D}(h:zb1 n B d=true) (hB:B=2 ^ bOf n):∃ws,d=.tup (zah ws)/\OkW n ws:=by
 cases d with
 | tup ds =>
  rw [zg5,Bool.and_eq_true,Bool.and_eq_true,decide_eq_true_eq,decide_eq_true_eq] at h
  obtain ⟨h1,h2,h3⟩:=h
  have e:=zo2 h2
  have pos:∀i∈ds.map zbh,0<=i/\i<(B:Int):=λi hi=>by
   obtain ⟨x,hx,rfl⟩:=List.mem_map.mp hi
   have:=List.all_eq_true.mp h2 x hx
   cases x with
   | int j =>
    have this:(decide (0<=j) && decide (j<(B:Int)))=true:=this
    rw [Bool.and_eq_true,decide_eq_true_eq,decide_eq_true_eq] at this
    exact this
   | _=>cases this
  have e2:zah ((ds.map zbh).map Int.toNat)=ds:=by
   conv=>rhs;rw [e]
   unfold zah
   rw [List.map_map]
   refine List.map_congr_left λi hi=>?_
   have:=(pos i hi).1
   show D.int ((i.toNat:Nat):Int)=D.int i
   rw [Int.toNat_of_nonneg this]
  refine ⟨(ds.map zbh).map Int.toNat,by rw [e2],⟨by rw [qlm,qlm];exact h1,?_,λw hw=>?_⟩⟩
  ·rw [List.Nodup,List.pairwise_map]
   exact h3.imp_of_mem λ{a b} ha hb hab z=>hab (by have:=(pos a ha).1;have:=(pos b hb).1;omega)
  ·obtain ⟨i,hi,rfl⟩:=List.mem_map.mp hw
   have:=pos i hi
   rw [<-hB];omega
 | _=>cases h
theorem law_true (ns:List Int) (hl:ns.length<=63):∃S',zfv [.ref 0] (.flst (ns.map D.int) :: zgv ["law"])=some (.bl true,S'):=by
 have sz0:0<=sizeLine:=by decide
 have sz2:2<=sizeLine:=by decide
 have sz4:4<=sizeLine:=by decide
 have big:=zlz
 have key:Wo (zfv [.ref 0] (.flst (ns.map D.int) :: zgv ["law"])) λv _=>v=.bl true:=by
  unfold zfv zuz
  dsimp! only [zbz]
  refine za0 (λl S=>Pn ns 0 S/\l=[~~~0,~~~2,none,none,none,none,none,none,none,none,none]) ?_ ?_
  ·simp only [za7,zat,zas,zar,zak,qg0,zam]
   refine (yhp ns).mono ?_
   rintro v S ⟨rfl,p⟩
   simp only [zaz,qs0,qs1]
   first|exact ⟨nofun,p,nofun⟩|exact ⟨p,nofun⟩
  rintro l S ⟨p0,rfl⟩
  refine za0 (λl S=>Pn ns 1 S/\∃g:Bool,l=[~~~0,~~~2,some (.bl g),none,none,none,none,none,none,none,none]) ?_ ?_
  ·simp only [za7,zax,zat,zas,zar,zak,zav,qg0,qg1,zam]
   refine (zcx ns _ _ 8 p0 (by omega) (by decide) (by decide)).mono ?_
   rintro x S1 ⟨⟨d,rfl,hd⟩,p1,f1⟩
   simp only [ze5,zaz,qs0,qs1]
   first|exact ⟨nofun,p1.mono (by omega),_,rfl⟩|exact ⟨p1.mono (by omega),_,rfl⟩
  rintro l S1 ⟨p1,g,rfl⟩
  refine za0 (λl S=>Pn ns 3 S/\∃many:Nat,1<=many/\many<=24/\(g=true->9<=many)/\(g=false->many<=8)/\l=[~~~0,~~~2,some (.bl g),‹many›,none,none,none,none,none,none,none]) ?_ ?_
  ·simp only [za7,zax,zat,zas,zar,zak,zav,qg0,qg1,zam]
   refine (zcx ns _ _ 8 p1 (by omega) (by decide) (by decide)).mono ?_
   rintro x S2 ⟨⟨d,rfl,hd⟩,p2,f2⟩
   rw [zeu]
   refine (zcx ns _ _ 16 p2 (by omega) (by decide) (by decide)).mono ?_
   rintro x S3 ⟨⟨e,rfl,he⟩,p3,f3⟩
   simp only [zeu,zds,List.length_cons,List.length_nil,Nat.reduceAdd,sz2,true_and,zod,zdv,zed,zcg]
   cases g with
   | false =>
    refine ⟨.int (1+(d:Int)),rfl,?_⟩
    simp only [zaz,qs0,qs1]
    refine ⟨(p3.push _).mono (by omega),1+d,by omega,by omega,(λz=>by cases z),(λ_=>by omega),?_⟩
    push_cast;rfl
   | true =>
    refine ⟨.int (9+(e:Int)),rfl,?_⟩
    simp only [zaz,qs0,qs1]
    refine ⟨(p3.push _).mono (by omega),9+e,by omega,by omega,(λ_=>by omega),(λz=>by cases z),?_⟩
    push_cast;rfl
  rintro l S2 ⟨p2,many,m1,m24,mg,ms,rfl⟩
  refine za0 (λl S=>Pn ns 404 S/\∃asks rs,OkR asks rs/\rs.length=many/\l=[~~~0,~~~2,some (.bl g),‹many›,some (mD asks rs),none,none,none,none,none,none]) ?_ ?_
  ·simp only [za7,zax,zat,zas,zar,zak,zav,qg0,qg1,zam]
   refine (zcx ns _ _ 4 p2 (by omega) (by decide) (by decide)).mono ?_
   rintro x S3 ⟨⟨d,rfl,hd⟩,p3,f3⟩
   rw [zeu]
   have e:(1+(d:Int))=((1+d:Nat):Int):=by push_cast;rfl
   rw [e]
   refine (yhw ns S3 4 many (1+d) p3 (by omega) m1 m24 (by omega) (by omega)).mono ?_
   rintro v S4 ⟨rs,rfl,ok,hr,p4⟩
   simp only [zaz,qs0,qs1]
   first|exact ⟨nofun,p4.mono (by omega),_,rs,ok,hr,rfl⟩|exact ⟨p4.mono (by omega),_,rs,ok,hr,rfl⟩
  rintro l S3 ⟨p3,asks,rs,okr,rfl,rfl⟩
  cases g with
  | true =>
   have h9:=mg rfl
   refine zlh (λ_ _=>False) (λv S'=>v=.bl true) ?_ (λ_ _ z=>z.elim) (λd _ _ o=>o)
   simp only [zbj,zbb,zak,qg0,qg1,zam,za9,if_true]
   generalize hM:mD asks rs=dM
   have ev:zab (zaa 3) zae [~~~0,~~~2,some (.bl true),some (.int (rs.length:Int)),some dM,none,none,none,none,none,none] S3=some ([.int (rs.length:Int)],S3):=as1 rfl
   refine za0 (λl S'=>Pn ns 404 S'/\∃r xs,3<=r/\S'[r]? = some (.lst xs)/\xs.length=4/\l=[~~~0,~~~2,some (.bl true),some (.int (rs.length:Int)),some dM,~~~r,none,none,none,none,none]) ?_ ?_
   ·have l3:=p3.two
    simp only [za7,zat,zas,zar,zav,zdc,zds,List.length_cons,List.length_nil,Nat.reduceAdd,sz0,sz2,sz4,true_and,yj1 ev (by omega)]
    simp only [zaz,qs0,qs1]
    first|exact ⟨nofun,(p3.push _).push _,_,_,by simp;omega,za5 _ _,rfl,rfl⟩|exact ⟨(p3.push _).push _,_,_,by simp;omega,za5 _ _,rfl,rfl⟩
   rintro l S4 ⟨p4,r,xs,r3,h4,hl4,rfl⟩
   refine za0 (λl S'=>Pn ns 405 S'/\∃d,l=[~~~0,~~~2,some (.bl true),some (.int (rs.length:Int)),some dM,~~~r,some d,none,none,none,none]) ?_ ?_
   ·simp only [za7,zax,zat,zas,zar,zak,zav,qg0,qg1,zam]
    refine (zcx ns _ _ 4 p4 (by omega) (by decide) (by decide)).mono ?_
    rintro v S5 ⟨⟨d,rfl,hd⟩,p,f⟩
    obtain ⟨x,x1,x2⟩:=zjc xs (d:Int) (by omega) (by omega)
    rw [zdv]
    refine ⟨xs,zb9 (f r _ (by omega) h4),x,x1,?_⟩
    simp only [zaz,qs0,qs1]
    first|exact ⟨nofun,p.mono (by omega),x,rfl⟩|exact ⟨p.mono (by omega),x,rfl⟩
   rintro l S5 ⟨p5,d,rfl⟩
   simp only [zbt,zax]
   refine zv0 (t:=true) (g:=GA) p5 (.inl rfl) rfl rfl (Gr.refl _) (by rw [<-hM];exact yjr h9 d _) λS6 p6=>?_
   simp only [zat,zas,zar,zav,zdc,List.length_cons,List.length_nil,Nat.reduceAdd,sz2,true_and]
   rw [show D.tup [D.str "refused",D.str "many"]=RM true from rfl,yjw]
   first|exact .inr ⟨_,rfl,rfl⟩|exact .inr ⟨_,rfl⟩|exact .inr rfl
  | false =>
  have ok:=okr.m (ms rfl)
  have h8:=ms rfl
  have b3:=(zew h8).2.2
  refine zdi (l':=[~~~0,~~~2,some (.bl false),some (.int (rs.length:Int)),some (mD asks rs),none,none,none,none,none,none]) (S':=S3) ?_ ?_
  ·simp only [zbj,zbb,zak,qg0,qg1,zam,za9,qbf,if_false,zcc]
   all_goals first|trivial|exact ⟨nofun,nofun,nofun⟩
  refine za0 (λl S=>Pn ns 404 S/\l=[~~~0,~~~2,some (.bl false),some (.int (rs.length:Int)),some (mD asks rs),none,none,some (.int (bOf rs.length:Nat)),some (.int (cOf asks:Nat)),none,none]) ?_ ?_
  ·simp only [za7,zat,zas,zar,zak,qg0,qg1,zam]
   refine (zvg ok S3).mono ?_
   rintro v S4 ⟨rfl,g4⟩
   unfold bcD
   simp only [zgc,zge,zgd,zaz,List.length_cons,List.length_nil,qs0,qs1]
   first|exact ⟨nofun,nofun,p3.gr g4,nofun⟩|exact ⟨nofun,p3.gr g4,nofun⟩|exact ⟨nofun,nofun,nofun,p3.gr g4,nofun⟩
  rintro l S4 ⟨p4,rfl⟩
  generalize hM:mD asks rs=dM
  refine za0 (λl S=>∃x6 x9 x10,l=[~~~0,~~~2,some (.bl false),some (.int (rs.length:Int)),some dM,none,x6,some (.int (bOf rs.length:Nat)),some (.int (cOf asks:Nat)),x9,x10]) ?_ ?_
  ·refine zhz (n:=3) (λi l S=>Pn ns (404+20*i) S/\∃x6 x9 x10,l=[~~~0,~~~2,some (.bl false),some (.int (rs.length:Int)),some dM,none,x6,some (.int (bOf rs.length:Nat)),some (.int (cOf asks:Nat)),x9,x10]) (λ_ _=>False) (as1 rfl) (by omega) ⟨by simpa using p4,_,_,_,rfl⟩ ?_ ?_ (λd l S h=>h.elim)
   ·rintro i l S5 hi ⟨p5,x6,x9,x10,rfl⟩
    simp only [zaz,qs0,qs1]
    refine za0 (λl S=>Pn ns (404+20*i+8) S/\∃ws,OkW rs.length ws/\l=[~~~0,~~~2,some (.bl false),some (.int (rs.length:Int)),some dM,none,x6,some (.int (bOf rs.length:Nat)),some (.int (cOf asks:Nat)),‹i›,some (.tup (zah ws))]) ?_ ?_
    ·simp only [za7,zat,zas,zar,zak,qg0,qg1,zam]
     refine (yin ns S5 _ rs.length p5 (by omega) h8).mono ?_
     rintro v S6 ⟨ws,rfl,okw,p6⟩
     simp only [zaz,qs0,qs1]
     first|exact ⟨nofun,p6,ws,okw,rfl⟩|exact ⟨p6,ws,okw,rfl⟩
    rintro l S6 ⟨p6,ws,okw,rfl⟩
    refine za0 (λl S=>Pn ns (404+20*i+12) S/\∃d,Spo 20 S d/\l=[~~~0,~~~2,some (.bl false),some (.int (rs.length:Int)),some dM,none,some d,some (.int (bOf rs.length:Nat)),some (.int (cOf asks:Nat)),‹i›,some (.tup (zah ws))]) ?_ ?_
    ·simp only [za7,zat,zas,zar,zak,qg0,qg1,zam]
     refine (yjh p6 (by omega) okw m1 h8).mono ?_
     rintro v S7 ⟨sp,p7⟩
     simp only [zaz,qs0,qs1]
     first|exact ⟨nofun,p7.mono (by omega),v,sp,rfl⟩|exact ⟨p7.mono (by omega),v,sp,rfl⟩
    rintro l S7 ⟨p7,d,sp,rfl⟩
    refine za0 (λl S=>Gr S7 S/\l=[~~~0,~~~2,some (.bl false),some (.int (rs.length:Int)),some dM,none,some d,some (.int (bOf rs.length:Nat)),some (.int (cOf asks:Nat)),‹i›,some (.tup (zah ws))]) ?_ ?_
    ·simp only [zbj,zc1,zbb,zat,zas,zar,zak,qg0,qg1,zam]
     rw [<-hM]
     refine (zv8 ok okw S7).mono ?_
     rintro v S8 ⟨rfl,g8⟩
     simp only [za9,Bool.not_true,qbf,if_false,zcc]
     first|exact ⟨nofun,g8,nofun⟩|exact ⟨_,rfl,nofun,g8,nofun⟩|exact ⟨g8,nofun⟩|exact g8
    rintro l S8 ⟨g8,rfl⟩
    have p8:=p7.gr g8
    have sp8:=sp.fr (Fr.gr g8)
    have ty8:=sp8.tys
    have sz8:=sp8.sz (by decide)
    refine zvu (λb S'=>b=zb1 rs.length (2 ^ bOf rs.length) d/\Gr S8 S') ?_ ?_ ?_
    ·simp only [zbb,zat,zas,zar,zak,qg0,qg1,zam]
     refine (yi7 (by omega) ty8 sz8).mono ?_
     rintro v S9 ⟨rfl,g9⟩
     first|exact ⟨_,rfl,rfl,g9⟩|exact ⟨rfl,g9⟩
    ·rintro S9 ⟨hb,g9⟩
     obtain ⟨ws',rfl,okw'⟩:=yj2 hb.symm rfl
     simp only [zbj,zc1,zbb,zat,zas,zar,zak,qg0,qg1,zam]
     rw [<-hM]
     refine (zv8 ok okw' S9).mono ?_
     rintro v S10 ⟨rfl,g10⟩
     simp only [za9,Bool.not_true,qbf,if_false,zcc]
     have pz:Pn ns (404+20*((i+1:Nat):Int)) S10:=((p8.gr g9).gr g10).mono (by push_cast;omega)
     first|exact .inl ⟨.inl rfl,pz,_,_,_,rfl⟩|exact ⟨_,rfl,.inl ⟨.inl rfl,pz,_,_,_,rfl⟩⟩|exact .inl ⟨(by first|exact .inl rfl|exact .inl trivial|trivial),pz,_,_,_,rfl⟩
    ·rintro S9 ⟨hb,g9⟩
     have p9:=p8.gr g9
     have ty9:=ty8.gr g9
     obtain ⟨S0,g0,e0⟩:=yjs (S:=S9++[.lam GB [("_law_thing",d),("_law_machine_here",mD asks rs)]]) ok (ty9.gr ⟨_,rfl⟩) sz8 hb.symm
     rw [hM] at g0 e0
     simp only [zbj,zbb,zax]
     refine zv0 (t:=false) (g:=GB) p9 (.inr rfl) rfl rfl g0 e0 λS10 p10=>?_
     simp only [zat,zas,zar,zav,zdc,List.length_cons,List.length_nil,Nat.reduceAdd,sz2,true_and]
     rw [show D.tup [D.str "refused",D.str "words"]=RM false from rfl,yjv]
     simp only [za9,qbf,if_false,zcc]
     have pz:Pn ns (404+20*((i+1:Nat):Int)) S10:=p10.mono (by push_cast;omega)
     first|exact .inl ⟨.inl rfl,pz,_,_,_,rfl⟩|exact ⟨_,rfl,.inl ⟨.inl rfl,pz,_,_,_,rfl⟩⟩|exact .inl ⟨(by first|exact .inl rfl|exact .inl trivial|trivial),pz,_,_,_,rfl⟩
   ·rintro l S5 ⟨p5,x6,x9,x10,rfl⟩
    first|exact ⟨nofun,_,_,_,rfl⟩|exact ⟨_,_,_,rfl⟩
  rintro l S5 ⟨x6,x9,x10,rfl⟩
  simp only [zbt,zav]
 obtain ⟨v,S',e,rfl⟩:=key
 exact ⟨S',e⟩
end M
end
namespace PySem.W.Fast
def tw16487235063292330993:Nat:=0
def tw5158683051534987486:Nat:=0
def tw10813367044804775780:Nat:=0
def tw13353801199113701923:Nat:=0
def tw909904258346669979:Nat:=0
def tw267378320201029529:Nat:=0
def tw59980286267510951:Nat:=0
def tw9094700949569167187:Nat:=0
def tw9311977100173323358:Nat:=0
def tw5834365558395491206:Nat:=0
def tw1966017769099147136:Nat:=0
def tw15399639022663829514:Nat:=0
def tw14037127703533408896:Nat:=0
def tw16206492343750952051:Nat:=0
def tw6935127315430511804:Nat:=0
def tw7403790936119490355:Nat:=0
def tw15815851890632653229:Nat:=0
def tw13405317946059214006:Nat:=0
def tw1825304699862234080:Nat:=0
def tw12861690971623397870:Nat:=0
def tw16991003011031643546:Nat:=0
def tw10531885193885992154:Nat:=0
def tw5212004024134577633:Nat:=0
def tw3903177518659035880:Nat:=0
def tw5288608719816963790:Nat:=0
def tw293989770222748420:Nat:=0
def tw4654100239485953111:Nat:=0
def tw7007255785031175194:Nat:=0
def tw15670578423002558191:Nat:=0
def tw3074599519451318623:Nat:=0
def tw12993552724776803608:Nat:=0
def tw10328205287498897082:Nat:=0
def tw14431682318281125870:Nat:=0
def tw13702752531450877041:Nat:=0
def tw925431290390247434:Nat:=0
def tw8406046889427459019:Nat:=0
def tw15214979695083319236:Nat:=0
def tw551302838098975473:Nat:=0
def tw13194342190188260086:Nat:=0
def tw813462084942321384:Nat:=0
def tw569658262792948193:Nat:=0
def tw15585624479942932225:Nat:=0
def tw11229380736810055085:Nat:=0
def tw342424927897797491:Nat:=0
def tw8705811873115548610:Nat:=0
def tw6231317337790562897:Nat:=0
def tw12170688575541161155:Nat:=0
def tw9067011700359820641:Nat:=0
def tw17579121266851722594:Nat:=0
def tw98400852811117293:Nat:=0
def tw5171344730947281103:Nat:=0
def tw4859090033752180247:Nat:=0
def tw9041487071467339589:Nat:=0
def tw8577161044074030822:Nat:=0
def tw5368488674577839022:Nat:=0
def tw15583007047530785041:Nat:=0
def tw3511868073029754317:Nat:=0
def tw4195929141460761569:Nat:=0
def tw18147041450567877855:Nat:=0
def tw11604295358973892808:Nat:=0
def tw1170847918353156096:Nat:=0
def tw2631993366988449541:Nat:=0
def tw1013096822043127173:Nat:=0
def tw10694092789511106746:Nat:=0
def tw12132321202527053914:Nat:=0
def tw9416731085945974724:Nat:=0
def tw4988440029001264237:Nat:=0
def tw16867661896154428987:Nat:=0
def tw16106624428823745356:Nat:=0
def tw15502222728488706679:Nat:=0
def tw14205987660289320568:Nat:=0
def tw9840491068433253520:Nat:=0
def tw14493051606033607930:Nat:=0
def tw4607353588221303997:Nat:=0
def tw10329106318284390229:Nat:=0
def tw11036785107449848674:Nat:=0
def tw5215528890058594185:Nat:=0
def tw1626148781888285151:Nat:=0
def tw12168530429156483575:Nat:=0
def tw1417830344529890354:Nat:=0
end PySem.W.Fast
open PySem PySem.W PyProof.Rows
theorem PySem.Challenge.cw_opencells_k43_what_nets_are_asked_holds : PySem.Challenge.rw_opencells_k43_what_nets_are_asked.Holds := by
 w_on;o_law;k_head;(case hw=>w_witness2)
 k_fill
 refine G.walk (l:=PySem.Challenge.rw_opencells_k43_what_nets_are_asked) rfl rfl (λw h Y=>⟨PySem.W.km_in_of Y,PySem.W.km_tabs_of Y⟩) ?zzn (by decide) ?zzt0 ?F (λns hl=>M.law_true ns hl)
 case zzn=>intro w;kernel_rfl
 case zzt0 =>
  intro w
  refine' L3.ft_mk ?a ?l ?e ?k ?h ?d;(case a=>k_is);(case l=>k_is);(case e=>exact rfl);(case k=>k_is);(case h=>exact rfl);(case d=>kernel_rfl)
 case F =>
  intro w mg fa h KX GN hmg
  refine' G.all_mk KX GN hmg ?_ ?_ ?_ ?_ ?_ ?_ ?_ ?_ ?_ ?_ ?_ ?_ ?_ ?_ ?_ ?_ ?_ ?_ ?_ ?_ ?_ ?_ ?_ ?_ ?_ ?_ ?_ ?_ ?_ ?_ ?_ ?_ ?_ ?_ ?_ ?_ ?_ ?_ ?_ ?_ ?_ ?_ ?_ ?_ ?_ ?_ ?_ ?_ ?_ ?_ ?_ ?_ ?_ ?_ ?_ ?_ ?_ ?_ ?_ ?_ ?_ ?_ ?_ ?_ ?_ ?_ ?_ ?_ ?_ ?_ ?_ ?_ ?_ ?_ ?_ ?_ ?_ ?_
  rotate_right;(refine' Exists.intro _ (L3.ft_mk ?a ?l ?e ?k ?h ?d);(case a=>k_is);(case l=>k_is);(case e=>exact rfl);(case k=>k_is);(case h=>exact rfl);(case d=>kernel_rfl))
  all_goals try first|(refine' G.FI.mk ?a ?l ?c ?k;(case a=>k_is);(case l=>k_is);(case c=>k_is);(case k=>k_is))|k_is|kernel_rfl
#print axioms PySem.Challenge.cw_opencells_k43_what_nets_are_asked_holds